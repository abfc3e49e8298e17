/-
  Parts of this proof: The contract of checkStart and of the closure th.
-/
import Derived.Test.YtbgodajefaahdaaGreatDoorZQClo
import Derived.Test.YtbgodajefaahdaaGreatDoorZQFnd
set_option linter.unusedVariables false
open Go.Lib (hid)
namespace Go.Proofs.YtbgodajefaahdaaGreatDoor.Md
open Go.RowKit
open Go.Proofs.YtbgodajefaahdaaGreatDoor.Na (fst fst_lt)
open Go.Proofs.YtbgodajefaahdaaGreatDoor.Sm (Ints)
open Go.Proofs.YtbgodajefaahdaaGreatDoor.Ex (Lo Gives take_one)
attribute [local go_sem] cSta0 cSta1 cSta2 cSta3 cSta4 cSte10
set_option maxHeartbeats 4000000
theorem fitL_app:∀{a c:List Fld} {b d:List Int},a.length=b.length->fitL (a++c) (b++d)=(fitL a b&&fitL c d)
 | [],c,[],d,_=>by simp[fitL]
 | x::t,c,y::u,d,h=>by rw[List.cons_append,List.cons_append,fitL,fitL,fitL_app (by simpa using h),Bool.and_assoc]
 | [],_,_::_,_,h=>by simp at h
 | _::_,_,[],_,h=>by simp at h
theorem fitL_take {l:List Fld} {m:List Int} {k:Nat} {x:Fld} {y:Int} (hx:l[k]?=some x) (hy:m[k]?=some y) (h:fitL (l.take k) (m.take k)=true) (g:fits x.ty y=true):fitL (l.take (k+1)) (m.take (k+1))=true:=by
 obtain⟨hk,-⟩:=List.getElem?_eq_some_iff.1 hx;obtain⟨hj,-⟩:=List.getElem?_eq_some_iff.1 hy;rw[take_one hx,take_one hy,fitL_app (by rw[List.length_take,List.length_take];omega),h,fitL,g];rfl
theorem fitL_stop {l:List Fld} {m:List Int} {k:Nat} {x:Fld} {y:Int} (hx:l[k]?=some x) (hy:m[k]?=some y) (g:fits x.ty y=false):fitL l m=false:=by
 obtain⟨hk,e1⟩:=List.getElem?_eq_some_iff.1 hx;obtain⟨hj,e2⟩:=List.getElem?_eq_some_iff.1 hy;have a:=List.take_append_drop k l;have b:=List.take_append_drop k m;rw[List.drop_eq_getElem_cons hk,e1] at a;rw[List.drop_eq_getElem_cons hj,e2] at b;rw[← a,← b,fitL_app (by rw[List.length_take,List.length_take];omega),fitL,g];simp
theorem rou_at {ro:List Rou} {s:ByteArray} (h:0<=rouI ro s):∃(j:Nat) (r:Rou),rouI ro s=(j:Int)/\ro[j]?=some r:=by
 have h1:=fst_lt s (ro.map (·.nm));rw[List.length_map] at h1;have h2:rouI ro s=fst (ro.map (·.nm)) s:=rfl;have h3:(rouI ro s).toNat<ro.length:=by omega
 exact⟨(rouI ro s).toNat,ro[(rouI ro s).toNat],by omega,List.getElem?_eq_getElem h3⟩
theorem staE_none {ro:List Rou} {d:Sta} (h:rouI ro d.ro<0):staE ro d=5:=by unfold staE;rw[if_pos h]
theorem staE_some {ro:List Rou} {d:Sta} {j:Nat} {r:Rou} (h:rouI ro d.ro=(j:Int)) (hr:ro[j]?=some r):staE ro d=if d.ar.length=r.ps.length then (if fitL r.ps d.ar then (if isT d.a&&isT d.e&&isT d.u && !(decide (d.e=0) && !decide (d.u=0)) then 0 else 2) else 2) else 8:=by
 unfold staE;rw[if_neg (by omega),h,Int.toNat_natCast,hr]
theorem time_gives {n:Int} {b:Bool} (h:isT n=b) (w:World):Calls Tryz.prog 108 #[.int .i64 n] w (Stay (.bool b) w):=by rw[← h];exact isTime_any n w
theorem zFF_1 {p:Prop} (h:p:=by
 rintro e v2 ⟨rfl,rfl⟩;go_wp2_with fail;go_ret;exact⟨by rw[← HV2.out];rfl,by have HBB:=HBW.out;exact bl⟩
 ):p:=h
theorem zFF_0 {p:Prop} (h:p:=by
 go_wp2_with fail;refine(T1.out _).mono ?_;rintro e v2 ⟨rfl,rfl⟩;go_wp2_with fail;refine(T2.out _).mono ?_;rintro e v2 ⟨rfl,rfl⟩;go_wp2_with fail;refine(T3.out _).mono ?_;exact zFF_1
 ):p:=h
set_option maxRecDepth 100000 in
theorem checkStart_any (x:Ste) (P:PSte) (d:Sta) (Q:PSta) (w:World) (hx:Rw 4 RRou (Lo w.heap.size) w x.ro P.rop P.rom) (hd:OSta (Lo w.heap.size) w d Q):Calls Tryz.prog 124 #[.agg (cSte x P),.agg (cSta d Q)] w (Gives (.int .i64 (staE x.ro d)) w):=by
 have HX:=hid hx;have HD:=hid hd;have FX:=far2 (w:=w) 53 122 (cSte x P) (cSta d Q);obtain⟨n13,hn13⟩:∃n:Nat,13=n:=⟨_,rfl⟩
 have hsz13:∀w,(sizeOf 53).run Tryz.prog w=.ok n13 w:=fun w=>by rw[Tryz.sizeOf53,hn13]
 have HN13:=hid hn13;have ld:=fun W=>((far2 (w:=W) 53 122 (cSte x P) (cSta d Q)).out _ (Below.refl _ _)).1.cell.ldN HN13.out;obtain⟨v,hv⟩:∃v,rouI x.ro d.ro=v:=⟨_,rfl⟩
 have CR:=hid (fun W (hW:Below w.heap.size w W)=>(show Calls Tryz.prog 164 #[.agg (cSte x P),.string d.ro] W (Gives (.int .i64 v) W) by rw[← hv];exact routine_any x P d.ro W (HX.out.on RRou.map hW)));by_cases hv0:v<0
 · rw[staE_none (by rw[hv];exact hv0)];have t0:=decide_eq_true hv0;clear hx hd hn13 hv;go_enter Tryz.func124,Tryz.ntmps124;go_wp2_with fail;refine(CR.out _ bl).mono ?_;rintro e v1 ⟨rfl,hb1⟩;go_wp2_with fail;go_ret;exact⟨rfl,bl⟩
 obtain⟨j,r,hj,hr⟩:=rou_at (ro:=x.ro) (s:=d.ro) (by rw[hv];omega);rw[hv] at hj;subst hj;rw[staE_some hv hr];obtain⟨hrl,hrm⟩:=hx.len;obtain⟨hal,ham⟩:d.ar.length=Q.arm/\Q.arm<=9223372036854775807:=⟨hd.ar.1,hd.ar.2.1⟩
 have hjl:j<x.ro.length:=(List.getElem?_eq_some_iff.1 hr).1;have j0:(0:Int)<=(j:Int):=by omega
 have j1:(j:Int)<(P.rom:Int):=by omega
 have j2:¬(j:Int)<0:=by omega
 obtain⟨b,o,hp,hbG,hG,hcell⟩:=HX.out.rows (by omega);obtain⟨c,hcs,hat,hR⟩:=hcell.out j hjl;have hrj:x.ro[j]=r:=by rw[List.getElem?_eq_getElem hjl] at hr;exact Option.some.inj hr
 rw[hrj] at hR;obtain⟨PR,rfl,hRO⟩:=hR;have HRO:=hid hRO;have FP:Hid (∀W,Below w.heap.size w W->W.cell? ⟨b,o+j*4+1,none⟩=some (.slice PR.psp PR.psm PR.psc)):=hid fun W hW=>(hat.on hW hG).get (cRou1 r PR);have hc10:(cSte x P)[10]?=some (.slice (some ⟨b,o,none⟩) P.rom P.roc):=by rw[cSte10,hp]
 have FY:Hid (∀W,Below ((w.alloc (.cells (cSte x P) 53)).alloc (.cells (cSta d Q) 122)).heap.size ((w.alloc (.cells (cSte x P) 53)).alloc (.cells (cSta d Q) 122)) W->W.cell? ⟨w.heap.size,10,none⟩=some (.slice (some ⟨b,o,none⟩) P.rom P.roc)/\W.cell? ⟨w.heap.size+1,1,none⟩=some (.slice Q.arp Q.arm Q.arc)/\W.cell? ⟨w.heap.size+1,2,none⟩=some (.int .i64 d.a)/\W.cell? ⟨w.heap.size+1,3,none⟩=some (.int .i64 d.e)/\W.cell? ⟨w.heap.size+1,4,none⟩=some (.int .i64 d.u)):=hid fun W hb=>by
  have q:=FX.out W hb;exact⟨q.1.get hc10,q.2.get (cSta1 d Q),q.2.get (cSta2 d Q),q.2.get (cSta3 d Q),q.2.get (cSta4 d Q)⟩
 have hpl:r.ps.length=PR.psm:=hRO.ps.1;have hpm:PR.psm<=9223372036854775807:=hRO.ps.2.1;clear hx hd hn13 hcell hcs hat hRO hp hrj hc10;by_cases hlen:Q.arm=PR.psm;rotate_left 1
 · rw[if_neg (by omega)];have u1:((Q.arm:Int)==(PR.psm:Int))=false:=beq_eq_false_iff_ne.2 (by omega);have u2:((Q.arm:Int) != (PR.psm:Int))=true:=bne_iff_ne.2 (by omega);have u3:(Q.arm==PR.psm)=false:=beq_eq_false_iff_ne.2 hlen;have u4:(Q.arm != PR.psm)=true:=bne_iff_ne.2 hlen;clear hrl hrm hal ham hjl hpl hpm hr hv hbG;go_enter Tryz.func124,Tryz.ntmps124;go_wp2_with fail;refine(CR.out _ bl).mono ?_;rintro e v1 ⟨rfl,hb1⟩;obtain⟨q1,q2,q3,q4,q5⟩:=FY.out v1 bl;have q6:=FP.out v1 bl;go_wp2_with fail;go_ret;exact⟨rfl,bl⟩
 rw[if_pos (by omega)];obtain⟨V,hV⟩:∃V:Int,(if fitL r.ps d.ar then (if isT d.a&&isT d.e&&isT d.u && !(decide (d.e=0) && !decide (d.u=0)) then 0 else 2) else 2)=V:=⟨_,rfl⟩
 rw[hV];have HV:=hid hV;clear hV;obtain⟨m,hm⟩:∃m,Q.arm=m:=⟨_,rfl⟩
 have hm2:PR.psm=m:=by omega
 have HAR:Hid (Ints (Lo w.heap.size) w d.ar Q.arp m):=hid (by rw[← hm];exact HD.out.ar);have HPS:Hid (Rw 2 RFld (Lo w.heap.size) w r.ps PR.psp m):=hid (by rw[← hm2];exact HRO.out.ps);have HAL:=hid (show d.ar.length=m by omega);have HPL:=hid (show r.ps.length=m by omega);rw[hm2] at FP;rw[hm] at FY;have m1:(m:Int)<=9223372036854775807:=by omega
 clear hrl hrm hal ham hjl hpl hpm hr hv hbG hlen hm hm2;go_enter Tryz.func124,Tryz.ntmps124;go_wp2_with fail;refine(CR.out _ bl).mono ?_;rintro e v1 ⟨rfl,hb1⟩;obtain⟨q1,q2,q3,q4,q5⟩:=FY.out v1 bl;have q6:=FP.out v1 bl;have HB1:=hid hb1;go_wp2_with fail;go_loopw [30] (fun i wr=>∃k:Nat,k<=m/\i=.int .i64 (k:Nat)/\Hid (Below v1.heap.size v1 wr)/\Hid (fitL (r.ps.take k) (d.ar.take k)=true)) (fun i _=>m-(intOf i).toNat)
 case atStart=>exact⟨0,Nat.zero_le _,rfl,hid (Below.refl _ _),hid rfl⟩
 case round=>
  obtain⟨k,hk,rfl,HW,HA⟩:=hrel;have HBW:Hid (Below w.heap.size w wr):=hid (by have HBB:=HW.out;exact bl);have k0:(0:Int)<=(k:Int):=by omega
  clear q1 q2 q3 q4 q5 q6;rcases Nat.lt_or_ge k m with h|h
  · have k1:(k:Int)<(m:Int):=by omega
    have hkl:k<d.ar.length:=by rw[HAL.out];exact h
    have hkp:k<r.ps.length:=by rw[HPL.out];exact h
    have HX1:=hid (List.getElem?_eq_getElem hkl);have HX2:=hid (List.getElem?_eq_getElem hkp);obtain⟨h1,h2,h3|⟨b1,o1,hp1,g1,l1,c1⟩⟩:=(HAR.out.map HBW.out.size fun b g _=>⟨Nat.lt_of_lt_of_le g HBW.out.size,HBW.out.block b g⟩:Ints (Lo wr.heap.size) wr d.ar Q.arp m)
    · omega
    obtain⟨b2,o2,hp2,g2,l2,c2⟩:=(HPS.out.below RFld.map HBW.out).rows (by omega);obtain⟨f,hfs,hat,hR⟩:=c2.out k hkp;have a0:=c1.out k hkl;obtain⟨n,hn⟩:∃n,d.ar[k]=n:=⟨_,rfl⟩
    obtain⟨y,hy⟩:∃y,r.ps[k]=y:=⟨_,rfl⟩
    rw[hn] at a0 HX1;rw[hy] at hR HX2;have a1:=hat.get (r:=1) (v:=.int .i64 y.ty) (by rw[hR];rfl);obtain⟨q,hq⟩:∃q,fits y.ty n=q:=⟨_,rfl⟩
    have CF:=hid (fun W=>(show Calls Tryz.prog 71 #[.int .i64 y.ty,.int .i64 n] W (Stay (.bool q) W) by rw[← hq];exact fits_any _ _ W));rw[hp1,hp2]
    cases q with
    | false=>
     have HN:=hid (fitL_stop HX2.out HX1.out hq);clear h1 h2 c1 c2 hfs hat hR hkl hkp hn hy hq g1 g2 hp1 hp2;go_wp2_with fail;refine(CF.out _).mono ?_;rintro e v2 ⟨rfl,rfl⟩;go_wp2_with fail;go_ret;exact⟨by rw[← HV.out,HN.out];rfl,by have HBB:=HBW.out;exact bl⟩
    | true=>
     have HN:=hid (fitL_take HX2.out HX1.out HA.out hq);clear h1 h2 c1 c2 hfs hat hR hkl hkp hn hy hq g1 g2;go_wp2_with fail;refine(CF.out _).mono ?_;rintro e v2 ⟨rfl,rfl⟩;go_wp2_with fail;go_roundw
     case rel=>exact⟨k+1,by omega,by go_num,hid (by have HBB:=HW.out;exact bl),HN⟩
     case measure=>simp[intOf];omega
  · obtain rfl:m=k:=by omega
    have HT:=hid (show fitL r.ps d.ar=true by have h1:=HA.out;rwa [List.take_of_length_le (by rw[HPL.out];exact Nat.le_refl _),List.take_of_length_le (by rw[HAL.out];exact Nat.le_refl _)] at h1);obtain⟨t1,h1⟩:∃t,isT d.a=t:=⟨_,rfl⟩
    obtain⟨t2,h2⟩:∃t,isT d.e=t:=⟨_,rfl⟩
    obtain⟨t3,h3⟩:∃t,isT d.u=t:=⟨_,rfl⟩
    have HE:=HV.out;rw[HT.out,h1,h2,h3] at HE;have HV2:=hid HE;have T1:=hid (fun W=>time_gives h1 W);have T2:=hid (fun W=>time_gives h2 W);have T3:=hid (fun W=>time_gives h3 W);clear h1 h2 h3 HT HE HV;obtain⟨q1,q2,q3,q4,q5⟩:=FY.out wr (by have HBB:=HW.out;exact bl)
    cases t1 with
    | false=>
     go_wp2_with fail;refine(T1.out _).mono ?_;exact zFF_1
    | true=>
     cases t2 with
     | false=>
      go_wp2_with fail;refine(T1.out _).mono ?_;rintro e v2 ⟨rfl,rfl⟩;go_wp2_with fail;refine(T2.out _).mono ?_;exact zFF_1
     | true=>
      cases t3 with
      | false=>
       exact zFF_0
      | true=>
       by_cases he:d.e=0
       · have he1:(d.e==0)=true:=beq_iff_eq.2 he;rw[decide_eq_true he] at HV2;by_cases hu:d.u=0
         · have hu1:(d.u != 0)=false:=by rw[hu];rfl
           rw[decide_eq_true hu] at HV2;clear he hu;exact zFF_0
         · have hu1:(d.u != 0)=true:=bne_iff_ne.2 hu;rw[decide_eq_false hu] at HV2;clear he hu;exact zFF_0
       · have he1:(d.e==0)=false:=beq_eq_false_iff_ne.2 he;rw[decide_eq_false he] at HV2;clear he;exact zFF_0
end Go.Proofs.YtbgodajefaahdaaGreatDoor.Md
