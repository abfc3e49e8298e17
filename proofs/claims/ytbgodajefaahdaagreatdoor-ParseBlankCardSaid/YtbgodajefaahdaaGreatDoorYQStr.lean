/-
  Parts of this proof: The contract of checkStart and of the closure th. The map of the links that were met. The contract of the closure of checkLinks.
-/
import Derived.Test.YtbgodajefaahdaaGreatDoorYQClo
import Derived.DeepKeys4
open Go.Proofs.Tryz renaming prog->ae
open List renaming getElem?_eq_getElem->af
open Option renaming some->ag,none->ai
open Go.Lib renaming hid->ah
set_option linter.unusedVariables false
open Go.Lib (hid)
namespace Go.Proofs.YtbgodajefaahdaaGreatDoor
namespace Md
open Go.RowKit
open Na (fst TL)
open Sm (Ints)
open Ex (Lo Gives take_one)
attribute [local go_sem] NH Jg Jh Ji Jj Ap
set_option maxHeartbeats 4000000
theorem TD:∀{a c:List d_} {b d:List Int},a.length=b.length->qC (a++c) (b++d)=(qC a b&&qC c d)
 | [],c,[],d,_=>by simp[qC]
 | x::t,c,y::u,d,h=>by rw[List.cons_append,List.cons_append,qC,qC,TD (by simpa using h),Bool.and_assoc]
 | [],_,_::_,_,h=>by simp at h
 | _::_,_,[],_,h=>by simp at h
theorem amg {l:List d_} {m:List Int} {k:Nat} {x:d_} {y:Int} (hx:l[k]?=ag x) (hy:m[k]?=ag y) (h:qC (l.take k) (m.take k)=true) (g:fits x.ty y=true):qC (l.take (k+1)) (m.take (k+1))=true:=by
 obtain⟨hk,-⟩:=List.getElem?_eq_some_iff.1 hx;obtain⟨hj,-⟩:=List.getElem?_eq_some_iff.1 hy;rw[take_one hx,take_one hy,TD (by rw[List.length_take,List.length_take];omega),h,qC,g];rfl
theorem amf {l:List d_} {m:List Int} {k:Nat} {x:d_} {y:Int} (hx:l[k]?=ag x) (hy:m[k]?=ag y) (g:fits x.ty y=false):qC l m=false:=by
 obtain⟨hk,e1⟩:=List.getElem?_eq_some_iff.1 hx;obtain⟨hj,e2⟩:=List.getElem?_eq_some_iff.1 hy;have a:=List.take_append_drop k l;have b:=List.take_append_drop k m;rw[List.drop_eq_getElem_cons hk,e1] at a;rw[List.drop_eq_getElem_cons hj,e2] at b;rw[← a,← b,TD (by rw[List.length_take,List.length_take];omega),qC,g];simp
theorem aqm {ro:List eQ} {s:ByteArray} (h:0<=xA ro s):∃(j:Nat) (r:eQ),xA ro s=(j:Int)/\ro[j]?=ag r:=by
 have h1:=TL s (ro.map (·.nm));rw[List.length_map] at h1;have h2:xA ro s=fst (ro.map (·.nm)) s:=rfl;have h3:(xA ro s).toNat<ro.length:=by omega
 exact⟨(xA ro s).toNat,ro[(xA ro s).toNat],by omega,af h3⟩
theorem arE {ro:List eQ} {d:h_} (h:xA ro d.ro<0):vS ro d=5:=by unfold vS;rw[if_pos h]
theorem arF {ro:List eQ} {d:h_} {j:Nat} {r:eQ} (h:xA ro d.ro=(j:Int)) (hr:ro[j]?=ag r):vS ro d=if d.ar.length=r.ps.length then (if qC r.ps d.ar then (if uf d.a&&uf d.e&&uf d.u && !(decide (d.e=0) && !decide (d.u=0)) then 0 else 2) else 2) else 8:=by
 unfold vS;rw[if_neg (by omega),h,Int.toNat_natCast,hr]
theorem WM {n:Int} {b:Bool} (h:uf n=b) (w:World):Calls ae 108 #[.int .i64 n] w (qA (.bool b) w):=by rw[← h];exact acL n w
theorem X9 {p:Prop} (h:p:=by
 rintro e v2 ⟨rfl,rfl⟩;go_wp2_with fail;go_ret;exact⟨by rw[← wu.out];rfl,by have bU:=eY.out;exact bl⟩
 ):p:=h
theorem QY {p:Prop} (h:p:=by
 go_wp2_with fail;refine(T1.out _).mono ?_;rintro e v2 ⟨rfl,rfl⟩;go_wp2_with fail;refine(T2.out _).mono ?_;rintro e v2 ⟨rfl,rfl⟩;go_wp2_with fail;refine(T3.out _).mono ?_;exact X9
 ):p:=h
set_option maxRecDepth 100000 in
theorem aj3 (x:b_) (P:fe) (d:h_) (Q:qX) (w:World) (hx:Rw 4 gT (Lo w.heap.size) w x.ro P.mi P.ed) (hd:pJ (Lo w.heap.size) w d Q):Calls ae 124 #[.agg (bX x P),.agg (fB d Q)] w (Gives (.int .i64 (vS x.ro d)) w):=by
 have HX:=ah hx;have HD:=ah hd;have FX:=rq (w:=w) 53 122 (bX x P) (fB d Q);obtain⟨n13,jM⟩:∃n:Nat,13=n:=⟨_,rfl⟩
 have Cu:∀w,(sizeOf 53).run ae w=.ok n13 w:=fun w=>by rw[Tryz.sizeOf53,jM]
 have DV:=ah jM;have ld:=fun W=>((rq (w:=W) 53 122 (bX x P) (fB d Q)).out _ (Below.refl _ _)).1.cell.dW DV.out;obtain⟨v,hv⟩:∃v,xA x.ro d.ro=v:=⟨_,rfl⟩
 have CR:=ah (fun W (hW:Below w.heap.size w W)=>(show Calls ae 164 #[.agg (bX x P),.string d.ro] W (Gives (.int .i64 v) W) by rw[← hv];exact P5 x P d.ro W (HX.out.on gT.map hW)));by_cases hv0:v<0
 · rw[arE (by rw[hv];exact hv0)];have t0:=decide_eq_true hv0;clear hx hd jM hv;go_enter Tryz.func124,Tryz.ntmps124;go_wp2_with fail;refine(CR.out _ bl).mono ?_;rintro e v1 ⟨rfl,hb1⟩;go_wp2_with fail;go_ret;exact⟨rfl,bl⟩
 obtain⟨j,r,hj,hr⟩:=aqm (ro:=x.ro) (s:=d.ro) (by rw[hv];omega);rw[hv] at hj;subst hj;rw[arF hv hr];obtain⟨hrl,hrm⟩:=hx.len;obtain⟨hal,ham⟩:d.ar.length=Q.arm/\Q.arm<=9223372036854775807:=⟨hd.ar.1,hd.ar.2.1⟩
 have hjl:j<x.ro.length:=(List.getElem?_eq_some_iff.1 hr).1;have j0:(0:Int)<=(j:Int):=by omega
 have j1:(j:Int)<(P.ed:Int):=by omega
 have j2:¬(j:Int)<0:=by omega
 obtain⟨b,o,hp,gD,hG,hcell⟩:=HX.out.rows (by omega);obtain⟨c,hcs,hat,hR⟩:=hcell.out j hjl;have hrj:x.ro[j]=r:=by rw[af hjl] at hr;exact Option.some.inj hr
 rw[hrj] at hR;obtain⟨PR,rfl,OC⟩:=hR;have HRO:=ah OC;have FP:Hid (∀W,Below w.heap.size w W->W.cell? ⟨b,o+j*4+1,ai⟩=ag (.slice PR.Df PR.nH PR.GY)):=ah fun W hW=>(hat.on hW hG).get (Je r PR);have acf:(bX x P)[10]?=ag (.slice (ag ⟨b,o,ai⟩) P.ed P.k_):=by rw[Ap,hp]
 have FY:Hid (∀W,Below ((w.alloc (.cells (bX x P) 53)).alloc (.cells (fB d Q) 122)).heap.size ((w.alloc (.cells (bX x P) 53)).alloc (.cells (fB d Q) 122)) W->W.cell? ⟨w.heap.size,10,ai⟩=ag (.slice (ag ⟨b,o,ai⟩) P.ed P.k_)/\W.cell? ⟨w.heap.size+1,1,ai⟩=ag (.slice Q.Cb Q.arm Q.IW)/\W.cell? ⟨w.heap.size+1,2,ai⟩=ag (.int .i64 d.a)/\W.cell? ⟨w.heap.size+1,3,ai⟩=ag (.int .i64 d.e)/\W.cell? ⟨w.heap.size+1,4,ai⟩=ag (.int .i64 d.u)):=ah fun W hb=>by
  have q:=FX.out W hb;exact⟨q.1.get acf,q.2.get (Jg d Q),q.2.get (Jh d Q),q.2.get (Ji d Q),q.2.get (Jj d Q)⟩
 have hpl:r.ps.length=PR.nH:=OC.ps.1;have hpm:PR.nH<=9223372036854775807:=OC.ps.2.1;clear hx hd jM hcell hcs hat OC hp hrj acf;by_cases hlen:Q.arm=PR.nH;rotate_left 1
 · rw[if_neg (by omega)];have u1:((Q.arm:Int)==(PR.nH:Int))=false:=beq_eq_false_iff_ne.2 (by omega);have u2:((Q.arm:Int) != (PR.nH:Int))=true:=bne_iff_ne.2 (by omega);have u3:(Q.arm==PR.nH)=false:=beq_eq_false_iff_ne.2 hlen;have u4:(Q.arm != PR.nH)=true:=bne_iff_ne.2 hlen;clear hrl hrm hal ham hjl hpl hpm hr hv gD;go_enter Tryz.func124,Tryz.ntmps124;go_wp2_with fail;refine(CR.out _ bl).mono ?_;rintro e v1 ⟨rfl,hb1⟩;obtain⟨q1,q2,q3,q4,q5⟩:=FY.out v1 bl;have q6:=FP.out v1 bl;go_wp2_with fail;go_ret;exact⟨rfl,bl⟩
 rw[if_pos (by omega)];obtain⟨V,hV⟩:∃V:Int,(if qC r.ps d.ar then (if uf d.a&&uf d.e&&uf d.u && !(decide (d.e=0) && !decide (d.u=0)) then 0 else 2) else 2)=V:=⟨_,rfl⟩
 rw[hV];have HV:=ah hV;clear hV;obtain⟨m,hm⟩:∃m,Q.arm=m:=⟨_,rfl⟩
 have hm2:PR.nH=m:=by omega
 have HAR:Hid (Ints (Lo w.heap.size) w d.ar Q.Cb m):=ah (by rw[← hm];exact HD.out.ar);have HPS:Hid (Rw 2 dH (Lo w.heap.size) w r.ps PR.Df m):=ah (by rw[← hm2];exact HRO.out.ps);have Yt:=ah (show d.ar.length=m by omega);have YG:=ah (show r.ps.length=m by omega);rw[hm2] at FP;rw[hm] at FY;have m1:(m:Int)<=9223372036854775807:=by omega
 clear hrl hrm hal ham hjl hpl hpm hr hv gD hlen hm hm2;go_enter Tryz.func124,Tryz.ntmps124;go_wp2_with fail;refine(CR.out _ bl).mono ?_;rintro e v1 ⟨rfl,hb1⟩;obtain⟨q1,q2,q3,q4,q5⟩:=FY.out v1 bl;have q6:=FP.out v1 bl;have HB1:=ah hb1;go_wp2_with fail;go_loopw [30] (fun i wr=>∃k:Nat,k<=m/\i=.int .i64 (k:Nat)/\Hid (Below v1.heap.size v1 wr)/\Hid (qC (r.ps.take k) (d.ar.take k)=true)) (fun i _=>m-(intOf i).toNat)
 case atStart=>exact⟨0,Nat.zero_le _,rfl,ah (Below.refl _ _),ah rfl⟩
 case round=>
  obtain⟨k,hk,rfl,HW,HA⟩:=hrel;have eY:Hid (Below w.heap.size w wr):=ah (by have bU:=HW.out;exact bl);have k0:(0:Int)<=(k:Int):=by omega
  clear q1 q2 q3 q4 q5 q6;rcases Nat.lt_or_ge k m with h|h
  · have k1:(k:Int)<(m:Int):=by omega
    have hkl:k<d.ar.length:=by rw[Yt.out];exact h
    have hkp:k<r.ps.length:=by rw[YG.out];exact h
    have jv:=ah (af hkl);have dV:=ah (af hkp);obtain⟨h1,h2,h3|⟨b1,o1,hp1,g1,l1,c1⟩⟩:=(HAR.out.map eY.out.size fun b g _=>⟨Nat.lt_of_lt_of_le g eY.out.size,eY.out.block b g⟩:Ints (Lo wr.heap.size) wr d.ar Q.Cb m)
    · omega
    obtain⟨b2,o2,hp2,g2,l2,c2⟩:=(HPS.out.below dH.map eY.out).rows (by omega);obtain⟨f,hfs,hat,hR⟩:=c2.out k hkp;have a0:=c1.out k hkl;obtain⟨n,hn⟩:∃n,d.ar[k]=n:=⟨_,rfl⟩
    obtain⟨y,hy⟩:∃y,r.ps[k]=y:=⟨_,rfl⟩
    rw[hn] at a0 jv;rw[hy] at hR dV;have a1:=hat.get (r:=1) (v:=.int .i64 y.ty) (by rw[hR];rfl);obtain⟨q,hq⟩:∃q,fits y.ty n=q:=⟨_,rfl⟩
    have CF:=ah (fun W=>(show Calls ae 71 #[.int .i64 y.ty,.int .i64 n] W (qA (.bool q) W) by rw[← hq];exact abn _ _ W));rw[hp1,hp2]
    cases q with
    | false=>
     have HN:=ah (amf dV.out jv.out hq);clear h1 h2 c1 c2 hfs hat hR hkl hkp hn hy hq g1 g2 hp1 hp2;go_wp2_with fail;refine(CF.out _).mono ?_;rintro e v2 ⟨rfl,rfl⟩;go_wp2_with fail;go_ret;exact⟨by rw[← HV.out,HN.out];rfl,by have bU:=eY.out;exact bl⟩
    | true=>
     have HN:=ah (amg dV.out jv.out HA.out hq);clear h1 h2 c1 c2 hfs hat hR hkl hkp hn hy hq g1 g2;go_wp2_with fail;refine(CF.out _).mono ?_;rintro e v2 ⟨rfl,rfl⟩;go_wp2_with fail;go_roundw
     case rel=>exact⟨k+1,by omega,by go_num,ah (by have bU:=HW.out;exact bl),HN⟩
     case measure=>simp[intOf];omega
  · obtain rfl:m=k:=by omega
    have HT:=ah (show qC r.ps d.ar=true by have h1:=HA.out;rwa [List.take_of_length_le (by rw[YG.out];exact Nat.le_refl _),List.take_of_length_le (by rw[Yt.out];exact Nat.le_refl _)] at h1);obtain⟨t1,h1⟩:∃t,uf d.a=t:=⟨_,rfl⟩
    obtain⟨t2,h2⟩:∃t,uf d.e=t:=⟨_,rfl⟩
    obtain⟨t3,h3⟩:∃t,uf d.u=t:=⟨_,rfl⟩
    have HE:=HV.out;rw[HT.out,h1,h2,h3] at HE;have wu:=ah HE;have T1:=ah (fun W=>WM h1 W);have T2:=ah (fun W=>WM h2 W);have T3:=ah (fun W=>WM h3 W);clear h1 h2 h3 HT HE HV;obtain⟨q1,q2,q3,q4,q5⟩:=FY.out wr (by have bU:=HW.out;exact bl)
    cases t1 with
    | false=>
     go_wp2_with fail;refine(T1.out _).mono ?_;exact X9
    | true=>
     cases t2 with
     | false=>
      go_wp2_with fail;refine(T1.out _).mono ?_;rintro e v2 ⟨rfl,rfl⟩;go_wp2_with fail;refine(T2.out _).mono ?_;exact X9
     | true=>
      cases t3 with
      | false=>
       exact QY
      | true=>
       by_cases he:d.e=0
       · have he1:(d.e==0)=true:=beq_iff_eq.2 he;rw[decide_eq_true he] at wu;by_cases hu:d.u=0
         · have hu1:(d.u != 0)=false:=by rw[hu];rfl
           rw[decide_eq_true hu] at wu;clear he hu;exact QY
         · have hu1:(d.u != 0)=true:=bne_iff_ne.2 hu;rw[decide_eq_false hu] at wu;clear he hu;exact QY
       · have he1:(d.e==0)=false:=beq_eq_false_iff_ne.2 he;rw[decide_eq_false he] at wu;clear he;exact QY
end Md
namespace Md
open Go.RowKit Go.Maps
open Na (bs eG)
set_option maxHeartbeats 2000000
set_option maxRecDepth 100000
theorem anS:laidOutB ae=true:=by kernel_rfl
theorem rowP:(157:TypeId)<Tryz.prog.types.size:=of_decide_eq_true (by kernel_rfl)
theorem asS:(match Tryz.prog.underlying 157 with|some (.array _ _)|some (.struct _)=>true|_=>false)=true:=by rw[Tryz.underlying157]
theorem UG:Keyed ae 157:=Keyed.of_law (deep_law_laid anS (m:=2) (by omega) rowP (by kernel_rfl) asS)
theorem ktP:Tryz.prog.keyType 157=true:=by kernel_rfl
theorem tsP:∃n,Tryz.prog.types.size+1=n+1+1:=⟨Tryz.prog.types.size-1,by have h:(157:Nat)<Tryz.prog.types.size:=rowP;omega⟩
theorem akF:Tryz.prog.cellsOf 9=1:=by kernel_rfl
theorem coP:Tryz.prog.cellsOf 157=2:=by kernel_rfl
def xg (p:List UInt8×List UInt8):Lit:=.string (keyBytes [.string p.1,.string p.2])
theorem OQ {a b:ByteArray} (ha:a.size<=1000000000) (hb:b.size<=1000000000):keyOf ae 157 (.agg #[.string a,.string b])=ag (xg (bs a,bs b)):=by
 obtain⟨n,hn⟩:=tsP;have hf:(Value.agg #[.string a,.string b]).formed ae 157=true:=by
  simp[Value.formed,Tryz.underlying157,coP]
 unfold keyOf;rw[Tryz.underlying157,ktP,hf,hn];have h1:a.size<=maxLen:=by unfold maxLen;omega
 have h2:b.size<=maxLen:=by unfold maxLen;omega
 simp[Program.keyLits,Tryz.underlying157,Tryz.underlying9,coP,akF,Value.cells,List.range_succ,h1,h2]
 rfl
theorem anJ (p:List UInt8×List UInt8):WideAt.IsKeyLit (xg p):=by unfold xg;simp[WideAt.IsKeyLit]
def FV (p:List UInt8×List UInt8):Prop:=p.1.length<=1000000000/\p.2.length<=1000000000
theorem anI {p q:List UInt8×List UInt8} (hp:FV p) (hq:FV q) (h:xg p=xg q):p=q:=by
 have e:∀l:List UInt8,bs ⟨l.toArray⟩=l:=fun l=>by unfold bs;simp
 have k1:=OQ (a:=⟨p.1.toArray⟩) (b:=⟨p.2.toArray⟩) (by have:=hp.1;show p.1.toArray.size<=_;simpa using this) (by have:=hp.2;show p.2.toArray.size<=_;simpa using this);have k2:=OQ (a:=⟨q.1.toArray⟩) (b:=⟨q.2.toArray⟩) (by have:=hq.1;show q.1.toArray.size<=_;simpa using this) (by have:=hq.2;show q.2.toArray.size<=_;simpa using this);rw[e,e] at k1 k2;have h3:=UG.inj k1 (by rw[k2];show ag (xg q)=ag (xg p);rw[h]);injection h3 with h3;have h4:=congrArg Array.toList h3;simp only[List.cons.injEq,and_true] at h4;obtain⟨h5,h6⟩:=h4;injection h5 with h5;injection h6 with h6;have g1:=congrArg bs h5;have g2:=congrArg bs h6;rw[e,e] at g1 g2;exact Prod.ext g1 g2
def wD (b:Nat) (acc:List (List UInt8×List UInt8)) (w:World):Prop:=w.ownsMap ae 157 (plainElem ae 4) b acc.length (Da (acc.map xg))/\∀p∈acc,FV p
theorem wD.on {b:Nat} {acc:List (List UInt8×List UInt8)} {w w2:World} (h:wD b acc w) (hb:Below w.heap.size w w2):wD b acc w2:=⟨ael h.1 hb,h.2⟩
theorem wD.lt {b:Nat} {acc:List (List UInt8×List UInt8)} {w:World} (h:wD b acc w):b<w.heap.size:=World.ownsMap.lt h.1
theorem anM (acc:List (List UInt8×List UInt8)):∀k∈acc.map xg,WideAt.IsKeyLit k:=fun k hk=>by obtain⟨y,-,rfl⟩:=List.mem_map.1 hk;exact anJ y
theorem aoo {p:List UInt8×List UInt8} {acc:List (List UInt8×List UInt8)} (hp:FV p) (ha:∀q∈acc,FV q):xg p∈acc.map xg↔p∈acc:=by
 rw[List.mem_map];constructor
 · rintro⟨y,hy,e⟩;rw[← anI (ha y hy) hp e];exact hy
 · intro h;exact⟨p,h,rfl⟩
theorem aod {w:World} {b:Nat} {acc:List (List UInt8×List UInt8)} {x y:ByteArray} (h:wD b acc w) (hx:x.size<=1000000000) (hy:y.size<=1000000000) :
 (Instr.lookup 155 (.map (ag b)) (.agg #[.string x,.string y]) false).run ae w=.ok (.bool (decide ((bs x,bs y)∈acc))) w:=by
 obtain⟨v,ps,hrun,hv⟩:=World.ownsMap.lookup (t:=155) h.1 UG Tryz.underlying155 (ahr w) (plainElem_bool Tryz.underlying4 false) (OQ hx hy);obtain⟨c,rfl,hc⟩:=aet hv;simp only[Prod.mk.injEq] at hc;have:=Yp (anM acc) hc.1;rw[aoo ⟨by rw[eG];exact hx,by rw[eG];exact hy⟩ h.2] at this;rw[hrun];by_cases g:(bs x,bs y)∈acc
 · rw[decide_eq_true g,this.2 g]
 · rw[decide_eq_false g]
   cases c with
   | true=>exact absurd (this.1 rfl) g
   | false=>rfl
end Md
namespace Md
open Go.RowKit Go.Maps
open Na (bs eG)
open Ex (Lo Gives block_lt)
attribute [local go_sem] ZP ZQ ZR
set_option maxHeartbeats 4000000
def aih (b:Nat) (r:Int×List (List UInt8×List UInt8)) (w:World) (e:Ending) (w':World):Prop:=e=.returned (.int .i64 r.1)/\wD b r.2 w'/\But b w w'
theorem adV {si:List b_} {l:gz} {acc:List (List UInt8×List UInt8)} (h:qI si l.fr<0∨qI si l.tt<0):qj si acc l=(5,acc):=by unfold qj AX;rw[if_pos h];rfl
theorem aoa {si:List b_} {l:gz} {acc:List (List UInt8×List UInt8)} (h:¬(qI si l.fr<0∨qI si l.tt<0)) (h1:l.fr=l.tt):qj si acc l=(1,acc):=by unfold qj AX;rw[if_neg h,if_pos h1];rfl
theorem aob {si:List b_} {l:gz} {acc:List (List UInt8×List UInt8)} (h:¬(qI si l.fr<0∨qI si l.tt<0)) (h1:¬l.fr=l.tt) (h2:iX 1 l.de 1000000000=false):qj si acc l=(2,acc):=by unfold qj AX;rw[if_neg h,if_neg h1,h2];rfl
theorem aoc {si:List b_} {l:gz} {acc:List (List UInt8×List UInt8)} (h:¬(qI si l.fr<0∨qI si l.tt<0)) (h1:¬l.fr=l.tt) (h2:iX 1 l.de 1000000000=true) (h3:CQ l∈acc):qj si acc l=(4,acc):=by unfold qj AX;rw[if_neg h,if_neg h1,h2];simp[h3]
theorem an_ {si:List b_} {l:gz} {acc:List (List UInt8×List UInt8)} (h:¬(qI si l.fr<0∨qI si l.tt<0)) (h1:¬l.fr=l.tt) (h2:iX 1 l.de 1000000000=true) (h3:¬CQ l∈acc):qj si acc l=(0,acc++[CQ l]):=by unfold qj AX;rw[if_neg h,if_neg h1,h2];simp[h3]
theorem QZ {p:Prop} (h:p:=by
 go_wp2_with fail;go_ret;exact⟨rfl,HS.out.on bl,But.of bl⟩
 ):p:=h
theorem agG {p:Prop} (h:p:=by
 go_enter Tryz.func76,Tryz.ntmps76;go_wp2_with fail;refine(S1.out _ bl).mono ?_;rintro e v1 ⟨rfl,hb1⟩;obtain⟨q1,q2,q3,q4,q5,q6,q7⟩:=FY.out v1 bl;go_wp2_with fail;clear q1 q2 q3 q4 q5 q6 q7;refine(S2.out _ bl).mono ?_;rintro e v2 ⟨rfl,hb2⟩;obtain⟨q1,q2,q3,q4,q5,q6,q7⟩:=FY.out v2 bl;exact QZ
 ):p:=h
set_option maxRecDepth 100000 in
theorem akp (x:gz) (M:dx) (PM:kS) (b B1 B2:Nat) (acc:List (List UInt8×List UInt8)) (w:World) (hS:wD b acc w) (hn:acc.length<=100000) (hx1:x.fr.size<=1000000000) (hx2:x.tt.size<=1000000000)
 (hv:w.cell? ⟨B1,0,ai⟩=ag (.map (ag b))) (hB2:bT w B2 27 (dB M PM)) (hsi:Rw 13 gH (Lo w.heap.size) w M.si PM.rH PM.ig) :
 Calls ae 76 #[.agg (oN x),.pointer (ag ⟨B2,0,ai⟩),.pointer (ag ⟨B1,0,ai⟩)] w (aih b (qj M.si acc x) w):=by
 have HS:=ah hS;have HV:=ah hv;have HB:=ah hB2;have HI:=ah hsi;have FX:=rq (w:=w) 73 157 (oN x) #[.string x.fr,.string x.tt];obtain⟨n4,ny⟩:∃n:Nat,4=n:=⟨_,rfl⟩
 have acB:∀w,(sizeOf 27).run ae w=.ok n4 w:=fun w=>by rw[Tryz.sizeOf27,ny]
 have YE:=ah ny;have FY:Hid (∀W,Below ((w.alloc (.cells (oN x) 73)).alloc (.cells #[.string x.fr,.string x.tt] 157)).heap.size ((w.alloc (.cells (oN x) 73)).alloc (.cells #[.string x.fr,.string x.tt] 157)) W->W.cell? ⟨w.heap.size,0,ai⟩=ag (.string x.fr)/\W.cell? ⟨w.heap.size,1,ai⟩=ag (.string x.tt)/\W.cell? ⟨w.heap.size,2,ai⟩=ag (.int .i64 x.de)/\W.cell? ⟨w.heap.size+1,0,ai⟩=ag (.string x.fr)/\W.cell? ⟨w.heap.size+1,1,ai⟩=ag (.string x.tt)/\W.cell? ⟨B1,0,ai⟩=ag (.map (ag b))/\(loadCellsFrom ⟨B2,0,ai⟩ 0 n4 #[]).run ae W=.ok (dB M PM) W):=ah fun W hb=>by
  have q:=FX.out W hb;have hW:Below w.heap.size w W:=bl;exact⟨q.1.get (ZP x),q.1.get (ZQ x),q.1.get (ZR x),q.2.get rfl,q.2.get rfl,(hW.cell (p:=⟨B1,0,ai⟩) (block_lt HV.out)).trans HV.out,(HB.out.on hW).cell.dW YE.out⟩
 have ld:=(HB.out.on (show Below w.heap.size w ((w.alloc (.cells (oN x) 73)).alloc (.cells #[.string x.fr,.string x.tt] 157)) by exact bl)).cell.dW YE.out;obtain⟨i1,h1⟩:∃v,qI M.si x.fr=v:=⟨_,rfl⟩
 obtain⟨i2,h2⟩:∃v,qI M.si x.tt=v:=⟨_,rfl⟩
 obtain⟨r,hr⟩:∃v,iX 1 x.de 1000000000=v:=⟨_,rfl⟩
 have S1:=ah (fun W (hW:Below w.heap.size w W)=>(show Calls ae 77 #[.agg (dB M PM),.string x.fr] W (Gives (.int .i64 i1) W) by rw[← h1];exact Qe M PM x.fr W (HI.out.on gH.map hW)));have S2:=ah (fun W (hW:Below w.heap.size w W)=>(show Calls ae 77 #[.agg (dB M PM),.string x.tt] W (Gives (.int .i64 i2) W) by rw[← h2];exact Qe M PM x.tt W (HI.out.on gH.map hW)));have CB:=ah (fun W=>Eb hr W);by_cases g1:i1<0
 · rw[adV (.inl (by rw[h1];exact g1))];have d1:=decide_eq_true g1;clear hS hv hB2 hsi ny h1 h2 hr;go_enter Tryz.func76,Tryz.ntmps76;go_wp2_with fail;refine(S1.out _ bl).mono ?_;rintro e v1 ⟨rfl,hb1⟩;exact QZ
 have d1:=decide_eq_false g1;by_cases g2:i2<0
 · rw[adV (.inr (by rw[h2];exact g2))];have d2:=decide_eq_true g2;clear hS hv hB2 hsi ny h1 h2 hr;exact agG
 have d2:=decide_eq_false g2;have h0:¬(qI M.si x.fr<0∨qI M.si x.tt<0):=by rw[h1,h2];omega
 by_cases g3:x.fr=x.tt
 · rw[aoa h0 g3];have u3:(x.fr.toList==x.tt.toList)=true:=by rw[Hf];exact decide_eq_true g3
   clear hS hv hB2 hsi ny h1 h2 hr h0 g3;exact agG
 have u3:(x.fr.toList==x.tt.toList)=false:=by rw[Hf];exact decide_eq_false g3
 cases r with
 | false=>
  rw[aob h0 g3 hr];clear hS hv hB2 hsi ny h1 h2 hr h0 g3;go_enter Tryz.func76,Tryz.ntmps76;go_wp2_with fail;refine(S1.out _ bl).mono ?_;rintro e v1 ⟨rfl,hb1⟩;obtain⟨q1,q2,q3,q4,q5,q6,q7⟩:=FY.out v1 bl;go_wp2_with fail;clear q1 q2 q3 q4 q5 q6 q7;refine(S2.out _ bl).mono ?_;rintro e v2 ⟨rfl,hb2⟩;obtain⟨q1,q2,q3,q4,q5,q6,q7⟩:=FY.out v2 bl;go_wp2_with fail;refine(CB.out _).mono ?_;rintro e v3 ⟨rfl,rfl⟩;exact QZ
 | true=>
  have hl:=fun W (hW:wD b acc W)=>aod hW hx1 hx2;by_cases g4:(bs x.fr,bs x.tt)∈acc
  · rw[aoc h0 g3 hr g4];rw[decide_eq_true g4] at hl;have Rq:=ah hl;clear hS hv hB2 hsi ny h1 h2 hr h0 g3 g4 hl;go_enter Tryz.func76,Tryz.ntmps76;go_wp2_with fail;refine(S1.out _ bl).mono ?_;rintro e v1 ⟨rfl,hb1⟩;obtain⟨q1,q2,q3,q4,q5,q6,q7⟩:=FY.out v1 bl;go_wp2_with fail;clear q1 q2 q3 q4 q5 q6 q7;refine(S2.out _ bl).mono ?_;rintro e v2 ⟨rfl,hb2⟩;obtain⟨q1,q2,q3,q4,q5,q6,q7⟩:=FY.out v2 bl;have hl:=Rq.out v2 (HS.out.on bl);go_wp2_with fail;refine(CB.out _).mono ?_;rintro e v3 ⟨rfl,rfl⟩;exact QZ
  · rw[an_ h0 g3 hr g4];rw[decide_eq_false g4] at hl;have Rq:=ah hl;have hkey:=OQ hx1 hx2;have Rv:Hid (FV (CQ x)):=ah ⟨by show(bs x.fr).length<=_;rw[eG];exact hx1,by show(bs x.tt).length<=_;rw[eG];exact hx2⟩;clear hS hv hB2 hsi ny h1 h2 hr h0 g3 g4 hl;go_enter Tryz.func76,Tryz.ntmps76;go_wp2_with fail;refine(S1.out _ bl).mono ?_;rintro e v1 ⟨rfl,hb1⟩;obtain⟨q1,q2,q3,q4,q5,q6,q7⟩:=FY.out v1 bl;go_wp2_with fail;clear q1 q2 q3 q4 q5 q6 q7;refine(S2.out _ bl).mono ?_;rintro e v2 ⟨rfl,hb2⟩;obtain⟨q1,q2,q3,q4,q5,q6,q7⟩:=FY.out v2 bl;have HS2:=ah (HS.out.on (show Below w.heap.size w v2 by exact bl));have hl:=Rq.out v2 HS2.out;have HB2:Hid (Below w.heap.size w v2):=ah bl;go_wp2_with fail;refine(CB.out _).mono ?_;rintro e v3 ⟨rfl,rfl⟩;go_wp2_with (at_mapUpdate;refine wpList_mapUpdate_own _ rfl _ _ _ 155 rfl 157 4 UG Tryz.underlying155 _ b acc.length _ rfl HS2.out.1 (by unfold maxLen;omega) _ _ _ rfl rfl hkey _ [] (plainElem_bool Tryz.underlying4 true) ?_)
    intro w3 hown3 hgrow3;have IA:=ah hown3;rw[Yq] at IA;have HG:=ah hgrow3;clear hown3 hgrow3 hl q1 q2 q3 q4 q5 q6 q7;go_wp2_with fail;go_ret;refine⟨rfl,⟨?_,fun p hp=>?_⟩,(But.of HB2.out).trans ⟨HG.out.os,HG.out.tape,HG.out.output,HG.out.size,fun k hk hne=>HG.out.block k hk (fun e=>hne (Option.some.inj e))⟩⟩
    · show World.ownsMap _ _ _ _ b (acc++[CQ x]).length (Da ((acc++[CQ x]).map xg))
      rw[List.map_append,List.length_append];exact IA.out
    · rcases List.mem_append.1 hp with hp|hp
      · exact HS2.out.2 p hp
      · rw[List.mem_singleton.1 hp];exact Rv.out
end Md
end Go.Proofs.YtbgodajefaahdaaGreatDoor
