/-
  Parts of this proof: The contract of checkStart and of the closure th. The map of the links that were met. The contract of the closure of checkLinks.
-/
import Derived.Test.YthnillhnjhalmaaGreatDoorYPUsage
open Go.Proofs.Tryz
open Go.Proofs.Tryz renaming prog->ae
open List renaming getElem?_eq_getElem->af
open Option renaming some->ag,none->ai
open Go.Lib renaming hid->ah
set_option linter.unusedVariables false
set_option maxRecDepth 100000
set_option maxHeartbeats 4000000
open Go.Lib (hid)
namespace Go.Proofs.YthnillhnjhalmaaGreatDoor
namespace Md
open Go.RowKit
open Na (fst Sj)
open Sm (Ints)
open Ex (Lo Gives take_one)
attribute [local go_sem] ag4 XH XI XJ XK L_
theorem RZ:∀{a c:List eZ} {b d:List Int},a.length=b.length->pF (a++c) (b++d)=(pF a b&&pF c d)
 | [],c,[],d,_=>by simp[pF]
 | x::t,c,y::u,d,h=>by rw[List.cons_append,List.cons_append,pF,pF,RZ Ad,Bool.and_assoc]
 | [],_,_::_,_,h=>by simp at h
 | _::_,_,[],_,h=>by simp at h
theorem ajI {l:List eZ} {m:List Int} {k:Nat} {x:eZ} {y:Int} (hx:l[k]?=ag x) (hy:m[k]?=ag y) (h:pF (l.take k) (m.take k)=true) (g:fits x.ty y=true):pF (l.take (k+1)) (m.take (k+1))=true:=by
 obtain⟨hk,-⟩:=List.getElem?_eq_some_iff.1 hx;obtain⟨hj,-⟩:=List.getElem?_eq_some_iff.1 hy;rw[take_one hx,take_one hy,RZ (by rw[List.length_take,List.length_take];omega),h,pF,g];rfl
theorem ajH {l:List eZ} {m:List Int} {k:Nat} {x:eZ} {y:Int} (hx:l[k]?=ag x) (hy:m[k]?=ag y) (g:fits x.ty y=false):pF l m=false:=by
 obtain⟨hk,e1⟩:=List.getElem?_eq_some_iff.1 hx;obtain⟨hj,e2⟩:=List.getElem?_eq_some_iff.1 hy;have a:=List.take_append_drop k l;have b:=List.take_append_drop k m;rw[List.drop_eq_getElem_cons hk,e1] at a;rw[List.drop_eq_getElem_cons hj,e2] at b;rw[← a,← b,RZ (by rw[List.length_take,List.length_take];omega),pF,g];simp
theorem aog {ro:List fD} {s:ByteArray} (h:0<=wQ ro s):∃(j:Nat) (r:fD),wQ ro s=(j:Int)/\ro[j]?=ag r:=by
 have h1:=Sj s (ro.map (·.nm));rw[List.length_map] at h1;have h2:wQ ro s=fst (ro.map (·.nm)) s:=rfl;have h3:(wQ ro s).toNat<ro.length:=by omega
 exact⟨(wQ ro s).toNat,ro[(wQ ro s).toNat],by omega,af h3⟩
theorem apl {ro:List fD} {d:jf} (h:wQ ro d.ro<0):yA ro d=5:=by unfold yA;rw[if_pos h]
theorem apm {ro:List fD} {d:jf} {j:Nat} {r:fD} (h:wQ ro d.ro=(j:Int)) (hr:ro[j]?=ag r):yA ro d=if d.ar.length=r.ps.length then (if pF r.ps d.ar then (if sZ d.a&&sZ d.e&&sZ d.u && !(decide (d.e=0) && !decide (d.u=0)) then 0 else 2) else 2) else 8:=by
 unfold yA;rw[if_neg bU,h,Int.toNat_natCast,hr]
theorem UO {n:Int} {b:Bool} (h:sZ n=b) (w:World):Calls ae 139 #[.int .i64 n] w (oW (.bool b) w):=by rw[← h];exact aaH n w
theorem VM {p:Prop} (h:p:=by
 rintro e v2 ⟨rfl,rfl⟩;go_wp2_with fail;go_ret;exact⟨by rw[← Bp.out];rfl,by have bZ:=mg.out;exact bl⟩
 ):p:=h
theorem Pm {p:Prop} (h:p:=by
 go_wp2_with fail;refine(T1.out _).mono ?_;rintro e v2 ⟨rfl,rfl⟩;go_wp2_with fail;refine(T2.out _).mono ?_;rintro e v2 ⟨rfl,rfl⟩;go_wp2_with fail;refine(T3.out _).mono ?_;exact VM
 ):p:=h
theorem ahF (x:cZ) (P:fe) (d:jf) (Q:qD) (w:World) (hx:Rw 4 il (Lo w.heap.size) w x.ro P.yt P.tJ) (hd:oz (Lo w.heap.size) w d Q):Calls ae 155 #[.agg (cK x P),.agg (jq d Q)] w (Gives (.int .i64 (yA x.ro d)) w):=by
 have HX:=ah hx;have HD:=ah hd;have FX:=xE (w:=w) 50 214 (cK x P) (jq d Q);obtain⟨n13,jF⟩:∃n:Nat,13=n:=⟨_,rfl⟩
 have BK:∀w,(sizeOf 50).run ae w=.ok n13 w:=fun w=>by rw[sizeOf50,jF]
 have CY:=ah jF;have ld:=fun W=>((xE (w:=W) 50 214 (cK x P) (jq d Q)).out _ (Below.refl _ _)).1.cell.gJ CY.out;obtain⟨v,hv⟩:∃v,wQ x.ro d.ro=v:=⟨_,rfl⟩
 have CR:=ah (fun W (hW:Below w.heap.size w W)=>(show Calls ae 193 #[.agg (cK x P),.string d.ro] W (Gives (.int .i64 v) W) by rw[← hv];exact NS x P d.ro W (HX.out.on il.map hW)));by_cases hv0:v<0
 · rw[apl (by rw[hv];exact hv0)];have t0:=decide_eq_true hv0;clear hx hd jF hv;go_enter func155,ntmps155;go_wp2_with fail;refine(CR.out _ bl).mono ?_;exact KZ
 obtain⟨j,r,hj,hr⟩:=aog (ro:=x.ro) (s:=d.ro) (by rw[hv];omega);rw[hv] at hj;subst hj;rw[apm hv hr];obtain⟨hrl,hrm⟩:=hx.len;obtain⟨hal,ham⟩:d.ar.length=Q.arm/\Q.arm<=9223372036854775807:=⟨hd.ar.1,hd.ar.2.1⟩
 have hjl:j<x.ro.length:=(List.getElem?_eq_some_iff.1 hr).1;have j0:(0:Int)<=(j:Int):=by omega
 have j1:(j:Int)<(P.tJ:Int):=by omega
 have j2:¬(j:Int)<0:=by omega
 obtain⟨b,o,hp,mD,hG,hcell⟩:=HX.out.rows bU;obtain⟨c,hcs,hat,hR⟩:=hcell.out j hjl;have hrj:x.ro[j]=r:=by rw[af hjl] at hr;exact Option.some.inj hr
 rw[hrj] at hR;obtain⟨PR,rfl,M5⟩:=hR;have HRO:=ah M5;have FP:Hid (∀W,Below w.heap.size w W->W.cell? ⟨b,o+j*4+1,ai⟩=ag (.slice PR.Gs PR.nY PR.NK)):=ah fun W hW=>(hat.on hW hG).get (XF r PR);have aaq:(cK x P)[10]?=ag (.slice (ag ⟨b,o,ai⟩) P.tJ P.A7):=by rw[L_,hp]
 have FY:Hid (∀W,Below ((w.alloc (.cells (cK x P) 50)).alloc (.cells (jq d Q) 214)).heap.size ((w.alloc (.cells (cK x P) 50)).alloc (.cells (jq d Q) 214)) W->W.cell? ⟨w.heap.size,10,ai⟩=ag (.slice (ag ⟨b,o,ai⟩) P.tJ P.A7)/\W.cell? ⟨w.heap.size+1,1,ai⟩=ag (.slice Q.Fj Q.arm Q.Qt)/\W.cell? ⟨w.heap.size+1,2,ai⟩=ag (.int .i64 d.a)/\W.cell? ⟨w.heap.size+1,3,ai⟩=ag (.int .i64 d.e)/\W.cell? ⟨w.heap.size+1,4,ai⟩=ag (.int .i64 d.u)):=ah fun W hb=>by
  have q:=FX.out W hb;exact⟨q.1.get aaq,q.2.get (XH d Q),q.2.get (XI d Q),q.2.get (XJ d Q),q.2.get (XK d Q)⟩
 have hpl:r.ps.length=PR.nY:=M5.ps.1;have hpm:PR.nY<=9223372036854775807:=M5.ps.2.1;clear hx hd jF hcell hcs hat M5 hp hrj aaq;by_cases hlen:Q.arm=PR.nY;rotate_left 1
 · rw[if_neg bU];have u1:((Q.arm:Int)==(PR.nY:Int))=false:=beq_eq_false_iff_ne.2 bU;have u2:((Q.arm:Int) != (PR.nY:Int))=true:=bne_iff_ne.2 bU;have u3:(Q.arm==PR.nY)=false:=beq_eq_false_iff_ne.2 hlen;have u4:(Q.arm != PR.nY)=true:=bne_iff_ne.2 hlen;clear hrl hrm hal ham hjl hpl hpm hr hv mD;go_enter func155,ntmps155;go_wp2_with fail;refine(CR.out _ bl).mono ?_;rintro e v1 ⟨rfl,hb1⟩;obtain⟨q1,q2,q3,q4,q5⟩:=FY.out v1 bl;have q6:=FP.out v1 bl;exact dS
 rw[if_pos bU];obtain⟨V,hV⟩:∃V:Int,(if pF r.ps d.ar then (if sZ d.a&&sZ d.e&&sZ d.u && !(decide (d.e=0) && !decide (d.u=0)) then 0 else 2) else 2)=V:=⟨_,rfl⟩
 rw[hV];have HV:=ah hV;clear hV;obtain⟨m,hm⟩:∃m,Q.arm=m:=⟨_,rfl⟩
 have hm2:PR.nY=m:=by omega
 have HAR:Hid (Ints (Lo w.heap.size) w d.ar Q.Fj m):=ah (by rw[← hm];exact HD.out.ar);have HPS:Hid (Rw 2 dI (Lo w.heap.size) w r.ps PR.Gs m):=ah (by rw[← hm2];exact HRO.out.ps);have WI:=ah (show d.ar.length=m by omega);have WS:=ah (show r.ps.length=m by omega);rw[hm2] at FP;rw[hm] at FY;have m1:(m:Int)<=9223372036854775807:=by omega
 clear hrl hrm hal ham hjl hpl hpm hr hv mD hlen hm hm2;go_enter func155,ntmps155;go_wp2_with fail;refine(CR.out _ bl).mono ?_;rintro e v1 ⟨rfl,hb1⟩;obtain⟨q1,q2,q3,q4,q5⟩:=FY.out v1 bl;have q6:=FP.out v1 bl;have HB1:=ah hb1;go_wp2_with fail;go_loopw [30] (fun i wr=>∃k:Nat,k<=m/\i=.int .i64 (k:Nat)/\Hid (Below v1.heap.size v1 wr)/\Hid (pF (r.ps.take k) (d.ar.take k)=true)) (fun i _=>m-(intOf i).toNat)
 case atStart=>exact⟨0,Nat.zero_le _,rfl,ah (Below.refl _ _),ah rfl⟩
 case round=>
  obtain⟨k,hk,rfl,HW,HA⟩:=hrel;have mg:Hid (Below w.heap.size w wr):=ah rq;have k0:(0:Int)<=(k:Int):=by omega
  clear q1 q2 q3 q4 q5 q6;rcases Nat.lt_or_ge k m with h|h
  · have k1:(k:Int)<(m:Int):=by omega
    have hkl:k<d.ar.length:=by rw[WI.out];exact h
    have hkp:k<r.ps.length:=by rw[WS.out];exact h
    have Ib:=ah (af hkl);have iX:=ah (af hkp);obtain⟨h1,h2,h3|⟨b1,o1,hp1,g1,l1,c1⟩⟩:=(HAR.out.map mg.out.size fun b g _=>⟨Nat.lt_of_lt_of_le g mg.out.size,mg.out.block b g⟩:Ints (Lo wr.heap.size) wr d.ar Q.Fj m)
    · omega
    obtain⟨b2,o2,hp2,g2,l2,c2⟩:=(HPS.out.below dI.map mg.out).rows bU;obtain⟨f,hfs,hat,hR⟩:=c2.out k hkp;have a0:=c1.out k hkl;obtain⟨n,hn⟩:∃n,d.ar[k]=n:=⟨_,rfl⟩
    obtain⟨y,hy⟩:∃y,r.ps[k]=y:=⟨_,rfl⟩
    rw[hn] at a0 Ib;rw[hy] at hR iX;have a1:=hat.get (r:=1) (v:=.int .i64 y.ty) (by rw[hR];rfl);obtain⟨q,hq⟩:∃q,fits y.ty n=q:=⟨_,rfl⟩
    have CF:=ah (fun W=>(show Calls ae 93 #[.int .i64 y.ty,.int .i64 n] W (oW (.bool q) W) by rw[← hq];exact ZA _ _ W));rw[hp1,hp2]
    cases q with
    | false=>
     have HN:=ah (ajH iX.out Ib.out hq);clear h1 h2 c1 c2 hfs hat hR hkl hkp hn hy hq g1 g2 hp1 hp2;go_wp2_with fail;refine(CF.out _).mono ?_;rintro e v2 ⟨rfl,rfl⟩;go_wp2_with fail;go_ret;exact⟨by rw[← HV.out,HN.out];rfl,by have bZ:=mg.out;exact bl⟩
    | true=>
     have HN:=ah (ajI iX.out Ib.out HA.out hq);clear h1 h2 c1 c2 hfs hat hR hkl hkp hn hy hq g1 g2;go_wp2_with fail;refine(CF.out _).mono ?_;rintro e v2 ⟨rfl,rfl⟩;exact ae9
  · obtain rfl:m=k:=by omega
    have HT:=ah (show pF r.ps d.ar=true by have h1:=HA.out;rwa [List.take_of_length_le (by rw[WS.out];exact Nat.le_refl _),List.take_of_length_le (by rw[WI.out];exact Nat.le_refl _)] at h1);obtain⟨t1,h1⟩:∃t,sZ d.a=t:=⟨_,rfl⟩
    obtain⟨t2,h2⟩:∃t,sZ d.e=t:=⟨_,rfl⟩
    obtain⟨t3,h3⟩:∃t,sZ d.u=t:=⟨_,rfl⟩
    have HE:=HV.out;rw[HT.out,h1,h2,h3] at HE;have Bp:=ah HE;have T1:=ah (fun W=>UO h1 W);have T2:=ah (fun W=>UO h2 W);have T3:=ah (fun W=>UO h3 W);clear h1 h2 h3 HT HE HV;obtain⟨q1,q2,q3,q4,q5⟩:=FY.out wr rq
    cases t1 with
    | false=>
     go_wp2_with fail;refine(T1.out _).mono ?_;exact VM
    | true=>
     cases t2 with
     | false=>
      go_wp2_with fail;refine(T1.out _).mono ?_;rintro e v2 ⟨rfl,rfl⟩;go_wp2_with fail;refine(T2.out _).mono ?_;exact VM
     | true=>
      cases t3 with
      | false=>
       exact Pm
      | true=>
       by_cases he:d.e=0
       · have he1:(d.e==0)=true:=beq_iff_eq.2 he;rw[decide_eq_true he] at Bp;by_cases hu:d.u=0
         · have hu1:(d.u != 0)=false:=by rw[hu];rfl
           rw[decide_eq_true hu] at Bp;clear he hu;exact Pm
         · have hu1:(d.u != 0)=true:=bne_iff_ne.2 hu;rw[decide_eq_false hu] at Bp;clear he hu;exact Pm
       · have he1:(d.e==0)=false:=beq_eq_false_iff_ne.2 he;rw[decide_eq_false he] at Bp;clear he;exact Pm
end Md
namespace Md
open Go.RowKit Go.Maps
open Na (bs eF)
set_option maxRecDepth 100000
theorem ali:laidOutB ae=true:=by kernel_rfl
theorem rowP:(150:TypeId)<Tryz.prog.types.size:=of_decide_eq_true dA
theorem aqf:(match Tryz.prog.underlying 150 with|some (.array _ _)|some (.struct _)=>true|_=>false)=true:=by rw[underlying150]
theorem Tu:Keyed ae 150:=Keyed.of_law (deep_law_laid ali (m:=2) bU rowP dA aqf)
theorem ktP:Tryz.prog.keyType 150=true:=by kernel_rfl
theorem tsP:∃n,Tryz.prog.types.size+1=n+1+1:=⟨Tryz.prog.types.size-1,by have h:(150:Nat)<Tryz.prog.types.size:=rowP;omega⟩
theorem aij:Tryz.prog.cellsOf 9=1:=by kernel_rfl
theorem Ye:Tryz.prog.cellsOf 150=2:=by kernel_rfl
def wK (p:List UInt8×List UInt8):Lit:=.string (keyBytes [.string p.1,.string p.2])
theorem Ng {a b:ByteArray} (ha:a.size<=1000000000) (hb:b.size<=1000000000):keyOf ae 150 (.agg #[.string a,.string b])=ag (wK (bs a,bs b)):=by
 obtain⟨n,hn⟩:=tsP;have hf:(Value.agg #[.string a,.string b]).formed ae 150=true:=by
  simp[Value.formed,underlying150,Ye]
 unfold keyOf;rw[underlying150,ktP,hf,hn];have h1:a.size<=maxLen:=by unfold maxLen;omega
 have h2:b.size<=maxLen:=by unfold maxLen;omega
 simp[Program.keyLits,underlying150,underlying9,Ye,aij,Value.cells,List.range_succ,h1,h2]
 rfl
theorem ak7 (p:List UInt8×List UInt8):WideAt.IsKeyLit (wK p):=by unfold wK;simp[WideAt.IsKeyLit]
def Fe (p:List UInt8×List UInt8):Prop:=p.1.length<=1000000000/\p.2.length<=1000000000
theorem ak6 {p q:List UInt8×List UInt8} (hp:Fe p) (hq:Fe q) (h:wK p=wK q):p=q:=by
 have e:∀l:List UInt8,bs ⟨l.toArray⟩=l:=fun l=>by unfold bs;simp
 have k1:=Ng (a:=⟨p.1.toArray⟩) (b:=⟨p.2.toArray⟩) (by have:=hp.1;show p.1.toArray.size<=_;simpa using this) (by have:=hp.2;show p.2.toArray.size<=_;simpa using this);have k2:=Ng (a:=⟨q.1.toArray⟩) (b:=⟨q.2.toArray⟩) (by have:=hq.1;show q.1.toArray.size<=_;simpa using this) (by have:=hq.2;show q.2.toArray.size<=_;simpa using this);rw[e,e] at k1 k2;have h3:=Tu.inj k1 (by rw[k2];show ag (wK q)=ag (wK p);rw[h]);injection h3 with h3;have h4:=congrArg Array.toList h3;simp only[List.cons.injEq,and_true] at h4;obtain⟨h5,h6⟩:=h4;injection h5 with h5;injection h6 with h6;have g1:=congrArg bs h5;have g2:=congrArg bs h6;rw[e,e] at g1 g2;exact Prod.ext g1 g2
def vJ (b:Nat) (acc:List (List UInt8×List UInt8)) (w:World):Prop:=w.ownsMap ae 150 (plainElem ae 4) b acc.length (Da (acc.map wK))/\∀p∈acc,Fe p
theorem vJ.on {b:Nat} {acc:List (List UInt8×List UInt8)} {w w2:World} (h:vJ b acc w) (hb:Below w.heap.size w w2):vJ b acc w2:=⟨abQ h.1 hb,h.2⟩
theorem vJ.lt {b:Nat} {acc:List (List UInt8×List UInt8)} {w:World} (h:vJ b acc w):b<w.heap.size:=World.ownsMap.lt h.1
theorem ak_ (acc:List (List UInt8×List UInt8)):∀k∈acc.map wK,WideAt.IsKeyLit k:=fun k hk=>by obtain⟨y,-,rfl⟩:=List.mem_map.1 hk;exact ak7 y
theorem alJ {p:List UInt8×List UInt8} {acc:List (List UInt8×List UInt8)} (hp:Fe p) (ha:∀q∈acc,Fe q):wK p∈acc.map wK↔p∈acc:=by
 rw[List.mem_map];constructor
 · rintro⟨y,hy,e⟩;rw[← ak6 (ha y hy) hp e];exact hy
 · intro h;exact⟨p,h,rfl⟩
theorem alB {w:World} {b:Nat} {acc:List (List UInt8×List UInt8)} {x y:ByteArray} (h:vJ b acc w) (hx:x.size<=1000000000) (hy:y.size<=1000000000) :
 (Instr.lookup 148 (.map (ag b)) (.agg #[.string x,.string y]) false).run ae w=.ok (.bool (decide ((bs x,bs y)∈acc))) w:=by
 obtain⟨v,ps,hrun,hv⟩:=World.ownsMap.lookup (t:=148) h.1 Tu underlying148 (ae8 w) (plainElem_bool underlying4 false) (Ng hx hy);obtain⟨c,rfl,hc⟩:=abZ hv;simp only[Prod.mk.injEq] at hc;have:=WE (ak_ acc) hc.1;rw[alJ ⟨by rw[eF];exact hx,by rw[eF];exact hy⟩ h.2] at this;rw[hrun];by_cases g:(bs x,bs y)∈acc
 · rw[decide_eq_true g,this.2 g]
 · rw[decide_eq_false g]
   cases c with
   | true=>exact absurd (this.1 rfl) g
   | false=>rfl
end Md
namespace Md
open Go.RowKit Go.Maps
open Na (bs eF)
open Ex (Lo Gives block_lt)
attribute [local go_sem] Xw Xx Xy
def af2 (b:Nat) (r:Int×List (List UInt8×List UInt8)) (w:World) (e:Ending) (w':World):Prop:=e=.returned (.int .i64 r.1)/\vJ b r.2 w'/\But b w w'
theorem abB {si:List cZ} {l:iY} {acc:List (List UInt8×List UInt8)} (h:pR si l.fr<0∨pR si l.tt<0):pW si acc l=(5,acc):=by unfold pW D_;rw[if_pos h];rfl
theorem aly {si:List cZ} {l:iY} {acc:List (List UInt8×List UInt8)} (h:¬(pR si l.fr<0∨pR si l.tt<0)) (h1:l.fr=l.tt):pW si acc l=(1,acc):=by unfold pW D_;rw[if_neg h,if_pos h1];rfl
theorem alz {si:List cZ} {l:iY} {acc:List (List UInt8×List UInt8)} (h:¬(pR si l.fr<0∨pR si l.tt<0)) (h1:¬l.fr=l.tt) (h2:iL 1 l.de 1000000000=false):pW si acc l=(2,acc):=by unfold pW D_;rw[if_neg h,if_neg h1,h2];rfl
theorem alA {si:List cZ} {l:iY} {acc:List (List UInt8×List UInt8)} (h:¬(pR si l.fr<0∨pR si l.tt<0)) (h1:¬l.fr=l.tt) (h2:iL 1 l.de 1000000000=true) (h3:BP l∈acc):pW si acc l=(4,acc):=by unfold pW D_;rw[if_neg h,if_neg h1,h2];simp[h3]
theorem alx {si:List cZ} {l:iY} {acc:List (List UInt8×List UInt8)} (h:¬(pR si l.fr<0∨pR si l.tt<0)) (h1:¬l.fr=l.tt) (h2:iL 1 l.de 1000000000=true) (h3:¬BP l∈acc):pW si acc l=(0,acc++[BP l]):=by unfold pW D_;rw[if_neg h,if_neg h1,h2];simp[h3]
theorem Pn {p:Prop} (h:p:=by
 go_wp2_with fail;go_ret;exact⟨rfl,HS.out.on bl,But.of bl⟩
 ):p:=h
theorem aeX {p:Prop} (h:p:=by
 go_enter func98,ntmps98;go_wp2_with fail;refine(S1.out _ bl).mono ?_;rintro e v1 ⟨rfl,hb1⟩;obtain⟨q1,q2,q3,q4,q5,q6,q7⟩:=FY.out v1 bl;go_wp2_with fail;clear q1 q2 q3 q4 q5 q6 q7;refine(S2.out _ bl).mono ?_;rintro e v2 ⟨rfl,hb2⟩;obtain⟨q1,q2,q3,q4,q5,q6,q7⟩:=FY.out v2 bl;exact Pn
 ):p:=h
theorem ah2 (x:iY) (M:dM) (PM:lN) (b B1 B2:Nat) (acc:List (List UInt8×List UInt8)) (w:World) (hS:vJ b acc w) (hn:acc.length<=100000) (hx1:x.fr.size<=1000000000) (hx2:x.tt.size<=1000000000)
 (hv:w.cell? ⟨B1,0,ai⟩=ag (.map (ag b))) (hB2:bX w B2 36 (dX M PM)) (hsi:Rw 13 g_ (Lo w.heap.size) w M.si PM.zM PM.yu) :
 Calls ae 98 #[.agg (qI x),.pointer (ag ⟨B2,0,ai⟩),.pointer (ag ⟨B1,0,ai⟩)] w (af2 b (pW M.si acc x) w):=by
 have HS:=ah hS;have HV:=ah hv;have HB:=ah hB2;have HI:=ah hsi;have FX:=xE (w:=w) 139 150 (qI x) #[.string x.fr,.string x.tt];obtain⟨n4,mF⟩:∃n:Nat,4=n:=⟨_,rfl⟩
 have akv:∀w,(sizeOf 36).run ae w=.ok n4 w:=fun w=>by rw[sizeOf36,mF]
 have WQ:=ah mF;have FY:Hid (∀W,Below ((w.alloc (.cells (qI x) 139)).alloc (.cells #[.string x.fr,.string x.tt] 150)).heap.size ((w.alloc (.cells (qI x) 139)).alloc (.cells #[.string x.fr,.string x.tt] 150)) W->W.cell? ⟨w.heap.size,0,ai⟩=ag (.string x.fr)/\W.cell? ⟨w.heap.size,1,ai⟩=ag (.string x.tt)/\W.cell? ⟨w.heap.size,2,ai⟩=ag (.int .i64 x.de)/\W.cell? ⟨w.heap.size+1,0,ai⟩=ag (.string x.fr)/\W.cell? ⟨w.heap.size+1,1,ai⟩=ag (.string x.tt)/\W.cell? ⟨B1,0,ai⟩=ag (.map (ag b))/\(loadCellsFrom ⟨B2,0,ai⟩ 0 n4 #[]).run ae W=.ok (dX M PM) W):=ah fun W hb=>by
  have q:=FX.out W hb;have hW:Below w.heap.size w W:=bl;exact⟨q.1.get (Xw x),q.1.get (Xx x),q.1.get (Xy x),q.2.get rfl,q.2.get rfl,(hW.cell (p:=⟨B1,0,ai⟩) (block_lt HV.out)).trans HV.out,(HB.out.on hW).cell.gJ WQ.out⟩
 have ld:=(HB.out.on (show Below w.heap.size w ((w.alloc (.cells (qI x) 139)).alloc (.cells #[.string x.fr,.string x.tt] 150)) by exact bl)).cell.gJ WQ.out;obtain⟨i1,h1⟩:∃v,pR M.si x.fr=v:=⟨_,rfl⟩
 obtain⟨i2,h2⟩:∃v,pR M.si x.tt=v:=⟨_,rfl⟩
 obtain⟨r,hr⟩:∃v,iL 1 x.de 1000000000=v:=⟨_,rfl⟩
 have S1:=ah (fun W (hW:Below w.heap.size w W)=>(show Calls ae 99 #[.agg (dX M PM),.string x.fr] W (Gives (.int .i64 i1) W) by rw[← h1];exact Oc M PM x.fr W (HI.out.on g_.map hW)));have S2:=ah (fun W (hW:Below w.heap.size w W)=>(show Calls ae 99 #[.agg (dX M PM),.string x.tt] W (Gives (.int .i64 i2) W) by rw[← h2];exact Oc M PM x.tt W (HI.out.on g_.map hW)));have CB:=ah (fun W=>Dl hr W);by_cases g1:i1<0
 · rw[abB (.inl (by rw[h1];exact g1))];have d1:=decide_eq_true g1;clear hS hv hB2 hsi mF h1 h2 hr;go_enter func98,ntmps98;go_wp2_with fail;refine(S1.out _ bl).mono ?_;rintro e v1 ⟨rfl,hb1⟩;exact Pn
 have d1:=decide_eq_false g1;by_cases g2:i2<0
 · rw[abB (.inr (by rw[h2];exact g2))];have d2:=decide_eq_true g2;clear hS hv hB2 hsi mF h1 h2 hr;exact aeX
 have d2:=decide_eq_false g2;have h0:¬(pR M.si x.fr<0∨pR M.si x.tt<0):=by rw[h1,h2];omega
 by_cases g3:x.fr=x.tt
 · rw[aly h0 g3];have u3:(x.fr.toList==x.tt.toList)=true:=by rw[GH];exact decide_eq_true g3
   clear hS hv hB2 hsi mF h1 h2 hr h0 g3;exact aeX
 have u3:(x.fr.toList==x.tt.toList)=false:=by rw[GH];exact decide_eq_false g3
 cases r with
 | false=>
  rw[alz h0 g3 hr];clear hS hv hB2 hsi mF h1 h2 hr h0 g3;go_enter func98,ntmps98;go_wp2_with fail;refine(S1.out _ bl).mono ?_;rintro e v1 ⟨rfl,hb1⟩;obtain⟨q1,q2,q3,q4,q5,q6,q7⟩:=FY.out v1 bl;go_wp2_with fail;clear q1 q2 q3 q4 q5 q6 q7;refine(S2.out _ bl).mono ?_;rintro e v2 ⟨rfl,hb2⟩;obtain⟨q1,q2,q3,q4,q5,q6,q7⟩:=FY.out v2 bl;go_wp2_with fail;refine(CB.out _).mono ?_;rintro e v3 ⟨rfl,rfl⟩;exact Pn
 | true=>
  have hl:=fun W (hW:vJ b acc W)=>alB hW hx1 hx2;by_cases g4:(bs x.fr,bs x.tt)∈acc
  · rw[alA h0 g3 hr g4];rw[decide_eq_true g4] at hl;have PY:=ah hl;clear hS hv hB2 hsi mF h1 h2 hr h0 g3 g4 hl;go_enter func98,ntmps98;go_wp2_with fail;refine(S1.out _ bl).mono ?_;rintro e v1 ⟨rfl,hb1⟩;obtain⟨q1,q2,q3,q4,q5,q6,q7⟩:=FY.out v1 bl;go_wp2_with fail;clear q1 q2 q3 q4 q5 q6 q7;refine(S2.out _ bl).mono ?_;rintro e v2 ⟨rfl,hb2⟩;obtain⟨q1,q2,q3,q4,q5,q6,q7⟩:=FY.out v2 bl;have hl:=PY.out v2 (HS.out.on bl);go_wp2_with fail;refine(CB.out _).mono ?_;rintro e v3 ⟨rfl,rfl⟩;exact Pn
  · rw[alx h0 g3 hr g4];rw[decide_eq_false g4] at hl;have PY:=ah hl;have hkey:=Ng hx1 hx2;have P6:Hid (Fe (BP x)):=ah ⟨by show(bs x.fr).length<=_;rw[eF];exact hx1,by show(bs x.tt).length<=_;rw[eF];exact hx2⟩;clear hS hv hB2 hsi mF h1 h2 hr h0 g3 g4 hl;go_enter func98,ntmps98;go_wp2_with fail;refine(S1.out _ bl).mono ?_;rintro e v1 ⟨rfl,hb1⟩;obtain⟨q1,q2,q3,q4,q5,q6,q7⟩:=FY.out v1 bl;go_wp2_with fail;clear q1 q2 q3 q4 q5 q6 q7;refine(S2.out _ bl).mono ?_;rintro e v2 ⟨rfl,hb2⟩;obtain⟨q1,q2,q3,q4,q5,q6,q7⟩:=FY.out v2 bl;have HS2:=ah (HS.out.on (show Below w.heap.size w v2 by exact bl));have hl:=PY.out v2 HS2.out;have HB2:Hid (Below w.heap.size w v2):=ah bl;go_wp2_with fail;refine(CB.out _).mono ?_;rintro e v3 ⟨rfl,rfl⟩;go_wp2_with (at_mapUpdate;refine wpList_mapUpdate_own _ rfl _ _ _ 148 rfl 150 4 Tu underlying148 _ b acc.length _ rfl HS2.out.1 Py _ _ _ rfl rfl hkey _ [] (plainElem_bool underlying4 true) ?_)
    intro w3 hown3 hgrow3;have H9:=ah hown3;rw[WG] at H9;have HG:=ah hgrow3;clear hown3 hgrow3 hl q1 q2 q3 q4 q5 q6 q7;go_wp2_with fail;go_ret;refine⟨rfl,⟨?_,fun p hp=>?_⟩,(But.of HB2.out).trans ⟨HG.out.os,HG.out.tape,HG.out.output,HG.out.size,fun k hk hne=>HG.out.block k hk (fun e=>hne (Option.some.inj e))⟩⟩
    · show World.ownsMap _ _ _ _ b (acc++[BP x]).length (Da ((acc++[BP x]).map wK))
      rw[List.map_append,List.length_append];exact H9.out
    · rcases List.mem_append.1 hp with hp|hp
      · exact HS2.out.2 p hp
      · rw[List.mem_singleton.1 hp];exact P6.out
end Md
end Go.Proofs.YthnillhnjhalmaaGreatDoor
