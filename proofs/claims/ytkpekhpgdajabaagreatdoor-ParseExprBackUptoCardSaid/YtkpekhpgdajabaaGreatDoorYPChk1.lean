/-
  Parts of this proof: The contract of checkOne. The contract of Check. The contracts of the library's Grow and Concat a. Lists of declarations in a scope. The contract of checkRoutine. How models among the arguments are read, and wha. The contracts of checkTerm, checkLaw and checkLa. The contract of the reference's Names. The contract of the law's light.
-/
import Derived.Test.YtkpekhpgdajabaaGreatDoorYQClo
import Derived.Test.YtkpekhpgdajabaaGreatDoorYPOth
open Go.Proofs.Tryz
open Go.Proofs.Tryz renaming prog->ae
open Option renaming none->X,some->Y
open Go renaming World->af,Calls->ah
open Nat renaming le_refl->ag,le_trans->aj
open Go.RowKit renaming Below->ai
open Go.Lib renaming hid->Z
open List renaming length_append->ak
open Go.RowKit.Below renaming refl->au
set_option linter.unusedVariables false
set_option maxRecDepth 100000
set_option maxHeartbeats 8000000
open Go.Lib (hid)
namespace Go.Proofs.YtkpekhpgdajabaaGreatDoor
namespace Sm
open Go.RowKit
open Na (bs fB)
open Ex (Ex bX Gives fI)
attribute [local go_sem] cs0 cs1 cs2 uW uX uY uZ u_ ve vg uI uJ uK uM uP uQ uR uS uT uU uV
def Mj (x:St):Bool:=((((((((!uN x.o && !decide (bs x.nm=[]))||(!uO x.o && !decide (bs x.f=[])))||(!uE x.o && !Ex.same x.e zE))||(!uF x.o && !Ex.same x.g zE))||(!uA x.o && !decide (x.ar.length=0)))||(!uD x.o && !lD x.di zD))||(!uG x.o&&x.fl))||(!uB x.o && !decide (x.bo.length=0)))||(!uL x.o && !decide (x.el.length=0))
theorem ak6 (x:St):Mj x = !QA x:=by
 unfold Mj QA;simp only[Bool.not_and,Bool.not_or,Bool.not_not]
theorem EE (s:ByteArray):s.toList.isEmpty = !(!decide (bs s=[])):=by
 rw[Bool.not_not,Lib.toList_data]
 show(bs s).isEmpty=_
 cases bs s with
 | nil=>rfl
 | cons x t=>rfl
theorem Rq {n m:Nat} (h:n=m):decide ((0:Int)<(m:Int)) = !decide (n=0)/\decide (0<m) = !decide (n=0):=by
 subst h;by_cases e:n=0
 · subst e;exact⟨rfl,rfl⟩
 · rw[decide_eq_false e];exact⟨decide_eq_true bT,decide_eq_true bT⟩
theorem ak7 (x:St) (P:Pl) (w:af) (hx:uo w x P):ah ae 105 #[.agg (cs x P),xU x.o] w (Gives (.bool (Mj x)) w):=by
 have h1:=Rq hx.ar.len.1;have h2:=Rq hx.bo.len.1;have h3:=Rq hx.el.len.1;exact ak8 x P w (uN x.o) (uO x.o) (uE x.o) (uF x.o) (uA x.o) (uD x.o) (uG x.o) (uB x.o) (uL x.o) (!decide (bs x.nm=[])) (!decide (bs x.f=[])) (!Ex.same x.e zE) (!Ex.same x.g zE) (!decide (x.ar.length=0)) (!lD x.di zD) x.fl (!decide (x.bo.length=0)) (!decide (x.el.length=0)) _ _ _ _ _ _ _ _ _
  (Z fun W hb=>by rw[Bool.not_not];exact Ex.xC x.e zE P.ep P.em P.ec X 0 0 W (hx.e.on hb) Ex.bX.zero)
  (Z fun W hb=>by rw[Bool.not_not];exact Ex.xC x.g zE P.gp P.gm P.gc X 0 0 W (hx.g.on hb) Ex.bX.zero)
  (Z fun W hb => by
    rw[Bool.not_not];have h:=Di.xC x.di.op x.di.a x.di.b x.di.n P.vp x.di.vs.length P.vc P.wp x.di.ws.length P.wc _ _ 0 0 0 0 X 0 0 X 0 0 (fun i=>([]:List Int).getD i 0) (fun i=>([]:List Int).getD i 0) W (hx.on hb).vs (hx.on hb).ws (Di.rX _ _) (Di.rX _ _);rw[hx.Ja,hx.Jd] at h;have e:=MG x.di zD;rw[hx.Ja,hx.Jd] at e;rw[← e];exact h)
  (EE _) (EE _) h1.1 h1.2 rfl h2.1 h2.2 h3.1 h3.2 rfl rfl rfl rfl rfl rfl rfl rfl rfl
theorem ajB {w':af} {g g2:Nat} {x:St} {P:Pl} {a1 a2 a3 a4 a5 a6 a7 a8 a9:Bool} (h:dB w' g x P/\w'.heap[g2]?=Y (.cells #[.bool a1,.bool a2,.bool a3,.bool a4,.bool a5,.bool a6,.bool a7,.bool a8,.bool a9] 165 (0,0))):w'.cell? ⟨g,1,X⟩=Y (.string x.nm)/\w'.cell? ⟨g,2,X⟩=Y (.string x.f)/\w'.cell? ⟨g,3,X⟩=Y (.int .i64 x.e.o)/\w'.cell? ⟨g,4,X⟩=Y (.string x.e.s)/\w'.cell? ⟨g,5,X⟩=Y (.int .i64 x.e.n)/\w'.cell? ⟨g,6,X⟩=Y (.slice P.ep P.em P.ec)/\w'.cell? ⟨g,7,X⟩=Y (.int .i64 x.g.o)/\w'.cell? ⟨g,8,X⟩=Y (.string x.g.s)/\w'.cell? ⟨g,9,X⟩=Y (.int .i64 x.g.n)/\w'.cell? ⟨g,10,X⟩=Y (.slice P.gp P.gm P.gc)/\w'.cell? ⟨g,11,X⟩=Y (.slice P.ap P.am P.ac)/\w'.cell? ⟨g,12,X⟩=Y (.int .i64 x.di.op)/\w'.cell? ⟨g,13,X⟩=Y (.int .i64 x.di.a)/\w'.cell? ⟨g,14,X⟩=Y (.int .i64 x.di.b)/\w'.cell? ⟨g,15,X⟩=Y (.int .i64 x.di.n)/\w'.cell? ⟨g,16,X⟩=Y (.slice P.vp P.vm P.vc)/\w'.cell? ⟨g,17,X⟩=Y (.slice P.wp P.wm P.wc)/\w'.cell? ⟨g2,0,X⟩=Y (.bool a1)/\w'.cell? ⟨g2,1,X⟩=Y (.bool a2)/\w'.cell? ⟨g2,2,X⟩=Y (.bool a3)/\w'.cell? ⟨g2,3,X⟩=Y (.bool a4)/\w'.cell? ⟨g2,4,X⟩=Y (.bool a5)/\w'.cell? ⟨g2,5,X⟩=Y (.bool a6):=
 ⟨h.1.c1,h.1.c2,h.1.c3,h.1.c4,h.1.c5,h.1.c6,h.1.c7,h.1.c8,h.1.c9,h.1.c10,h.1.c11,h.1.c12,h.1.c13,h.1.c14,h.1.c15,h.1.c16,h.1.c17,qL h.2 rfl,qL h.2 rfl,qL h.2 rfl,qL h.2 rfl,qL h.2 rfl,qL h.2 rfl⟩
theorem afZ (w:af) (t:TypeId) (r1 r2 r3 r4 r5 r6:Int):∀i,(h:i<[r1,r2,r3,r4,r5,r6].length)->(w.alloc (.cells #[.int .i64 r1,.int .i64 r2,.int .i64 r3,.int .i64 r4,.int .i64 r5,.int .i64 r6] t)).cell? ⟨w.heap.size,i,X⟩=Y (.int .i64 [r1,r2,r3,r4,r5,r6][i]):=by
 intro i h;rw[World.cell?_alloc_mark]
 match i,h with
 | 0,_=>rfl
 | 1,_=>rfl
 | 2,_=>rfl
 | 3,_=>rfl
 | 4,_=>rfl
 | 5,_=>rfl
theorem Wx {w w1:af} (x:St) (P:Pl) (c:Array Value) (hb1:ai (w.alloc (.cells (cs x P) 62)).heap.size (w.alloc (.cells (cs x P) 62)) w1):Hid (∀W,ai (w1.alloc (.cells c 165)).heap.size (w1.alloc (.cells c 165)) W->dB W w.heap.size x P/\W.heap[w1.heap.size]?=Y (.cells c 165 (0,0))):=Z fun W hb=>by
 have h1:dB (w.alloc (.cells (cs x P) 62)) w.heap.size x P:=zm;have h2:=World.alloc_heap_new w1 (.cells c 165);exact⟨((h1.on hb1).on (show ai w1.heap.size w1 _ by exact bl)).on hb,(hb.block _ cK).trans h2⟩
theorem akN (x:St) (P:Pl) (w:af) (HX:Hid (uo w x P)) (a1 a2 a3 a4 a5 a6 a7 a8 a9 K O:Bool) (r1 r2 r3 r4 r5 r6:Int)
 (CU:Hid (∀W,ai w.heap.size w W->ah ae 104 #[.int .i64 x.o] W (Gives (.tuple #[.agg #[.bool a1,.bool a2,.bool a3,.bool a4,.bool a5,.bool a6,.bool a7,.bool a8,.bool a9],.bool K]) W)))
 (CO:Hid (∀W,ai w.heap.size w W->ah ae 105 #[.agg (cs x P),.agg #[.bool a1,.bool a2,.bool a3,.bool a4,.bool a5,.bool a6,.bool a7,.bool a8,.bool a9]] W (Gives (.bool O) W)))
 (C1:Hid (∀W,ai w.heap.size w W->ah ae 106 #[.bool a1,.func (.func 53) #[] #[],.string x.nm] W (Gives (.int .i64 r1) W)))
 (C2:Hid (∀W,ai w.heap.size w W->ah ae 106 #[.bool a2,.func (.func 53) #[] #[],.string x.f] W (Gives (.int .i64 r2) W)))
 (C3:Hid (∀W,ai w.heap.size w W->ah ae 107 #[.bool a3,.func (.func 17) #[] #[],.agg #[.int .i64 x.e.o,.string x.e.s,.int .i64 x.e.n,.slice P.ep P.em P.ec]] W (Gives (.int .i64 r3) W)))
 (C4:Hid (∀W,ai w.heap.size w W->ah ae 107 #[.bool a4,.func (.func 17) #[] #[],.agg #[.int .i64 x.g.o,.string x.g.s,.int .i64 x.g.n,.slice P.gp P.gm P.gc]] W (Gives (.int .i64 r4) W)))
 (C5:Hid (∀W,ai w.heap.size w W->ah ae 108 #[.bool a5,.func (.func 109) #[] #[],.slice P.ap P.am P.ac] W (Gives (.int .i64 r5) W)))
 (C6:Hid (∀W,ai w.heap.size w W->ah ae 110 #[.bool a6,.func (.func 111) #[] #[],.agg #[.int .i64 x.di.op,.int .i64 x.di.a,.int .i64 x.di.b,.int .i64 x.di.n,.slice P.vp P.vm P.vc,.slice P.wp P.wm P.wc]] W (Gives (.int .i64 r6) W))) :
 ah ae 63 #[.agg (cs x P)] w (Gives (.int .i64 (if K && !O then gP [r1,r2,r3,r4,r5,r6] else 1)) w):=by
 obtain⟨n21,nH⟩:∃n:Nat,21=n:=⟨_,rfl⟩
 have hsz:∀w,(sizeOf 62).run ae w=.ok n21 w:=fun w=>by rw[sizeOf62,nH]
 have kK:=Z nH;clear nH;have hcsz:(cs x P).size=n21:=kK.out
 cases K with
 | false=>
  rw[show(if (false && !O)=true then gP [r1,r2,r3,r4,r5,r6] else 1)=(1:Int) from rfl];go_enter func63,ntmps63;go_wp2_with fail;refine(CU.out _ bl).mono ?_;exact F9
 | true=>
  cases O with
  | true=>
   rw[show(if (true && !true)=true then gP [r1,r2,r3,r4,r5,r6] else 1)=(1:Int) from rfl];go_enter func63,ntmps63;go_wp2_with fail;refine(CU.out _ bl).mono ?_;rintro e w1 ⟨rfl,hb1⟩;have FX:=Wx x P #[.bool a1,.bool a2,.bool a3,.bool a4,.bool a5,.bool a6,.bool a7,.bool a8,.bool a9] hb1;have q:=FX.out _ (au _ _);have ld1:=q.1.cell.fZ kK.out;clear q;go_wp2_with fail;refine(CO.out _ bl).mono ?_;exact D8
  | false=>
   rw[show(if (true && !false)=true then gP [r1,r2,r3,r4,r5,r6] else 1)=gP [r1,r2,r3,r4,r5,r6] from rfl];go_enter func63,ntmps63;go_wp2_with fail;refine(CU.out _ bl).mono ?_;rintro e w1 ⟨rfl,hb1⟩;have FX:=Wx x P #[.bool a1,.bool a2,.bool a3,.bool a4,.bool a5,.bool a6,.bool a7,.bool a8,.bool a9] hb1;have q:=FX.out _ (au _ _);have ld1:=q.1.cell.fZ kK.out;clear q;go_wp2_with fail;refine(CO.out _ bl).mono ?_;rintro e w2 ⟨rfl,hb2⟩;clear ld1 hcsz;go_wp2_with fail;go_region_held3 (fun w'=>w'.cell? ⟨w.heap.size,1,X⟩=Y (.string x.nm)/\w'.cell? ⟨w.heap.size,2,X⟩=Y (.string x.f)/\w'.cell? ⟨w.heap.size,3,X⟩=Y (.int .i64 x.e.o)/\w'.cell? ⟨w.heap.size,4,X⟩=Y (.string x.e.s)/\w'.cell? ⟨w.heap.size,5,X⟩=Y (.int .i64 x.e.n)/\w'.cell? ⟨w.heap.size,6,X⟩=Y (.slice P.ep P.em P.ec)/\w'.cell? ⟨w.heap.size,7,X⟩=Y (.int .i64 x.g.o)/\w'.cell? ⟨w.heap.size,8,X⟩=Y (.string x.g.s)/\w'.cell? ⟨w.heap.size,9,X⟩=Y (.int .i64 x.g.n)/\w'.cell? ⟨w.heap.size,10,X⟩=Y (.slice P.gp P.gm P.gc)/\w'.cell? ⟨w.heap.size,11,X⟩=Y (.slice P.ap P.am P.ac)/\w'.cell? ⟨w.heap.size,12,X⟩=Y (.int .i64 x.di.op)/\w'.cell? ⟨w.heap.size,13,X⟩=Y (.int .i64 x.di.a)/\w'.cell? ⟨w.heap.size,14,X⟩=Y (.int .i64 x.di.b)/\w'.cell? ⟨w.heap.size,15,X⟩=Y (.int .i64 x.di.n)/\w'.cell? ⟨w.heap.size,16,X⟩=Y (.slice P.vp P.vm P.vc)/\w'.cell? ⟨w.heap.size,17,X⟩=Y (.slice P.wp P.wm P.wc)/\w'.cell? ⟨w1.heap.size,0,X⟩=Y (.bool a1)/\w'.cell? ⟨w1.heap.size,1,X⟩=Y (.bool a2)/\w'.cell? ⟨w1.heap.size,2,X⟩=Y (.bool a3)/\w'.cell? ⟨w1.heap.size,3,X⟩=Y (.bool a4)/\w'.cell? ⟨w1.heap.size,4,X⟩=Y (.bool a5)/\w'.cell? ⟨w1.heap.size,5,X⟩=Y (.bool a6)) (first|(refine ajB (FX.out _ ?_);exact bl;done)|(go_keep;done)) (first
    | (have t:=qP;go_at_call 52;refine(ow [r1,r2,r3,r4,r5,r6] _ 6 6 _ rfl bT (Z (afZ _ _ _ _ _ _ _ _))).mono ?_;rintro e w9 ⟨rfl,rfl⟩)
    | (have t:=Hg;go_at_call 110;refine(C6.out _ bl).mono ?_;rintro e w8 ⟨rfl,qP⟩)
    | (have t:=hb6;go_at_call 108;refine(C5.out _ bl).mono ?_;rintro e w7 ⟨rfl,Hg⟩)
    | (have t:=hb5;go_at_call 107;refine(C4.out _ bl).mono ?_;rintro e w6 ⟨rfl,hb6⟩)
    | (have t:=hb4;go_at_call 107;refine(C3.out _ bl).mono ?_;rintro e w5 ⟨rfl,hb5⟩)
    | (have t:=hb3;go_at_call 106;refine(C2.out _ bl).mono ?_;rintro e w4 ⟨rfl,hb4⟩)
    | (go_at_call 106;refine(C1.out _ bl).mono ?_;rintro e w3 ⟨rfl,hb3⟩))
   exact dX
theorem TF {o:Int} {a1 a2 a3 a4 a5 a6 a7 a8 a9 K:Bool} (h1:uN o=a1) (h2:uO o=a2) (h3:uE o=a3) (h4:uF o=a4) (h5:uA o=a5) (h6:uD o=a6) (h7:uG o=a7) (h8:uB o=a8) (h9:uL o=a9) (hk:kn o=K) (w:af) :
 ah ae 104 #[.int .i64 o] w (Gives (.tuple #[.agg #[.bool a1,.bool a2,.bool a3,.bool a4,.bool a5,.bool a6,.bool a7,.bool a8,.bool a9],.bool K]) w):=by
 subst h1 h2 h3 h4 h5 h6 h7 h8 h9 hk;exact TE o w
theorem agT {w:af} {x:St} {P:Pl} (hx:uo w x P):ah ae 111 #[.agg #[.int .i64 x.di.op,.int .i64 x.di.a,.int .i64 x.di.b,.int .i64 x.di.n,.slice P.vp P.vm P.vc,.slice P.wp P.wm P.wc]] w (Gives (.int .i64 (qm x.di)) w):=by
 have h:=Di.nZ x.di.op x.di.a x.di.b x.di.n P.vp x.di.vs.length P.vc P.wp x.di.ws.length P.wc _ _ w hx.vs hx.ws;rw[show qm x.di=Di.Cm x.di.op x.di.a x.di.b x.di.n x.di.vs.length x.di.ws.length (fun i=>x.di.vs.getD i 0) (fun i=>x.di.ws.getD i 0) from rfl];rw[hx.Ja,hx.Jd] at h ⊢;exact h
theorem akM (x:St) (P:Pl) (w:af) (hx:uo w x P) (hs:BS x):ah ae 63 #[.agg (cs x P)] w (Gives (.int .i64 (Dc x)) w):=by
 have e:Dc x=if kn x.o && !Mj x then gP [onE (uN x.o) (fB (bs x.nm)),onE (uO x.o) (fB (bs x.f)),onE (uE x.o) (fI false x.e),onE (uF x.o) (fI false x.g),onE (uA x.o) (BU x.ar),onE (uD x.o) (qm x.di)] else 1:=by
  rw[ak6,Bool.not_not];unfold Dc abd;simp only[gP,rU]
 rw[e];exact akN x P w (Z hx) _ _ _ _ _ _ _ _ _ _ _ _ _ _ _ _ _ (Z fun W hb=>TF rfl rfl rfl rfl rfl rfl rfl rfl rfl rfl W) (Z fun W hb=>ak7 x P W (hx.on hb))
  (Z fun W hb=>acd _ _ _ W (Z fun _ U hu=>Na.nZ x.nm U (by have:=hs.1;omega)))
  (Z fun W hb=>acd _ _ _ W (Z fun _ U hu=>Na.nZ x.f U (by have:=hs.2.1;omega)))
  (Z fun W hb=>acb _ _ _ _ _ _ W (Z fun _ U hu=>Ex.nZ x.e P.ep P.em P.ec U ((hx.e.on hb).on hu) hs.2.2.1.1 hs.2.2.1.2))
  (Z fun W hb=>acb _ _ _ _ _ _ W (Z fun _ U hu=>Ex.nZ x.g P.gp P.gm P.gc U ((hx.g.on hb).on hu) hs.2.2.2.1.1 hs.2.2.2.1.2))
  (Z fun W hb=>aou _ _ _ _ _ W (Z fun _ U hu=>aeB x.ar P.ap P.am P.ac U ((hx.on hb).on hu).ar hs.2.2.2.2))
  (Z fun W hb=>aov _ x P _ W (Z fun _ U hu=>agT ((hx.on hb).on hu)))
end Sm
namespace Sm
open Go.RowKit Go.Shelf
open Ex (Gives block_lt sI Kk QB oN EP)
attribute [local go_sem] Oper.semAt_some
attribute [local go_sem] cs0 cs1 cs2 uW uX uY uZ u_ ve vg uI uJ uK uM uP uQ uR uS uT uU uV
theorem PZ {sl:List St} {D:Nat} (h:gH sl=D) (p:Option Addr) (m c:Nat) (w:af) (hi:pY w sl p m) (hc:eF sl<=4000000):ah ae 61 #[.slice p m c] w (Gives (.int .i64 (D:Nat)) w):=by rw[← h];exact PY sl p m c w hi hc
theorem Iw {sl:List St} {b:Bool} (h:decide (200<eF sl)=b) (p:Option Addr) (m c:Nat) (w:af) (hi:pY w sl p m) (hs:kP sl):ah ae 60 #[.slice p m c,.int .i64 200] w (Gives (.bool b) w):=by rw[← h];exact RD sl p m c w hi hs
theorem akO {x:St} {v:Int} (h:Dc x=v) (P:Pl) (w:af) (hx:uo w x P) (hs:BS x):ah ae 63 #[.agg (cs x P)] w (Gives (.int .i64 v) w):=by rw[← h];exact akM x P w hx hs
def RS (w wr:af):Prop:=(wr.cell? ⟨w.heap.size,0,X⟩=Y (.int .i64 0)/\wr.frozen? ⟨w.heap.size,0,X⟩=false)/\Hid (ai w.heap.size w wr)/\w.heap.size+1<=wr.heap.size
theorem RS.on {w wr w2:af} (h:RS w wr) (hb:ai wr.heap.size wr w2):RS w w2:=by
 obtain⟨⟨h1,h2⟩,h3,h4⟩:=h;exact⟨⟨(hb.cell (p:=⟨w.heap.size,0,X⟩) (show w.heap.size<wr.heap.size by omega)).trans h1,(hb.frozen (p:=⟨w.heap.size,0,X⟩) (show w.heap.size<wr.heap.size by omega)).trans h2⟩,Z (h3.out.trans (hb.mono bT)),aj h4 hb.size⟩
theorem RS.new {w:af}:RS w (w.alloc (.cells #[.int .i64 0] 27)):=⟨sI w (.int .i64 0) 27,Z bl,by simp⟩
theorem nZ (sl:List St) (p:Option Addr) (m c:Nat) (w:af) (h:pY w sl p m) (hs:kP sl):ah ae 28 #[.slice p m c] w (Gives (.int .i64 (kF sl)) w):=by
 by_cases h6:200<eF sl
 · have HM:=Z (fun W hi=>Iw (decide_eq_true h6) p m c W hi hs);have HH:=Z h;rw[show kF sl=6 by unfold kF;rw[if_pos h6]];clear h hs h6;go_enter func28,ntmps28;go_wp2_with fail;refine(HM.out _ (HH.out.on bl)).mono ?_;rintro e w1 ⟨rfl,hb1⟩;have HST:=Z (RS.new.on hb1);have hr:=HST.out.1.1;have hf:=HST.out.1.2;clear hb1;go_wp2_with fail
   (try simp only[Exit.inBlock,Exit.then])
   have bY:=HST.out.2.1.out;have e1:(w1.setCell ⟨w.heap.size,0,X⟩ (.int .i64 6)).cell? ⟨w.heap.size,0,X⟩=Y (.int .i64 6):=World.cell?_setCell_same' _ _ _ (by rw[hr];rfl);exact bodyPost_ret (v:=.int .i64 6) (by simp[results,Tryz.f28,go_sem,e1]) rfl ⟨rfl,oN bY bT _⟩
 have HM:=Z (fun W hi=>Iw (decide_eq_false h6) p m c W hi hs);have HD:=Z (fun W hi=>PZ (sl:=sl) rfl p m c W hi bT);by_cases h12:12<gH sl
 · have HH:=Z h;rw[show kF sl=11 by unfold kF;rw[if_neg h6,if_pos h12]];obtain⟨D,hD⟩:∃D,gH sl=D:=⟨_,rfl⟩
   rw[hD] at HD h12;have d1:(12:Int)<(D:Int):=by omega
   have d2:decide ((12:Int)<(D:Int))=true:=decide_eq_true d1;clear h hs h6 hD h12;go_enter func28,ntmps28;go_wp2_with fail;refine(HM.out _ (HH.out.on bl)).mono ?_;rintro e w1 ⟨rfl,hb1⟩;have HST:=Z (RS.new.on hb1);clear hb1;go_wp2_with fail;refine(HD.out _ (HH.out.on HST.out.2.1.out)).mono ?_;rintro e w2 ⟨rfl,hb2⟩;have rA:=Z (HST.out.on hb2);have hr:=rA.out.1.1;have hf:=rA.out.1.2;clear hb2;go_wp2_with fail
   (try simp only[Exit.inBlock,Exit.then])
   have bY:=rA.out.2.1.out;have e1:(w2.setCell ⟨w.heap.size,0,X⟩ (.int .i64 11)).cell? ⟨w.heap.size,0,X⟩=Y (.int .i64 11):=World.cell?_setCell_same' _ _ _ (by rw[hr];rfl);exact bodyPost_ret (v:=.int .i64 11) (by simp[results,Tryz.f28,go_sem,e1]) rfl ⟨rfl,oN bY bT _⟩
 have HH:=Z h;have HS:=Z hs;rw[show kF sl=oL (eU sl) by unfold kF;rw[if_neg h6,if_neg h12]];obtain⟨D,hD⟩:∃D,gH sl=D:=⟨_,rfl⟩
 rw[hD] at HD h12;have d1:(D:Int)<=12:=by omega
 have d2:decide ((12:Int)<(D:Int))=false:=decide_eq_false bT;clear h hs h6 hD h12;obtain⟨n21,nH⟩:∃n:Nat,21=n:=⟨_,rfl⟩
 have hsz:∀w,(sizeOf 62).run ae w=.ok n21 w:=fun w=>by rw[sizeOf62,nH]
 have kK:=Z nH;clear nH;refine(callsIn_wide (n:=3)).1 ?_;refine callsIn_of_wp_marks func28 rfl trivial ?_ rfl;simp only[ntmps28,List.size_toArray,List.length_cons,List.length_nil,Nat.reduceAdd,Nat.reduceSub,Array.replicate_succ,Array.replicate_zero,List.push_toArray,List.append_toArray,List.nil_append,List.cons_append]
 gi_wp2_with fail
 refine⟨trivial,?_⟩;refine(callsIn_wide.2 (HM.out _ (HH.out.on bl))).mono ?_;rintro e w1 ⟨rfl,hb1⟩;have HST:=Z (RS.new.on hb1);clear hb1
 gi_wp2_with fail
 refine⟨trivial,?_⟩;refine(callsIn_wide.2 (HD.out _ (HH.out.on HST.out.2.1.out))).mono ?_;rintro e w2 ⟨rfl,hb2⟩;have rA:=Z (HST.out.on hb2);clear hb2
 gi_wp2_with fail
 refine⟨trivial,?_⟩;refine(abZ Fence.wide _ trivial rfl _ _ _ _).mono ?_;rintro e w3 ⟨rfl,hw3⟩;have hb3:ai w2.heap.size w2 w3:=by rw[hw3];exact bl
 have hx3:=sI w2 (.slice p m c) 43;rw[← hw3] at hx3;have hz3:w3.heap.size=w2.heap.size+1:=by rw[hw3];simp
 have Ap:=rA.out.on hb3;clear hw3
 gi_wp2
 have hs2:=rA.out.2.2;have bY:=Ap.2.1;refine wpIn_rangeFunc_ownH rfl bT (gf:=102) (lb:=#[.pointer (Y ⟨w2.heap.size,0,X⟩)]) rfl trivial (enters_of func102 dx rfl)
  (ab1 Fence.wide rfl trivial trivial rfl _ w2.heap.size w.heap.size w3.heap.size w (ag _) sl p m c w3 hx3.1 HH.out HS.out bY.out (ag _)) (fun h k=>h.trans k) (Kp.put bT) (au _ _) (fun _=>rfl)
  (fun ps W=>(W.cell? ⟨w.heap.size,0,X⟩=Y (.int .i64 0)/\W.frozen? ⟨w.heap.size,0,X⟩=false/\oL (ps.map Nd.x)=0/\w3.heap.size<=W.heap.size)/\ai w.heap.size w W)
  (fun c' ps W=>(c'=.ret/\∃v:Int,¬v=0/\oL (ps.map Nd.x)=v/\W.cell? ⟨w.heap.size,0,X⟩=Y (.int .i64 v))/\ai w.heap.size w W)
  (OwnFrom.and (Own.from (fun s A B row hs hg hr=>⟨cell_kept hs.1 hg hr,(frozen_kept hs.1 hg hr).trans hs.2.1,hs.2.2.1,aj hs.2.2.2 hg.size⟩) _) (ownFrom_below (ag _) bT))
  (fun c'=>OwnFrom.and (Own.from (fun s A B row hs hg hr=>⟨hs.1,let ⟨v,h1,h2,h3⟩:=hs.2;⟨v,h1,h2,cell_kept h3 hg hr⟩⟩) _) (ownFrom_below (ag _) bT))
  ⟨⟨Ap.1.1,Ap.1.2,rfl,ag _⟩,bY.out⟩
  (fun x a' W=>∃Bx,w3.heap.size<=Bx/\dB W Bx x.x x.P/\a'={ tmps:=#[.slice p m c,undef,.pointer (Y ⟨w.heap.size,0,X⟩),.pointer (Y ⟨Bx,0,X⟩),undef,.slice p m c,.bool false,.slice p m c,.int .i64 (D:Nat),.bool false,.slice p m c,.func (.func 102) #[] #[.pointer (Y ⟨w2.heap.size,0,X⟩)],.agg (cs x.x x.P),undef,undef,undef,undef,undef],defers:=[] })
  (fun x a' _ A B row hs hg hr=>let ⟨Bx,h1,h2,h3⟩:=hs;⟨Bx,h1,dB.own (β:=Unit) _ _ _ () A B row h2 hg (fun r e=>(hr r e).2),h3⟩) ?assign ?body ?done ?stop
 case assign=>
  intro l ps x W K hi hK;simp only[sQ];have hcsz:(cs x.x x.P).size=n21:=kK.out;have st1:=IZ x.x x.P;have st2:=I5 x.x x.P;have qB:=I4 x.x x.P
  gi_wp2
  have hbW:ai W.heap.size W (W.alloc (.cells (cs x.x x.P) 62)):=bl;have hle:=hi.2.size;refine hK _ _ (EP hbW) (Kp.of_below hbW hle) ?_ ⟨W.heap.size,?_,zm,?_⟩
  · exact⟨⟨Kk _ hi.1.1,QB _ hi.1.1 hi.1.2.1,hi.1.2.2.1,aj hi.1.2.2.2 hbW.size⟩,hi.2.trans (hbW.mono hle)⟩
  · exact hi.1.2.2.2
  · simp[go_sem]
 case body=>
  rintro l ps x a' W hl ⟨r,hr⟩ ⟨⟨h2,h3,h4,h5⟩,hB⟩ ⟨Bx,hBx,hbx,rfl⟩ hlt;obtain⟨v,hv⟩:∃v,Dc x.x=v:=⟨_,rfl⟩
  have HN:=Z (akO hv x.P W (x.hi.below hB).all x.hs);have JK:=Z (show oL ((ps++[x]).map Nd.x)=v by rw[List.map_append];exact(aeP h4).trans hv);have H5:=Z h5;have lL:=Z hB;have ld1:=hbx.cell.fZ kK.out;clear hv h4 h5 hB hlt hr hbx
  gi_wp2_with fail
  refine⟨trivial,?_⟩;refine(CallsIn.inRound l (callsIn_wide.2 HN.out)).mono ?_;rintro e w4 ⟨rfl,hb4⟩;have g2:=(hb4.cell (p:=⟨w.heap.size,0,X⟩) (block_lt h2)).trans h2;have g3:=(hb4.frozen (p:=⟨w.heap.size,0,X⟩) (block_lt h2)).trans h3;have ig:=Z hb4;clear hb4 h2 h3 ld1;by_cases hv0:v=0
  · subst hv0
    gi_wp2
    exact⟨EP ig.out,Kp.of_below ig.out lL.out.size,⟨g2,g3,JK.out,aj H5.out ig.out.size⟩,lL.out.trans (ig.out.mono lL.out.size)⟩
  · have t0:(v==0)=false:=beq_eq_false_iff_ne.2 hv0;have t1:(v != 0)=true:=bne_iff_ne.2 hv0;exact zzl
 case done=>
  rintro D' ys W hD hys ⟨⟨h2,h3,h4,h5⟩,hB⟩ hK;have HV:=Z (show oL (eU sl)=0 by rw[← hys];exact h4)
  gi_wp2
  have hK':=(KeepsOthers.setCell W ⟨w.heap.size,0,X⟩ (.int .i64 0)).same D' _ hK rfl;refine⟨by simp,.inl ⟨_,_,rfl,run_takeDeferred hK',?_⟩⟩;have qQ:=cell_kept (World.cell?_setCell_same' W ⟨w.heap.size,0,X⟩ (.int .i64 0) (by rw[h2];rfl)) (grownBy_putObj' _ D' (.deferred X)) (fun r e=>by cases e;exact⟨_,hK',rfl⟩);refine⟨.int .i64 0,?_,by rw[HV.out],(oN hB bT _).trans (belowK_b (w:=w) (ag _) _ D' _ _ bT hK' rfl rfl)⟩;simp[results,Tryz.f28,go_sem,qQ]
 case stop=>
  rintro D' c' ps W hD hps ⟨⟨rfl,v,hv0,hbv,hr⟩,hB⟩ hK;have HV:=Z (show oL (eU sl)=v by
   obtain⟨r,hr⟩:=hps;rw[← hr,O3,hbv,rT hv0])
  gi_wp2
  refine⟨by simp,.inl ⟨_,_,rfl,run_takeDeferred hK,?_⟩⟩;have qQ:=cell_kept hr (grownBy_putObj' _ D' (.deferred X)) (fun r e=>by cases e;exact⟨_,hK,rfl⟩);refine⟨.int .i64 v,?_,by rw[HV.out],hB.trans (belowK_b (w:=w) (ag _) W D' _ _ bT hK rfl rfl)⟩;simp[results,Tryz.f28,go_sem,qQ]
end Sm
namespace Md
open Go.RowKit Go.Maps
open Ex (Lo)
theorem aiS (n:Nat) (w:af) (hn:n<=1000000):ah ae 204 #[.slice X 0 0,.int .i64 n] w fun e w'=>∃v,e=.returned v/\kZ 247 2 dE w.heap.size w' v []/\ai w.heap.size w w':=by
 rcases Nat.eq_zero_or_pos n with h0|h0
 · subst h0;go_enter func204,ntmps204;go_wp2_with fail;go_ret;exact⟨_,rfl,kZ.nil,au _ _⟩
 · obtain⟨i0,z0,hi0,hz0,hz1,hz3,hz2⟩:=Cy.info;have hrun:=fun ty=>Lib.run_append_nil_zeros (P:=ae) w 213 3 ty 247 i0 z0 .i64 .i64 underlying213 underlying3 hi0 hz0 n h0 bT bT (by
    have:=Nat.mul_le_mul (show n<=1000000 from hn) hz2;omega)
   have hG:=grownCap_ge w n 0 247;have hG2:=grownCap_le_maxLen w n 0 247 Ga
   generalize grownCap w n 0 247=G at hrun hG hG2;have hm:=World.ownsRow_made (base:=w.heap.size) (e:=247) (size:=2) w.drew (Builtin.zeroCells z0.cells n++Builtin.zeroCells z0.cells (G-n)) G (ag _) hG2 (by
    rw[Array.size_append,size_zeroCells,size_zeroCells,hz3];omega)
   unfold maxLen at hG2;have HM:Hid (kZ 247 2 dE w.heap.size (w.drew.alloc (.cells (Builtin.zeroCells z0.cells n++Builtin.zeroCells z0.cells (G-n)) 247)) (.slice (Y ⟨w.heap.size,0,X⟩) 0 G) []):=Z ⟨[],rfl,fun i h=>absurd h (Nat.not_lt_zero _),hm⟩;clear hm
   generalize Builtin.zeroCells z0.cells n++Builtin.zeroCells z0.cells (G-n)=cs at hrun HM;go_enter func204,ntmps204;go_wp2_with (at_builtin;refine Lib.wpList_append_run _ rfl _ _ _ _ rfl _ _ rfl rfl _ _ (hrun _) ?_)
   all_goals
    go_ret;exact⟨_,rfl,HM.out,bl⟩
def yo (ls:Nat->List eO):Nat->List eO
 | 0=>[]
 | j+1=>yo ls j++ls j
theorem afO {ls:Nat->List eO} {j k:Nat} (h:j<=k):(yo ls j).length<=(yo ls k).length:=by
 induction k with
 | zero => obtain rfl : j = 0 := by omega
           exact ag _
 | succ m ih=>
  by_cases e:j=m+1
  · subst e;exact ag _
  · refine aj (ih bT) ?_;rw[yo,ak];omega
def Oc (w:af) (ls:Nat->List eO) (j:Nat) (v:Value) (wr:af):Prop:=kZ 247 2 dE w.heap.size wr v (yo ls j)/\ai w.heap.size w wr
theorem agO (b o k c:Nat) (pp:Nat->Option Addr) (pn pc:Nat->Nat) (ls:Nat->List eO) (w:af) (hk:k<=9223372036854775807) (hb:b<w.heap.size)
 (hc:Hid (∀j,j<k->w.cell? ⟨b,o+j,X⟩=Y (.slice (pp j) (pn j) (pc j)))) (hE:Hid (∀j,j<k->Rw 2 dE (Lo w.heap.size) w (ls j) (pp j) (pn j))) (hN:(yo ls k).length<=1000000) :
 ah ae 177 #[.slice (Y ⟨b,o,X⟩) k c] w fun e w'=>∃v,e=.returned v/\Oc w ls k v w':=by
 have HM:=Z fun(j:Nat) (h:j<=k)=>afO (ls:=ls) h;have HS:=Z fun(j:Nat) (h:j<k)=>(hE.out j h).1;go_enter func177,ntmps177;go_wp2_with fail;go_loop [3,11] (fun s i=>∃j m:Nat,j<=k/\i=.int .i64 j/\s=.int .i64 m/\Hid (m=(yo ls j).length)) (fun _ i=>k-(intOf i).toNat)
 case atStart=>exact⟨0,0,Nat.zero_le _,rfl,rfl,Z rfl⟩
 case round=>
  obtain⟨j,m,hj,rfl,rfl,HT⟩:=hrel;have c1:(0:Int)<=(j:Int):=by omega
  have m1:(0:Int)<=(m:Int):=by omega
  rcases Nat.lt_or_ge j k with h|h
  · have c2:(j:Int)<(k:Int):=by omega
    have e1:=hc.out j h;have m2:(m:Int)+(pn j:Int)<=1000000:=by have h1:=HT.out;have h2:=HM.out (j+1) h;have h3:=HS.out j h;rw[yo,ak] at h2;omega
    have m3:(0:Int)<=(pn j:Int):=by omega
    have m4:¬(m:Int)+(pn j:Int)<0:=by omega
    go_wp2_with fail;go_round
    case rel=>exact⟨j+1,m+pn j,by omega,by go_num,by go_num,Z (by rw[HT.out,yo,ak,HS.out j h])⟩
    case measure=>simp[intOf];omega
  · obtain rfl:k=j:=by omega
    have hm:m<=1000000:=by have:=HT.out;omega
    have c2:(k:Int)<=(k:Int):=by omega
    go_wp2_with fail;refine(aiS m _ hm).mono ?_;rintro e w1 ⟨v1,rfl,ho1,hb1⟩;have HO:=Z ho1;clear ho1;go_wp2_with fail;go_loopw [6,27] (fun v i wr=>∃j:Nat,j<=k/\i=.int .i64 j/\Oc w ls j v wr) (fun _ i _=>k-(intOf i).toNat)
    case atStart=>exact⟨0,Nat.zero_le _,rfl,HO.out,hb1⟩
    case round=>
     obtain⟨j,hj,rfl,HR⟩:=hrel;have c1:(0:Int)<=(j:Int):=by omega
     rcases Nat.lt_or_ge j k with h|h
     · have c2:(j:Int)<(k:Int):=by omega
       obtain⟨ho,hbr⟩:=HR;have e1:=(hbr.cell (p:=⟨b,o+j,X⟩) hb).trans (hc.out j h);obtain⟨v2,w2,hrun,ho2,hg2⟩:=kZ.app Cy dE.map zX ho ((hE.out j h).below dE.map hbr) (pc j) hbr.size (by have h2:=HM.out (j+1) h;have h3:=HS.out j h;rw[yo,ak] at h2;omega);have Ot:Hid (Oc w ls (j+1) v2 w2):=Z ⟨ho2,ho.below hg2 hbr (ag _) hbr.size⟩;clear ho ho2 hg2;go_wp2_with (at_builtin;refine Lib.wpList_append_run _ rfl _ _ _ _ rfl _ _ rfl rfl _ _ hrun ?_)
       go_roundw
       case rel=>exact⟨j+1,by omega,by go_num,Ot.out⟩
       case measure=>simp[intOf];omega
     · obtain rfl:k=j:=by omega
       have H3:=Z HR;clear HR;go_wp2_with fail;go_ret;exact⟨_,rfl,H3.out⟩
theorem agN (b:Nat) (p1 p2:Option Addr) (m1 c1 m2 c2:Nat) (l1 l2:List eO) (w:af) (hb:b<w.heap.size) (h0:w.cell? ⟨b,0,X⟩=Y (.slice p1 m1 c1)) (h1:w.cell? ⟨b,1,X⟩=Y (.slice p2 m2 c2))
 (hl1:Rw 2 dE (Lo w.heap.size) w l1 p1 m1) (hl2:Rw 2 dE (Lo w.heap.size) w l2 p2 m2) (hN:m1+m2<=1000000) :
 ah ae 177 #[.slice (Y ⟨b,0,X⟩) 2 2] w fun e w'=>∃v,e=.returned v/\kZ 247 2 dE w.heap.size w' v (l1++l2)/\ai w.heap.size w w':=by
 have e1:=hl1.1;have e2:=hl2.1;refine agO b 0 2 2 (fun j=>if j=0 then p1 else p2) (fun j=>if j=0 then m1 else m2) (fun j=>if j=0 then c1 else c2) (fun j=>if j=0 then l1 else l2) w bT hb (Z fun j hj=>?_) (Z fun j hj=>?_) ?_
 · have h:j=0∨j=1:=by omega
   rcases h with rfl|rfl
   · exact h0
   · exact h1
 · have h:j=0∨j=1:=by omega
   rcases h with rfl|rfl
   · exact hl1
   · exact hl2
 · show(([]++l1)++l2).length<=_
   rw[List.nil_append,ak];omega
end Md
namespace Md
open Go.RowKit Go.Maps
open Sm (dN rU)
open Ex (Lo)
structure fK (w0:af) (b:Nat) (K:af->Prop) (acc:List ByteArray) (W:af):Prop where
 below:ai w0.heap.size w0 W
 tN:il b acc W
 k:K W
def qI (b:Nat) (K:af->Prop):Prop:=∀W W2,K W->But b W W2->K W2
theorem qI.top (b:Nat):qI b (fun _=>True):=fun _ _ _ _=>trivial
theorem fK.fine {w0:af} {b:Nat} {K:af->Prop} (hb:w0.heap.size<=b) (hK:qI b K):pX w0 (fK w0 b K) where
 below _ _ h:=h.below
 on s W W2 h hW:=⟨h.below.trans (hW.mono h.below.size),h.tN.on hW,hK W W2 h.k (But.of hW)⟩
theorem fK.step {w0:af} {b:Nat} {K:af->Prop} (hb:w0.heap.size<=b) (hK:qI b K) {acc:List ByteArray} {W:af} (h:fK w0 b K acc W) {r:Int×List ByteArray} {e:Ending} {W2:af} (hs:Step b r W e W2):Does (fK w0 b K) r e W2:=
 ⟨hs.1,⟨But.below h.below hs.2.2 hb h.below.size,hs.2.1,hK W W2 h.k hs.2.2⟩⟩
theorem aeu (acc:List ByteArray) (x:ByteArray):(iY acc x).length<=acc.length+1:=by
 unfold iY;split <;> simp
theorem QJ {α:Type} {g:α->ByteArray×Int}:∀{l:List α} {s:List ByteArray},(dJ (fun a x=>eB a (g x)) l s).2.length<=s.length+l.length
 | [],s=>by simp[dJ]
 | x::t,s=>by
  have h1:=aeu s (g x).1;rw[dJ,S9]
  split
  · have h2:=QJ (g:=g) (l:=t) (s:=iY s (g x).1);rw[List.length_cons]
    show(dJ (fun a x=>eB a (g x)) t (iY s (g x).1)).2.length<=_
    omega
  · rw[List.length_cons]
    show(iY s (g x).1).length<=_
    omega
theorem yw {α:Type} {g:α->ByteArray×Int} {most:Nat} {l:List α} {s:List ByteArray}:(df (fun a x=>eB a (g x)) most l s).2.length<=s.length+most:=by
 unfold df
 split
 · show s.length<=_;omega
 · have:=QJ (g:=g) (l:=l) (s:=s);omega
theorem zC {α:Type} {g:α->ByteArray×Int} {l:List α} {k most:Nat} {s s0:List ByteArray} (hm:l.length<=most) (h:dJ (fun a x=>eB a (g x)) (l.take k) s0=(0,s)):s.length<=s0.length+most:=by
 have h1:=QJ (g:=g) (l:=l.take k) (s:=s0);rw[h,List.length_take] at h1;have:(s:List ByteArray).length<=s0.length+min k l.length:=h1;omega
theorem OP (a c:Value):((#[a]:Array Value).push c++#[])=#[a,c]:=rfl
theorem Ei (c a:Value):((#[]:Array Value).push c++#[a])=#[c,a]:=rfl
theorem OM (c a b:Value):((#[]:Array Value).push c++#[a,b])=#[c,a,b]:=rfl
theorem Xr {w0:af} {b:Nat} {K:af->Prop} (hb:w0.heap.size<=b) (hK:qI b K) {l:List Val} {p:Option Addr} {m c:Nat} (hl:Rw 3 ik (Lo w0.heap.size) w0 l p m) (hz:∀x∈l,x.nm.size<=9223372036854775807) (most:Nat) (rM:most<=1000) (s0:List ByteArray) (h0:s0.length<=50000) (W:af) (hW:fK w0 b K s0 W) :
 ah ae 54 #[.slice p m c,.int .i64 (most:Int),.func (.func 55) #[.map (Y b)] #[]] W (Does (fK w0 b K) (df eB most (l.map DR) s0)):=by
 rw[n_];refine ahz (Z hl) #[.map (Y b)] #[] (fK w0 b K) (Z (fK.fine hb hK)) (fun a x=>eB a (DR x)) most bT s0 (Z fun k s x c W hx hm hg hR hI=>?_) W (Z hW);rw[OP,show c=mQ x from hR];have:=zC hm hg;exact(agf x b s W hI.tN bT (hz x (List.mem_of_getElem? hx))).mono fun e W2 h=>hI.step hb hK h
theorem ahB {w0:af} {b:Nat} {K:af->Prop} (hb:w0.heap.size<=b) (hK:qI b K) {l:List eO} {p:Option Addr} {m c:Nat} (hl:Rw 2 dE (Lo w0.heap.size) w0 l p m) (hz:∀x∈l,x.nm.size<=9223372036854775807) (most:Nat) (rM:most<=1000) (s0:List ByteArray) (h0:s0.length<=50000) (W:af) (hW:fK w0 b K s0 W) :
 ah ae 178 #[.slice p m c,.int .i64 (most:Int),.func (.func 179) #[.map (Y b)] #[]] W (Does (fK w0 b K) (df (fun a f=>eB a (G8 f)) most l s0)):=by
 refine ahp (Z hl) #[.map (Y b)] #[] (fK w0 b K) (Z (fK.fine hb hK)) (fun a x=>eB a (G8 x)) most bT s0 (Z fun k s x c W hx hm hg hR hI=>?_) W (Z hW);rw[OP,show c=gW x from hR];have:=zC hm hg;exact(af4 x b s W hI.tN bT (hz x (List.mem_of_getElem? hx))).mono fun e W2 h=>hI.step hb hK h
theorem GV {w0:af} {b:Nat} {K:af->Prop} (hb:w0.heap.size<=b) (hK:qI b K) {l:List ByteArray} {p:Option Addr} {m c:Nat} (hl:Rw 1 dU (Lo w0.heap.size) w0 l p m) (hz:∀x∈l,x.size<=9223372036854775807) (most:Nat) (rM:most<=1000) (s0:List ByteArray) (h0:s0.length<=50000) (W:af) (hW:fK w0 b K s0 W) :
 ah ae 140 #[.slice p m c,.int .i64 (most:Int),.func (.func 89) #[.map (Y b)] #[]] W (Does (fK w0 b K) (df eB most (l.map pI) s0)):=by
 rw[n_];refine ahy (Z hl) #[.map (Y b)] #[] (fK w0 b K) (Z (fK.fine hb hK)) (fun a x=>eB a (pI x)) most bT s0 (Z fun k s x W hx hm hg hI=>?_) W (Z hW);rw[OP];have:=zC hm hg;refine(WL b s x W hI.tN bT (hz x (List.mem_of_getElem? hx))).mono fun e W2 h=>hI.step hb hK ?_;obtain⟨h1,h2,h3⟩:=h;refine⟨?_,h2,h3⟩;rw[h1]
 show _=Ending.returned (.int .i64 (dN (jh s x) 0))
 rw[rU]
end Md
namespace Md
open Go.RowKit Go.Maps
open Sm (kP kF dN ow)
open Ex (Lo Gives)
attribute [local go_sem] Kc VP afz VQ
structure JP (x:fo):Prop where
 nm:x.nm.size<=9223372036854775807
 fl:∀f∈x.ps++x.ls,f.nm.size<=9223372036854775807
 ln:(x.ps++x.ls).length<=1000000
 bo:kP x.bo
theorem am1 {w0:af}:fK w0 w0.heap.size (fun _=>True) [] (w0.alloc (.map #[] 0)):=⟨bl,World.ownsMap_made _ _ _ _,trivial⟩
theorem af9 (x:fo) (P:p_) (w:af) (hx:oH (Lo w.heap.size) w x P) (hz:JP x):ah ae 143 #[.agg (jQ x P)] w (Gives (.int .i64 (Dr x)) w):=by
 have HX:=Z hx;have HZ:=Z hz;have FX:=far (w:=w) 215 (jQ x P);obtain⟨hlp,hmp⟩:=hx.ps.len;obtain⟨hll,Hr⟩:=hx.ls.len;by_cases h6:6<P.nL
 · rw[show Dr x=6 by unfold Dr;rw[if_pos bT]];have d1:decide ((6:Int)<(P.nL:Int))=true:=decide_eq_true bT;have d2:(6:Int)<(P.nL:Int):=by omega
   clear hx hz hlp hmp hll Hr h6;go_enter func143,ntmps143;exact dX
 obtain⟨v1,hv1⟩:∃v,(df (fun a f=>eB a (G8 f)) 16 (x.ps++x.ls) []).1=v:=⟨_,rfl⟩
 obtain⟨v2,hv2⟩:∃v,kF x.bo=v:=⟨_,rfl⟩
 rw[show Dr x=dN v1 v2 by unfold Dr;rw[if_neg bT,hv1,hv2]];have d1:decide ((6:Int)<(P.nL:Int))=false:=decide_eq_false bT;have d2:(P.nL:Int)<=6:=by omega
 have hN:P.nL+P.Ir<=1000000:=by have:=hz.ln;rw[ak] at this;omega
 have CC:=Z (fun W (b:Nat) (hW:ai w.heap.size w W) (hb:b<W.heap.size) h0 h1=>agN b P.Fj P.LY P.nL P.Mo P.Ir P.Rv x.ps x.ls W hb h0 h1 (HX.out.ps.on dE.map hW) (HX.out.ls.on dE.map hW) hN);have CB:=Z (fun W (hW:ai w.heap.size w W)=>(show ah ae 28 #[.slice P.Ca P.B_ P.Es] W (Gives (.int .i64 v2) W) by rw[← hv2];exact Sm.nZ x.bo P.Ca P.B_ P.Es W ((HX.out.bo.map hW.size fun b g _=>⟨Nat.lt_of_lt_of_le g hW.size,hW.block b g⟩)) HZ.out.bo));have CE:=Z (fun(w0 W:af) (p:Option Addr) (m c:Nat) (hl:Rw 2 dE (Lo w0.heap.size) w0 (x.ps++x.ls) p m) (hW:fK w0 w0.heap.size (fun _=>True) [] W)=>(show ah ae 178 #[.slice p m c,.int .i64 16,.func (.func 179) #[.map (Y w0.heap.size)] #[]] W (fun e W2=>e=.returned (.int .i64 v1)/\ai w0.heap.size w0 W2) from(ahB (ag _) (qI.top _) hl HZ.out.fl 16 bT [] cK W hW).mono fun e W2 h=>⟨by rw[h.1,hv1],h.2.below⟩));have FK:Hid (∀W,ai (w.alloc (.cells (jQ x P) 215)).heap.size (w.alloc (.cells (jQ x P) 215)) W->W.cell? ⟨w.heap.size,3,X⟩=Y (.slice P.Ca P.B_ P.Es)):=Z fun W hb=>(FX.out W hb).get (VQ x P);have HLn:=Z hz.ln;have hmm:=@run_makeMap ae;clear hx hz hlp hmp hll Hr h6 hv1 hv2 hN;go_enter func143,ntmps143;go_wp2_with fail;refine(CC.out _ (w.heap.size+1) bl cK (by go_simp) (by go_simp)).mono ?_;rintro e w2 ⟨v,rfl,hown,hb2⟩;obtain⟨fp,fc,rfl,hfl⟩:=hown.rw dE.map zX HLn.out;have HF:=Z hfl;have hq:=FK.out w2 bl;obtain⟨fm,hfm⟩:∃n,(x.ps++x.ls).length=n:=⟨_,rfl⟩
 rw[hfm] at HF ⊢;clear hown hfl hfm;go_wp2_with fail;go_region_held3 (fun W=>W.cell? ⟨w.heap.size,3,X⟩=Y (.slice P.Ca P.B_ P.Es)) (first|(refine FK.out _ ?_;exact bl;done)|(go_keep;done)) (first
  | (have t:=hb4;go_at_call 52;refine(ow [v1,v2] _ 2 2 _ rfl bT (Z (zo _ _ _ _))).mono ?_;rintro e w9 ⟨rfl,rfl⟩)
  | (have t:=hb3;go_at_call 28;refine(CB.out _ bl).mono ?_;rintro e w4 ⟨rfl,hb4⟩)
  | (go_at_call 178;refine(CE.out w2.drew _ _ _ _ HF.out am1).mono ?_;rintro e w3 ⟨rfl,hb3⟩))
 all_goals
  have HB3:=Z hb4;go_wp2_with fail;go_ret;exact⟨by rw[← zQ];rfl,bl⟩
end Md
namespace Md
open Go.ChangeShapes Go.WideShapes Go.ChangeAt Go.RowKit Go.Joins Go.Deep
open Sm (eU Br Fits)
section
variable {H:Type} {enc:TypeId×Value->H}
structure Oe (B:Nat) (x:dQ):Prop where
 t:True
theorem Oe.mono {B C:Nat} {x:dQ} (h_:B<=C) (h:Oe B x):Oe C x where
 t:=trivial
structure Gh (B:Nat) (x:Val):Prop where
 nm:x.nm.size<=B
theorem Gh.mono {B C:Nat} {x:Val} (h_:B<=C) (h:Gh B x):Gh C x where
 nm:=by have:=h.nm;omega
structure JE (B:Nat) (x:jP):Prop where
 nm:x.nm.size<=B
theorem JE.mono {B C:Nat} {x:jP} (h_:B<=C) (h:JE B x):JE C x where
 nm:=by have:=h.nm;omega
structure Jw (B:Nat) (x:jO):Prop where
 nm:x.nm.size<=B
theorem Jw.mono {B C:Nat} {x:jO} (h_:B<=C) (h:Jw B x):Jw C x where
 nm:=by have:=h.nm;omega
structure Gg (B:Nat) (x:eO):Prop where
 nm:x.nm.size<=B
theorem Gg.mono {B C:Nat} {x:eO} (h_:B<=C) (h:Gg B x):Gg C x where
 nm:=by have:=h.nm;omega
structure Oh (B:Nat) (x:jg):Prop where
 wh:x.wh.size<=B
 nm:x.nm.size<=B
theorem Oh.mono {B C:Nat} {x:jg} (h_:B<=C) (h:Oh B x):Oh C x where
 wh:=by have:=h.wh;omega
 nm:=by have:=h.nm;omega
structure Jy (B:Nat) (x:iH):Prop where
 fr:x.fr.size<=B
 tt:x.tt.size<=B
theorem Jy.mono {B C:Nat} {x:iH} (h_:B<=C) (h:Jy B x):Jy C x where
 fr:=by have:=h.fr;omega
 tt:=by have:=h.tt;omega
structure JA (B:Nat) (x:dm):Prop where
 nm:x.nm.size<=B
theorem JA.mono {B C:Nat} {x:dm} (h_:B<=C) (h:JA B x):JA C x where
 nm:=by have:=h.nm;omega
structure JB (B:Nat) (x:fo):Prop where
 nm:x.nm.size<=B
 ps:∀y∈x.ps,Gg B y
 ls:∀y∈x.ls,Gg B y
 pl:2*(x.ps.length+x.ls.length)<=B
 bs:Br x.bo<=B
 bo:∀y∈eU x.bo,Fits B y
theorem JB.mono {B C:Nat} {x:fo} (h_:B<=C) (h:JB B x):JB C x where
 nm:=by have:=h.nm;omega
 ps:=fun y hy=>(h.ps y hy).mono h_
 ls:=fun y hy=>(h.ls y hy).mono h_
 pl:=by have:=h.pl;omega
 bs:=by have:=h.bs;omega
 bo:=fun y hy=>(h.bo y hy).mono h_
structure JC (B:Nat) (x:iP):Prop where
 t:True
theorem JC.mono {B C:Nat} {x:iP} (h_:B<=C) (h:JC B x):JC C x where
 t:=trivial
structure Jz (B:Nat) (x:Lw):Prop where
 nm:x.nm.size<=B
theorem Jz.mono {B C:Nat} {x:Lw} (h_:B<=C) (h:Jz B x):Jz C x where
 nm:=by have:=h.nm;omega
structure JD (B:Nat) (x:cz):Prop where
 nm:x.nm.size<=B
 va:∀y∈x.va,Gh B y
 vaL:2*x.va.length<=B
 rs:∀y∈x.rs,JA B y
 rsL:2*x.rs.length<=B
 st:∀y∈x.st,JE B y
 yS:2*x.st.length<=B
 be:∀y∈x.be,Jw B y
 Vw:2*x.be.length<=B
 qu:∀y∈x.qu,y.size<=B
 quL:x.qu.length<=B
 sm:∀y∈x.sm,y.size<=B
 smL:x.sm.length<=B
 ta:∀y∈x.ta,y.size<=B
 taL:x.ta.length<=B
 le:∀y∈x.le,y.size<=B
 leL:x.le.length<=B
 co:∀y∈x.co,y.size<=B
 WE:x.co.length<=B
 ro:∀y∈x.ro,JB B y
 roL:2*x.ro.length<=B
 ss:∀y∈x.ss,JC B y
 ssL:2*x.ss.length<=B
 la:∀y∈x.la,Jz B y
 laL:2*x.la.length<=B
theorem JD.mono {B C:Nat} {x:cz} (h_:B<=C) (h:JD B x):JD C x where
 nm:=by have:=h.nm;omega
 va:=fun y hy=>(h.va y hy).mono h_
 vaL:=by have:=h.vaL;omega
 rs:=fun y hy=>(h.rs y hy).mono h_
 rsL:=by have:=h.rsL;omega
 st:=fun y hy=>(h.st y hy).mono h_
 yS:=by have:=h.yS;omega
 be:=fun y hy=>(h.be y hy).mono h_
 Vw:=by have:=h.Vw;omega
 qu:=fun y hy=>aj (h.qu y hy) h_
 quL:=by have:=h.quL;omega
 sm:=fun y hy=>aj (h.sm y hy) h_
 smL:=by have:=h.smL;omega
 ta:=fun y hy=>aj (h.ta y hy) h_
 taL:=by have:=h.taL;omega
 le:=fun y hy=>aj (h.le y hy) h_
 leL:=by have:=h.leL;omega
 co:=fun y hy=>aj (h.co y hy) h_
 WE:=by have:=h.WE;omega
 ro:=fun y hy=>(h.ro y hy).mono h_
 roL:=by have:=h.roL;omega
 ss:=fun y hy=>(h.ss y hy).mono h_
 ssL:=by have:=h.ssL;omega
 la:=fun y hy=>(h.la y hy).mono h_
 laL:=by have:=h.laL;omega
structure Og (B:Nat) (x:dL):Prop where
 nm:x.nm.size<=B
 pa:∀y∈x.pa,Gh B y
 paL:x.pa.length<=B
 si:∀y∈x.si,JD B y
 yQ:x.si.length<=B
 li:∀y∈x.li,Jy B y
 liL:x.li.length<=B
theorem Og.mono {B C:Nat} {x:dL} (h_:B<=C) (h:Og B x):Og C x where
 nm:=by have:=h.nm;omega
 pa:=fun y hy=>(h.pa y hy).mono h_
 paL:=by have:=h.paL;omega
 si:=fun y hy=>(h.si y hy).mono h_
 yQ:=by have:=h.yQ;omega
 li:=fun y hy=>(h.li y hy).mono h_
 liL:=by have:=h.liL;omega
end
end Md
namespace Md
open Go.RowKit Go.Maps
open Na (jl)
open Sm (nE)
open Ex (Lo Gives)
attribute [local go_sem] Ws afG afH Ka VH Ph We
def uk:Prop:=∀(x:cz) (P:eP) (s:ByteArray) (w:af),iL (Lo w.heap.size) w x P->ah ae 216 #[.agg (b_ x P),.string s] w (Gives (.string (zK x s)) w)
theorem ac1 {p:Prop} (h:p:=by
 clear h1 h2 h3 HE;go_enter func209,ntmps209;go_wp2_with fail;refine(CC.out _).mono ?_;rintro e v1 ⟨rfl,rfl⟩;go_wp2_with fail;refine(CK.out _ bl).mono ?_;rintro e v2 ⟨rfl,hb2⟩;have q:=FY.out v2 bl;go_wp2_with fail;refine(CB.out _).mono ?_;rintro e v3 ⟨rfl,rfl⟩;exact dX
 ):p:=h
theorem age (hK:uk) (x:cz) (P:eP) (t:jg) (w:af) (hx:iL (Lo w.heap.size) w x P):ah ae 209 #[.agg (b_ x P),.agg (iK t)] w (Gives (.int .i64 (rZ x t)) w):=by
 have HX:=Z hx;have FX:=wJ (w:=w) 54 268 (b_ x P) (iK t);obtain⟨n13,ji⟩:∃n:Nat,13=n:=⟨_,rfl⟩
 have AR:∀w,(sizeOf 54).run ae w=.ok n13 w:=fun w=>by rw[sizeOf54,ji]
 have BN:=Z ji;have ld:=fun W=>((wJ (w:=W) 54 268 (b_ x P) (iK t)).out _ (au _ _)).1.cell.fZ BN.out;obtain⟨K,QO⟩:∃v,Ey t.wh=v:=⟨_,rfl⟩
 obtain⟨V,hV⟩:∃v,zK x t.nm=v:=⟨_,rfl⟩
 obtain⟨r,hr⟩:∃v,iy (-1000) t.co 1000=v:=⟨_,rfl⟩
 have CC:=Z (fun W=>(show ah ae 215 #[.string t.wh] W (oI (.string K) W) by rw[← QO];exact agR _ W));have CK:=Z (fun W (hW:ai w.heap.size w W)=>(show ah ae 216 #[.agg (b_ x P),.string t.nm] W (Gives (.string V) W) by rw[← hV];exact hK x P t.nm W (HX.out.on hW)));have CB:=Z (fun W=>BZ hr W);have HE:Hid (rZ x t=if K=nE then 1 else if V=K then (if t.co=0 then 2 else if r then 0 else 2) else 5):=Z (by unfold rZ;rw[QO,hV,hr]);clear hx ji QO hV hr hK;by_cases h1:K=nE
 · rw[show rZ x t=1 by rw[HE.out,if_pos h1]];have u1:K.toList.isEmpty=true:=by rw[EE,h1];decide
   have u2:(K.toList==(⟨#[]⟩:ByteArray).toList)=true:=by rw[Fz];exact decide_eq_true h1
   clear h1 HE;go_enter func209,ntmps209;go_wp2_with fail;refine(CC.out _).mono ?_;rintro e v1 ⟨rfl,rfl⟩;exact dX
 have u1:K.toList.isEmpty=false:=by rw[EE];unfold gD;exact decide_eq_false (fun e=>h1 (jl e))
 have u2:(K.toList==(⟨#[]⟩:ByteArray).toList)=false:=by rw[Fz];exact decide_eq_false h1
 by_cases h2:V=K;rotate_left 1
 · rw[show rZ x t=5 by rw[HE.out,if_neg h1,if_neg h2]];have u3:(V.toList==K.toList)=false:=by rw[Fz];exact decide_eq_false h2
   have u4:(V.toList != K.toList)=true:=by rw[bne,u3];rfl
   clear h1 h2 HE;go_enter func209,ntmps209;go_wp2_with fail;refine(CC.out _).mono ?_;rintro e v1 ⟨rfl,rfl⟩;go_wp2_with fail;refine(CK.out _ bl).mono ?_;rintro e v2 ⟨rfl,hb2⟩;exact dX
 have u3:(V.toList==K.toList)=true:=by rw[Fz];exact decide_eq_true h2
 have u4:(V.toList != K.toList)=false:=by rw[bne,u3];rfl
 have FY:Hid (∀W,ai ((w.alloc (.cells (b_ x P) 54)).alloc (.cells (iK t) 268)).heap.size ((w.alloc (.cells (b_ x P) 54)).alloc (.cells (iK t) 268)) W->W.cell? ⟨w.heap.size+1,0,X⟩=Y (.int .i64 t.co)):=Z fun W hb=>(FX.out W hb).2.get (Ws t);by_cases h3:t.co=0
 · rw[show rZ x t=2 by rw[HE.out,if_neg h1,if_pos h2,if_pos h3]];have u5:(t.co==0)=true:=beq_iff_eq.2 h3;clear h1 h2 h3 HE;go_enter func209,ntmps209;go_wp2_with fail;refine(CC.out _).mono ?_;rintro e v1 ⟨rfl,rfl⟩;go_wp2_with fail;refine(CK.out _ bl).mono ?_;rintro e v2 ⟨rfl,hb2⟩;have q:=FY.out v2 bl;exact dX
 have u5:(t.co==0)=false:=beq_eq_false_iff_ne.2 h3
 cases r with
 | false=>
  rw[show rZ x t=2 by rw[HE.out,if_neg h1,if_pos h2,if_neg h3];rfl];exact ac1
 | true=>
  rw[show rZ x t=0 by rw[HE.out,if_neg h1,if_pos h2,if_neg h3];rfl];exact ac1
theorem agz (hK:uk) (x:cz) (P:eP) (t:jg) (B:Nat) (w:af) (hx:iL (Lo w.heap.size) w x P) (hB:bU w B 54 (b_ x P)):ah ae 208 #[.agg (iK t),.pointer (Y ⟨B,0,X⟩)] w (Gives (.int .i64 (rZ x t)) w):=by
 have HX:=Z hx;obtain⟨n13,ji⟩:∃n:Nat,13=n:=⟨_,rfl⟩
 have AR:∀w,(sizeOf 54).run ae w=.ok n13 w:=fun w=>by rw[sizeOf54,ji]
 have BN:=Z ji;have ld:=(hB.on (show ai w.heap.size w (w.alloc (.cells (iK t) 268)) by exact bl)).cell.fZ BN.out;obtain⟨V,hV⟩:∃v,rZ x t=v:=⟨_,rfl⟩
 have CT:=Z (fun W (hW:ai w.heap.size w W)=>(show ah ae 209 #[.agg (b_ x P),.agg (iK t)] W (Gives (.int .i64 V) W) by rw[← hV];exact age hK x P t W (HX.out.on hW)));rw[hV];clear hx hB ji hV hK;go_enter func208,ntmps208;go_wp2_with fail;refine(CT.out _ bl).mono ?_;exact Jt
theorem aod (hK:uk) (x:cz) (P:eP) (w0:af) (hx:iL (Lo w0.heap.size) w0 x P) {l:List jg} {p:Option Addr} {m c:Nat} (hl:Rw 3 jk (Lo w0.heap.size) w0 l p m) (B:Nat) (W:af) (hW:ai w0.heap.size w0 W) (hB:bU W B 54 (b_ x P)) :
 ah ae 207 #[.slice p m c,.int .i64 ((8:Nat):Int),.func (.func 208) #[] #[.pointer (Y ⟨B,0,X⟩)]] W (fun e W2=>e=.returned (.int .i64 (A7 (rZ x) 8 l))/\ai W.heap.size W W2):=by
 have F:pX w0 (fun(_:Unit) V=>ai W.heap.size W V):=⟨fun _ V h=>hW.trans (h.mono hW.size),fun _ V V2 h h2=>h.trans (h2.mono h.size)⟩
 refine(ahx (Z hl) #[] #[.pointer (Y ⟨B,0,X⟩)] (fun(_:Unit) V=>ai W.heap.size W V) (Z F) (fun _ t=>(rZ x t,())) 8 bT () (Z fun k s t c V hx2 hm hg hR hI=>?_) W (Z (au _ _))).mono fun e W2 h=>?_
 · rw[Ei,show c=iK t from hR];exact(agz hK x P t B V (hx.on (hW.trans (hI.mono hW.size))) (hB.on hI)).mono fun e W2 h=>⟨h.1,hI.trans (h.2.mono hI.size)⟩
 · obtain⟨h1,h2⟩:=h;rw[Xq] at h1;exact⟨h1,h2⟩
end Md
namespace Md
open Go.RowKit
theorem kZ.slice {base:Nat} {w:af} {v:Value} {l:List ByteArray} (ho:kZ 9 1 dU base w v l):∃p m c,v=.slice p m c:=by
 obtain⟨L,h1,h2,h3⟩:=ho;rcases h3.2 with⟨rfl,-⟩|⟨g,cap,cur,rfl,-⟩
 · exact⟨X,0,0,rfl⟩
 · exact⟨_,_,_,rfl⟩
def OA (W:af) (B:Nat) (x:cz):Prop:=∀j,(h:j<(names x).length)->∃p m c,W.cell? ⟨B,j,X⟩=Y (.slice p m c)/\Rw 1 dU (Bf B W.heap.size) W ((names x)[j]) p m
structure aek (x:cz):Prop where
 va:x.va.length<1000000
 rs:x.rs.length<1000000
 st:x.st.length<1000000
 be:x.be.length<1000000
 ro:x.ro.length<1000000
end Md
namespace Md
open Go.RowKit
structure OB (x:cz):Prop where
 nz:aek x
 nm:∀l∈names x,l.length<2000000
 ss:x.ss.length<2000000
 la:x.la.length<2000000
end Md
end Go.Proofs.YtkpekhpgdajabaaGreatDoor
