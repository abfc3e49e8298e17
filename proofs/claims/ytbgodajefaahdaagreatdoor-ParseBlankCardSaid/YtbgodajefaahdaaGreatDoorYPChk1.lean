/-
  Parts of this proof: The contract of checkOne. The contract of Check. The contract of checkRoutine.
-/
import Derived.Test.YtbgodajefaahdaaGreatDoorYPOth
import Derived.Test.YtbgodajefaahdaaGreatDoorYQClo
import Derived.Test.YtbgodajefaahdaaGreatDoorYQRou
open Go.Proofs.Tryz renaming prog->ae
open Option renaming none->V,some->X
open Nat renaming le_refl->af
open Go.RowKit renaming Below->ag
open Go renaming Calls->ah,World->ai
open Go.Lib renaming hid->aj
set_option linter.unusedVariables false
open Go.Lib (hid)
namespace Go.Proofs.YtbgodajefaahdaaGreatDoor
namespace Sm
open Go.RowKit
open Na (bs iK)
open Ex (Ex bW Gives iy)
attribute [local go_sem] cs0 cs1 cs2 wU wV wW wX wY wZ w_ wJ wK wL wM wN wO wP wQ wR wS wT
set_option maxHeartbeats 4000000
def Pk (x:St):Bool:=((((((((!uN x.o && !decide (bs x.nm=[]))||(!uO x.o && !decide (bs x.f=[])))||(!uE x.o && !Ex.same x.e zE))||(!uF x.o && !Ex.same x.g zE))||(!uA x.o && !decide (x.ar.length=0)))||(!uD x.o && !kQ x.di zD))||(!uG x.o&&x.fl))||(!uB x.o && !decide (x.bo.length=0)))||(!uL x.o && !decide (x.el.length=0))
theorem apl (x:St):Pk x = !TI x:=by
 unfold Pk TI;simp only[Bool.not_and,Bool.not_or,Bool.not_not]
theorem Gu (s:ByteArray):s.toList.isEmpty = !(!decide (bs s=[])):=by
 rw[Bool.not_not,Lib.toList_data]
 show(bs s).isEmpty=_
 cases bs s with
 | nil=>rfl
 | cons x t=>rfl
theorem UJ {n m:Nat} (h:n=m):decide ((0:Int)<(m:Int)) = !decide (n=0)/\decide (0<m) = !decide (n=0):=by
 subst h;by_cases e:n=0
 · subst e;exact⟨rfl,rfl⟩
 · rw[decide_eq_false e];exact⟨decide_eq_true (by omega),decide_eq_true (by omega)⟩
theorem apm (x:St) (P:Pl) (w:ai) (hx:wE w x P):ah ae 85 #[.agg (cs x P),yP x.o] w (Gives (.bool (Pk x)) w):=by
 have h1:=UJ hx.ar.len.1;have h2:=UJ hx.bo.len.1;have h3:=UJ hx.el.len.1;exact apn x P w (uN x.o) (uO x.o) (uE x.o) (uF x.o) (uA x.o) (uD x.o) (uG x.o) (uB x.o) (uL x.o) (!decide (bs x.nm=[])) (!decide (bs x.f=[])) (!Ex.same x.e zE) (!Ex.same x.g zE) (!decide (x.ar.length=0)) (!kQ x.di zD) x.fl (!decide (x.bo.length=0)) (!decide (x.el.length=0)) _ _ _ _ _ _ _ _ _
  (aj fun W hb=>by rw[Bool.not_not];exact Ex.zQ x.e zE P.ep P.em P.ec V 0 0 W (hx.e.on hb) Ex.bW.zero)
  (aj fun W hb=>by rw[Bool.not_not];exact Ex.zQ x.g zE P.gp P.gm P.gc V 0 0 W (hx.g.on hb) Ex.bW.zero)
  (aj fun W hb => by
    rw[Bool.not_not];have h:=Di.zQ x.di.op x.di.a x.di.b x.di.n P.vp x.di.vs.length P.vc P.wp x.di.ws.length P.wc _ _ 0 0 0 0 V 0 0 V 0 0 (fun i=>([]:List Int).getD i 0) (fun i=>([]:List Int).getD i 0) W (hx.on hb).vs (hx.on hb).ws (Di.uq _ _) (Di.uq _ _);rw[hx.Lu,hx.LJ] at h;have e:=G9 x.di zD;rw[hx.Lu,hx.LJ] at e;rw[← e];exact h)
  (Gu _) (Gu _) h1.1 h1.2 rfl h2.1 h2.2 h3.1 h3.2 rfl rfl rfl rfl rfl rfl rfl rfl rfl
theorem anF {w':ai} {g g2:Nat} {x:St} {P:Pl} {a1 a2 a3 a4 a5 a6 a7 a8 a9:Bool} (h:dK w' g x P/\w'.heap[g2]?=X (.cells #[.bool a1,.bool a2,.bool a3,.bool a4,.bool a5,.bool a6,.bool a7,.bool a8,.bool a9] 166 (0,0))):w'.cell? ⟨g,1,V⟩=X (.string x.nm)/\w'.cell? ⟨g,2,V⟩=X (.string x.f)/\w'.cell? ⟨g,3,V⟩=X (.int .i64 x.e.o)/\w'.cell? ⟨g,4,V⟩=X (.string x.e.s)/\w'.cell? ⟨g,5,V⟩=X (.int .i64 x.e.n)/\w'.cell? ⟨g,6,V⟩=X (.slice P.ep P.em P.ec)/\w'.cell? ⟨g,7,V⟩=X (.int .i64 x.g.o)/\w'.cell? ⟨g,8,V⟩=X (.string x.g.s)/\w'.cell? ⟨g,9,V⟩=X (.int .i64 x.g.n)/\w'.cell? ⟨g,10,V⟩=X (.slice P.gp P.gm P.gc)/\w'.cell? ⟨g,11,V⟩=X (.slice P.ap P.am P.ac)/\w'.cell? ⟨g,12,V⟩=X (.int .i64 x.di.op)/\w'.cell? ⟨g,13,V⟩=X (.int .i64 x.di.a)/\w'.cell? ⟨g,14,V⟩=X (.int .i64 x.di.b)/\w'.cell? ⟨g,15,V⟩=X (.int .i64 x.di.n)/\w'.cell? ⟨g,16,V⟩=X (.slice P.vp P.vm P.vc)/\w'.cell? ⟨g,17,V⟩=X (.slice P.wp P.wm P.wc)/\w'.cell? ⟨g2,0,V⟩=X (.bool a1)/\w'.cell? ⟨g2,1,V⟩=X (.bool a2)/\w'.cell? ⟨g2,2,V⟩=X (.bool a3)/\w'.cell? ⟨g2,3,V⟩=X (.bool a4)/\w'.cell? ⟨g2,4,V⟩=X (.bool a5)/\w'.cell? ⟨g2,5,V⟩=X (.bool a6):=
 ⟨h.1.c1,h.1.c2,h.1.c3,h.1.c4,h.1.c5,h.1.c6,h.1.c7,h.1.c8,h.1.c9,h.1.c10,h.1.c11,h.1.c12,h.1.c13,h.1.c14,h.1.c15,h.1.c16,h.1.c17,rU h.2 rfl,rU h.2 rfl,rU h.2 rfl,rU h.2 rfl,rU h.2 rfl,rU h.2 rfl⟩
theorem ajO (w:ai) (t:TypeId) (r1 r2 r3 r4 r5 r6:Int):∀i,(h:i<[r1,r2,r3,r4,r5,r6].length)->(w.alloc (.cells #[.int .i64 r1,.int .i64 r2,.int .i64 r3,.int .i64 r4,.int .i64 r5,.int .i64 r6] t)).cell? ⟨w.heap.size,i,V⟩=X (.int .i64 [r1,r2,r3,r4,r5,r6][i]):=by
 intro i h;rw[World.cell?_alloc_mark]
 match i,h with
 | 0,_=>rfl
 | 1,_=>rfl
 | 2,_=>rfl
 | 3,_=>rfl
 | 4,_=>rfl
 | 5,_=>rfl
theorem Z6 {w w1:ai} (x:St) (P:Pl) (c:Array Value) (hb1:ag (w.alloc (.cells (cs x P) 60)).heap.size (w.alloc (.cells (cs x P) 60)) w1):Hid (∀W,ag (w1.alloc (.cells c 166)).heap.size (w1.alloc (.cells c 166)) W->dK W w.heap.size x P/\W.heap[w1.heap.size]?=X (.cells c 166 (0,0))):=aj fun W hb=>by
 have h1:dK (w.alloc (.cells (cs x P) 60)) w.heap.size x P:=Ao;have h2:=World.alloc_heap_new w1 (.cells c 166);exact⟨((h1.on hb1).on (show ag w1.heap.size w1 _ by exact bl)).on hb,(hb.block _ (by simp)).trans h2⟩
set_option maxRecDepth 100000 in
theorem ao5 (x:St) (P:Pl) (w:ai) (HX:Hid (wE w x P)) (a1 a2 a3 a4 a5 a6 a7 a8 a9 K O:Bool) (r1 r2 r3 r4 r5 r6:Int)
 (CU:Hid (∀W,ag w.heap.size w W->ah ae 84 #[.int .i64 x.o] W (Gives (.tuple #[.agg #[.bool a1,.bool a2,.bool a3,.bool a4,.bool a5,.bool a6,.bool a7,.bool a8,.bool a9],.bool K]) W)))
 (CO:Hid (∀W,ag w.heap.size w W->ah ae 85 #[.agg (cs x P),.agg #[.bool a1,.bool a2,.bool a3,.bool a4,.bool a5,.bool a6,.bool a7,.bool a8,.bool a9]] W (Gives (.bool O) W)))
 (C1:Hid (∀W,ag w.heap.size w W->ah ae 86 #[.bool a1,.func (.func 35) #[] #[],.string x.nm] W (Gives (.int .i64 r1) W)))
 (C2:Hid (∀W,ag w.heap.size w W->ah ae 86 #[.bool a2,.func (.func 35) #[] #[],.string x.f] W (Gives (.int .i64 r2) W)))
 (C3:Hid (∀W,ag w.heap.size w W->ah ae 87 #[.bool a3,.func (.func 25) #[] #[],.agg #[.int .i64 x.e.o,.string x.e.s,.int .i64 x.e.n,.slice P.ep P.em P.ec]] W (Gives (.int .i64 r3) W)))
 (C4:Hid (∀W,ag w.heap.size w W->ah ae 87 #[.bool a4,.func (.func 25) #[] #[],.agg #[.int .i64 x.g.o,.string x.g.s,.int .i64 x.g.n,.slice P.gp P.gm P.gc]] W (Gives (.int .i64 r4) W)))
 (C5:Hid (∀W,ag w.heap.size w W->ah ae 88 #[.bool a5,.func (.func 89) #[] #[],.slice P.ap P.am P.ac] W (Gives (.int .i64 r5) W)))
 (C6:Hid (∀W,ag w.heap.size w W->ah ae 90 #[.bool a6,.func (.func 91) #[] #[],.agg #[.int .i64 x.di.op,.int .i64 x.di.a,.int .i64 x.di.b,.int .i64 x.di.n,.slice P.vp P.vm P.vc,.slice P.wp P.wm P.wc]] W (Gives (.int .i64 r6) W))) :
 ah ae 45 #[.agg (cs x P)] w (Gives (.int .i64 (if K && !O then ic [r1,r2,r3,r4,r5,r6] else 1)) w):=by
 obtain⟨n21,oU⟩:∃n:Nat,21=n:=⟨_,rfl⟩
 have hsz:∀w,(sizeOf 60).run ae w=.ok n21 w:=fun w=>by rw[Tryz.sizeOf60,oU]
 have lV:=aj oU;clear oU;have hcsz:(cs x P).size=n21:=lV.out
 cases K with
 | false=>
  rw[show(if (false && !O)=true then ic [r1,r2,r3,r4,r5,r6] else 1)=(1:Int) from rfl];go_enter Tryz.func45,Tryz.ntmps45;go_wp2_with fail;refine(CU.out _ bl).mono ?_;rintro e w1 ⟨rfl,hb1⟩;go_wp2_with fail;go_ret;exact⟨rfl,bl⟩
 | true=>
  cases O with
  | true=>
   rw[show(if (true && !true)=true then ic [r1,r2,r3,r4,r5,r6] else 1)=(1:Int) from rfl];go_enter Tryz.func45,Tryz.ntmps45;go_wp2_with fail;refine(CU.out _ bl).mono ?_;rintro e w1 ⟨rfl,hb1⟩;have FX:=Z6 x P #[.bool a1,.bool a2,.bool a3,.bool a4,.bool a5,.bool a6,.bool a7,.bool a8,.bool a9] hb1;have q:=FX.out _ (Below.refl _ _);have ld1:=q.1.cell.dW lV.out;clear q;go_wp2_with fail;refine(CO.out _ bl).mono ?_;rintro e w2 ⟨rfl,hb2⟩;go_wp2_with fail;go_ret;exact⟨rfl,bl⟩
  | false=>
   rw[show(if (true && !false)=true then ic [r1,r2,r3,r4,r5,r6] else 1)=ic [r1,r2,r3,r4,r5,r6] from rfl];go_enter Tryz.func45,Tryz.ntmps45;go_wp2_with fail;refine(CU.out _ bl).mono ?_;rintro e w1 ⟨rfl,hb1⟩;have FX:=Z6 x P #[.bool a1,.bool a2,.bool a3,.bool a4,.bool a5,.bool a6,.bool a7,.bool a8,.bool a9] hb1;have q:=FX.out _ (Below.refl _ _);have ld1:=q.1.cell.dW lV.out;clear q;go_wp2_with fail;refine(CO.out _ bl).mono ?_;rintro e w2 ⟨rfl,hb2⟩;clear ld1 hcsz;go_wp2_with fail;go_region_held3 (fun w'=>w'.cell? ⟨w.heap.size,1,V⟩=X (.string x.nm)/\w'.cell? ⟨w.heap.size,2,V⟩=X (.string x.f)/\w'.cell? ⟨w.heap.size,3,V⟩=X (.int .i64 x.e.o)/\w'.cell? ⟨w.heap.size,4,V⟩=X (.string x.e.s)/\w'.cell? ⟨w.heap.size,5,V⟩=X (.int .i64 x.e.n)/\w'.cell? ⟨w.heap.size,6,V⟩=X (.slice P.ep P.em P.ec)/\w'.cell? ⟨w.heap.size,7,V⟩=X (.int .i64 x.g.o)/\w'.cell? ⟨w.heap.size,8,V⟩=X (.string x.g.s)/\w'.cell? ⟨w.heap.size,9,V⟩=X (.int .i64 x.g.n)/\w'.cell? ⟨w.heap.size,10,V⟩=X (.slice P.gp P.gm P.gc)/\w'.cell? ⟨w.heap.size,11,V⟩=X (.slice P.ap P.am P.ac)/\w'.cell? ⟨w.heap.size,12,V⟩=X (.int .i64 x.di.op)/\w'.cell? ⟨w.heap.size,13,V⟩=X (.int .i64 x.di.a)/\w'.cell? ⟨w.heap.size,14,V⟩=X (.int .i64 x.di.b)/\w'.cell? ⟨w.heap.size,15,V⟩=X (.int .i64 x.di.n)/\w'.cell? ⟨w.heap.size,16,V⟩=X (.slice P.vp P.vm P.vc)/\w'.cell? ⟨w.heap.size,17,V⟩=X (.slice P.wp P.wm P.wc)/\w'.cell? ⟨w1.heap.size,0,V⟩=X (.bool a1)/\w'.cell? ⟨w1.heap.size,1,V⟩=X (.bool a2)/\w'.cell? ⟨w1.heap.size,2,V⟩=X (.bool a3)/\w'.cell? ⟨w1.heap.size,3,V⟩=X (.bool a4)/\w'.cell? ⟨w1.heap.size,4,V⟩=X (.bool a5)/\w'.cell? ⟨w1.heap.size,5,V⟩=X (.bool a6)) (first|(refine anF (FX.out _ ?_);exact bl;done)|(go_keep;done)) (first
    | (have t:=sw;go_at_call 34;refine(p_ [r1,r2,r3,r4,r5,r6] _ 6 6 _ rfl (by omega) (aj (ajO _ _ _ _ _ _ _ _))).mono ?_;rintro e w9 ⟨rfl,rfl⟩)
    | (have t:=JO;go_at_call 90;refine(C6.out _ bl).mono ?_;rintro e w8 ⟨rfl,sw⟩)
    | (have t:=hb6;go_at_call 88;refine(C5.out _ bl).mono ?_;rintro e w7 ⟨rfl,JO⟩)
    | (have t:=hb5;go_at_call 87;refine(C4.out _ bl).mono ?_;rintro e w6 ⟨rfl,hb6⟩)
    | (have t:=hb4;go_at_call 87;refine(C3.out _ bl).mono ?_;rintro e w5 ⟨rfl,hb5⟩)
    | (have t:=hb3;go_at_call 86;refine(C2.out _ bl).mono ?_;rintro e w4 ⟨rfl,hb4⟩)
    | (go_at_call 86;refine(C1.out _ bl).mono ?_;rintro e w3 ⟨rfl,hb3⟩))
   go_wp2_with fail;go_ret;exact⟨rfl,bl⟩
theorem WY {o:Int} {a1 a2 a3 a4 a5 a6 a7 a8 a9 K:Bool} (h1:uN o=a1) (h2:uO o=a2) (h3:uE o=a3) (h4:uF o=a4) (h5:uA o=a5) (h6:uD o=a6) (h7:uG o=a7) (h8:uB o=a8) (h9:uL o=a9) (hk:kn o=K) (w:ai) :
 ah ae 84 #[.int .i64 o] w (Gives (.tuple #[.agg #[.bool a1,.bool a2,.bool a3,.bool a4,.bool a5,.bool a6,.bool a7,.bool a8,.bool a9],.bool K]) w):=by
 subst h1 h2 h3 h4 h5 h6 h7 h8 h9 hk;exact WX o w
theorem akI {w:ai} {x:St} {P:Pl} (hx:wE w x P):ah ae 91 #[.agg #[.int .i64 x.di.op,.int .i64 x.di.a,.int .i64 x.di.b,.int .i64 x.di.n,.slice P.vp P.vm P.vc,.slice P.wp P.wm P.wc]] w (Gives (.int .i64 (oQ x.di)) w):=by
 have h:=Di.pO x.di.op x.di.a x.di.b x.di.n P.vp x.di.vs.length P.vc P.wp x.di.ws.length P.wc _ _ w hx.vs hx.ws;rw[show oQ x.di=Di.Cm x.di.op x.di.a x.di.b x.di.n x.di.vs.length x.di.ws.length (fun i=>x.di.vs.getD i 0) (fun i=>x.di.ws.getD i 0) from rfl];rw[hx.Lu,hx.LJ] at h ⊢;exact h
theorem ao4 (x:St) (P:Pl) (w:ai) (hx:wE w x P) (hs:D6 x):ah ae 45 #[.agg (cs x P)] w (Gives (.int .i64 (zC x)) w):=by
 have e:zC x=if kn x.o && !Pk x then ic [onE (uN x.o) (iK (bs x.nm)),onE (uO x.o) (iK (bs x.f)),onE (uE x.o) (iy false x.e),onE (uF x.o) (iy false x.g),onE (uA x.o) (Am x.ar),onE (uD x.o) (oQ x.di)] else 1:=by
  rw[apl,Bool.not_not];unfold zC PZ;simp only[ic,um]
 rw[e];exact ao5 x P w (aj hx) _ _ _ _ _ _ _ _ _ _ _ _ _ _ _ _ _ (aj fun W hb=>WY rfl rfl rfl rfl rfl rfl rfl rfl rfl rfl W) (aj fun W hb=>apm x P W (hx.on hb))
  (aj fun W hb=>afy _ _ _ W (aj fun _ U hu=>Na.pO x.nm U (by have:=hs.1;omega)))
  (aj fun W hb=>afy _ _ _ W (aj fun _ U hu=>Na.pO x.f U (by have:=hs.2.1;omega)))
  (aj fun W hb=>afx _ _ _ _ _ _ W (aj fun _ U hu=>Ex.pO x.e P.ep P.em P.ec U ((hx.e.on hb).on hu) hs.2.2.1.1 hs.2.2.1.2))
  (aj fun W hb=>afx _ _ _ _ _ _ W (aj fun _ U hu=>Ex.pO x.g P.gp P.gm P.gc U ((hx.g.on hb).on hu) hs.2.2.2.1.1 hs.2.2.2.1.2))
  (aj fun W hb=>asM _ _ _ _ _ W (aj fun _ U hu=>aiK x.ar P.ap P.am P.ac U ((hx.on hb).on hu).ar hs.2.2.2.2))
  (aj fun W hb=>asN _ x P _ W (aj fun _ U hu=>akI ((hx.on hb).on hu)))
end Sm
namespace Sm
open Go.RowKit Go.Shelf
open Ex (Gives block_lt uW NL TJ pK EE)
attribute [local go_sem] Oper.semAt_some
attribute [local go_sem] cs0 cs1 cs2 wU wV wW wX wY wZ w_ wJ wK wL wM wN wO wP wQ wR wS wT
set_option maxHeartbeats 4000000
theorem SS {sl:List St} {D:Nat} (h:gV sl=D) (p:Option Addr) (m c:Nat) (w:ai) (hi:oK w sl p m) (hc:eZ sl<=4000000):ah ae 43 #[.slice p m c] w (Gives (.int .i64 (D:Nat)) w):=by rw[← h];exact SQ sl p m c w hi hc
theorem Kq {sl:List St} {b:Bool} (h:decide (200<eZ sl)=b) (p:Option Addr) (m c:Nat) (w:ai) (hi:oK w sl p m) (hs:lY sl):ah ae 42 #[.slice p m c,.int .i64 200] w (Gives (.bool b) w):=by rw[← h];exact UQ sl p m c w hi hs
theorem ao6 {x:St} {v:Int} (h:zC x=v) (P:Pl) (w:ai) (hx:wE w x P) (hs:D6 x):ah ae 45 #[.agg (cs x P)] w (Gives (.int .i64 v) w):=by rw[← h];exact ao4 x P w hx hs
def RS (w wr:ai):Prop:=(wr.cell? ⟨w.heap.size,0,V⟩=X (.int .i64 0)/\wr.frozen? ⟨w.heap.size,0,V⟩=false)/\Hid (ag w.heap.size w wr)/\w.heap.size+1<=wr.heap.size
theorem RS.on {w wr w2:ai} (h:RS w wr) (hb:ag wr.heap.size wr w2):RS w w2:=by
 obtain⟨⟨h1,h2⟩,h3,h4⟩:=h;exact⟨⟨(hb.cell (p:=⟨w.heap.size,0,V⟩) (show w.heap.size<wr.heap.size by omega)).trans h1,(hb.frozen (p:=⟨w.heap.size,0,V⟩) (show w.heap.size<wr.heap.size by omega)).trans h2⟩,aj (h3.out.trans (hb.mono (by omega))),Nat.le_trans h4 hb.size⟩
theorem RS.new {w:ai}:RS w (w.alloc (.cells #[.int .i64 0] 28)):=⟨uW w (.int .i64 0) 28,aj bl,by simp⟩
set_option maxRecDepth 100000 in
theorem pO (sl:List St) (p:Option Addr) (m c:Nat) (w:ai) (h:oK w sl p m) (hs:lY sl):ah ae 18 #[.slice p m c] w (Gives (.int .i64 (iY sl)) w):=by
 by_cases h6:200<eZ sl
 · have HM:=aj (fun W hi=>Kq (decide_eq_true h6) p m c W hi hs);have HH:=aj h;rw[show iY sl=6 by unfold iY;rw[if_pos h6]];clear h hs h6;go_enter Tryz.func18,Tryz.ntmps18;go_wp2_with fail;refine(HM.out _ (HH.out.on bl)).mono ?_;rintro e w1 ⟨rfl,hb1⟩;have HST:=aj (RS.new.on hb1);have hr:=HST.out.1.1;have hf:=HST.out.1.2;clear hb1;go_wp2_with fail
   (try simp only[Exit.inBlock,Exit.then])
   have bU:=HST.out.2.1.out;have e1:(w1.setCell ⟨w.heap.size,0,V⟩ (.int .i64 6)).cell? ⟨w.heap.size,0,V⟩=X (.int .i64 6):=World.cell?_setCell_same' _ _ _ (by rw[hr];rfl);exact bodyPost_ret (v:=.int .i64 6) (by simp[results,Tryz.f18,go_sem,e1]) rfl ⟨rfl,pK bU (by omega) _⟩
 have HM:=aj (fun W hi=>Kq (decide_eq_false h6) p m c W hi hs);have HD:=aj (fun W hi=>SS (sl:=sl) rfl p m c W hi (by omega));by_cases h12:12<gV sl
 · have HH:=aj h;rw[show iY sl=11 by unfold iY;rw[if_neg h6,if_pos h12]];obtain⟨D,hD⟩:∃D,gV sl=D:=⟨_,rfl⟩
   rw[hD] at HD h12;have d1:(12:Int)<(D:Int):=by omega
   have d2:decide ((12:Int)<(D:Int))=true:=decide_eq_true d1;clear h hs h6 hD h12;go_enter Tryz.func18,Tryz.ntmps18;go_wp2_with fail;refine(HM.out _ (HH.out.on bl)).mono ?_;rintro e w1 ⟨rfl,hb1⟩;have HST:=aj (RS.new.on hb1);clear hb1;go_wp2_with fail;refine(HD.out _ (HH.out.on HST.out.2.1.out)).mono ?_;rintro e w2 ⟨rfl,hb2⟩;have tO:=aj (HST.out.on hb2);have hr:=tO.out.1.1;have hf:=tO.out.1.2;clear hb2;go_wp2_with fail
   (try simp only[Exit.inBlock,Exit.then])
   have bU:=tO.out.2.1.out;have e1:(w2.setCell ⟨w.heap.size,0,V⟩ (.int .i64 11)).cell? ⟨w.heap.size,0,V⟩=X (.int .i64 11):=World.cell?_setCell_same' _ _ _ (by rw[hr];rfl);exact bodyPost_ret (v:=.int .i64 11) (by simp[results,Tryz.f18,go_sem,e1]) rfl ⟨rfl,pK bU (by omega) _⟩
 have HH:=aj h;have HS:=aj hs;rw[show iY sl=om (fw sl) by unfold iY;rw[if_neg h6,if_neg h12]];obtain⟨D,hD⟩:∃D,gV sl=D:=⟨_,rfl⟩
 rw[hD] at HD h12;have d1:(D:Int)<=12:=by omega
 have d2:decide ((12:Int)<(D:Int))=false:=decide_eq_false (by omega);clear h hs h6 hD h12;obtain⟨n21,oU⟩:∃n:Nat,21=n:=⟨_,rfl⟩
 have hsz:∀w,(sizeOf 60).run ae w=.ok n21 w:=fun w=>by rw[Tryz.sizeOf60,oU]
 have lV:=aj oU;clear oU;refine(callsIn_wide (n:=3)).1 ?_;refine callsIn_of_wp_marks Tryz.func18 rfl trivial ?_ rfl;simp only[Tryz.ntmps18,List.size_toArray,List.length_cons,List.length_nil,Nat.reduceAdd,Nat.reduceSub,Array.replicate_succ,Array.replicate_zero,List.push_toArray,List.append_toArray,List.nil_append,List.cons_append]
 gi_wp2_with fail
 refine⟨trivial,?_⟩;refine(callsIn_wide.2 (HM.out _ (HH.out.on bl))).mono ?_;rintro e w1 ⟨rfl,hb1⟩;have HST:=aj (RS.new.on hb1);clear hb1
 gi_wp2_with fail
 refine⟨trivial,?_⟩;refine(callsIn_wide.2 (HD.out _ (HH.out.on HST.out.2.1.out))).mono ?_;rintro e w2 ⟨rfl,hb2⟩;have tO:=aj (HST.out.on hb2);clear hb2
 gi_wp2_with fail
 refine⟨trivial,?_⟩;refine(afo Fence.wide _ trivial rfl _ _ _ _).mono ?_;rintro e w3 ⟨rfl,hw3⟩;have hb3:ag w2.heap.size w2 w3:=by rw[hw3];exact bl
 have hx3:=uW w2 (.slice p m c) 31;rw[← hw3] at hx3;have hz3:w3.heap.size=w2.heap.size+1:=by rw[hw3];simp
 have BQ:=tO.out.on hb3;clear hw3
 gi_wp2
 have hs2:=tO.out.2.2;have bU:=BQ.2.1;refine wpIn_rangeFunc_ownH rfl (by omega) (gf:=82) (lb:=#[.pointer (X ⟨w2.heap.size,0,V⟩)]) rfl trivial (enters_of Tryz.func82 (by kernel_rfl) rfl)
  (afp Fence.wide rfl trivial trivial rfl _ w2.heap.size w.heap.size w3.heap.size w (af _) sl p m c w3 hx3.1 HH.out HS.out bU.out (af _)) (fun h k=>h.trans k) (Kp.put (by omega)) (Below.refl _ _) (fun _=>rfl)
  (fun ps W=>(W.cell? ⟨w.heap.size,0,V⟩=X (.int .i64 0)/\W.frozen? ⟨w.heap.size,0,V⟩=false/\om (ps.map Nd.x)=0/\w3.heap.size<=W.heap.size)/\ag w.heap.size w W)
  (fun c' ps W=>(c'=.ret/\∃v:Int,¬v=0/\om (ps.map Nd.x)=v/\W.cell? ⟨w.heap.size,0,V⟩=X (.int .i64 v))/\ag w.heap.size w W)
  (OwnFrom.and (Own.from (fun s A B row hs hg hr=>⟨cell_kept hs.1 hg hr,(frozen_kept hs.1 hg hr).trans hs.2.1,hs.2.2.1,Nat.le_trans hs.2.2.2 hg.size⟩) _) (ownFrom_below (af _) (by omega)))
  (fun c'=>OwnFrom.and (Own.from (fun s A B row hs hg hr=>⟨hs.1,let ⟨v,h1,h2,h3⟩:=hs.2;⟨v,h1,h2,cell_kept h3 hg hr⟩⟩) _) (ownFrom_below (af _) (by omega)))
  ⟨⟨BQ.1.1,BQ.1.2,rfl,af _⟩,bU.out⟩
  (fun x a' W=>∃Bx,w3.heap.size<=Bx/\dK W Bx x.x x.P/\a'={ tmps:=#[.slice p m c,undef,.pointer (X ⟨w.heap.size,0,V⟩),.pointer (X ⟨Bx,0,V⟩),undef,.slice p m c,.bool false,.slice p m c,.int .i64 (D:Nat),.bool false,.slice p m c,.func (.func 82) #[] #[.pointer (X ⟨w2.heap.size,0,V⟩)],.agg (cs x.x x.P),undef,undef,undef,undef,undef],defers:=[] })
  (fun x a' _ A B row hs hg hr=>let ⟨Bx,h1,h2,h3⟩:=hs;⟨Bx,h1,dK.own (β:=Unit) _ _ _ () A B row h2 hg (fun r e=>(hr r e).2),h3⟩) ?assign ?body ?done ?stop
 case assign=>
  intro l ps x W K hi hK;simp only[vg];have hcsz:(cs x.x x.P).size=n21:=lV.out;have st1:=Le x.x x.P;have st2:=Lg x.x x.P;have rM:=Lf x.x x.P
  gi_wp2
  have hbW:ag W.heap.size W (W.alloc (.cells (cs x.x x.P) 60)):=bl;have hle:=hi.2.size;refine hK _ _ (EE hbW) (Kp.of_below hbW hle) ?_ ⟨W.heap.size,?_,Ao,?_⟩
  · exact⟨⟨NL _ hi.1.1,TJ _ hi.1.1 hi.1.2.1,hi.1.2.2.1,Nat.le_trans hi.1.2.2.2 hbW.size⟩,hi.2.trans (hbW.mono hle)⟩
  · exact hi.1.2.2.2
  · simp[go_sem]
 case body=>
  rintro l ps x a' W hl ⟨r,hr⟩ ⟨⟨h2,h3,h4,h5⟩,hB⟩ ⟨Bx,hBx,hbx,rfl⟩ hlt;obtain⟨v,hv⟩:∃v,zC x.x=v:=⟨_,rfl⟩
  have HN:=aj (ao6 hv x.P W (x.hi.below hB).all x.hs);have IC:=aj (show om ((ps++[x]).map Nd.x)=v by rw[List.map_append];exact(aiT h4).trans hv);have H5:=aj h5;have eY:=aj hB;have ld1:=hbx.cell.dW lV.out;clear hv h4 h5 hB hlt hr hbx
  gi_wp2_with fail
  refine⟨trivial,?_⟩;refine(CallsIn.inRound l (callsIn_wide.2 HN.out)).mono ?_;rintro e w4 ⟨rfl,hb4⟩;have g2:=(hb4.cell (p:=⟨w.heap.size,0,V⟩) (block_lt h2)).trans h2;have g3:=(hb4.frozen (p:=⟨w.heap.size,0,V⟩) (block_lt h2)).trans h3;have qU:=aj hb4;clear hb4 h2 h3 ld1;by_cases hv0:v=0
  · subst hv0
    gi_wp2
    exact⟨EE qU.out,Kp.of_below qU.out eY.out.size,⟨g2,g3,IC.out,Nat.le_trans H5.out qU.out.size⟩,eY.out.trans (qU.out.mono eY.out.size)⟩
  · have t0:(v==0)=false:=beq_eq_false_iff_ne.2 hv0;have t1:(v != 0)=true:=bne_iff_ne.2 hv0
    gi_wp2
    refine⟨(EE qU.out).trans ((KeepsOthers.setCell _ _ _).from _),⟨rfl,v,hv0,IC.out,?_⟩,pK (eY.out.trans (qU.out.mono eY.out.size)) (by omega) _⟩;exact World.cell?_setCell_same' _ _ _ (by rw[g2];rfl)
 case done=>
  rintro D' ys W hD hys ⟨⟨h2,h3,h4,h5⟩,hB⟩ hK;have HV:=aj (show om (fw sl)=0 by rw[← hys];exact h4)
  gi_wp2
  have hK':=(KeepsOthers.setCell W ⟨w.heap.size,0,V⟩ (.int .i64 0)).same D' _ hK rfl;refine⟨by simp,.inl ⟨_,_,rfl,run_takeDeferred hK',?_⟩⟩;have sD:=cell_kept (World.cell?_setCell_same' W ⟨w.heap.size,0,V⟩ (.int .i64 0) (by rw[h2];rfl)) (grownBy_putObj' _ D' (.deferred V)) (fun r e=>by cases e;exact⟨_,hK',rfl⟩);refine⟨.int .i64 0,?_,by rw[HV.out],(pK hB (by omega) _).trans (belowK_b (w:=w) (af _) _ D' _ _ (by omega) hK' rfl rfl)⟩;simp[results,Tryz.f18,go_sem,sD]
 case stop=>
  rintro D' c' ps W hD hps ⟨⟨rfl,v,hv0,hbv,hr⟩,hB⟩ hK;have HV:=aj (show om (fw sl)=v by
   obtain⟨r,hr⟩:=hps;rw[← hr,Sl,hbv,uk hv0])
  gi_wp2
  refine⟨by simp,.inl ⟨_,_,rfl,run_takeDeferred hK,?_⟩⟩;have sD:=cell_kept hr (grownBy_putObj' _ D' (.deferred V)) (fun r e=>by cases e;exact⟨_,hK,rfl⟩);refine⟨.int .i64 v,?_,by rw[HV.out],hB.trans (belowK_b (w:=w) (af _) W D' _ _ (by omega) hK rfl rfl)⟩;simp[results,Tryz.f18,go_sem,sD]
end Sm
namespace Md
open Go.RowKit Go.Maps
open Sm (lY iY dR p_)
open Ex (Lo Gives)
attribute [local go_sem] Ef Je NG Jf
set_option maxHeartbeats 4000000
structure MV (x:eQ):Prop where
 nm:x.nm.size<=9223372036854775807
 fl:∀f∈x.ps++x.ls,f.nm.size<=9223372036854775807
 ln:(x.ps++x.ls).length<=1000000
 bo:lY x.bo
theorem aqV {w0:ai}:fZ w0 w0.heap.size (fun _=>True) [] (w0.alloc (.map #[] 0)):=⟨bl,World.ownsMap_made _ _ _ _,trivial⟩
set_option maxRecDepth 100000 in
theorem ajZ (x:eQ) (P:qV) (w:ai) (hx:qw (Lo w.heap.size) w x P) (hz:MV x):ah ae 121 #[.agg (fJ x P)] w (Gives (.int .i64 (Bi x)) w):=by
 have HX:=aj hx;have HZ:=aj hz;have FX:=far (w:=w) 119 (fJ x P);obtain⟨hlp,hmp⟩:=hx.ps.len;obtain⟨hll,JS⟩:=hx.ls.len;by_cases h6:6<P.nH
 · rw[show Bi x=6 by unfold Bi;rw[if_pos (by omega)]];have d1:decide ((6:Int)<(P.nH:Int))=true:=decide_eq_true (by omega);have d2:(6:Int)<(P.nH:Int):=by omega
   clear hx hz hlp hmp hll JS h6;go_enter Tryz.func121,Tryz.ntmps121;go_wp2_with fail;go_ret;exact⟨rfl,bl⟩
 obtain⟨v1,hv1⟩:∃v,(dh (fun a f=>ek a (JH f)) 16 (x.ps++x.ls) []).1=v:=⟨_,rfl⟩
 obtain⟨v2,hv2⟩:∃v,iY x.bo=v:=⟨_,rfl⟩
 rw[show Bi x=dR v1 v2 by unfold Bi;rw[if_neg (by omega),hv1,hv2]];have d1:decide ((6:Int)<(P.nH:Int))=false:=decide_eq_false (by omega);have d2:(P.nH:Int)<=6:=by omega
 have hN:P.nH+P.EJ<=1000000:=by have:=hz.ln;rw[List.length_append] at this;omega
 have CC:=aj (fun W (b:Nat) (hW:ag w.heap.size w W) (hb:b<W.heap.size) h0 h1=>akC b P.Df P.GM P.nH P.GY P.EJ P.Kn x.ps x.ls W hb h0 h1 (HX.out.ps.on dH.map hW) (HX.out.ls.on dH.map hW) hN);have CB:=aj (fun W (hW:ag w.heap.size w W)=>(show ah ae 18 #[.slice P.xX P.xW P.za] W (Gives (.int .i64 v2) W) by rw[← hv2];exact Sm.pO x.bo P.xX P.xW P.za W ((HX.out.bo.map hW.size fun b g _=>⟨Nat.lt_of_lt_of_le g hW.size,hW.block b g⟩)) HZ.out.bo));have CE:=aj (fun(w0 W:ai) (p:Option Addr) (m c:Nat) (hl:Rw 2 dH (Lo w0.heap.size) w0 (x.ps++x.ls) p m) (hW:fZ w0 w0.heap.size (fun _=>True) [] W)=>(show ah ae 162 #[.slice p m c,.int .i64 16,.func (.func 163) #[.map (X w0.heap.size)] #[]] W (fun e W2=>e=.returned (.int .i64 v1)/\ag w0.heap.size w0 W2) from(alu (af _) (rT.top _) hl HZ.out.fl 16 (by omega) [] (by simp) W hW).mono fun e W2 h=>⟨by rw[h.1,hv1],h.2.below⟩));have FK:Hid (∀W,ag (w.alloc (.cells (fJ x P) 119)).heap.size (w.alloc (.cells (fJ x P) 119)) W->W.cell? ⟨w.heap.size,3,V⟩=X (.slice P.xX P.xW P.za)):=aj fun W hb=>(FX.out W hb).get (Jf x P);have HLn:=aj hz.ln;have hmm:=@run_makeMap ae;clear hx hz hlp hmp hll JS h6 hv1 hv2 hN;go_enter Tryz.func121,Tryz.ntmps121;go_wp2_with fail;refine(CC.out _ (w.heap.size+1) bl (by simp) (by go_simp) (by go_simp)).mono ?_;rintro e w2 ⟨v,rfl,hown,hb2⟩;obtain⟨fp,fc,rfl,hfl⟩:=hown.rw dH.map Bj HLn.out;have HF:=aj hfl;have hq:=FK.out w2 bl;obtain⟨fm,hfm⟩:∃n,(x.ps++x.ls).length=n:=⟨_,rfl⟩
 rw[hfm] at HF ⊢;clear hown hfl hfm;go_wp2_with fail;go_region_held3 (fun W=>W.cell? ⟨w.heap.size,3,V⟩=X (.slice P.xX P.xW P.za)) (first|(refine FK.out _ ?_;exact bl;done)|(go_keep;done)) (first
  | (have t:=hb4;go_at_call 34;refine(p_ [v1,v2] _ 2 2 _ rfl (by omega) (aj (Aq _ _ _ _))).mono ?_;rintro e w9 ⟨rfl,rfl⟩)
  | (have t:=hb3;go_at_call 18;refine(CB.out _ bl).mono ?_;rintro e w4 ⟨rfl,hb4⟩)
  | (go_at_call 162;refine(CE.out w2.drew _ _ _ _ HF.out aqV).mono ?_;rintro e w3 ⟨rfl,hb3⟩))
 all_goals
  have HB3:=aj hb4;go_wp2_with fail;go_ret;exact⟨by rw[← Bc];rfl,bl⟩
end Md
end Go.Proofs.YtbgodajefaahdaaGreatDoor
