/-
  Parts of this proof: The contract of checkOne. The contract of Check. Lists of declarations in a scope. The contract of checkRoutine. How models among the arguments are read, and wha. The contracts of checkTerm, checkLaw and checkLa. The contract of the reference's Names. The contracts of the reference's Routine, Kind a. The reference's lists of the names before. The contract of the law's light.
-/
import Derived.Test.YthnillhnjhalmaaGreatDoorYPUsage
import Derived.Test.YthnillhnjhalmaaGreatDoorYPOth
import Derived.Test.YthnillhnjhalmaaGreatDoorYERNo7
open Go.Proofs.Tryz
open Go.Proofs.Tryz renaming prog->ae
open Option renaming none->X,some->Y
open Go renaming World->af,Calls->ah
open Go.RowKit renaming Below->ag
open Nat renaming le_trans->ai,le_refl->aj
open Go.Lib renaming hid->Z
open Go.RowKit.Below renaming refl->ak
set_option linter.unusedVariables false
set_option maxRecDepth 100000
set_option maxHeartbeats 8000000
open Go.Lib (hid)
namespace Go.Proofs.YthnillhnjhalmaaGreatDoor
namespace Sm
open Go.RowKit
open Na (bs fT)
open Ex (Ex bW Gives fU)
attribute [local go_sem] cs0 cs1 cs2 wo wu wy wB wC wD wE vQ vR vS vT vU vV vW vX vY vZ v_
def NG (x:St):Bool:=((((((((!uN x.o && !decide (bs x.nm=[]))||(!uO x.o && !decide (bs x.f=[])))||(!uE x.o && !Ex.same x.e zE))||(!uF x.o && !Ex.same x.g zE))||(!uA x.o && !decide (x.ar.length=0)))||(!uD x.o && !lW x.di zD))||(!uG x.o&&x.fl))||(!uB x.o && !decide (x.bo.length=0)))||(!uL x.o && !decide (x.el.length=0))
theorem amC (x:St):NG x = !Sg x:=by
 unfold NG Sg;simp only[Bool.not_and,Bool.not_or,Bool.not_not]
theorem FN (s:ByteArray):s.toList.isEmpty = !(!decide (bs s=[])):=by
 rw[Bool.not_not,Lib.toList_data]
 show(bs s).isEmpty=_
 cases bs s with
 | nil=>rfl
 | cons x t=>rfl
theorem Ty {n m:Nat} (h:n=m):decide ((0:Int)<(m:Int)) = !decide (n=0)/\decide (0<m) = !decide (n=0):=by
 subst h;by_cases e:n=0
 · subst e;exact⟨rfl,rfl⟩
 · rw[decide_eq_false e];exact⟨decide_eq_true bU,decide_eq_true bU⟩
theorem amD (x:St) (P:Pl) (w:af) (hx:vK w x P):ah ae 107 #[.agg (cs x P),yM x.o] w (Gives (.bool (NG x)) w):=by
 have h1:=Ty hx.ar.len.1;have h2:=Ty hx.bo.len.1;have h3:=Ty hx.el.len.1;exact amE x P w (uN x.o) (uO x.o) (uE x.o) (uF x.o) (uA x.o) (uD x.o) (uG x.o) (uB x.o) (uL x.o) (!decide (bs x.nm=[])) (!decide (bs x.f=[])) (!Ex.same x.e zE) (!Ex.same x.g zE) (!decide (x.ar.length=0)) (!lW x.di zD) x.fl (!decide (x.bo.length=0)) (!decide (x.el.length=0)) _ _ _ _ _ _ _ _ _
  (Z fun W hb=>by rw[Bool.not_not];exact Ex.zK x.e zE P.ep P.em P.ec X 0 0 W (hx.e.on hb) Ex.bW.zero)
  (Z fun W hb=>by rw[Bool.not_not];exact Ex.zK x.g zE P.gp P.gm P.gc X 0 0 W (hx.g.on hb) Ex.bW.zero)
  (Z fun W hb => by
    rw[Bool.not_not];have h:=Di.zK x.di.op x.di.a x.di.b x.di.n P.vp x.di.vs.length P.vc P.wp x.di.ws.length P.wc _ _ 0 0 0 0 X 0 0 X 0 0 (fun i=>([]:List Int).getD i 0) (fun i=>([]:List Int).getD i 0) W (hx.on hb).vs (hx.on hb).ws (Di.tL _ _) (Di.tL _ _);rw[hx.Kr,hx.Kt] at h;have e:=NW x.di zD;rw[hx.Kr,hx.Kt] at e;rw[← e];exact h)
  (FN _) (FN _) h1.1 h1.2 rfl h2.1 h2.2 h3.1 h3.2 rfl rfl rfl rfl rfl rfl rfl rfl rfl
theorem ak3 {w':af} {g g2:Nat} {x:St} {P:Pl} {a1 a2 a3 a4 a5 a6 a7 a8 a9:Bool} (h:dG w' g x P/\w'.heap[g2]?=Y (.cells #[.bool a1,.bool a2,.bool a3,.bool a4,.bool a5,.bool a6,.bool a7,.bool a8,.bool a9] 158 (0,0))):w'.cell? ⟨g,1,X⟩=Y (.string x.nm)/\w'.cell? ⟨g,2,X⟩=Y (.string x.f)/\w'.cell? ⟨g,3,X⟩=Y (.int .i64 x.e.o)/\w'.cell? ⟨g,4,X⟩=Y (.string x.e.s)/\w'.cell? ⟨g,5,X⟩=Y (.int .i64 x.e.n)/\w'.cell? ⟨g,6,X⟩=Y (.slice P.ep P.em P.ec)/\w'.cell? ⟨g,7,X⟩=Y (.int .i64 x.g.o)/\w'.cell? ⟨g,8,X⟩=Y (.string x.g.s)/\w'.cell? ⟨g,9,X⟩=Y (.int .i64 x.g.n)/\w'.cell? ⟨g,10,X⟩=Y (.slice P.gp P.gm P.gc)/\w'.cell? ⟨g,11,X⟩=Y (.slice P.ap P.am P.ac)/\w'.cell? ⟨g,12,X⟩=Y (.int .i64 x.di.op)/\w'.cell? ⟨g,13,X⟩=Y (.int .i64 x.di.a)/\w'.cell? ⟨g,14,X⟩=Y (.int .i64 x.di.b)/\w'.cell? ⟨g,15,X⟩=Y (.int .i64 x.di.n)/\w'.cell? ⟨g,16,X⟩=Y (.slice P.vp P.vm P.vc)/\w'.cell? ⟨g,17,X⟩=Y (.slice P.wp P.wm P.wc)/\w'.cell? ⟨g2,0,X⟩=Y (.bool a1)/\w'.cell? ⟨g2,1,X⟩=Y (.bool a2)/\w'.cell? ⟨g2,2,X⟩=Y (.bool a3)/\w'.cell? ⟨g2,3,X⟩=Y (.bool a4)/\w'.cell? ⟨g2,4,X⟩=Y (.bool a5)/\w'.cell? ⟨g2,5,X⟩=Y (.bool a6):=
 ⟨h.1.c1,h.1.c2,h.1.c3,h.1.c4,h.1.c5,h.1.c6,h.1.c7,h.1.c8,h.1.c9,h.1.c10,h.1.c11,h.1.c12,h.1.c13,h.1.c14,h.1.c15,h.1.c16,h.1.c17,rE h.2 rfl,rE h.2 rfl,rE h.2 rfl,rE h.2 rfl,rE h.2 rfl,rE h.2 rfl⟩
theorem ahr (w:af) (t:TypeId) (r1 r2 r3 r4 r5 r6:Int):∀i,(h:i<[r1,r2,r3,r4,r5,r6].length)->(w.alloc (.cells #[.int .i64 r1,.int .i64 r2,.int .i64 r3,.int .i64 r4,.int .i64 r5,.int .i64 r6] t)).cell? ⟨w.heap.size,i,X⟩=Y (.int .i64 [r1,r2,r3,r4,r5,r6][i]):=by
 intro i h;rw[World.cell?_alloc_mark]
 match i,h with
 | 0,_=>rfl
 | 1,_=>rfl
 | 2,_=>rfl
 | 3,_=>rfl
 | 4,_=>rfl
 | 5,_=>rfl
theorem X9 {w w1:af} (x:St) (P:Pl) (c:Array Value) (hb1:ag (w.alloc (.cells (cs x P) 58)).heap.size (w.alloc (.cells (cs x P) 58)) w1):Hid (∀W,ag (w1.alloc (.cells c 158)).heap.size (w1.alloc (.cells c 158)) W->dG W w.heap.size x P/\W.heap[w1.heap.size]?=Y (.cells c 158 (0,0))):=Z fun W hb=>by
 have h1:dG (w.alloc (.cells (cs x P) 58)) w.heap.size x P:=Ak;have h2:=World.alloc_heap_new w1 (.cells c 158);exact⟨((h1.on hb1).on (show ag w1.heap.size w1 _ by exact bl)).on hb,(hb.block _ cz).trans h2⟩
theorem amk (x:St) (P:Pl) (w:af) (HX:Hid (vK w x P)) (a1 a2 a3 a4 a5 a6 a7 a8 a9 K O:Bool) (r1 r2 r3 r4 r5 r6:Int)
 (CU:Hid (∀W,ag w.heap.size w W->ah ae 106 #[.int .i64 x.o] W (Gives (.tuple #[.agg #[.bool a1,.bool a2,.bool a3,.bool a4,.bool a5,.bool a6,.bool a7,.bool a8,.bool a9],.bool K]) W)))
 (CO:Hid (∀W,ag w.heap.size w W->ah ae 107 #[.agg (cs x P),.agg #[.bool a1,.bool a2,.bool a3,.bool a4,.bool a5,.bool a6,.bool a7,.bool a8,.bool a9]] W (Gives (.bool O) W)))
 (C1:Hid (∀W,ag w.heap.size w W->ah ae 108 #[.bool a1,.func (.func 50) #[] #[],.string x.nm] W (Gives (.int .i64 r1) W)))
 (C2:Hid (∀W,ag w.heap.size w W->ah ae 108 #[.bool a2,.func (.func 50) #[] #[],.string x.f] W (Gives (.int .i64 r2) W)))
 (C3:Hid (∀W,ag w.heap.size w W->ah ae 109 #[.bool a3,.func (.func 13) #[] #[],.agg #[.int .i64 x.e.o,.string x.e.s,.int .i64 x.e.n,.slice P.ep P.em P.ec]] W (Gives (.int .i64 r3) W)))
 (C4:Hid (∀W,ag w.heap.size w W->ah ae 109 #[.bool a4,.func (.func 13) #[] #[],.agg #[.int .i64 x.g.o,.string x.g.s,.int .i64 x.g.n,.slice P.gp P.gm P.gc]] W (Gives (.int .i64 r4) W)))
 (C5:Hid (∀W,ag w.heap.size w W->ah ae 110 #[.bool a5,.func (.func 111) #[] #[],.slice P.ap P.am P.ac] W (Gives (.int .i64 r5) W)))
 (C6:Hid (∀W,ag w.heap.size w W->ah ae 112 #[.bool a6,.func (.func 113) #[] #[],.agg #[.int .i64 x.di.op,.int .i64 x.di.a,.int .i64 x.di.b,.int .i64 x.di.n,.slice P.vp P.vm P.vc,.slice P.wp P.wm P.wc]] W (Gives (.int .i64 r6) W))) :
 ah ae 60 #[.agg (cs x P)] w (Gives (.int .i64 (if K && !O then ic [r1,r2,r3,r4,r5,r6] else 1)) w):=by
 obtain⟨n21,nT⟩:∃n:Nat,21=n:=⟨_,rfl⟩
 have hsz:∀w,(sizeOf 58).run ae w=.ok n21 w:=fun w=>by rw[sizeOf58,nT]
 have lg:=Z nT;clear nT;have hcsz:(cs x P).size=n21:=lg.out
 cases K with
 | false=>
  rw[show(if (false && !O)=true then ic [r1,r2,r3,r4,r5,r6] else 1)=(1:Int) from rfl];go_enter func60,ntmps60;go_wp2_with fail;refine(CU.out _ bl).mono ?_;exact KY
 | true=>
  cases O with
  | true=>
   rw[show(if (true && !true)=true then ic [r1,r2,r3,r4,r5,r6] else 1)=(1:Int) from rfl];go_enter func60,ntmps60;go_wp2_with fail;refine(CU.out _ bl).mono ?_;rintro e w1 ⟨rfl,hb1⟩;have FX:=X9 x P #[.bool a1,.bool a2,.bool a3,.bool a4,.bool a5,.bool a6,.bool a7,.bool a8,.bool a9] hb1;have q:=FX.out _ (ak _ _);have ld1:=q.1.cell.gJ lg.out;clear q;go_wp2_with fail;refine(CO.out _ bl).mono ?_;exact CJ
  | false=>
   rw[show(if (true && !false)=true then ic [r1,r2,r3,r4,r5,r6] else 1)=ic [r1,r2,r3,r4,r5,r6] from rfl];go_enter func60,ntmps60;go_wp2_with fail;refine(CU.out _ bl).mono ?_;rintro e w1 ⟨rfl,hb1⟩;have FX:=X9 x P #[.bool a1,.bool a2,.bool a3,.bool a4,.bool a5,.bool a6,.bool a7,.bool a8,.bool a9] hb1;have q:=FX.out _ (ak _ _);have ld1:=q.1.cell.gJ lg.out;clear q;go_wp2_with fail;refine(CO.out _ bl).mono ?_;rintro e w2 ⟨rfl,hb2⟩;clear ld1 hcsz;go_wp2_with fail;go_region_held3 (fun w'=>w'.cell? ⟨w.heap.size,1,X⟩=Y (.string x.nm)/\w'.cell? ⟨w.heap.size,2,X⟩=Y (.string x.f)/\w'.cell? ⟨w.heap.size,3,X⟩=Y (.int .i64 x.e.o)/\w'.cell? ⟨w.heap.size,4,X⟩=Y (.string x.e.s)/\w'.cell? ⟨w.heap.size,5,X⟩=Y (.int .i64 x.e.n)/\w'.cell? ⟨w.heap.size,6,X⟩=Y (.slice P.ep P.em P.ec)/\w'.cell? ⟨w.heap.size,7,X⟩=Y (.int .i64 x.g.o)/\w'.cell? ⟨w.heap.size,8,X⟩=Y (.string x.g.s)/\w'.cell? ⟨w.heap.size,9,X⟩=Y (.int .i64 x.g.n)/\w'.cell? ⟨w.heap.size,10,X⟩=Y (.slice P.gp P.gm P.gc)/\w'.cell? ⟨w.heap.size,11,X⟩=Y (.slice P.ap P.am P.ac)/\w'.cell? ⟨w.heap.size,12,X⟩=Y (.int .i64 x.di.op)/\w'.cell? ⟨w.heap.size,13,X⟩=Y (.int .i64 x.di.a)/\w'.cell? ⟨w.heap.size,14,X⟩=Y (.int .i64 x.di.b)/\w'.cell? ⟨w.heap.size,15,X⟩=Y (.int .i64 x.di.n)/\w'.cell? ⟨w.heap.size,16,X⟩=Y (.slice P.vp P.vm P.vc)/\w'.cell? ⟨w.heap.size,17,X⟩=Y (.slice P.wp P.wm P.wc)/\w'.cell? ⟨w1.heap.size,0,X⟩=Y (.bool a1)/\w'.cell? ⟨w1.heap.size,1,X⟩=Y (.bool a2)/\w'.cell? ⟨w1.heap.size,2,X⟩=Y (.bool a3)/\w'.cell? ⟨w1.heap.size,3,X⟩=Y (.bool a4)/\w'.cell? ⟨w1.heap.size,4,X⟩=Y (.bool a5)/\w'.cell? ⟨w1.heap.size,5,X⟩=Y (.bool a6)) (first|(refine ak3 (FX.out _ ?_);exact bl;done)|(go_keep;done)) (first
    | (have t:=rO;go_at_call 49;refine(oL [r1,r2,r3,r4,r5,r6] _ 6 6 _ rfl bU (Z (ahr _ _ _ _ _ _ _ _))).mono ?_;rintro e w9 ⟨rfl,rfl⟩)
    | (have t:=I8;go_at_call 112;refine(C6.out _ bl).mono ?_;rintro e w8 ⟨rfl,rO⟩)
    | (have t:=hb6;go_at_call 110;refine(C5.out _ bl).mono ?_;rintro e w7 ⟨rfl,I8⟩)
    | (have t:=hb5;go_at_call 109;refine(C4.out _ bl).mono ?_;rintro e w6 ⟨rfl,hb6⟩)
    | (have t:=hb4;go_at_call 109;refine(C3.out _ bl).mono ?_;rintro e w5 ⟨rfl,hb5⟩)
    | (have t:=hb3;go_at_call 108;refine(C2.out _ bl).mono ?_;rintro e w4 ⟨rfl,hb4⟩)
    | (go_at_call 108;refine(C1.out _ bl).mono ?_;rintro e w3 ⟨rfl,hb3⟩))
   exact dS
theorem UZ {o:Int} {a1 a2 a3 a4 a5 a6 a7 a8 a9 K:Bool} (h1:uN o=a1) (h2:uO o=a2) (h3:uE o=a3) (h4:uF o=a4) (h5:uA o=a5) (h6:uD o=a6) (h7:uG o=a7) (h8:uB o=a8) (h9:uL o=a9) (hk:kn o=K) (w:af) :
 ah ae 106 #[.int .i64 o] w (Gives (.tuple #[.agg #[.bool a1,.bool a2,.bool a3,.bool a4,.bool a5,.bool a6,.bool a7,.bool a8,.bool a9],.bool K]) w):=by
 subst h1 h2 h3 h4 h5 h6 h7 h8 h9 hk;exact UY o w
theorem ain {w:af} {x:St} {P:Pl} (hx:vK w x P):ah ae 113 #[.agg #[.int .i64 x.di.op,.int .i64 x.di.a,.int .i64 x.di.b,.int .i64 x.di.n,.slice P.vp P.vm P.vc,.slice P.wp P.wm P.wc]] w (Gives (.int .i64 (qJ x.di)) w):=by
 have h:=Di.oC x.di.op x.di.a x.di.b x.di.n P.vp x.di.vs.length P.vc P.wp x.di.ws.length P.wc _ _ w hx.vs hx.ws;rw[show qJ x.di=Di.DD x.di.op x.di.a x.di.b x.di.n x.di.vs.length x.di.ws.length (fun i=>x.di.vs.getD i 0) (fun i=>x.di.ws.getD i 0) from rfl];rw[hx.Kr,hx.Kt] at h ⊢;exact h
theorem Nz (x:St) (P:Pl) (w:af) (hx:vK w x P) (hs:Dh x):ah ae 60 #[.agg (cs x P)] w (Gives (.int .i64 (Eg x)) w):=by
 have e:Eg x=if kn x.o && !NG x then ic [onE (uN x.o) (fT (bs x.nm)),onE (uO x.o) (fT (bs x.f)),onE (uE x.o) (fU false x.e),onE (uF x.o) (fU false x.g),onE (uA x.o) (Dj x.ar),onE (uD x.o) (qJ x.di)] else 1:=by
  rw[amC,Bool.not_not];unfold Eg acr;simp only[ic,tH]
 rw[e];exact amk x P w (Z hx) _ _ _ _ _ _ _ _ _ _ _ _ _ _ _ _ _ (Z fun W hb=>UZ rfl rfl rfl rfl rfl rfl rfl rfl rfl rfl W) (Z fun W hb=>amD x P W (hx.on hb))
  (Z fun W hb=>adt _ _ _ W (Z fun _ U hu=>Na.oC x.nm U (by have:=hs.1;omega)))
  (Z fun W hb=>adt _ _ _ W (Z fun _ U hu=>Na.oC x.f U (by have:=hs.2.1;omega)))
  (Z fun W hb=>ads _ _ _ _ _ _ W (Z fun _ U hu=>Ex.oC x.e P.ep P.em P.ec U ((hx.e.on hb).on hu) hs.2.2.1.1 hs.2.2.1.2))
  (Z fun W hb=>ads _ _ _ _ _ _ W (Z fun _ U hu=>Ex.oC x.g P.gp P.gm P.gc U ((hx.g.on hb).on hu) hs.2.2.2.1.1 hs.2.2.2.1.2))
  (Z fun W hb=>ap_ _ _ _ _ _ W (Z fun _ U hu=>agc x.ar P.ap P.am P.ac U ((hx.on hb).on hu).ar hs.2.2.2.2))
  (Z fun W hb=>aqa _ x P _ W (Z fun _ U hu=>ain ((hx.on hb).on hu)))
end Sm
namespace Sm
open Go.RowKit Go.Shelf
open Ex (Gives block_lt uq Me Si pq F_)
attribute [local go_sem] Oper.semAt_some
attribute [local go_sem] cs0 cs1 cs2 wo wu wy wB wC wD wE vQ vR vS vT vU vV vW vX vY vZ v_
theorem Rj {sl:List St} {D:Nat} (h:gW sl=D) (p:Option Addr) (m c:Nat) (w:af) (hi:qB w sl p m) (hc:eT sl<=4000000):ah ae 58 #[.slice p m c] w (Gives (.int .i64 (D:Nat)) w):=by rw[← h];exact Ri sl p m c w hi hc
theorem JJ {sl:List St} {b:Bool} (h:decide (200<eT sl)=b) (p:Option Addr) (m c:Nat) (w:af) (hi:qB w sl p m) (hs:lu sl):ah ae 57 #[.slice p m c,.int .i64 200] w (Gives (.bool b) w):=by rw[← h];exact TG sl p m c w hi hs
theorem aml {x:St} {v:Int} (h:Eg x=v) (P:Pl) (w:af) (hx:vK w x P) (hs:Dh x):ah ae 60 #[.agg (cs x P)] w (Gives (.int .i64 v) w):=by rw[← h];exact Nz x P w hx hs
def RS (w wr:af):Prop:=(wr.cell? ⟨w.heap.size,0,X⟩=Y (.int .i64 0)/\wr.frozen? ⟨w.heap.size,0,X⟩=false)/\Hid (ag w.heap.size w wr)/\w.heap.size+1<=wr.heap.size
theorem RS.on {w wr w2:af} (h:RS w wr) (hb:ag wr.heap.size wr w2):RS w w2:=by
 obtain⟨⟨h1,h2⟩,h3,h4⟩:=h;exact⟨⟨(hb.cell (p:=⟨w.heap.size,0,X⟩) (show w.heap.size<wr.heap.size by omega)).trans h1,(hb.frozen (p:=⟨w.heap.size,0,X⟩) (show w.heap.size<wr.heap.size by omega)).trans h2⟩,Z (h3.out.trans (hb.mono bU)),ai h4 hb.size⟩
theorem RS.new {w:af}:RS w (w.alloc (.cells #[.int .i64 0] 27)):=⟨uq w (.int .i64 0) 27,Z bl,by simp⟩
theorem oC (sl:List St) (p:Option Addr) (m c:Nat) (w:af) (h:qB w sl p m) (hs:lu sl):ah ae 25 #[.slice p m c] w (Gives (.int .i64 (kT sl)) w):=by
 by_cases h6:200<eT sl
 · have HM:=Z (fun W hi=>JJ (decide_eq_true h6) p m c W hi hs);have HH:=Z h;rw[show kT sl=6 by unfold kT;rw[if_pos h6]];clear h hs h6;go_enter func25,ntmps25;go_wp2_with fail;refine(HM.out _ (HH.out.on bl)).mono ?_;rintro e w1 ⟨rfl,hb1⟩;have HST:=Z (RS.new.on hb1);have hr:=HST.out.1.1;have hf:=HST.out.1.2;clear hb1;go_wp2_with fail
   (try simp only[Exit.inBlock,Exit.then])
   have bZ:=HST.out.2.1.out;have e1:(w1.setCell ⟨w.heap.size,0,X⟩ (.int .i64 6)).cell? ⟨w.heap.size,0,X⟩=Y (.int .i64 6):=World.cell?_setCell_same' _ _ _ (by rw[hr];rfl);exact bodyPost_ret (v:=.int .i64 6) (by simp[results,Tryz.f25,go_sem,e1]) rfl ⟨rfl,pq bZ bU _⟩
 have HM:=Z (fun W hi=>JJ (decide_eq_false h6) p m c W hi hs);have HD:=Z (fun W hi=>Rj (sl:=sl) rfl p m c W hi bU);by_cases h12:12<gW sl
 · have HH:=Z h;rw[show kT sl=11 by unfold kT;rw[if_neg h6,if_pos h12]];obtain⟨D,hD⟩:∃D,gW sl=D:=⟨_,rfl⟩
   rw[hD] at HD h12;have d1:(12:Int)<(D:Int):=by omega
   have d2:decide ((12:Int)<(D:Int))=true:=decide_eq_true d1;clear h hs h6 hD h12;go_enter func25,ntmps25;go_wp2_with fail;refine(HM.out _ (HH.out.on bl)).mono ?_;rintro e w1 ⟨rfl,hb1⟩;have HST:=Z (RS.new.on hb1);clear hb1;go_wp2_with fail;refine(HD.out _ (HH.out.on HST.out.2.1.out)).mono ?_;rintro e w2 ⟨rfl,hb2⟩;have sM:=Z (HST.out.on hb2);have hr:=sM.out.1.1;have hf:=sM.out.1.2;clear hb2;go_wp2_with fail
   (try simp only[Exit.inBlock,Exit.then])
   have bZ:=sM.out.2.1.out;have e1:(w2.setCell ⟨w.heap.size,0,X⟩ (.int .i64 11)).cell? ⟨w.heap.size,0,X⟩=Y (.int .i64 11):=World.cell?_setCell_same' _ _ _ (by rw[hr];rfl);exact bodyPost_ret (v:=.int .i64 11) (by simp[results,Tryz.f25,go_sem,e1]) rfl ⟨rfl,pq bZ bU _⟩
 have HH:=Z h;have HS:=Z hs;rw[show kT sl=o_ (fq sl) by unfold kT;rw[if_neg h6,if_neg h12]];obtain⟨D,hD⟩:∃D,gW sl=D:=⟨_,rfl⟩
 rw[hD] at HD h12;have d1:(D:Int)<=12:=by omega
 have d2:decide ((12:Int)<(D:Int))=false:=decide_eq_false bU;clear h hs h6 hD h12;obtain⟨n21,nT⟩:∃n:Nat,21=n:=⟨_,rfl⟩
 have hsz:∀w,(sizeOf 58).run ae w=.ok n21 w:=fun w=>by rw[sizeOf58,nT]
 have lg:=Z nT;clear nT;refine(callsIn_wide (n:=3)).1 ?_;refine callsIn_of_wp_marks func25 rfl trivial ?_ rfl;simp only[ntmps25,List.size_toArray,List.length_cons,List.length_nil,Nat.reduceAdd,Nat.reduceSub,Array.replicate_succ,Array.replicate_zero,List.push_toArray,List.append_toArray,List.nil_append,List.cons_append]
 gi_wp2_with fail
 refine⟨trivial,?_⟩;refine(callsIn_wide.2 (HM.out _ (HH.out.on bl))).mono ?_;rintro e w1 ⟨rfl,hb1⟩;have HST:=Z (RS.new.on hb1);clear hb1
 gi_wp2_with fail
 refine⟨trivial,?_⟩;refine(callsIn_wide.2 (HD.out _ (HH.out.on HST.out.2.1.out))).mono ?_;rintro e w2 ⟨rfl,hb2⟩;have sM:=Z (HST.out.on hb2);clear hb2
 gi_wp2_with fail
 refine⟨trivial,?_⟩;refine(adb Fence.wide _ trivial rfl _ _ _ _).mono ?_;rintro e w3 ⟨rfl,hw3⟩;have hb3:ag w2.heap.size w2 w3:=by rw[hw3];exact bl
 have hx3:=uq w2 (.slice p m c) 39;rw[← hw3] at hx3;have hz3:w3.heap.size=w2.heap.size+1:=by rw[hw3];simp
 have Bo:=sM.out.on hb3;clear hw3
 gi_wp2
 have hs2:=sM.out.2.2;have bZ:=Bo.2.1;refine wpIn_rangeFunc_ownH rfl bU (gf:=104) (lb:=#[.pointer (Y ⟨w2.heap.size,0,X⟩)]) rfl trivial (enters_of func104 dA rfl)
  (adf Fence.wide rfl trivial trivial rfl _ w2.heap.size w.heap.size w3.heap.size w (aj _) sl p m c w3 hx3.1 HH.out HS.out bZ.out (aj _)) (fun h k=>h.trans k) (Kp.put bU) (ak _ _) (fun _=>rfl)
  (fun ps W=>(W.cell? ⟨w.heap.size,0,X⟩=Y (.int .i64 0)/\W.frozen? ⟨w.heap.size,0,X⟩=false/\o_ (ps.map Nd.x)=0/\w3.heap.size<=W.heap.size)/\ag w.heap.size w W)
  (fun c' ps W=>(c'=.ret/\∃v:Int,¬v=0/\o_ (ps.map Nd.x)=v/\W.cell? ⟨w.heap.size,0,X⟩=Y (.int .i64 v))/\ag w.heap.size w W)
  (OwnFrom.and (Own.from (fun s A B row hs hg hr=>⟨cell_kept hs.1 hg hr,(frozen_kept hs.1 hg hr).trans hs.2.1,hs.2.2.1,ai hs.2.2.2 hg.size⟩) _) (ownFrom_below (aj _) bU))
  (fun c'=>OwnFrom.and (Own.from (fun s A B row hs hg hr=>⟨hs.1,let ⟨v,h1,h2,h3⟩:=hs.2;⟨v,h1,h2,cell_kept h3 hg hr⟩⟩) _) (ownFrom_below (aj _) bU))
  ⟨⟨Bo.1.1,Bo.1.2,rfl,aj _⟩,bZ.out⟩
  (fun x a' W=>∃Bx,w3.heap.size<=Bx/\dG W Bx x.x x.P/\a'={ tmps:=#[.slice p m c,undef,.pointer (Y ⟨w.heap.size,0,X⟩),.pointer (Y ⟨Bx,0,X⟩),undef,.slice p m c,.bool false,.slice p m c,.int .i64 (D:Nat),.bool false,.slice p m c,.func (.func 104) #[] #[.pointer (Y ⟨w2.heap.size,0,X⟩)],.agg (cs x.x x.P),undef,undef,undef,undef,undef],defers:=[] })
  (fun x a' _ A B row hs hg hr=>let ⟨Bx,h1,h2,h3⟩:=hs;⟨Bx,h1,dG.own (β:=Unit) _ _ _ () A B row h2 hg (fun r e=>(hr r e).2),h3⟩) ?assign ?body ?done ?stop
 case assign=>
  intro l ps x W K hi hK;simp only[uI];have hcsz:(cs x.x x.P).size=n21:=lg.out;have st1:=Kg x.x x.P;have st2:=Ki x.x x.P;have qZ:=Kh x.x x.P
  gi_wp2
  have hbW:ag W.heap.size W (W.alloc (.cells (cs x.x x.P) 58)):=bl;have hle:=hi.2.size;refine hK _ _ (F_ hbW) (Kp.of_below hbW hle) ?_ ⟨W.heap.size,?_,Ak,?_⟩
  · exact⟨⟨Me _ hi.1.1,Si _ hi.1.1 hi.1.2.1,hi.1.2.2.1,ai hi.1.2.2.2 hbW.size⟩,hi.2.trans (hbW.mono hle)⟩
  · exact hi.1.2.2.2
  · simp[go_sem]
 case body=>
  rintro l ps x a' W hl ⟨r,hr⟩ ⟨⟨h2,h3,h4,h5⟩,hB⟩ ⟨Bx,hBx,hbx,rfl⟩ hlt;obtain⟨v,hv⟩:∃v,Eg x.x=v:=⟨_,rfl⟩
  have HN:=Z (aml hv x.P W (x.hi.below hB).all x.hs);have Lm:=Z (show o_ ((ps++[x]).map Nd.x)=v by rw[List.map_append];exact(agr h4).trans hv);have H5:=Z h5;have mg:=Z hB;have ld1:=hbx.cell.gJ lg.out;clear hv h4 h5 hB hlt hr hbx
  gi_wp2_with fail
  refine⟨trivial,?_⟩;refine(CallsIn.inRound l (callsIn_wide.2 HN.out)).mono ?_;rintro e w4 ⟨rfl,hb4⟩;have g2:=(hb4.cell (p:=⟨w.heap.size,0,X⟩) (block_lt h2)).trans h2;have g3:=(hb4.frozen (p:=⟨w.heap.size,0,X⟩) (block_lt h2)).trans h3;have iH:=Z hb4;clear hb4 h2 h3 ld1;by_cases hv0:v=0
  · subst hv0
    gi_wp2
    exact⟨F_ iH.out,Kp.of_below iH.out mg.out.size,⟨g2,g3,Lm.out,ai H5.out iH.out.size⟩,mg.out.trans (iH.out.mono mg.out.size)⟩
  · have t0:(v==0)=false:=beq_eq_false_iff_ne.2 hv0;have t1:(v != 0)=true:=bne_iff_ne.2 hv0;exact zzp
 case done=>
  rintro D' ys W hD hys ⟨⟨h2,h3,h4,h5⟩,hB⟩ hK;have HV:=Z (show o_ (fq sl)=0 by rw[← hys];exact h4)
  gi_wp2
  have hK':=(KeepsOthers.setCell W ⟨w.heap.size,0,X⟩ (.int .i64 0)).same D' _ hK rfl;refine⟨by simp,.inl ⟨_,_,rfl,run_takeDeferred hK',?_⟩⟩;have rP:=cell_kept (World.cell?_setCell_same' W ⟨w.heap.size,0,X⟩ (.int .i64 0) (by rw[h2];rfl)) (grownBy_putObj' _ D' (.deferred X)) (fun r e=>by cases e;exact⟨_,hK',rfl⟩);refine⟨.int .i64 0,?_,by rw[HV.out],(pq hB bU _).trans (belowK_b (w:=w) (aj _) _ D' _ _ bU hK' rfl rfl)⟩;simp[results,Tryz.f25,go_sem,rP]
 case stop=>
  rintro D' c' ps W hD hps ⟨⟨rfl,v,hv0,hbv,hr⟩,hB⟩ hK;have HV:=Z (show o_ (fq sl)=v by
   obtain⟨r,hr⟩:=hps;rw[← hr,QB,hbv,tF hv0])
  gi_wp2
  refine⟨by simp,.inl ⟨_,_,rfl,run_takeDeferred hK,?_⟩⟩;have rP:=cell_kept hr (grownBy_putObj' _ D' (.deferred X)) (fun r e=>by cases e;exact⟨_,hK,rfl⟩);refine⟨.int .i64 v,?_,by rw[HV.out],hB.trans (belowK_b (w:=w) (aj _) W D' _ _ bU hK rfl rfl)⟩;simp[results,Tryz.f25,go_sem,rP]
end Sm
namespace Md
open Go.RowKit Go.Maps
open Sm (dQ tH)
open Ex (Lo)
structure gy (w0:af) (b:Nat) (K:af->Prop) (acc:List ByteArray) (W:af):Prop where
 below:ag w0.heap.size w0 W
 uU:iJ b acc W
 k:K W
def rz (b:Nat) (K:af->Prop):Prop:=∀W W2,K W->But b W W2->K W2
theorem rz.top (b:Nat):rz b (fun _=>True):=fun _ _ _ _=>trivial
theorem gy.fine {w0:af} {b:Nat} {K:af->Prop} (hb:w0.heap.size<=b) (hK:rz b K):qy w0 (gy w0 b K) where
 below _ _ h:=h.below
 on s W W2 h hW:=⟨h.below.trans (hW.mono h.below.size),h.uU.on hW,hK W W2 h.k (But.of hW)⟩
theorem gy.step {w0:af} {b:Nat} {K:af->Prop} (hb:w0.heap.size<=b) (hK:rz b K) {acc:List ByteArray} {W:af} (h:gy w0 b K acc W) {r:Int×List ByteArray} {e:Ending} {W2:af} (hs:Step b r W e W2):Does (gy w0 b K) r e W2:=
 ⟨hs.1,⟨But.below h.below hs.2.2 hb h.below.size,hs.2.1,hK W W2 h.k hs.2.2⟩⟩
theorem af5 (acc:List ByteArray) (x:ByteArray):(jm acc x).length<=acc.length+1:=by
 unfold jm;split <;> simp
theorem Sr {α:Type} {g:α->ByteArray×Int}:∀{l:List α} {s:List ByteArray},(dL (fun a x=>eP a (g x)) l s).2.length<=s.length+l.length
 | [],s=>by simp[dL]
 | x::t,s=>by
  have h1:=af5 s (g x).1;rw[dL,UB]
  split
  · have h2:=Sr (g:=g) (l:=t) (s:=jm s (g x).1);rw[List.length_cons]
    show(dL (fun a x=>eP a (g x)) t (jm s (g x).1)).2.length<=_
    omega
  · rw[List.length_cons]
    show(jm s (g x).1).length<=_
    omega
theorem zi {α:Type} {g:α->ByteArray×Int} {most:Nat} {l:List α} {s:List ByteArray}:(dB (fun a x=>eP a (g x)) most l s).2.length<=s.length+most:=by
 unfold dB
 split
 · show s.length<=_;omega
 · have:=Sr (g:=g) (l:=l) (s:=s);omega
theorem Ay {α:Type} {g:α->ByteArray×Int} {l:List α} {k most:Nat} {s s0:List ByteArray} (hm:l.length<=most) (h:dL (fun a x=>eP a (g x)) (l.take k) s0=(0,s)):s.length<=s0.length+most:=by
 have h1:=Sr (g:=g) (l:=l.take k) (s:=s0);rw[h,List.length_take] at h1;have:(s:List ByteArray).length<=s0.length+min k l.length:=h1;omega
theorem Qv (a c:Value):((#[a]:Array Value).push c++#[])=#[a,c]:=rfl
theorem Fg (c a:Value):((#[]:Array Value).push c++#[a])=#[c,a]:=rfl
theorem Qu (c a b:Value):((#[]:Array Value).push c++#[a,b])=#[c,a,b]:=rfl
theorem YQ {w0:af} {b:Nat} {K:af->Prop} (hb:w0.heap.size<=b) (hK:rz b K) {l:List Val} {p:Option Addr} {m c:Nat} (hl:Rw 3 iI (Lo w0.heap.size) w0 l p m) (hz:∀x∈l,x.nm.size<=9223372036854775807) (most:Nat) (sW:most<=1000) (s0:List ByteArray) (h0:s0.length<=50000) (W:af) (hW:gy w0 b K s0 W) :
 ah ae 51 #[.slice p m c,.int .i64 (most:Int),.func (.func 52) #[.map (Y b)] #[]] W (Does (gy w0 b K) (dB eP most (l.map EK) s0)):=by
 rw[oD];refine ai2 (Z hl) #[.map (Y b)] #[] (gy w0 b K) (Z (gy.fine hb hK)) (fun a x=>eP a (EK x)) most bU s0 (Z fun k s x c W hx hm hg hR hI=>?_) W (Z hW);rw[Qv,show c=ni x from hR];have:=Ay hm hg;exact(ahI x b s W hI.uU bU (hz x (List.mem_of_getElem? hx))).mono fun e W2 h=>hI.step hb hK h
theorem ai4 {w0:af} {b:Nat} {K:af->Prop} (hb:w0.heap.size<=b) (hK:rz b K) {l:List eZ} {p:Option Addr} {m c:Nat} (hl:Rw 2 dI (Lo w0.heap.size) w0 l p m) (hz:∀x∈l,x.nm.size<=9223372036854775807) (most:Nat) (sW:most<=1000) (s0:List ByteArray) (h0:s0.length<=50000) (W:af) (hW:gy w0 b K s0 W) :
 ah ae 191 #[.slice p m c,.int .i64 (most:Int),.func (.func 192) #[.map (Y b)] #[]] W (Does (gy w0 b K) (dB (fun a f=>eP a (IW f)) most l s0)):=by
 refine aiS (Z hl) #[.map (Y b)] #[] (gy w0 b K) (Z (gy.fine hb hK)) (fun a x=>eP a (IW x)) most bU s0 (Z fun k s x c W hx hm hg hR hI=>?_) W (Z hW);rw[Qv,show c=iy x from hR];have:=Ay hm hg;exact(ahw x b s W hI.uU bU (hz x (List.mem_of_getElem? hx))).mono fun e W2 h=>hI.step hb hK h
theorem IK {w0:af} {b:Nat} {K:af->Prop} (hb:w0.heap.size<=b) (hK:rz b K) {l:List ByteArray} {p:Option Addr} {m c:Nat} (hl:Rw 1 dZ (Lo w0.heap.size) w0 l p m) (hz:∀x∈l,x.size<=9223372036854775807) (most:Nat) (sW:most<=1000) (s0:List ByteArray) (h0:s0.length<=50000) (W:af) (hW:gy w0 b K s0 W) :
 ah ae 149 #[.slice p m c,.int .i64 (most:Int),.func (.func 91) #[.map (Y b)] #[]] W (Does (gy w0 b K) (dB eP most (l.map p_) s0)):=by
 rw[oD];refine ai1 (Z hl) #[.map (Y b)] #[] (gy w0 b K) (Z (gy.fine hb hK)) (fun a x=>eP a (p_ x)) most bU s0 (Z fun k s x W hx hm hg hI=>?_) W (Z hW);rw[Qv];have:=Ay hm hg;refine(Yj b s x W hI.uU bU (hz x (List.mem_of_getElem? hx))).mono fun e W2 h=>hI.step hb hK ?_;obtain⟨h1,h2,h3⟩:=h;refine⟨?_,h2,h3⟩;rw[h1]
 show _=Ending.returned (.int .i64 (dQ (jE s x) 0))
 rw[tH]
end Md
namespace Md
open Go.RowKit Go.Maps
open Sm (lu kT dQ oL)
open Ex (Lo Gives)
attribute [local go_sem] L8 XF ag2 XG
structure Lv (x:fD):Prop where
 nm:x.nm.size<=9223372036854775807
 fl:∀f∈x.ps++x.ls,f.nm.size<=9223372036854775807
 ln:(x.ps++x.ls).length<=1000000
 bo:lu x.bo
theorem aoL {w0:af}:gy w0 w0.heap.size (fun _=>True) [] (w0.alloc (.map #[] 0)):=⟨bl,World.ownsMap_made _ _ _ _,trivial⟩
theorem ahB (x:fD) (P:qC) (w:af) (hx:oV (Lo w.heap.size) w x P) (hz:Lv x):ah ae 152 #[.agg (kr x P)] w (Gives (.int .i64 (Et x)) w):=by
 have HX:=Z hx;have HZ:=Z hz;have FX:=far (w:=w) 210 (kr x P);obtain⟨hlp,hmp⟩:=hx.ps.len;obtain⟨hll,Jd⟩:=hx.ls.len;by_cases h6:6<P.nY
 · rw[show Et x=6 by unfold Et;rw[if_pos bU]];have d1:decide ((6:Int)<(P.nY:Int))=true:=decide_eq_true bU;have d2:(6:Int)<(P.nY:Int):=by omega
   clear hx hz hlp hmp hll Jd h6;go_enter func152,ntmps152;exact dS
 obtain⟨v1,hv1⟩:∃v,(dB (fun a f=>eP a (IW f)) 16 (x.ps++x.ls) []).1=v:=⟨_,rfl⟩
 obtain⟨v2,hv2⟩:∃v,kT x.bo=v:=⟨_,rfl⟩
 rw[show Et x=dQ v1 v2 by unfold Et;rw[if_neg bU,hv1,hv2]];have d1:decide ((6:Int)<(P.nY:Int))=false:=decide_eq_false bU;have d2:(P.nY:Int)<=6:=by omega
 have hN:P.nY+P.JG<=1000000:=by have:=hz.ln;rw[List.length_append] at this;omega
 have CC:=Z (fun W (b:Nat) (hW:ag w.heap.size w W) (hb:b<W.heap.size) h0 h1=>aif b P.Gs P.Nn P.nY P.NK P.JG P.TB x.ps x.ls W hb h0 h1 (HX.out.ps.on dI.map hW) (HX.out.ls.on dI.map hW) hN);have CB:=Z (fun W (hW:ag w.heap.size w W)=>(show ah ae 25 #[.slice P.Dp P.Dm P.Fw] W (Gives (.int .i64 v2) W) by rw[← hv2];exact Sm.oC x.bo P.Dp P.Dm P.Fw W ((HX.out.bo.map hW.size fun b g _=>⟨Nat.lt_of_lt_of_le g hW.size,hW.block b g⟩)) HZ.out.bo));have CE:=Z (fun(w0 W:af) (p:Option Addr) (m c:Nat) (hl:Rw 2 dI (Lo w0.heap.size) w0 (x.ps++x.ls) p m) (hW:gy w0 w0.heap.size (fun _=>True) [] W)=>(show ah ae 191 #[.slice p m c,.int .i64 16,.func (.func 192) #[.map (Y w0.heap.size)] #[]] W (fun e W2=>e=.returned (.int .i64 v1)/\ag w0.heap.size w0 W2) from(ai4 (aj _) (rz.top _) hl HZ.out.fl 16 bU [] cz W hW).mono fun e W2 h=>⟨by rw[h.1,hv1],h.2.below⟩));have FK:Hid (∀W,ag (w.alloc (.cells (kr x P) 210)).heap.size (w.alloc (.cells (kr x P) 210)) W->W.cell? ⟨w.heap.size,3,X⟩=Y (.slice P.Dp P.Dm P.Fw)):=Z fun W hb=>(FX.out W hb).get (XG x P);have HLn:=Z hz.ln;have hmm:=@run_makeMap ae;clear hx hz hlp hmp hll Jd h6 hv1 hv2 hN;go_enter func152,ntmps152;go_wp2_with fail;refine(CC.out _ (w.heap.size+1) bl cz (by go_simp) (by go_simp)).mono ?_;rintro e w2 ⟨v,rfl,hown,hb2⟩;obtain⟨fp,fc,rfl,hfl⟩:=hown.rw dI.map A9 HLn.out;have HF:=Z hfl;have hq:=FK.out w2 bl;obtain⟨fm,hfm⟩:∃n,(x.ps++x.ls).length=n:=⟨_,rfl⟩
 rw[hfm] at HF ⊢;clear hown hfl hfm;go_wp2_with fail;go_region_held3 (fun W=>W.cell? ⟨w.heap.size,3,X⟩=Y (.slice P.Dp P.Dm P.Fw)) (first|(refine FK.out _ ?_;exact bl;done)|(go_keep;done)) (first
  | (have t:=hb4;go_at_call 49;refine(oL [v1,v2] _ 2 2 _ rfl bU (Z (Al _ _ _ _))).mono ?_;rintro e w9 ⟨rfl,rfl⟩)
  | (have t:=hb3;go_at_call 25;refine(CB.out _ bl).mono ?_;rintro e w4 ⟨rfl,hb4⟩)
  | (go_at_call 191;refine(CE.out w2.drew _ _ _ _ HF.out aoL).mono ?_;rintro e w3 ⟨rfl,hb3⟩))
 all_goals
  have HB3:=Z hb4;go_wp2_with fail;go_ret;exact⟨by rw[← AR];rfl,bl⟩
end Md
namespace Md
open Go.ChangeShapes Go.WideShapes Go.ChangeAt Go.RowKit Go.Joins Go.Deep
open Sm (fq Ck Fits)
section
variable {H:Type} {enc:TypeId×Value->H}
structure PQ (B:Nat) (x:dV):Prop where
 t:True
theorem PQ.mono {B C:Nat} {x:dV} (iE:B<=C) (h:PQ B x):PQ C x where
 t:=trivial
structure Hy (B:Nat) (x:Val):Prop where
 nm:x.nm.size<=B
theorem Hy.mono {B C:Nat} {x:Val} (iE:B<=C) (h:Hy B x):Hy C x where
 nm:=by have:=h.nm;omega
structure Lf (B:Nat) (x:ko):Prop where
 nm:x.nm.size<=B
theorem Lf.mono {B C:Nat} {x:ko} (iE:B<=C) (h:Lf B x):Lf C x where
 nm:=by have:=h.nm;omega
structure K9 (B:Nat) (x:j_):Prop where
 nm:x.nm.size<=B
theorem K9.mono {B C:Nat} {x:j_} (iE:B<=C) (h:K9 B x):K9 C x where
 nm:=by have:=h.nm;omega
structure Hw (B:Nat) (x:eZ):Prop where
 nm:x.nm.size<=B
theorem Hw.mono {B C:Nat} {x:eZ} (iE:B<=C) (h:Hw B x):Hw C x where
 nm:=by have:=h.nm;omega
structure PT (B:Nat) (x:jD):Prop where
 wh:x.wh.size<=B
 nm:x.nm.size<=B
theorem PT.mono {B C:Nat} {x:jD} (iE:B<=C) (h:PT B x):PT C x where
 wh:=by have:=h.wh;omega
 nm:=by have:=h.nm;omega
structure K_ (B:Nat) (x:iY):Prop where
 fr:x.fr.size<=B
 tt:x.tt.size<=B
theorem K_.mono {B C:Nat} {x:iY} (iE:B<=C) (h:K_ B x):K_ C x where
 fr:=by have:=h.fr;omega
 tt:=by have:=h.tt;omega
structure Lb (B:Nat) (x:dx):Prop where
 nm:x.nm.size<=B
theorem Lb.mono {B C:Nat} {x:dx} (iE:B<=C) (h:Lb B x):Lb C x where
 nm:=by have:=h.nm;omega
structure Lc (B:Nat) (x:fD):Prop where
 nm:x.nm.size<=B
 ps:∀y∈x.ps,Hw B y
 ls:∀y∈x.ls,Hw B y
 pl:2*(x.ps.length+x.ls.length)<=B
 bs:Ck x.bo<=B
 bo:∀y∈fq x.bo,Fits B y
theorem Lc.mono {B C:Nat} {x:fD} (iE:B<=C) (h:Lc B x):Lc C x where
 nm:=by have:=h.nm;omega
 ps:=fun y hy=>(h.ps y hy).mono iE
 ls:=fun y hy=>(h.ls y hy).mono iE
 pl:=by have:=h.pl;omega
 bs:=by have:=h.bs;omega
 bo:=fun y hy=>(h.bo y hy).mono iE
structure Ld (B:Nat) (x:jf):Prop where
 t:True
theorem Ld.mono {B C:Nat} {x:jf} (iE:B<=C) (h:Ld B x):Ld C x where
 t:=trivial
structure La (B:Nat) (x:Lw):Prop where
 nm:x.nm.size<=B
theorem La.mono {B C:Nat} {x:Lw} (iE:B<=C) (h:La B x):La C x where
 nm:=by have:=h.nm;omega
structure Le (B:Nat) (x:cZ):Prop where
 nm:x.nm.size<=B
 va:∀y∈x.va,Hy B y
 vaL:2*x.va.length<=B
 rs:∀y∈x.rs,Lb B y
 rsL:2*x.rs.length<=B
 st:∀y∈x.st,Lf B y
 zN:2*x.st.length<=B
 be:∀y∈x.be,K9 B y
 Xm:2*x.be.length<=B
 qu:∀y∈x.qu,y.size<=B
 quL:x.qu.length<=B
 sm:∀y∈x.sm,y.size<=B
 smL:x.sm.length<=B
 ta:∀y∈x.ta,y.size<=B
 taL:x.ta.length<=B
 le:∀y∈x.le,y.size<=B
 leL:x.le.length<=B
 co:∀y∈x.co,y.size<=B
 Yd:x.co.length<=B
 ro:∀y∈x.ro,Lc B y
 roL:2*x.ro.length<=B
 ss:∀y∈x.ss,Ld B y
 ssL:2*x.ss.length<=B
 la:∀y∈x.la,La B y
 laL:2*x.la.length<=B
theorem Le.mono {B C:Nat} {x:cZ} (iE:B<=C) (h:Le B x):Le C x where
 nm:=by have:=h.nm;omega
 va:=fun y hy=>(h.va y hy).mono iE
 vaL:=by have:=h.vaL;omega
 rs:=fun y hy=>(h.rs y hy).mono iE
 rsL:=by have:=h.rsL;omega
 st:=fun y hy=>(h.st y hy).mono iE
 zN:=by have:=h.zN;omega
 be:=fun y hy=>(h.be y hy).mono iE
 Xm:=by have:=h.Xm;omega
 qu:=fun y hy=>ai (h.qu y hy) iE
 quL:=by have:=h.quL;omega
 sm:=fun y hy=>ai (h.sm y hy) iE
 smL:=by have:=h.smL;omega
 ta:=fun y hy=>ai (h.ta y hy) iE
 taL:=by have:=h.taL;omega
 le:=fun y hy=>ai (h.le y hy) iE
 leL:=by have:=h.leL;omega
 co:=fun y hy=>ai (h.co y hy) iE
 Yd:=by have:=h.Yd;omega
 ro:=fun y hy=>(h.ro y hy).mono iE
 roL:=by have:=h.roL;omega
 ss:=fun y hy=>(h.ss y hy).mono iE
 ssL:=by have:=h.ssL;omega
 la:=fun y hy=>(h.la y hy).mono iE
 laL:=by have:=h.laL;omega
structure PS (B:Nat) (x:dM):Prop where
 nm:x.nm.size<=B
 pa:∀y∈x.pa,Hy B y
 paL:x.pa.length<=B
 si:∀y∈x.si,Le B y
 zL:x.si.length<=B
 li:∀y∈x.li,K_ B y
 liL:x.li.length<=B
theorem PS.mono {B C:Nat} {x:dM} (iE:B<=C) (h:PS B x):PS C x where
 nm:=by have:=h.nm;omega
 pa:=fun y hy=>(h.pa y hy).mono iE
 paL:=by have:=h.paL;omega
 si:=fun y hy=>(h.si y hy).mono iE
 zL:=by have:=h.zL;omega
 li:=fun y hy=>(h.li y hy).mono iE
 liL:=by have:=h.liL;omega
end
end Md
namespace Md
open Go.RowKit Go.Maps
open Na (kH)
open Sm (nE)
open Ex (Lo Gives)
attribute [local go_sem] X0 ag9 ag_ LZ Xz QN XP
def vI:Prop:=∀(x:cZ) (P:fe) (s:ByteArray) (w:af),jc (Lo w.heap.size) w x P->ah ae 234 #[.agg (cK x P),.string s] w (Gives (.string (AF x s)) w)
theorem auC {p:Prop} (h:p:=by
 clear h1 h2 h3 HE;go_enter func226,ntmps226;go_wp2_with fail;refine(CC.out _).mono ?_;rintro e v1 ⟨rfl,rfl⟩;go_wp2_with fail;refine(CK.out _ bl).mono ?_;rintro e v2 ⟨rfl,hb2⟩;have q:=FY.out v2 bl;go_wp2_with fail;refine(CB.out _).mono ?_;rintro e v3 ⟨rfl,rfl⟩;exact dS
 ):p:=h
theorem ahH (hK:vI) (x:cZ) (P:fe) (t:jD) (w:af) (hx:jc (Lo w.heap.size) w x P):ah ae 226 #[.agg (cK x P),.agg (i_ t)] w (Gives (.int .i64 (tQ x t)) w):=by
 have HX:=Z hx;have FX:=xE (w:=w) 50 263 (cK x P) (i_ t);obtain⟨n13,jF⟩:∃n:Nat,13=n:=⟨_,rfl⟩
 have BK:∀w,(sizeOf 50).run ae w=.ok n13 w:=fun w=>by rw[sizeOf50,jF]
 have CY:=Z jF;have ld:=fun W=>((xE (w:=W) 50 263 (cK x P) (i_ t)).out _ (ak _ _)).1.cell.gJ CY.out;obtain⟨K,Sw⟩:∃v,FB t.wh=v:=⟨_,rfl⟩
 obtain⟨V,hV⟩:∃v,AF x t.nm=v:=⟨_,rfl⟩
 obtain⟨r,hr⟩:∃v,iL (-1000) t.co 1000=v:=⟨_,rfl⟩
 have CC:=Z (fun W=>(show ah ae 233 #[.string t.wh] W (oW (.string K) W) by rw[← Sw];exact aik _ W));have CK:=Z (fun W (hW:ag w.heap.size w W)=>(show ah ae 234 #[.agg (cK x P),.string t.nm] W (Gives (.string V) W) by rw[← hV];exact hK x P t.nm W (HX.out.on hW)));have CB:=Z (fun W=>Dl hr W);have HE:Hid (tQ x t=if K=nE then 1 else if V=K then (if t.co=0 then 2 else if r then 0 else 2) else 5):=Z (by unfold tQ;rw[Sw,hV,hr]);clear hx jF Sw hV hr hK;by_cases h1:K=nE
 · rw[show tQ x t=1 by rw[HE.out,if_pos h1]];have u1:K.toList.isEmpty=true:=by rw[FN,h1];decide
   have u2:(K.toList==(⟨#[]⟩:ByteArray).toList)=true:=by rw[GH];exact decide_eq_true h1
   clear h1 HE;go_enter func226,ntmps226;go_wp2_with fail;refine(CC.out _).mono ?_;rintro e v1 ⟨rfl,rfl⟩;exact dS
 have u1:K.toList.isEmpty=false:=by rw[FN];unfold gP;exact decide_eq_false (fun e=>h1 (kH e))
 have u2:(K.toList==(⟨#[]⟩:ByteArray).toList)=false:=by rw[GH];exact decide_eq_false h1
 by_cases h2:V=K;rotate_left 1
 · rw[show tQ x t=5 by rw[HE.out,if_neg h1,if_neg h2]];have u3:(V.toList==K.toList)=false:=by rw[GH];exact decide_eq_false h2
   have u4:(V.toList != K.toList)=true:=by rw[bne,u3];rfl
   clear h1 h2 HE;go_enter func226,ntmps226;go_wp2_with fail;refine(CC.out _).mono ?_;rintro e v1 ⟨rfl,rfl⟩;go_wp2_with fail;refine(CK.out _ bl).mono ?_;rintro e v2 ⟨rfl,hb2⟩;exact dS
 have u3:(V.toList==K.toList)=true:=by rw[GH];exact decide_eq_true h2
 have u4:(V.toList != K.toList)=false:=by rw[bne,u3];rfl
 have FY:Hid (∀W,ag ((w.alloc (.cells (cK x P) 50)).alloc (.cells (i_ t) 263)).heap.size ((w.alloc (.cells (cK x P) 50)).alloc (.cells (i_ t) 263)) W->W.cell? ⟨w.heap.size+1,0,X⟩=Y (.int .i64 t.co)):=Z fun W hb=>(FX.out W hb).2.get (X0 t);by_cases h3:t.co=0
 · rw[show tQ x t=2 by rw[HE.out,if_neg h1,if_pos h2,if_pos h3]];have u5:(t.co==0)=true:=beq_iff_eq.2 h3;clear h1 h2 h3 HE;go_enter func226,ntmps226;go_wp2_with fail;refine(CC.out _).mono ?_;rintro e v1 ⟨rfl,rfl⟩;go_wp2_with fail;refine(CK.out _ bl).mono ?_;rintro e v2 ⟨rfl,hb2⟩;have q:=FY.out v2 bl;exact dS
 have u5:(t.co==0)=false:=beq_eq_false_iff_ne.2 h3
 cases r with
 | false=>
  rw[show tQ x t=2 by rw[HE.out,if_neg h1,if_pos h2,if_neg h3];rfl];exact auC
 | true=>
  rw[show tQ x t=0 by rw[HE.out,if_neg h1,if_pos h2,if_neg h3];rfl];exact auC
theorem ah0 (hK:vI) (x:cZ) (P:fe) (t:jD) (B:Nat) (w:af) (hx:jc (Lo w.heap.size) w x P) (hB:bX w B 50 (cK x P)):ah ae 225 #[.agg (i_ t),.pointer (Y ⟨B,0,X⟩)] w (Gives (.int .i64 (tQ x t)) w):=by
 have HX:=Z hx;obtain⟨n13,jF⟩:∃n:Nat,13=n:=⟨_,rfl⟩
 have BK:∀w,(sizeOf 50).run ae w=.ok n13 w:=fun w=>by rw[sizeOf50,jF]
 have CY:=Z jF;have ld:=(hB.on (show ag w.heap.size w (w.alloc (.cells (i_ t) 263)) by exact bl)).cell.gJ CY.out;obtain⟨V,hV⟩:∃v,tQ x t=v:=⟨_,rfl⟩
 have CT:=Z (fun W (hW:ag w.heap.size w W)=>(show ah ae 226 #[.agg (cK x P),.agg (i_ t)] W (Gives (.int .i64 V) W) by rw[← hV];exact ahH hK x P t W (HX.out.on hW)));rw[hV];clear hx hB jF hV hK;go_enter func225,ntmps225;go_wp2_with fail;refine(CT.out _ bl).mono ?_;exact KZ
theorem apR (hK:vI) (x:cZ) (P:fe) (w0:af) (hx:jc (Lo w0.heap.size) w0 x P) {l:List jD} {p:Option Addr} {m c:Nat} (hl:Rw 3 jI (Lo w0.heap.size) w0 l p m) (B:Nat) (W:af) (hW:ag w0.heap.size w0 W) (hB:bX W B 50 (cK x P)) :
 ah ae 224 #[.slice p m c,.int .i64 ((8:Nat):Int),.func (.func 225) #[] #[.pointer (Y ⟨B,0,X⟩)]] W (fun e W2=>e=.returned (.int .i64 (BR (tQ x) 8 l))/\ag W.heap.size W W2):=by
 have F:qy w0 (fun(_:Unit) V=>ag W.heap.size W V):=⟨fun _ V h=>hW.trans (h.mono hW.size),fun _ V V2 h h2=>h.trans (h2.mono h.size)⟩
 refine(ai0 (Z hl) #[] #[.pointer (Y ⟨B,0,X⟩)] (fun(_:Unit) V=>ag W.heap.size W V) (Z F) (fun _ t=>(tQ x t,())) 8 bU () (Z fun k s t c V hx2 hm hg hR hI=>?_) W (Z (ak _ _))).mono fun e W2 h=>?_
 · rw[Fg,show c=i_ t from hR];exact(ah0 hK x P t B V (hx.on (hW.trans (hI.mono hW.size))) (hB.on hI)).mono fun e W2 h=>⟨h.1,hI.trans (h.2.mono hI.size)⟩
 · obtain⟨h1,h2⟩:=h;rw[YP] at h1;exact⟨h1,h2⟩
end Md
namespace Md
open Go.RowKit
theorem lM.slice {base:Nat} {w:af} {v:Value} {l:List ByteArray} (ho:lM 9 1 dZ base w v l):∃p m c,v=.slice p m c:=by
 obtain⟨L,h1,h2,h3⟩:=ho;rcases h3.2 with⟨rfl,-⟩|⟨g,cap,cur,rfl,-⟩
 · exact⟨X,0,0,rfl⟩
 · exact⟨_,_,_,rfl⟩
def Qj (W:af) (B:Nat) (x:cZ):Prop:=∀j,(h:j<(names x).length)->∃p m c,W.cell? ⟨B,j,X⟩=Y (.slice p m c)/\Rw 1 dZ (Bf B W.heap.size) W ((names x)[j]) p m
structure afU (x:cZ):Prop where
 va:x.va.length<1000000
 rs:x.rs.length<1000000
 st:x.st.length<1000000
 be:x.be.length<1000000
 ro:x.ro.length<1000000
end Md
namespace Md
open Go.RowKit
open Ex (block_lt)
theorem Rw.onB {B:Nat} {w w2:af} {l:List ByteArray} {p:Option Addr} {m:Nat} (hb:ag w.heap.size w w2) (h:Rw 1 dZ (Bf B w.heap.size) w l p m):Rw 1 dZ (Bf B w2.heap.size) w2 l p m:=h.map dZ.map hb.size fun k g hk=>⟨⟨Nat.lt_of_lt_of_le g.1 hb.size,g.2⟩,hb.block k hk⟩
theorem Qj.on {w w2:af} {B:Nat} {x:cZ} (hb:ag w.heap.size w w2) (h:Qj w B x):Qj w2 B x:=fun j hj=>by
 obtain⟨p,m,c,e,hr⟩:=h j hj;exact⟨p,m,c,(hb.cell (p:=⟨B,j,X⟩) (block_lt e)).trans e,hr.onB hb⟩
end Md
namespace Md
open Go.RowKit
structure Hu (U:af) (v:Value) (acc:List ByteArray) (W:af):Prop where
 own:lM 9 1 dZ U.heap.size W v acc
 below:ag U.heap.size U W
theorem Hu.nil (U:af):Hu U (.slice X 0 0) [] U:=⟨lM.nil,ak _ _⟩
theorem Hu.on {U W W2:af} {v:Value} {acc:List ByteArray} (h:Hu U v acc W) (hb:ag W.heap.size W W2):Hu U v acc W2:=⟨h.own.on dZ.map hb h.below.size,h.below.trans (hb.mono h.below.size)⟩
end Md
namespace Md
open Go.RowKit
structure Qk (x:cZ):Prop where
 nz:afU x
 nm:∀l∈names x,l.length<2000000
 ss:x.ss.length<2000000
 la:x.la.length<2000000
end Md
end Go.Proofs.YthnillhnjhalmaaGreatDoor
