/-
  Parts of this proof: The contract of checkOne. The contract of Check. The contract of Stmts. How lists of statements among the arguments are . The contract of checkRoutine. How models among the arguments are read, and wha.
-/
import Derived.Test.YtbgodajefaahdaaGreatDoorZPOth
import Derived.Test.YtbgodajefaahdaaGreatDoorZTStF
import Derived.Test.YtbgodajefaahdaaGreatDoorZTSzS
import Derived.JoinedCond
import Derived.Test.YtbgodajefaahdaaGreatDoorZQClo
set_option linter.unusedVariables false
open Go.Lib (hid)
namespace Go.Proofs.YtbgodajefaahdaaGreatDoor.Sm
open Go.RowKit
open Go.Proofs.YtbgodajefaahdaaGreatDoor.Na (bs chk)
open Go.Proofs.YtbgodajefaahdaaGreatDoor.Ex (Ex Kin Gives chkE)
attribute [local go_sem] cs0 cs1 cs2 cs3 cs4 cs5 cs6 cs7 cs8 cs9 cs10 cs11 cs12 cs13 cs14 cs15 cs16 cs17 cs18 cs19 cs20
set_option maxHeartbeats 4000000
def oth (x:St):Bool:=((((((((!uN x.o && !decide (bs x.nm=[]))||(!uO x.o && !decide (bs x.f=[])))||(!uE x.o && !Ex.same x.e zE))||(!uF x.o && !Ex.same x.g zE))||(!uA x.o && !decide (x.ar.length=0)))||(!uD x.o && !sameDt x.di zD))||(!uG x.o&&x.fl))||(!uB x.o && !decide (x.bo.length=0)))||(!uL x.o && !decide (x.el.length=0))
theorem oth_frm (x:St):oth x = !frm x:=by
 unfold oth frm;simp only[Bool.not_and,Bool.not_or,Bool.not_not]
theorem emp_is (s:ByteArray):s.toList.isEmpty = !(!decide (bs s=[])):=by
 rw[Bool.not_not,Lib.toList_data]
 show(bs s).isEmpty=_
 cases bs s with
 | nil=>rfl
 | cons x t=>rfl
theorem len_is {n m:Nat} (h:n=m):decide ((0:Int)<(m:Int)) = !decide (n=0)/\decide (0<m) = !decide (n=0):=by
 subst h;by_cases e:n=0
 · subst e;exact⟨rfl,rfl⟩
 · rw[decide_eq_false e];exact⟨decide_eq_true (by omega),decide_eq_true (by omega)⟩
theorem others_any (x:St) (P:Pl) (w:World) (hx:SIn w x P):Calls Tryz.prog 85 #[.agg (cs x P),usV x.o] w (Gives (.bool (oth x)) w):=by
 have h1:=len_is hx.ar.len.1;have h2:=len_is hx.bo.len.1;have h3:=len_is hx.el.len.1;exact others_walk x P w (uN x.o) (uO x.o) (uE x.o) (uF x.o) (uA x.o) (uD x.o) (uG x.o) (uB x.o) (uL x.o) (!decide (bs x.nm=[])) (!decide (bs x.f=[])) (!Ex.same x.e zE) (!Ex.same x.g zE) (!decide (x.ar.length=0)) (!sameDt x.di zD) x.fl (!decide (x.bo.length=0)) (!decide (x.el.length=0)) _ _ _ _ _ _ _ _ _
  (hid fun W hb=>by rw[Bool.not_not];exact Ex.same_any x.e zE P.ep P.em P.ec none 0 0 W (hx.e.on hb) Ex.Kin.zero)
  (hid fun W hb=>by rw[Bool.not_not];exact Ex.same_any x.g zE P.gp P.gm P.gc none 0 0 W (hx.g.on hb) Ex.Kin.zero)
  (hid fun W hb => by
    rw[Bool.not_not];have h:=Di.same_any x.di.op x.di.a x.di.b x.di.n P.vp x.di.vs.length P.vc P.wp x.di.ws.length P.wc _ _ 0 0 0 0 none 0 0 none 0 0 (fun i=>([]:List Int).getD i 0) (fun i=>([]:List Int).getD i 0) W (hx.on hb).vs (hx.on hb).ws (Di.row_nil _ _) (Di.row_nil _ _);rw[hx.vlen,hx.wlen] at h;have e:=sameD_list x.di zD;rw[hx.vlen,hx.wlen] at e;rw[← e];exact h)
  (emp_is _) (emp_is _) h1.1 h1.2 rfl h2.1 h2.2 h3.1 h3.2 rfl rfl rfl rfl rfl rfl rfl rfl rfl
theorem keepC {w':World} {g g2:Nat} {x:St} {P:Pl} {a1 a2 a3 a4 a5 a6 a7 a8 a9:Bool} (h:box21 w' g x P/\w'.heap[g2]?=some (.cells #[.bool a1,.bool a2,.bool a3,.bool a4,.bool a5,.bool a6,.bool a7,.bool a8,.bool a9] 166 (0,0))):w'.cell? ⟨g,1,none⟩=some (.string x.nm)/\w'.cell? ⟨g,2,none⟩=some (.string x.f)/\w'.cell? ⟨g,3,none⟩=some (.int .i64 x.e.o)/\w'.cell? ⟨g,4,none⟩=some (.string x.e.s)/\w'.cell? ⟨g,5,none⟩=some (.int .i64 x.e.n)/\w'.cell? ⟨g,6,none⟩=some (.slice P.ep P.em P.ec)/\w'.cell? ⟨g,7,none⟩=some (.int .i64 x.g.o)/\w'.cell? ⟨g,8,none⟩=some (.string x.g.s)/\w'.cell? ⟨g,9,none⟩=some (.int .i64 x.g.n)/\w'.cell? ⟨g,10,none⟩=some (.slice P.gp P.gm P.gc)/\w'.cell? ⟨g,11,none⟩=some (.slice P.ap P.am P.ac)/\w'.cell? ⟨g,12,none⟩=some (.int .i64 x.di.op)/\w'.cell? ⟨g,13,none⟩=some (.int .i64 x.di.a)/\w'.cell? ⟨g,14,none⟩=some (.int .i64 x.di.b)/\w'.cell? ⟨g,15,none⟩=some (.int .i64 x.di.n)/\w'.cell? ⟨g,16,none⟩=some (.slice P.vp P.vm P.vc)/\w'.cell? ⟨g,17,none⟩=some (.slice P.wp P.wm P.wc)/\w'.cell? ⟨g2,0,none⟩=some (.bool a1)/\w'.cell? ⟨g2,1,none⟩=some (.bool a2)/\w'.cell? ⟨g2,2,none⟩=some (.bool a3)/\w'.cell? ⟨g2,3,none⟩=some (.bool a4)/\w'.cell? ⟨g2,4,none⟩=some (.bool a5)/\w'.cell? ⟨g2,5,none⟩=some (.bool a6):=
 ⟨h.1.c1,h.1.c2,h.1.c3,h.1.c4,h.1.c5,h.1.c6,h.1.c7,h.1.c8,h.1.c9,h.1.c10,h.1.c11,h.1.c12,h.1.c13,h.1.c14,h.1.c15,h.1.c16,h.1.c17,cell_at h.2 rfl,cell_at h.2 rfl,cell_at h.2 rfl,cell_at h.2 rfl,cell_at h.2 rfl,cell_at h.2 rfl⟩
theorem cells6 (w:World) (t:TypeId) (r1 r2 r3 r4 r5 r6:Int):∀i,(h:i<[r1,r2,r3,r4,r5,r6].length)->(w.alloc (.cells #[.int .i64 r1,.int .i64 r2,.int .i64 r3,.int .i64 r4,.int .i64 r5,.int .i64 r6] t)).cell? ⟨w.heap.size,i,none⟩=some (.int .i64 [r1,r2,r3,r4,r5,r6][i]):=by
 intro i h;rw[World.cell?_alloc_mark]
 match i,h with
 | 0,_=>rfl
 | 1,_=>rfl
 | 2,_=>rfl
 | 3,_=>rfl
 | 4,_=>rfl
 | 5,_=>rfl
theorem chk_far {w w1:World} (x:St) (P:Pl) (c:Array Value) (hb1:Below (w.alloc (.cells (cs x P) 60)).heap.size (w.alloc (.cells (cs x P) 60)) w1):Hid (∀W,Below (w1.alloc (.cells c 166)).heap.size (w1.alloc (.cells c 166)) W->box21 W w.heap.size x P/\W.heap[w1.heap.size]?=some (.cells c 166 (0,0))):=hid fun W hb=>by
 have h1:box21 (w.alloc (.cells (cs x P) 60)) w.heap.size x P:=box_new21;have h2:=World.alloc_heap_new w1 (.cells c 166);exact⟨((h1.on hb1).on (show Below w1.heap.size w1 _ by exact bl)).on hb,(hb.block _ (by simp)).trans h2⟩
set_option maxRecDepth 100000 in
theorem one_chk (x:St) (P:Pl) (w:World) (HX:Hid (SIn w x P)) (a1 a2 a3 a4 a5 a6 a7 a8 a9 K O:Bool) (r1 r2 r3 r4 r5 r6:Int)
 (CU:Hid (∀W,Below w.heap.size w W->Calls Tryz.prog 84 #[.int .i64 x.o] W (Gives (.tuple #[.agg #[.bool a1,.bool a2,.bool a3,.bool a4,.bool a5,.bool a6,.bool a7,.bool a8,.bool a9],.bool K]) W)))
 (CO:Hid (∀W,Below w.heap.size w W->Calls Tryz.prog 85 #[.agg (cs x P),.agg #[.bool a1,.bool a2,.bool a3,.bool a4,.bool a5,.bool a6,.bool a7,.bool a8,.bool a9]] W (Gives (.bool O) W)))
 (C1:Hid (∀W,Below w.heap.size w W->Calls Tryz.prog 86 #[.bool a1,.func (.func 35) #[] #[],.string x.nm] W (Gives (.int .i64 r1) W)))
 (C2:Hid (∀W,Below w.heap.size w W->Calls Tryz.prog 86 #[.bool a2,.func (.func 35) #[] #[],.string x.f] W (Gives (.int .i64 r2) W)))
 (C3:Hid (∀W,Below w.heap.size w W->Calls Tryz.prog 87 #[.bool a3,.func (.func 25) #[] #[],.agg #[.int .i64 x.e.o,.string x.e.s,.int .i64 x.e.n,.slice P.ep P.em P.ec]] W (Gives (.int .i64 r3) W)))
 (C4:Hid (∀W,Below w.heap.size w W->Calls Tryz.prog 87 #[.bool a4,.func (.func 25) #[] #[],.agg #[.int .i64 x.g.o,.string x.g.s,.int .i64 x.g.n,.slice P.gp P.gm P.gc]] W (Gives (.int .i64 r4) W)))
 (C5:Hid (∀W,Below w.heap.size w W->Calls Tryz.prog 88 #[.bool a5,.func (.func 89) #[] #[],.slice P.ap P.am P.ac] W (Gives (.int .i64 r5) W)))
 (C6:Hid (∀W,Below w.heap.size w W->Calls Tryz.prog 90 #[.bool a6,.func (.func 91) #[] #[],.agg #[.int .i64 x.di.op,.int .i64 x.di.a,.int .i64 x.di.b,.int .i64 x.di.n,.slice P.vp P.vm P.vc,.slice P.wp P.wm P.wc]] W (Gives (.int .i64 r6) W))) :
 Calls Tryz.prog 45 #[.agg (cs x P)] w (Gives (.int .i64 (if K && !O then orL [r1,r2,r3,r4,r5,r6] else 1)) w):=by
 obtain⟨n21,hn21⟩:∃n:Nat,21=n:=⟨_,rfl⟩
 have hsz:∀w,(sizeOf 60).run Tryz.prog w=.ok n21 w:=fun w=>by rw[Tryz.sizeOf60,hn21]
 have HN21:=hid hn21;clear hn21;have hcsz:(cs x P).size=n21:=HN21.out
 cases K with
 | false=>
  rw[show(if (false && !O)=true then orL [r1,r2,r3,r4,r5,r6] else 1)=(1:Int) from rfl];go_enter Tryz.func45,Tryz.ntmps45;go_wp2_with fail;refine(CU.out _ bl).mono ?_;rintro e w1 ⟨rfl,hb1⟩;go_wp2_with fail;go_ret;exact⟨rfl,bl⟩
 | true=>
  cases O with
  | true=>
   rw[show(if (true && !true)=true then orL [r1,r2,r3,r4,r5,r6] else 1)=(1:Int) from rfl];go_enter Tryz.func45,Tryz.ntmps45;go_wp2_with fail;refine(CU.out _ bl).mono ?_;rintro e w1 ⟨rfl,hb1⟩;have FX:=chk_far x P #[.bool a1,.bool a2,.bool a3,.bool a4,.bool a5,.bool a6,.bool a7,.bool a8,.bool a9] hb1;have q:=FX.out _ (Below.refl _ _);have ld1:=q.1.cell.ldN HN21.out;clear q;go_wp2_with fail;refine(CO.out _ bl).mono ?_;rintro e w2 ⟨rfl,hb2⟩;go_wp2_with fail;go_ret;exact⟨rfl,bl⟩
  | false=>
   rw[show(if (true && !false)=true then orL [r1,r2,r3,r4,r5,r6] else 1)=orL [r1,r2,r3,r4,r5,r6] from rfl];go_enter Tryz.func45,Tryz.ntmps45;go_wp2_with fail;refine(CU.out _ bl).mono ?_;rintro e w1 ⟨rfl,hb1⟩;have FX:=chk_far x P #[.bool a1,.bool a2,.bool a3,.bool a4,.bool a5,.bool a6,.bool a7,.bool a8,.bool a9] hb1;have q:=FX.out _ (Below.refl _ _);have ld1:=q.1.cell.ldN HN21.out;clear q;go_wp2_with fail;refine(CO.out _ bl).mono ?_;rintro e w2 ⟨rfl,hb2⟩;clear ld1 hcsz;go_wp2_with fail;go_region_held3 (fun w'=>w'.cell? ⟨w.heap.size,1,none⟩=some (.string x.nm)/\w'.cell? ⟨w.heap.size,2,none⟩=some (.string x.f)/\w'.cell? ⟨w.heap.size,3,none⟩=some (.int .i64 x.e.o)/\w'.cell? ⟨w.heap.size,4,none⟩=some (.string x.e.s)/\w'.cell? ⟨w.heap.size,5,none⟩=some (.int .i64 x.e.n)/\w'.cell? ⟨w.heap.size,6,none⟩=some (.slice P.ep P.em P.ec)/\w'.cell? ⟨w.heap.size,7,none⟩=some (.int .i64 x.g.o)/\w'.cell? ⟨w.heap.size,8,none⟩=some (.string x.g.s)/\w'.cell? ⟨w.heap.size,9,none⟩=some (.int .i64 x.g.n)/\w'.cell? ⟨w.heap.size,10,none⟩=some (.slice P.gp P.gm P.gc)/\w'.cell? ⟨w.heap.size,11,none⟩=some (.slice P.ap P.am P.ac)/\w'.cell? ⟨w.heap.size,12,none⟩=some (.int .i64 x.di.op)/\w'.cell? ⟨w.heap.size,13,none⟩=some (.int .i64 x.di.a)/\w'.cell? ⟨w.heap.size,14,none⟩=some (.int .i64 x.di.b)/\w'.cell? ⟨w.heap.size,15,none⟩=some (.int .i64 x.di.n)/\w'.cell? ⟨w.heap.size,16,none⟩=some (.slice P.vp P.vm P.vc)/\w'.cell? ⟨w.heap.size,17,none⟩=some (.slice P.wp P.wm P.wc)/\w'.cell? ⟨w1.heap.size,0,none⟩=some (.bool a1)/\w'.cell? ⟨w1.heap.size,1,none⟩=some (.bool a2)/\w'.cell? ⟨w1.heap.size,2,none⟩=some (.bool a3)/\w'.cell? ⟨w1.heap.size,3,none⟩=some (.bool a4)/\w'.cell? ⟨w1.heap.size,4,none⟩=some (.bool a5)/\w'.cell? ⟨w1.heap.size,5,none⟩=some (.bool a6)) (first|(refine keepC (FX.out _ ?_);exact bl;done)|(go_keep;done)) (first
    | (have t:=hb8;go_at_call 34;refine(or_any [r1,r2,r3,r4,r5,r6] _ 6 6 _ rfl (by omega) (hid (cells6 _ _ _ _ _ _ _ _))).mono ?_;rintro e w9 ⟨rfl,rfl⟩)
    | (have t:=hb7;go_at_call 90;refine(C6.out _ bl).mono ?_;rintro e w8 ⟨rfl,hb8⟩)
    | (have t:=hb6;go_at_call 88;refine(C5.out _ bl).mono ?_;rintro e w7 ⟨rfl,hb7⟩)
    | (have t:=hb5;go_at_call 87;refine(C4.out _ bl).mono ?_;rintro e w6 ⟨rfl,hb6⟩)
    | (have t:=hb4;go_at_call 87;refine(C3.out _ bl).mono ?_;rintro e w5 ⟨rfl,hb5⟩)
    | (have t:=hb3;go_at_call 86;refine(C2.out _ bl).mono ?_;rintro e w4 ⟨rfl,hb4⟩)
    | (go_at_call 86;refine(C1.out _ bl).mono ?_;rintro e w3 ⟨rfl,hb3⟩))
   go_wp2_with fail;go_ret;exact⟨rfl,bl⟩
theorem usage_gives {o:Int} {a1 a2 a3 a4 a5 a6 a7 a8 a9 K:Bool} (h1:uN o=a1) (h2:uO o=a2) (h3:uE o=a3) (h4:uF o=a4) (h5:uA o=a5) (h6:uD o=a6) (h7:uG o=a7) (h8:uB o=a8) (h9:uL o=a9) (hk:kn o=K) (w:World) :
 Calls Tryz.prog 84 #[.int .i64 o] w (Gives (.tuple #[.agg #[.bool a1,.bool a2,.bool a3,.bool a4,.bool a5,.bool a6,.bool a7,.bool a8,.bool a9],.bool K]) w):=by
 subst h1 h2 h3 h4 h5 h6 h7 h8 h9 hk;exact usage_any o w
theorem dcheck_any {w:World} {x:St} {P:Pl} (hx:SIn w x P):Calls Tryz.prog 91 #[.agg #[.int .i64 x.di.op,.int .i64 x.di.a,.int .i64 x.di.b,.int .i64 x.di.n,.slice P.vp P.vm P.vc,.slice P.wp P.wm P.wc]] w (Gives (.int .i64 (dtE x.di)) w):=by
 have h:=Di.check_any x.di.op x.di.a x.di.b x.di.n P.vp x.di.vs.length P.vc P.wp x.di.ws.length P.wc _ _ w hx.vs hx.ws;rw[show dtE x.di=Di.errD x.di.op x.di.a x.di.b x.di.n x.di.vs.length x.di.ws.length (fun i=>x.di.vs.getD i 0) (fun i=>x.di.ws.getD i 0) from rfl];rw[hx.vlen,hx.wlen] at h ⊢;exact h
theorem one_any (x:St) (P:Pl) (w:World) (hx:SIn w x P) (hs:SzS x):Calls Tryz.prog 45 #[.agg (cs x P)] w (Gives (.int .i64 (oneE x)) w):=by
 have e:oneE x=if kn x.o && !oth x then orL [onE (uN x.o) (chk (bs x.nm)),onE (uO x.o) (chk (bs x.f)),onE (uE x.o) (chkE false x.e),onE (uF x.o) (chkE false x.g),onE (uA x.o) (argE x.ar),onE (uD x.o) (dtE x.di)] else 1:=by
  rw[oth_frm,Bool.not_not];unfold oneE restE;simp only[orL,orE_right]
 rw[e];exact one_chk x P w (hid hx) _ _ _ _ _ _ _ _ _ _ _ _ _ _ _ _ _ (hid fun W hb=>usage_gives rfl rfl rfl rfl rfl rfl rfl rfl rfl rfl W) (hid fun W hb=>others_any x P W (hx.on hb))
  (hid fun W hb=>usedS_any _ _ _ W (hid fun _ U hu=>Na.check_any x.nm U (by have:=hs.1;omega)))
  (hid fun W hb=>usedS_any _ _ _ W (hid fun _ U hu=>Na.check_any x.f U (by have:=hs.2.1;omega)))
  (hid fun W hb=>usedE_any _ _ _ _ _ _ W (hid fun _ U hu=>Ex.check_any x.e P.ep P.em P.ec U ((hx.e.on hb).on hu) hs.2.2.1.1 hs.2.2.1.2))
  (hid fun W hb=>usedE_any _ _ _ _ _ _ W (hid fun _ U hu=>Ex.check_any x.g P.gp P.gm P.gc U ((hx.g.on hb).on hu) hs.2.2.2.1.1 hs.2.2.2.1.2))
  (hid fun W hb=>usedA_any _ _ _ _ _ W (hid fun _ U hu=>args_check x.ar P.ap P.am P.ac U ((hx.on hb).on hu).ar hs.2.2.2.2))
  (hid fun W hb=>usedD_any _ x P _ W (hid fun _ U hu=>dcheck_any ((hx.on hb).on hu)))
end Go.Proofs.YtbgodajefaahdaaGreatDoor.Sm
namespace Go.Proofs.YtbgodajefaahdaaGreatDoor.Sm
open Go.RowKit Go.Shelf
open Go.Proofs.YtbgodajefaahdaaGreatDoor.Ex (Gives block_lt cell_new cell_alloc_on frozen_alloc_on below_set keeps_below)
attribute [local go_sem] Oper.semAt_some
attribute [local go_sem] cs0 cs1 cs2 cs3 cs4 cs5 cs6 cs7 cs8 cs9 cs10 cs11 cs12 cs13 cs14 cs15 cs16 cs17 cs18 cs19 cs20
set_option maxHeartbeats 4000000
theorem depth_gives {sl:List St} {D:Nat} (h:dpL sl=D) (p:Option Addr) (m c:Nat) (w:World) (hi:LIn w sl p m) (hc:cnL sl<=4000000):Calls Tryz.prog 43 #[.slice p m c] w (Gives (.int .i64 (D:Nat)) w):=by rw[← h];exact depth_any sl p m c w hi hc
theorem more_gives {sl:List St} {b:Bool} (h:decide (200<cnL sl)=b) (p:Option Addr) (m c:Nat) (w:World) (hi:LIn w sl p m) (hs:SzL sl):Calls Tryz.prog 42 #[.slice p m c,.int .i64 200] w (Gives (.bool b) w):=by rw[← h];exact more_any sl p m c w hi hs
theorem one_gives {x:St} {v:Int} (h:oneE x=v) (P:Pl) (w:World) (hx:SIn w x P) (hs:SzS x):Calls Tryz.prog 45 #[.agg (cs x P)] w (Gives (.int .i64 v) w):=by rw[← h];exact one_any x P w hx hs
def RS (w wr:World):Prop:=(wr.cell? ⟨w.heap.size,0,none⟩=some (.int .i64 0)/\wr.frozen? ⟨w.heap.size,0,none⟩=false)/\Hid (Below w.heap.size w wr)/\w.heap.size+1<=wr.heap.size
theorem RS.on {w wr w2:World} (h:RS w wr) (hb:Below wr.heap.size wr w2):RS w w2:=by
 obtain⟨⟨h1,h2⟩,h3,h4⟩:=h;exact⟨⟨(hb.cell (p:=⟨w.heap.size,0,none⟩) (show w.heap.size<wr.heap.size by omega)).trans h1,(hb.frozen (p:=⟨w.heap.size,0,none⟩) (show w.heap.size<wr.heap.size by omega)).trans h2⟩,hid (h3.out.trans (hb.mono (by omega))),Nat.le_trans h4 hb.size⟩
theorem RS.new {w:World}:RS w (w.alloc (.cells #[.int .i64 0] 28)):=⟨cell_new w (.int .i64 0) 28,hid bl,by simp⟩
set_option maxRecDepth 100000 in
theorem check_any (sl:List St) (p:Option Addr) (m c:Nat) (w:World) (h:LIn w sl p m) (hs:SzL sl):Calls Tryz.prog 18 #[.slice p m c] w (Gives (.int .i64 (chkL sl)) w):=by
 by_cases h6:200<cnL sl
 · have HM:=hid (fun W hi=>more_gives (decide_eq_true h6) p m c W hi hs);have HH:=hid h;rw[show chkL sl=6 by unfold chkL;rw[if_pos h6]];clear h hs h6;go_enter Tryz.func18,Tryz.ntmps18;go_wp2_with fail;refine(HM.out _ (HH.out.on bl)).mono ?_;rintro e w1 ⟨rfl,hb1⟩;have HST:=hid (RS.new.on hb1);have hr:=HST.out.1.1;have hf:=HST.out.1.2;clear hb1;go_wp2_with fail
   (try simp only[Exit.inBlock,Exit.then])
   have HBB:=HST.out.2.1.out;have e1:(w1.setCell ⟨w.heap.size,0,none⟩ (.int .i64 6)).cell? ⟨w.heap.size,0,none⟩=some (.int .i64 6):=World.cell?_setCell_same' _ _ _ (by rw[hr];rfl);exact bodyPost_ret (v:=.int .i64 6) (by simp[results,Tryz.f18,go_sem,e1]) rfl ⟨rfl,below_set HBB (by omega) _⟩
 have HM:=hid (fun W hi=>more_gives (decide_eq_false h6) p m c W hi hs);have HD:=hid (fun W hi=>depth_gives (sl:=sl) rfl p m c W hi (by omega));by_cases h12:12<dpL sl
 · have HH:=hid h;rw[show chkL sl=11 by unfold chkL;rw[if_neg h6,if_pos h12]];obtain⟨D,hD⟩:∃D,dpL sl=D:=⟨_,rfl⟩
   rw[hD] at HD h12;have d1:(12:Int)<(D:Int):=by omega
   have d2:decide ((12:Int)<(D:Int))=true:=decide_eq_true d1;clear h hs h6 hD h12;go_enter Tryz.func18,Tryz.ntmps18;go_wp2_with fail;refine(HM.out _ (HH.out.on bl)).mono ?_;rintro e w1 ⟨rfl,hb1⟩;have HST:=hid (RS.new.on hb1);clear hb1;go_wp2_with fail;refine(HD.out _ (HH.out.on HST.out.2.1.out)).mono ?_;rintro e w2 ⟨rfl,hb2⟩;have HST2:=hid (HST.out.on hb2);have hr:=HST2.out.1.1;have hf:=HST2.out.1.2;clear hb2;go_wp2_with fail
   (try simp only[Exit.inBlock,Exit.then])
   have HBB:=HST2.out.2.1.out;have e1:(w2.setCell ⟨w.heap.size,0,none⟩ (.int .i64 11)).cell? ⟨w.heap.size,0,none⟩=some (.int .i64 11):=World.cell?_setCell_same' _ _ _ (by rw[hr];rfl);exact bodyPost_ret (v:=.int .i64 11) (by simp[results,Tryz.f18,go_sem,e1]) rfl ⟨rfl,below_set HBB (by omega) _⟩
 have HH:=hid h;have HS:=hid hs;rw[show chkL sl=badS (ordL sl) by unfold chkL;rw[if_neg h6,if_neg h12]];obtain⟨D,hD⟩:∃D,dpL sl=D:=⟨_,rfl⟩
 rw[hD] at HD h12;have d1:(D:Int)<=12:=by omega
 have d2:decide ((12:Int)<(D:Int))=false:=decide_eq_false (by omega);clear h hs h6 hD h12;obtain⟨n21,hn21⟩:∃n:Nat,21=n:=⟨_,rfl⟩
 have hsz:∀w,(sizeOf 60).run Tryz.prog w=.ok n21 w:=fun w=>by rw[Tryz.sizeOf60,hn21]
 have HN21:=hid hn21;clear hn21;refine(callsIn_wide (n:=3)).1 ?_;refine callsIn_of_wp_marks Tryz.func18 rfl trivial ?_ rfl;simp only[Tryz.ntmps18,List.size_toArray,List.length_cons,List.length_nil,Nat.reduceAdd,Nat.reduceSub,Array.replicate_succ,Array.replicate_zero,List.push_toArray,List.append_toArray,List.nil_append,List.cons_append]
 gi_wp2_with fail
 refine⟨trivial,?_⟩;refine(callsIn_wide.2 (HM.out _ (HH.out.on bl))).mono ?_;rintro e w1 ⟨rfl,hb1⟩;have HST:=hid (RS.new.on hb1);clear hb1
 gi_wp2_with fail
 refine⟨trivial,?_⟩;refine(callsIn_wide.2 (HD.out _ (HH.out.on HST.out.2.1.out))).mono ?_;rintro e w2 ⟨rfl,hb2⟩;have HST2:=hid (HST.out.on hb2);clear hb2
 gi_wp2_with fail
 refine⟨trivial,?_⟩;refine(statements_in Fence.wide _ trivial rfl _ _ _ _).mono ?_;rintro e w3 ⟨rfl,hw3⟩;have hb3:Below w2.heap.size w2 w3:=by rw[hw3];exact bl
 have hx3:=cell_new w2 (.slice p m c) 31;rw[← hw3] at hx3;have hz3:w3.heap.size=w2.heap.size+1:=by rw[hw3];simp
 have HST3:=HST2.out.on hb3;clear hw3
 gi_wp2
 have hs2:=HST2.out.2.2;have HBB:=HST3.2.1;refine wpIn_rangeFunc_ownH rfl (by omega) (gf:=82) (lb:=#[.pointer (some ⟨w2.heap.size,0,none⟩)]) rfl trivial (enters_of Tryz.func82 (by kernel_rfl) rfl)
  (stmts_stops Fence.wide rfl trivial trivial rfl _ w2.heap.size w.heap.size w3.heap.size w (Nat.le_refl _) sl p m c w3 hx3.1 HH.out HS.out HBB.out (Nat.le_refl _)) (fun h k=>h.trans k) (Kp.put (by omega)) (Below.refl _ _) (fun _=>rfl)
  (fun ps W=>(W.cell? ⟨w.heap.size,0,none⟩=some (.int .i64 0)/\W.frozen? ⟨w.heap.size,0,none⟩=false/\badS (ps.map Nd.x)=0/\w3.heap.size<=W.heap.size)/\Below w.heap.size w W)
  (fun c' ps W=>(c'=.ret/\∃v:Int,¬v=0/\badS (ps.map Nd.x)=v/\W.cell? ⟨w.heap.size,0,none⟩=some (.int .i64 v))/\Below w.heap.size w W)
  (OwnFrom.and (Own.from (fun s A B row hs hg hr=>⟨cell_kept hs.1 hg hr,(frozen_kept hs.1 hg hr).trans hs.2.1,hs.2.2.1,Nat.le_trans hs.2.2.2 hg.size⟩) _) (ownFrom_below (Nat.le_refl _) (by omega)))
  (fun c'=>OwnFrom.and (Own.from (fun s A B row hs hg hr=>⟨hs.1,let ⟨v,h1,h2,h3⟩:=hs.2;⟨v,h1,h2,cell_kept h3 hg hr⟩⟩) _) (ownFrom_below (Nat.le_refl _) (by omega)))
  ⟨⟨HST3.1.1,HST3.1.2,rfl,Nat.le_refl _⟩,HBB.out⟩
  (fun x a' W=>∃Bx,w3.heap.size<=Bx/\box21 W Bx x.x x.P/\a'={ tmps:=#[.slice p m c,undef,.pointer (some ⟨w.heap.size,0,none⟩),.pointer (some ⟨Bx,0,none⟩),undef,.slice p m c,.bool false,.slice p m c,.int .i64 (D:Nat),.bool false,.slice p m c,.func (.func 82) #[] #[.pointer (some ⟨w2.heap.size,0,none⟩)],.agg (cs x.x x.P),undef,undef,undef,undef,undef],defers:=[] })
  (fun x a' _ A B row hs hg hr=>let ⟨Bx,h1,h2,h3⟩:=hs;⟨Bx,h1,box21.own (β:=Unit) _ _ _ () A B row h2 hg (fun r e=>(hr r e).2),h3⟩) ?assign ?body ?done ?stop
 case assign=>
  intro l ps x W K hi hK;simp only[encN];have hcsz:(cs x.x x.P).size=n21:=HN21.out;have st1:=st_store x.x x.P;have st2:=st_storeVar x.x x.P;have st3:=st_storeAt x.x x.P
  gi_wp2
  have hbW:Below W.heap.size W (W.alloc (.cells (cs x.x x.P) 60)):=bl;have hle:=hi.2.size;refine hK _ _ (keeps_below hbW) (Kp.of_below hbW hle) ?_ ⟨W.heap.size,?_,box_new21,?_⟩
  · exact⟨⟨cell_alloc_on _ hi.1.1,frozen_alloc_on _ hi.1.1 hi.1.2.1,hi.1.2.2.1,Nat.le_trans hi.1.2.2.2 hbW.size⟩,hi.2.trans (hbW.mono hle)⟩
  · exact hi.1.2.2.2
  · simp[go_sem]
 case body=>
  rintro l ps x a' W hl ⟨r,hr⟩ ⟨⟨h2,h3,h4,h5⟩,hB⟩ ⟨Bx,hBx,hbx,rfl⟩ hlt;obtain⟨v,hv⟩:∃v,oneE x.x=v:=⟨_,rfl⟩
  have HN:=hid (one_gives hv x.P W (x.hi.below hB).all x.hs);have HSN:=hid (show badS ((ps++[x]).map Nd.x)=v by rw[List.map_append];exact(badS_snoc h4).trans hv);have H5:=hid h5;have HBW:=hid hB;have ld1:=hbx.cell.ldN HN21.out;clear hv h4 h5 hB hlt hr hbx
  gi_wp2_with fail
  refine⟨trivial,?_⟩;refine(CallsIn.inRound l (callsIn_wide.2 HN.out)).mono ?_;rintro e w4 ⟨rfl,hb4⟩;have g2:=(hb4.cell (p:=⟨w.heap.size,0,none⟩) (block_lt h2)).trans h2;have g3:=(hb4.frozen (p:=⟨w.heap.size,0,none⟩) (block_lt h2)).trans h3;have HB4:=hid hb4;clear hb4 h2 h3 ld1;by_cases hv0:v=0
  · subst hv0
    gi_wp2
    exact⟨keeps_below HB4.out,Kp.of_below HB4.out HBW.out.size,⟨g2,g3,HSN.out,Nat.le_trans H5.out HB4.out.size⟩,HBW.out.trans (HB4.out.mono HBW.out.size)⟩
  · have t0:(v==0)=false:=beq_eq_false_iff_ne.2 hv0;have t1:(v != 0)=true:=bne_iff_ne.2 hv0
    gi_wp2
    refine⟨(keeps_below HB4.out).trans ((KeepsOthers.setCell _ _ _).from _),⟨rfl,v,hv0,HSN.out,?_⟩,below_set (HBW.out.trans (HB4.out.mono HBW.out.size)) (by omega) _⟩;exact World.cell?_setCell_same' _ _ _ (by rw[g2];rfl)
 case done=>
  rintro D' ys W hD hys ⟨⟨h2,h3,h4,h5⟩,hB⟩ hK;have HV:=hid (show badS (ordL sl)=0 by rw[← hys];exact h4)
  gi_wp2
  have hK':=(KeepsOthers.setCell W ⟨w.heap.size,0,none⟩ (.int .i64 0)).same D' _ hK rfl;refine⟨by simp,.inl ⟨_,_,rfl,run_takeDeferred hK',?_⟩⟩;have hc5:=cell_kept (World.cell?_setCell_same' W ⟨w.heap.size,0,none⟩ (.int .i64 0) (by rw[h2];rfl)) (grownBy_putObj' _ D' (.deferred none)) (fun r e=>by cases e;exact⟨_,hK',rfl⟩);refine⟨.int .i64 0,?_,by rw[HV.out],(below_set hB (by omega) _).trans (belowK_b (w:=w) (Nat.le_refl _) _ D' _ _ (by omega) hK' rfl rfl)⟩;simp[results,Tryz.f18,go_sem,hc5]
 case stop=>
  rintro D' c' ps W hD hps ⟨⟨rfl,v,hv0,hbv,hr⟩,hB⟩ hK;have HV:=hid (show badS (ordL sl)=v by
   obtain⟨r,hr⟩:=hps;rw[← hr,badS_app,hbv,orE_no hv0])
  gi_wp2
  refine⟨by simp,.inl ⟨_,_,rfl,run_takeDeferred hK,?_⟩⟩;have hc5:=cell_kept hr (grownBy_putObj' _ D' (.deferred none)) (fun r e=>by cases e;exact⟨_,hK,rfl⟩);refine⟨.int .i64 v,?_,by rw[HV.out],hB.trans (belowK_b (w:=w) (Nat.le_refl _) W D' _ _ (by omega) hK rfl rfl)⟩;simp[results,Tryz.f18,go_sem,hc5]
end Go.Proofs.YtbgodajefaahdaaGreatDoor.Sm
namespace Go.Proofs.YtbgodajefaahdaaGreatDoor.Ps
open Go.RowKit
open Go.Proofs.YtbgodajefaahdaaGreatDoor.Lx (bs Tokd tokL tokN tokE own_toks tokens_any)
open Go.Proofs.YtbgodajefaahdaaGreatDoor.Sm (St Lin LIn chkL)
set_option maxHeartbeats 600000
def rdS (s:List UInt8):List St×Int×Int:=rdG [] oSt chkL s
def SO (q:List St×Int×Int) (w:World) (e:Ending) (w':World):Prop:=Below w.heap.size w w'/\∃p m c,e=.returned (.tuple #[.slice p m c,.int .i64 q.2.1,.int .i64 q.2.2])/\Lin (fun b=>w.heap.size<=b) w' q.1 p m
theorem SO.mk {q:List St×Int×Int} {w w':World} {x:List St} {p:Option Addr} {m c:Nat} {a b:Int} (hq:q=(x,a,b)) (hb:Below w.heap.size w w') (hk:Lin (fun b=>w.heap.size<=b) w' x p m):SO q w (.returned (.tuple #[.slice p m c,.int .i64 a,.int .i64 b])) w':=by subst hq;exact⟨hb,p,m,c,rfl,hk⟩
theorem zEB_0 {p:Prop} (h:p:=by have HBB:=HB.out;have q1:=hb2;have q:Eqv (fun k=>k<w.heap.size) _ w2:=Eqv.of q1;exact qe):p:=h
set_option maxRecDepth 100000 in
theorem readS_any (s:ByteArray) (w:World) (hs:s.size<=9223372036854775807) (hE:Nu.Env w):Calls Tryz.prog 16 #[.string s,.func (.func 17) #[] #[],.func (.func 18) #[] #[]] w (SO (rdS (bs s)) w):=by
 have HE:Hid (∀W,Below w.heap.size w W->Calls Tryz.prog 27 #[.string s] W (Tokd W (tokL (bs s)) (tokN (bs s)) (tokE (bs s)))):=hid fun W hW=>tokens_any s W hs (hE.below hW);clear hE hs;obtain⟨E,hEE⟩:∃E,tokE (bs s)=E:=⟨_,rfl⟩
 obtain⟨q,hq⟩:∃q,rdS (bs s)=q:=⟨_,rfl⟩
 rw[hEE] at HE;rw[hq];have HEE:=hid hEE;have HQ:=hid hq;clear hEE hq;go_enter Tryz.func16,Tryz.ntmps16;go_wp2_with fail;refine(HE.out _ bl).mono ?_;rintro e w1 ⟨v1,rfl,ho,hb⟩;clear HE;have HB:Hid (Eqv (fun k=>k<w.heap.size) w w1):=hid (by have q1:=hb;have q:Eqv (fun k=>k<w.heap.size) _ w1:=Eqv.of q1;exact qe);have HO:=hid ho;have hs1:=hb.size;clear hb ho;by_cases h0:E=0
 · have b0:(E != 0)=false:=by simp[h0]
   subst h0;obtain⟨hgd,hfew⟩:=gd_tokens HEE.out;obtain⟨p,c,rfl,ht,hc,hp⟩:=own_toks HO.out;have hne:=hgd.ne;obtain⟨g,rfl,hg⟩:∃g,p=some ⟨g,0,none⟩/\w.heap.size<=g:=by
    rcases hp with⟨-,h⟩|⟨g,h,h2⟩
    · omega
    · exact⟨g,h,by omega⟩
   have HT:=hid ht;have HG:=hid hgd;have HF:=hid hfew;clear ht hgd hfew hc hp hg hne HO;go_wp2_with fail;refine(followS_any 17 oSt ⟨g,0,(tokL (bs s)).length,c,tokL (bs s)⟩ w1 (fun _ _=>rfl) HT.out HG.out HF.out (fun g W hR=>onlyStatements_any W hR)).mono ?_;rintro e w2 h2;obtain⟨hb2,⟨x2,u2,v2,r2,rfl,V2⟩|⟨u2,r2,rfl⟩⟩:=h2.cases
   · obtain⟨p2,m2,c2,rfl,k2⟩:=V2;obtain⟨hcnt,hsz⟩:=oSt_size HG.out HF.out r2;have HX:Hid ((chkL x2=0->q=(x2,0,0))/\(¬chkL x2=0->q=([],0,chkL x2))):=hid ⟨fun h=>HQ.out.symm.trans (rdG_ok HEE.out r2 h),fun h=>HQ.out.symm.trans (rdG_bad HEE.out r2 h)⟩;have HC:=hid (fun W (hI:LIn W x2 p2 m2)=>Go.Proofs.YtbgodajefaahdaaGreatDoor.Sm.check_any x2 p2 m2 c2 W hI hsz);replace HB:Hid (Eqv (fun k=>k<w.heap.size) w w2):=hid zEB_0;have KX:Hid (Lin (fun b=>w.heap.size<=b) w2 x2 p2 m2):=hid (k2.mono fun b hb hlt=>by
      have hb':w1.heap.size<=b:=hb
      show w.heap.size<=b
      omega)
     have hs2:w1.heap.size<=w2.heap.size:=hb2.size;clear h2 r2 hb2 hcnt hsz k2 HQ HEE HT HG HF;obtain⟨V,hV⟩:∃V,chkL x2=V:=⟨_,rfl⟩
     rw[hV] at HX HC;clear hV;go_wp2_with fail;refine(HC.out _ KX.out.all).mono ?_;rintro e w3 ⟨rfl,hb3⟩;replace HB:Hid (Eqv (fun k=>k<w.heap.size) w w3):=hid (by have HBB:=HB.out;have q1:=hb3;have q:Eqv (fun k=>k<w.heap.size) _ w3:=Eqv.of q1;exact qe);have KK:Hid (Lin (fun b=>w.heap.size<=b) w3 x2 p2 m2):=hid (lin_gs KX.out (Eqv.of hb3));clear hb3 KX HC;by_cases h1:V=0
     · have b1:(V != 0)=false:=by simp[h1]
       have hx:=hid (HX.out.1 h1);clear h1 HX;go_wp2_with fail;go_ret3
       exact SO.mk hx.out (eqv_below HB.out) KK.out
     · have b1:(V != 0)=true:=by simp[h1]
       have hx:=hid (HX.out.2 h1);clear h1 HX;go_wp2_with fail;go_ret3
       exact SO.mk hx.out (eqv_below HB.out) Sm.Lin.nil
   · have HX:=hid (HQ.out.symm.trans (rdG_no HEE.out r2));replace HB:Hid (Eqv (fun k=>k<w.heap.size) w w2):=hid zEB_0;clear h2 r2 hb2 HQ HEE HT HG HF;go_wp2_with fail;go_ret3
     exact SO.mk HX.out (eqv_below HB.out) Sm.Lin.nil
 · have b0:(E != 0)=true:=by simp[h0]
   have HX:=hid (HQ.out.symm.trans (rdG_lex (by rw[HEE.out];exact h0)));clear h0 HO;go_wp2_with fail;go_ret3
   exact SO.mk (by rw[HX.out,HEE.out]) (eqv_below HB.out) Sm.Lin.nil
set_option maxRecDepth 100000 in
theorem stmts_any (s:ByteArray) (w:World) (hs:s.size<=9223372036854775807) (hE:Nu.Env w):Calls Tryz.prog 7 #[.string s] w (SO (rdS (bs s)) w):=by
 have HC:=hid (fun W (hW:Nu.Env W)=>readS_any s W hs hW);have HE:=hid hE;obtain⟨⟨x,a,b⟩,hq⟩:∃q,rdS (bs s)=q:=⟨_,rfl⟩
 rw[hq] at HC ⊢;clear hE hs hq;go_enter Tryz.func7,Tryz.ntmps7;go_wp2_with fail;refine(HC.out _ (HE.out.below bl)).mono ?_;rintro e w1 ⟨hb,p,m,c,rfl,hk⟩;have HB:=hid hb;have HK:=hid hk;clear hb hk HC;go_wp2_with fail;go_ret3
 exact⟨by have q:=HB.out;exact bl,p,m,c,rfl,HK.out⟩
end Go.Proofs.YtbgodajefaahdaaGreatDoor.Ps
namespace Go.Proofs.YtbgodajefaahdaaGreatDoor.Sm
open Go.ChangeShapes Go.WideShapes Go.ChangeAt Go.RowKit Go.Joins Go.Deep
open Go.Proofs.YtbgodajefaahdaaGreatDoor.Ex (Ex)
set_option maxHeartbeats 2000000
section
variable {H:Type} {enc:TypeId×Value->H}
def Fits (B:Nat) (x:St):Prop:=x.nm.size<=B/\x.f.size<=B/\(5*Ex.cnt x.e<=B/\∀z∈Ex.pre x.e,z.s.size<=B)/\(5*Ex.cnt x.g<=B/\∀z∈Ex.pre x.g,z.s.size<=B)/\∀u∈x.ar,5*Ex.cnt u<=B/\∀z∈Ex.pre u,z.s.size<=B
theorem Fits.mono {B C:Nat} {x:St} (hBC:B<=C) (h:Fits B x):Fits C x:=
 ⟨by have:=h.1;omega,by have:=h.2.1;omega,⟨by have:=h.2.2.1.1;omega,fun z hz=>Nat.le_trans (h.2.2.1.2 z hz) hBC⟩,⟨by have:=h.2.2.2.1.1;omega,fun z hz=>Nat.le_trans (h.2.2.2.1.2 z hz) hBC⟩,fun u hu=>⟨by have:=(h.2.2.2.2 u hu).1;omega,fun z hz=>Nat.le_trans ((h.2.2.2.2 u hu).2 z hz) hBC⟩⟩
end
end Go.Proofs.YtbgodajefaahdaaGreatDoor.Sm
namespace Go.Proofs.YtbgodajefaahdaaGreatDoor.Md
open Go.RowKit Go.Maps
open Go.Proofs.YtbgodajefaahdaaGreatDoor.Sm (SzL chkL orE or_any)
open Go.Proofs.YtbgodajefaahdaaGreatDoor.Ex (Lo Gives)
attribute [local go_sem] cRou0 cRou1 cRou2 cRou3
set_option maxHeartbeats 4000000
structure ZRou (x:Rou):Prop where
 nm:x.nm.size<=9223372036854775807
 fl:∀f∈x.ps++x.ls,f.nm.size<=9223372036854775807
 ln:(x.ps++x.ls).length<=1000000
 bo:SzL x.bo
theorem sco_new {w0:World}:Sco w0 w0.heap.size (fun _=>True) [] (w0.alloc (.map #[] 0)):=⟨bl,World.ownsMap_made _ _ _ _,trivial⟩
set_option maxRecDepth 100000 in
theorem checkRoutine_any (x:Rou) (P:PRou) (w:World) (hx:ORou (Lo w.heap.size) w x P) (hz:ZRou x):Calls Tryz.prog 121 #[.agg (cRou x P)] w (Gives (.int .i64 (rouT x)) w):=by
 have HX:=hid hx;have HZ:=hid hz;have FX:=far (w:=w) 119 (cRou x P);obtain⟨hlp,hmp⟩:=hx.ps.len;obtain⟨hll,hml⟩:=hx.ls.len;by_cases h6:6<P.psm
 · rw[show rouT x=6 by unfold rouT;rw[if_pos (by omega)]];have d1:decide ((6:Int)<(P.psm:Int))=true:=decide_eq_true (by omega);have d2:(6:Int)<(P.psm:Int):=by omega
   clear hx hz hlp hmp hll hml h6;go_enter Tryz.func121,Tryz.ntmps121;go_wp2_with fail;go_ret;exact⟨rfl,bl⟩
 obtain⟨v1,hv1⟩:∃v,(eachE (fun a f=>stepN a (fldP f)) 16 (x.ps++x.ls) []).1=v:=⟨_,rfl⟩
 obtain⟨v2,hv2⟩:∃v,chkL x.bo=v:=⟨_,rfl⟩
 rw[show rouT x=orE v1 v2 by unfold rouT;rw[if_neg (by omega),hv1,hv2]];have d1:decide ((6:Int)<(P.psm:Int))=false:=decide_eq_false (by omega);have d2:(P.psm:Int)<=6:=by omega
 have hN:P.psm+P.lsm<=1000000:=by have:=hz.ln;rw[List.length_append] at this;omega
 have CC:=hid (fun W (b:Nat) (hW:Below w.heap.size w W) (hb:b<W.heap.size) h0 h1=>concat2 b P.psp P.lsp P.psm P.psc P.lsm P.lsc x.ps x.ls W hb h0 h1 (HX.out.ps.on RFld.map hW) (HX.out.ls.on RFld.map hW) hN);have CB:=hid (fun W (hW:Below w.heap.size w W)=>(show Calls Tryz.prog 18 #[.slice P.bop P.bom P.boc] W (Gives (.int .i64 v2) W) by rw[← hv2];exact Sm.check_any x.bo P.bop P.bom P.boc W ((HX.out.bo.map hW.size fun b g _=>⟨Nat.lt_of_lt_of_le g hW.size,hW.block b g⟩)) HZ.out.bo));have CE:=hid (fun(w0 W:World) (p:Option Addr) (m c:Nat) (hl:Rw 2 RFld (Lo w0.heap.size) w0 (x.ps++x.ls) p m) (hW:Sco w0 w0.heap.size (fun _=>True) [] W)=>(show Calls Tryz.prog 162 #[.slice p m c,.int .i64 16,.func (.func 163) #[.map (some w0.heap.size)] #[]] W (fun e W2=>e=.returned (.int .i64 v1)/\Below w0.heap.size w0 W2) from(each_flds (Nat.le_refl _) (Stb.top _) hl HZ.out.fl 16 (by omega) [] (by simp) W hW).mono fun e W2 h=>⟨by rw[h.1,hv1],h.2.below⟩));have FK:Hid (∀W,Below (w.alloc (.cells (cRou x P) 119)).heap.size (w.alloc (.cells (cRou x P) 119)) W->W.cell? ⟨w.heap.size,3,none⟩=some (.slice P.bop P.bom P.boc)):=hid fun W hb=>(FX.out W hb).get (cRou3 x P);have HLn:=hid hz.ln;have hmm:=@run_makeMap Tryz.prog;clear hx hz hlp hmp hll hml h6 hv1 hv2 hN;go_enter Tryz.func121,Tryz.ntmps121;go_wp2_with fail;refine(CC.out _ (w.heap.size+1) bl (by simp) (by go_simp) (by go_simp)).mono ?_;rintro e w2 ⟨v,rfl,hown,hb2⟩;obtain⟨fp,fc,rfl,hfl⟩:=hown.rw RFld.map sFld HLn.out;have HF:=hid hfl;have hq:=FK.out w2 bl;obtain⟨fm,hfm⟩:∃n,(x.ps++x.ls).length=n:=⟨_,rfl⟩
 rw[hfm] at HF ⊢;clear hown hfl hfm;go_wp2_with fail;go_region_held3 (fun W=>W.cell? ⟨w.heap.size,3,none⟩=some (.slice P.bop P.bom P.boc)) (first|(refine FK.out _ ?_;exact bl;done)|(go_keep;done)) (first
  | (have t:=hb4;go_at_call 34;refine(or_any [v1,v2] _ 2 2 _ rfl (by omega) (hid (cells2 _ _ _ _))).mono ?_;rintro e w9 ⟨rfl,rfl⟩)
  | (have t:=hb3;go_at_call 18;refine(CB.out _ bl).mono ?_;rintro e w4 ⟨rfl,hb4⟩)
  | (go_at_call 162;refine(CE.out w2.drew _ _ _ _ HF.out sco_new).mono ?_;rintro e w3 ⟨rfl,hb3⟩))
 all_goals
  have HB3:=hid hb4;go_wp2_with fail;go_ret;exact⟨by rw[← orL2];rfl,bl⟩
end Go.Proofs.YtbgodajefaahdaaGreatDoor.Md
namespace Go.Proofs.YtbgodajefaahdaaGreatDoor.Md
open Go.ChangeShapes Go.WideShapes Go.ChangeAt Go.RowKit Go.Joins Go.Deep
open Go.Proofs.YtbgodajefaahdaaGreatDoor.Sm (ordL szL Fits)
set_option maxHeartbeats 2000000
section
variable {H:Type} {enc:TypeId×Value->H}
structure GChg (B:Nat) (x:Chg):Prop where
 t:True
theorem GChg.mono {B C:Nat} {x:Chg} (hBC:B<=C) (h:GChg B x):GChg C x where
 t:=trivial
structure GVal (B:Nat) (x:Val):Prop where
 nm:x.nm.size<=B
theorem GVal.mono {B C:Nat} {x:Val} (hBC:B<=C) (h:GVal B x):GVal C x where
 nm:=by have:=h.nm;omega
structure GSto (B:Nat) (x:Sto):Prop where
 nm:x.nm.size<=B
theorem GSto.mono {B C:Nat} {x:Sto} (hBC:B<=C) (h:GSto B x):GSto C x where
 nm:=by have:=h.nm;omega
structure GBlt (B:Nat) (x:Blt):Prop where
 nm:x.nm.size<=B
theorem GBlt.mono {B C:Nat} {x:Blt} (hBC:B<=C) (h:GBlt B x):GBlt C x where
 nm:=by have:=h.nm;omega
structure GFld (B:Nat) (x:Fld):Prop where
 nm:x.nm.size<=B
theorem GFld.mono {B C:Nat} {x:Fld} (hBC:B<=C) (h:GFld B x):GFld C x where
 nm:=by have:=h.nm;omega
structure GTrm (B:Nat) (x:Trm):Prop where
 wh:x.wh.size<=B
 nm:x.nm.size<=B
theorem GTrm.mono {B C:Nat} {x:Trm} (hBC:B<=C) (h:GTrm B x):GTrm C x where
 wh:=by have:=h.wh;omega
 nm:=by have:=h.nm;omega
structure GLnk (B:Nat) (x:Lnk):Prop where
 fr:x.fr.size<=B
 tt:x.tt.size<=B
theorem GLnk.mono {B C:Nat} {x:Lnk} (hBC:B<=C) (h:GLnk B x):GLnk C x where
 fr:=by have:=h.fr;omega
 tt:=by have:=h.tt;omega
structure GRes (B:Nat) (x:Res):Prop where
 nm:x.nm.size<=B
theorem GRes.mono {B C:Nat} {x:Res} (hBC:B<=C) (h:GRes B x):GRes C x where
 nm:=by have:=h.nm;omega
structure GRou (B:Nat) (x:Rou):Prop where
 nm:x.nm.size<=B
 ps:∀y∈x.ps,GFld B y
 ls:∀y∈x.ls,GFld B y
 pl:2*(x.ps.length+x.ls.length)<=B
 bs:szL x.bo<=B
 bo:∀y∈ordL x.bo,Fits B y
theorem GRou.mono {B C:Nat} {x:Rou} (hBC:B<=C) (h:GRou B x):GRou C x where
 nm:=by have:=h.nm;omega
 ps:=fun y hy=>(h.ps y hy).mono hBC
 ls:=fun y hy=>(h.ls y hy).mono hBC
 pl:=by have:=h.pl;omega
 bs:=by have:=h.bs;omega
 bo:=fun y hy=>(h.bo y hy).mono hBC
structure GSta (B:Nat) (x:Sta):Prop where
 t:True
theorem GSta.mono {B C:Nat} {x:Sta} (hBC:B<=C) (h:GSta B x):GSta C x where
 t:=trivial
structure GLw (B:Nat) (x:Lw):Prop where
 nm:x.nm.size<=B
theorem GLw.mono {B C:Nat} {x:Lw} (hBC:B<=C) (h:GLw B x):GLw C x where
 nm:=by have:=h.nm;omega
structure GSte (B:Nat) (x:Ste):Prop where
 nm:x.nm.size<=B
 va:∀y∈x.va,GVal B y
 vaL:2*x.va.length<=B
 rs:∀y∈x.rs,GRes B y
 rsL:2*x.rs.length<=B
 st:∀y∈x.st,GSto B y
 stL:2*x.st.length<=B
 be:∀y∈x.be,GBlt B y
 beL:2*x.be.length<=B
 qu:∀y∈x.qu,y.size<=B
 quL:x.qu.length<=B
 sm:∀y∈x.sm,y.size<=B
 smL:x.sm.length<=B
 ta:∀y∈x.ta,y.size<=B
 taL:x.ta.length<=B
 le:∀y∈x.le,y.size<=B
 leL:x.le.length<=B
 co:∀y∈x.co,y.size<=B
 coL:x.co.length<=B
 ro:∀y∈x.ro,GRou B y
 roL:2*x.ro.length<=B
 ss:∀y∈x.ss,GSta B y
 ssL:2*x.ss.length<=B
 la:∀y∈x.la,GLw B y
 laL:2*x.la.length<=B
theorem GSte.mono {B C:Nat} {x:Ste} (hBC:B<=C) (h:GSte B x):GSte C x where
 nm:=by have:=h.nm;omega
 va:=fun y hy=>(h.va y hy).mono hBC
 vaL:=by have:=h.vaL;omega
 rs:=fun y hy=>(h.rs y hy).mono hBC
 rsL:=by have:=h.rsL;omega
 st:=fun y hy=>(h.st y hy).mono hBC
 stL:=by have:=h.stL;omega
 be:=fun y hy=>(h.be y hy).mono hBC
 beL:=by have:=h.beL;omega
 qu:=fun y hy=>Nat.le_trans (h.qu y hy) hBC
 quL:=by have:=h.quL;omega
 sm:=fun y hy=>Nat.le_trans (h.sm y hy) hBC
 smL:=by have:=h.smL;omega
 ta:=fun y hy=>Nat.le_trans (h.ta y hy) hBC
 taL:=by have:=h.taL;omega
 le:=fun y hy=>Nat.le_trans (h.le y hy) hBC
 leL:=by have:=h.leL;omega
 co:=fun y hy=>Nat.le_trans (h.co y hy) hBC
 coL:=by have:=h.coL;omega
 ro:=fun y hy=>(h.ro y hy).mono hBC
 roL:=by have:=h.roL;omega
 ss:=fun y hy=>(h.ss y hy).mono hBC
 ssL:=by have:=h.ssL;omega
 la:=fun y hy=>(h.la y hy).mono hBC
 laL:=by have:=h.laL;omega
structure GMdl (B:Nat) (x:Mdl):Prop where
 nm:x.nm.size<=B
 pa:∀y∈x.pa,GVal B y
 paL:x.pa.length<=B
 si:∀y∈x.si,GSte B y
 siL:x.si.length<=B
 li:∀y∈x.li,GLnk B y
 liL:x.li.length<=B
theorem GMdl.mono {B C:Nat} {x:Mdl} (hBC:B<=C) (h:GMdl B x):GMdl C x where
 nm:=by have:=h.nm;omega
 pa:=fun y hy=>(h.pa y hy).mono hBC
 paL:=by have:=h.paL;omega
 si:=fun y hy=>(h.si y hy).mono hBC
 siL:=by have:=h.siL;omega
 li:=fun y hy=>(h.li y hy).mono hBC
 liL:=by have:=h.liL;omega
end
end Go.Proofs.YtbgodajefaahdaaGreatDoor.Md
