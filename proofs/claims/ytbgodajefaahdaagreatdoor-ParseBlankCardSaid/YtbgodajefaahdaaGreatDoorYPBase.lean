/-
  Parts of this proof: Words for worlds and statements in memory. The records of a model in memory. The contracts of the reference's Same and sameEx. The contracts of Same and of the library's Equal. What the chapter's examples are.
-/
import Derived.Test.YtbgodajefaahdaaGreatDoorYDCheck
import Derived.Test.YtbgodajefaahdaaGreatDoorYERSame
import Derived.Great.BuildSlice
import Derived.ChangeKeysEq
open Go renaming World->U,Value->X,Addr->ai,TypeId->ak
open Option renaming some->V,none->Y
open Go.Value renaming oneCell'->ae
open Go.Proofs.Tryz renaming prog->af
open Nat renaming lt_of_lt_of_le->ag,le_refl->ah
open Go.RowKit renaming Below->aj
open List renaming getElem?_eq_getElem->au
set_option linter.unusedVariables false
open Go.Lib (hid)
namespace Go.Proofs.YtbgodajefaahdaaGreatDoor
namespace Sm
open Go.RowKit
open Ex (Ex bW In Sz Lo)
set_option maxHeartbeats 1000000
structure Pl where
 ep:Option ai
 em:Nat
 ec:Nat
 gp:Option ai
 gm:Nat
 gc:Nat
 ap:Option ai
 am:Nat
 ac:Nat
 vp:Option ai
 vm:Nat
 vc:Nat
 wp:Option ai
 wm:Nat
 wc:Nat
 bp:Option ai
 bm:Nat
 bc:Nat
 lp:Option ai
 lm:Nat
 lc:Nat
def cs (x:St) (P:Pl):Array X:=#[.int .i64 x.o,.string x.nm,.string x.f,.int .i64 x.e.o,.string x.e.s,.int .i64 x.e.n,.slice P.ep P.em P.ec,.int .i64 x.g.o,.string x.g.s,.int .i64 x.g.n,.slice P.gp P.gm P.gc,.slice P.ap P.am P.ac,.int .i64 x.di.op,.int .i64 x.di.a,.int .i64 x.di.b,.int .i64 x.di.n,.slice P.vp P.vm P.vc,.slice P.wp P.wm P.wc,.bool x.fl,.slice P.bp P.bm P.bc,.slice P.lp P.lm P.lc]
theorem aac (x:St) (P:Pl):(cs x P).size=21:=rfl
theorem jL (x:St) (P:Pl):(cs x P).all (·.oneCell')=true:=by unfold cs;simp[ae]
theorem cs0 (x:St) (P:Pl):(cs x P)[0]?=V (.int .i64 x.o):=rfl
theorem cs1 (x:St) (P:Pl):(cs x P)[1]?=V (.string x.nm):=rfl
theorem cs2 (x:St) (P:Pl):(cs x P)[2]?=V (.string x.f):=rfl
theorem wU (x:St) (P:Pl):(cs x P)[3]?=V (.int .i64 x.e.o):=rfl
theorem wV (x:St) (P:Pl):(cs x P)[4]?=V (.string x.e.s):=rfl
theorem wW (x:St) (P:Pl):(cs x P)[5]?=V (.int .i64 x.e.n):=rfl
theorem wX (x:St) (P:Pl):(cs x P)[6]?=V (.slice P.ep P.em P.ec):=rfl
theorem wY (x:St) (P:Pl):(cs x P)[7]?=V (.int .i64 x.g.o):=rfl
theorem wZ (x:St) (P:Pl):(cs x P)[8]?=V (.string x.g.s):=rfl
theorem w_ (x:St) (P:Pl):(cs x P)[9]?=V (.int .i64 x.g.n):=rfl
theorem wJ (x:St) (P:Pl):(cs x P)[10]?=V (.slice P.gp P.gm P.gc):=rfl
theorem wK (x:St) (P:Pl):(cs x P)[11]?=V (.slice P.ap P.am P.ac):=rfl
theorem wL (x:St) (P:Pl):(cs x P)[12]?=V (.int .i64 x.di.op):=rfl
theorem wM (x:St) (P:Pl):(cs x P)[13]?=V (.int .i64 x.di.a):=rfl
theorem wN (x:St) (P:Pl):(cs x P)[14]?=V (.int .i64 x.di.b):=rfl
theorem wO (x:St) (P:Pl):(cs x P)[15]?=V (.int .i64 x.di.n):=rfl
theorem wP (x:St) (P:Pl):(cs x P)[16]?=V (.slice P.vp P.vm P.vc):=rfl
theorem wQ (x:St) (P:Pl):(cs x P)[17]?=V (.slice P.wp P.wm P.wc):=rfl
theorem wR (x:St) (P:Pl):(cs x P)[18]?=V (.bool x.fl):=rfl
theorem wS (x:St) (P:Pl):(cs x P)[19]?=V (.slice P.bp P.bm P.bc):=rfl
theorem wT (x:St) (P:Pl):(cs x P)[20]?=V (.slice P.lp P.lm P.lc):=rfl
def lF (w:U) (g o:Nat) (x:St) (P:Pl):Prop:=∀r v,(cs x P)[r]?=V v->w.cell? ⟨g,o+r,Y⟩=V v
theorem lF.keep {w w2:U} {g o:Nat} {x:St} {P:Pl} (hb:w2.heap[g]?=w.heap[g]?) (h:lF w g o x P):lF w2 g o x P:=fun r v hv=>(World.cell?_of_block (w:=w) (a:=⟨g,o+r,Y⟩) hb).trans (h r v hv)
theorem lF.on {w w2:U} {g o:Nat} {x:St} {P:Pl} (hb:aj w.heap.size w w2) (hg:g<w.heap.size) (h:lF w g o x P):lF w2 g o x P:=h.keep (hb.block g hg)
theorem Ld:(Tryz.prog.info? 60).map (·.size)=V 21:=by kernel_rfl
theorem arD:∃d,Tryz.prog.underlying 60=V d/\d.isRow=true:=⟨_,Tryz.underlying60,rfl⟩
theorem lF.range {w:U} {g o:Nat} {x:St} {P:Pl} (h:lF w g o x P):w.rangeAt g o (cs x P).toList:=fun j v hv=>h j v (by rwa [Array.getElem?_toList] at hv)
theorem lF.load {w:U} {g o:Nat} {x:St} {P:Pl} (h:lF w g o x P):(loadCellsFrom ⟨g,o,Y⟩ 0 21 #[]).run af w=.ok (cs x P) w:=by
 have:=run_loadCells_list (P:=af) w ⟨g,o,Y⟩ (cs x P).toList (fun j v hv=>by rw[Addr.add_mid];exact h j v (by rwa [Array.getElem?_toList] at hv));rw[Array.length_toList,aac,Array.toArray_toList] at this;exact this
theorem lF.loadVar {w:U} {g o:Nat} {x:St} {P:Pl} (h:lF w g o x P):(loadVar 60 ⟨g,o,Y⟩).run af w=.ok (.agg (cs x P)) w:=by
 obtain⟨d,h1,h2⟩:=arD;have:=run_loadVar_mid (P:=af) w g o 60 (cs x P).toList d h.range h1 h2 (by rw[Ld];rfl);rwa [Array.toArray_toList] at this
theorem lF.loadAt {w:U} {g o:Nat} {x:St} {P:Pl} (h:lF w g o x P):(Instr.loadAt 60 (.pointer (V ⟨g,o,Y⟩))).run af w=.ok (.agg (cs x P)) w:=by
 simp only[Instr.loadAt,Instr.sureAddr,Sem.run_bind,Sem.run_pure,Result.andThen_ok,h.loadVar]
theorem lF.dW {w:U} {g o n:Nat} {x:St} {P:Pl} (h:lF w g o x P) (hn:21=n):(loadCellsFrom ⟨g,o,Y⟩ 0 n #[]).run af w=.ok (cs x P) w:=by subst hn;exact h.load
theorem lF.at {w:U} {g o k n:Nat} {x:St} {P:Pl} (h:lF w g (o+k*21) x P) (hn:21=n):lF w g (o+k*n) x P:=by subst hn;exact h
theorem Le (x:St) (P:Pl) (z:Array X) (hz:z.size=21) (w:U):(storeCells ⟨w.heap.size,0,Y⟩ (cs x P).toList 0).run af (w.alloc (.cells z 60))=.ok () (w.alloc (.cells (cs x P) 60)):=
 run_storeCells_new w _ _ _ (by rw[Ld];rfl) hz (jL x P)
theorem Lg (x:St) (P:Pl) (z:Array X) (hz:z.size=21) (w:U):(storeVar 60 ⟨w.heap.size,0,Y⟩ (.agg (cs x P))).run af (w.alloc (.cells z 60))=.ok () (w.alloc (.cells (cs x P) 60)):=
 run_storeVar_new w _ _ _ (by rw[Ld];rfl) hz (jL x P)
theorem Lf (x:St) (P:Pl) (z:Array X) (hz:z.size=21) (w:U):(Instr.storeAt 60 (.pointer (V ⟨w.heap.size,0,Y⟩)) (.agg (cs x P))).run af (w.alloc (.cells z 60))=.ok () (w.alloc (.cells (cs x P) 60)):=
 run_storeAt_new w _ _ _ (by rw[Ld];rfl) hz (jL x P)
def dK (w:U) (g:Nat) (x:St) (P:Pl):Prop:=w.heap[g]?=V (.cells (cs x P) 60 (0,0))
theorem dK.cell {w:U} {g:Nat} {x:St} {P:Pl} (h:dK w g x P):lF w g 0 x P:=fun r v hv=>by
 rw[Nat.zero_add,cell_of_row w g r _ _ _ h];exact hv
theorem dK.c0 {w:U} {g:Nat} {x:St} {P:Pl} (h:dK w g x P):w.cell? ⟨g,0,Y⟩=V (.int .i64 x.o):=cell_of_row w g 0 _ _ _ h
theorem dK.c1 {w:U} {g:Nat} {x:St} {P:Pl} (h:dK w g x P):w.cell? ⟨g,1,Y⟩=V (.string x.nm):=cell_of_row w g 1 _ _ _ h
theorem dK.c2 {w:U} {g:Nat} {x:St} {P:Pl} (h:dK w g x P):w.cell? ⟨g,2,Y⟩=V (.string x.f):=cell_of_row w g 2 _ _ _ h
theorem dK.c3 {w:U} {g:Nat} {x:St} {P:Pl} (h:dK w g x P):w.cell? ⟨g,3,Y⟩=V (.int .i64 x.e.o):=cell_of_row w g 3 _ _ _ h
theorem dK.c4 {w:U} {g:Nat} {x:St} {P:Pl} (h:dK w g x P):w.cell? ⟨g,4,Y⟩=V (.string x.e.s):=cell_of_row w g 4 _ _ _ h
theorem dK.c5 {w:U} {g:Nat} {x:St} {P:Pl} (h:dK w g x P):w.cell? ⟨g,5,Y⟩=V (.int .i64 x.e.n):=cell_of_row w g 5 _ _ _ h
theorem dK.c6 {w:U} {g:Nat} {x:St} {P:Pl} (h:dK w g x P):w.cell? ⟨g,6,Y⟩=V (.slice P.ep P.em P.ec):=cell_of_row w g 6 _ _ _ h
theorem dK.c7 {w:U} {g:Nat} {x:St} {P:Pl} (h:dK w g x P):w.cell? ⟨g,7,Y⟩=V (.int .i64 x.g.o):=cell_of_row w g 7 _ _ _ h
theorem dK.c8 {w:U} {g:Nat} {x:St} {P:Pl} (h:dK w g x P):w.cell? ⟨g,8,Y⟩=V (.string x.g.s):=cell_of_row w g 8 _ _ _ h
theorem dK.c9 {w:U} {g:Nat} {x:St} {P:Pl} (h:dK w g x P):w.cell? ⟨g,9,Y⟩=V (.int .i64 x.g.n):=cell_of_row w g 9 _ _ _ h
theorem dK.c10 {w:U} {g:Nat} {x:St} {P:Pl} (h:dK w g x P):w.cell? ⟨g,10,Y⟩=V (.slice P.gp P.gm P.gc):=cell_of_row w g 10 _ _ _ h
theorem dK.c11 {w:U} {g:Nat} {x:St} {P:Pl} (h:dK w g x P):w.cell? ⟨g,11,Y⟩=V (.slice P.ap P.am P.ac):=cell_of_row w g 11 _ _ _ h
theorem dK.c12 {w:U} {g:Nat} {x:St} {P:Pl} (h:dK w g x P):w.cell? ⟨g,12,Y⟩=V (.int .i64 x.di.op):=cell_of_row w g 12 _ _ _ h
theorem dK.c13 {w:U} {g:Nat} {x:St} {P:Pl} (h:dK w g x P):w.cell? ⟨g,13,Y⟩=V (.int .i64 x.di.a):=cell_of_row w g 13 _ _ _ h
theorem dK.c14 {w:U} {g:Nat} {x:St} {P:Pl} (h:dK w g x P):w.cell? ⟨g,14,Y⟩=V (.int .i64 x.di.b):=cell_of_row w g 14 _ _ _ h
theorem dK.c15 {w:U} {g:Nat} {x:St} {P:Pl} (h:dK w g x P):w.cell? ⟨g,15,Y⟩=V (.int .i64 x.di.n):=cell_of_row w g 15 _ _ _ h
theorem dK.c16 {w:U} {g:Nat} {x:St} {P:Pl} (h:dK w g x P):w.cell? ⟨g,16,Y⟩=V (.slice P.vp P.vm P.vc):=cell_of_row w g 16 _ _ _ h
theorem dK.c17 {w:U} {g:Nat} {x:St} {P:Pl} (h:dK w g x P):w.cell? ⟨g,17,Y⟩=V (.slice P.wp P.wm P.wc):=cell_of_row w g 17 _ _ _ h
theorem dK.c18 {w:U} {g:Nat} {x:St} {P:Pl} (h:dK w g x P):w.cell? ⟨g,18,Y⟩=V (.bool x.fl):=cell_of_row w g 18 _ _ _ h
theorem dK.c19 {w:U} {g:Nat} {x:St} {P:Pl} (h:dK w g x P):w.cell? ⟨g,19,Y⟩=V (.slice P.bp P.bm P.bc):=cell_of_row w g 19 _ _ _ h
theorem dK.c20 {w:U} {g:Nat} {x:St} {P:Pl} (h:dK w g x P):w.cell? ⟨g,20,Y⟩=V (.slice P.lp P.lm P.lc):=cell_of_row w g 20 _ _ _ h
theorem Ao {w:U} {x:St} {P:Pl}:dK (w.alloc (.cells (cs x P) 60)) w.heap.size x P:=World.alloc_heap_new w _
theorem dK.lt {w:U} {g:Nat} {x:St} {P:Pl} (h:dK w g x P):g<w.heap.size:=(Array.getElem?_eq_some_iff.1 h).1
theorem dK.keep {w w2:U} {g:Nat} {x:St} {P:Pl} (hb:w2.heap[g]?=w.heap[g]?) (h:dK w g x P):dK w2 g x P:=hb.trans h
theorem dK.on {w w2:U} {g:Nat} {x:St} {P:Pl} (hb:aj w.heap.size w w2) (h:dK w g x P):dK w2 g x P:=h.keep (hb.block g h.lt)
def rQ (G:Nat->Prop) (w:U) (n m:Nat) (p:Option ai) (R:Nat->Nat->Prop):Prop:=n=m/\m<=9223372036854775807/\(m=0∨∃b o,p=V ⟨b,o,Y⟩/\G b/\b<w.heap.size/\R b o)
def Ints (G:Nat->Prop) (w:U) (l:List Int) (p:Option ai) (m:Nat):Prop:=rQ G w l.length m p fun b o=>Hid (∀k,(h:k<l.length)->w.cell? ⟨b,o+k,Y⟩=V (.int .i64 l[k]))
def BV (G:Nat->Prop) (w:U) (e g:Ex) (ar:List Ex) (di:Dt) (P:Pl):Prop:=bW G w e P.ep P.em/\bW G w g P.gp P.gm/\bW G w (.mk 0 nE 0 ar) P.ap P.am/\Ints G w di.vs P.vp P.vm/\Ints G w di.ws P.wp P.wm
mutual
def cZ (G:Nat->Prop) (w:U):St->Pl->Prop
 | .mk _ _ _ e g ar di _ bo el,P=>BV G w e g ar di P/\rQ G w bo.length P.bm P.bp (fun b o=>Hid (DZ G w bo b o))/\rQ G w el.length P.lm P.lp (fun b o=>Hid (DZ G w el b o))
def DZ (G:Nat->Prop) (w:U):List St->Nat->Nat->Prop
 | [],_,_=>True
 | x::t,b,o=>(∃P,lF w b o x P/\cZ G w x P)/\DZ G w t b (o+21)
end
def dE (G:Nat->Prop) (w:U) (l:List St) (p:Option ai) (m:Nat):Prop:=rQ G w l.length m p fun b o=>Hid (∀k,(h:k<l.length)->∃P,lF w b (o+k*21) l[k] P/\cZ G w l[k] P)
theorem P6 {G:Nat->Prop} {w:U}:∀{l:List St} {b o:Nat},DZ G w l b o ↔ ∀k,(h:k<l.length)->∃P,lF w b (o+k*21) l[k] P/\cZ G w l[k] P
 | [],b,o=>⟨fun _ k h=>absurd h (Nat.not_lt_zero _),fun _=>by rw[DZ];trivial⟩
 | x::t,b,o=>by
  rw[DZ];constructor
  · rintro⟨h1,h2⟩ k hk
    match k,hk with
    | 0,_=>rw[show o+0*21=o by omega];exact h1
    | k+1,hk=>
     have:=P6.1 h2 k (by simpa using hk);rw[show o+21+k*21=o+(k+1)*21 by omega] at this;exact this
  · intro h;refine⟨by have:=h 0 (by simp);rw[show o+0*21=o by omega] at this;exact this,P6.2 fun k hk=>?_⟩;have:=h (k+1) (by simpa using hk);rw[show o+(k+1)*21=o+21+k*21 by omega] at this;exact this
theorem rQ.imp {G H:Nat->Prop} {w w2:U} {n m:Nat} {p:Option ai} {R R':Nat->Nat->Prop} (hs:w.heap.size<=w2.heap.size) (hk:∀b,G b->b<w.heap.size->H b/\w2.heap[b]?=w.heap[b]?) (hR:∀b o,G b->b<w.heap.size->R b o->R' b o) (h:rQ G w n m p R):rQ H w2 n m p R':=by
 obtain⟨h1,h2,h3|⟨b,o,rfl,hg,hb,h4⟩⟩:=h
 · exact⟨h1,h2,.inl h3⟩
 · exact⟨h1,h2,.inr ⟨b,o,rfl,(hk b hg hb).1,by omega,hR b o hg hb h4⟩⟩
theorem qH {G:Nat->Prop} {w:U} {x:St} {P:Pl}:cZ G w x P↔BV G w x.e x.g x.ar x.di P/\dE G w x.bo P.bp P.bm/\dE G w x.el P.lp P.lm:=by
 obtain⟨o,nm,f,e,g,ar,di,fl,bo,el⟩:=x;rw[cZ];have key:∀(l:List St) (p:Option ai) (m:Nat),rQ G w l.length m p (fun b o=>Hid (DZ G w l b o))↔dE G w l p m:=fun l p m=>
  ⟨rQ.imp (ah _) (fun b hg _=>⟨hg,rfl⟩) (fun b o _ _ h=>hid (P6.1 h.out)),rQ.imp (ah _) (fun b hg _=>⟨hg,rfl⟩) (fun b o _ _ h=>hid (P6.2 h.out))⟩
 rw[key,key];rfl
theorem Ints.map {G H:Nat->Prop} {w w2:U} (hs:w.heap.size<=w2.heap.size) (hk:∀b,G b->b<w.heap.size->H b/\w2.heap[b]?=w.heap[b]?) {l:List Int} {p:Option ai} {m:Nat} (h:Ints G w l p m):Ints H w2 l p m:=
 rQ.imp hs hk (fun b o hg hb h=>hid fun k hl=>(World.cell?_of_block (w:=w) (a:=⟨b,o+k,Y⟩) (hk b hg hb).2).trans (h.out k hl)) h
theorem BV.map {G H:Nat->Prop} {w w2:U} (hs:w.heap.size<=w2.heap.size) (hk:∀b,G b->b<w.heap.size->H b/\w2.heap[b]?=w.heap[b]?) {e g:Ex} {ar:List Ex} {di:Dt} {P:Pl} (h:BV G w e g ar di P):BV H w2 e g ar di P:=
 ⟨bW.map hs hk e h.1,bW.map hs hk g h.2.1,bW.map hs hk _ h.2.2.1,h.2.2.2.1.map hs hk,h.2.2.2.2.map hs hk⟩
theorem dE.UN {G H:Nat->Prop} {w w2:U} (hs:w.heap.size<=w2.heap.size) (hk:∀b,G b->b<w.heap.size->H b/\w2.heap[b]?=w.heap[b]?) {l:List St} (ih:∀x∈l,∀{P:Pl},cZ G w x P->cZ H w2 x P) {p:Option ai} {m:Nat} (h:dE G w l p m):dE H w2 l p m:=
 rQ.imp hs hk (fun b o hg hb h=>hid fun k hl=>let ⟨P,h1,h2⟩:=h.out k hl;⟨P,h1.keep (hk b hg hb).2,ih _ (List.getElem_mem hl) h2⟩) h
theorem cZ.map {G H:Nat->Prop} {w w2:U} (hs:w.heap.size<=w2.heap.size) (hk:∀b,G b->b<w.heap.size->H b/\w2.heap[b]?=w.heap[b]?) (x:St):∀{P:Pl},cZ G w x P->cZ H w2 x P:=by
 induction x using St.ind with
 | h x h1 h2=>
  intro P h;rw[qH] at h ⊢;exact⟨h.1.map hs hk,dE.UN hs hk h1 h.2.1,dE.UN hs hk h2 h.2.2⟩
theorem dE.map {G H:Nat->Prop} {w w2:U} (hs:w.heap.size<=w2.heap.size) (hk:∀b,G b->b<w.heap.size->H b/\w2.heap[b]?=w.heap[b]?) {l:List St} {p:Option ai} {m:Nat} (h:dE G w l p m):dE H w2 l p m:=dE.UN hs hk (fun x _=>cZ.map hs hk x) h
theorem dE.mono {G H:Nat->Prop} {w:U} {l:List St} {p:Option ai} {m:Nat} (hk:∀b,G b->b<w.heap.size->H b) (h:dE G w l p m):dE H w l p m:=h.map (ah _) fun b g hb=>⟨hk b g hb,rfl⟩
theorem cZ.mono {G H:Nat->Prop} {w:U} {x:St} {P:Pl} (hk:∀b,G b->b<w.heap.size->H b) (h:cZ G w x P):cZ H w x P:=cZ.map (ah _) (fun b g hb=>⟨hk b g hb,rfl⟩) x h
abbrev oK (w:U) (l:List St) (p:Option ai) (m:Nat):Prop:=dE (Lo w.heap.size) w l p m
abbrev wE (w:U) (x:St) (P:Pl):Prop:=cZ (Lo w.heap.size) w x P
theorem dE.below {B:Nat} {w w2:U} {l:List St} {p:Option ai} {m:Nat} (hb:aj B w w2) (h:dE (Lo B) w l p m):dE (Lo B) w2 l p m:=h.map hb.size fun b g _=>⟨g,hb.block b g⟩
theorem cZ.below {B:Nat} {w w2:U} {x:St} {P:Pl} (hb:aj B w w2) (h:cZ (Lo B) w x P):cZ (Lo B) w2 x P:=cZ.map hb.size (fun b g _=>⟨g,hb.block b g⟩) x h
theorem dE.all {G:Nat->Prop} {w:U} {l:List St} {p:Option ai} {m:Nat} (h:dE G w l p m):oK w l p m:=h.mono fun b _ hb=>hb
theorem cZ.all {G:Nat->Prop} {w:U} {x:St} {P:Pl} (h:cZ G w x P):wE w x P:=h.mono fun b _ hb=>hb
theorem dE.on {w w2:U} {l:List St} {p:Option ai} {m:Nat} (hb:aj w.heap.size w w2) (h:oK w l p m):oK w2 l p m:=(h.below hb).all
theorem cZ.on {w w2:U} {x:St} {P:Pl} (hb:aj w.heap.size w w2) (h:wE w x P):wE w2 x P:=(h.below hb).all
theorem dE.len {G:Nat->Prop} {w:U} {l:List St} {p:Option ai} {m:Nat} (h:dE G w l p m):l.length=m/\m<=9223372036854775807:=⟨h.1,h.2.1⟩
theorem dE.nil {G:Nat->Prop} {w:U} {p:Option ai}:dE G w [] p 0:=⟨rfl,by omega,.inl rfl⟩
theorem dE.rows {G:Nat->Prop} {w:U} {l:List St} {p:Option ai} {m:Nat} (h:dE G w l p m) (hm:0<m):∃b o,p=V ⟨b,o,Y⟩/\G b/\b<w.heap.size/\Hid (∀k,(h:k<l.length)->∃P,lF w b (o+k*21) l[k] P/\cZ G w l[k] P):=by
 rcases h.2.2 with h|h
 · omega
 · exact h
theorem cZ.bo {G:Nat->Prop} {w:U} {x:St} {P:Pl} (h:cZ G w x P):dE G w x.bo P.bp P.bm:=(qH.1 h).2.1
theorem cZ.el {G:Nat->Prop} {w:U} {x:St} {P:Pl} (h:cZ G w x P):dE G w x.el P.lp P.lm:=(qH.1 h).2.2
theorem cZ.EM {G:Nat->Prop} {w:U} {x:St} {P:Pl} (h:cZ G w x P):BV G w x.e x.g x.ar x.di P:=(qH.1 h).1
theorem cZ.e {G:Nat->Prop} {w:U} {x:St} {P:Pl} (h:cZ G w x P):In w x.e P.ep P.em:=h.EM.1.all
theorem cZ.g {G:Nat->Prop} {w:U} {x:St} {P:Pl} (h:cZ G w x P):In w x.g P.gp P.gm:=h.EM.2.1.all
theorem cZ.ar {G:Nat->Prop} {w:U} {x:St} {P:Pl} (h:cZ G w x P):In w (.mk 0 nE 0 x.ar) P.ap P.am:=h.EM.2.2.1.all
theorem Ints.row {G:Nat->Prop} {w:U} {l:List Int} {p:Option ai} {m:Nat} (h:Ints G w l p m):Di.Row w p l.length (fun i=>l.getD i 0):=by
 obtain⟨h1,h2,h3|⟨b,o,rfl,hg,hb,h4⟩⟩:=h
 · exact⟨by omega,.inl (by omega)⟩
 · refine⟨by omega,.inr ⟨b,o,rfl,hb,hid fun i hi=>?_⟩⟩;rw[h4.out i hi];simp[List.getD,au hi]
theorem cZ.vs {G:Nat->Prop} {w:U} {x:St} {P:Pl} (h:cZ G w x P):Di.Row w P.vp x.di.vs.length (fun i=>x.di.vs.getD i 0):=h.EM.2.2.2.1.row
theorem cZ.ws {G:Nat->Prop} {w:U} {x:St} {P:Pl} (h:cZ G w x P):Di.Row w P.wp x.di.ws.length (fun i=>x.di.ws.getD i 0):=h.EM.2.2.2.2.row
theorem cZ.Lu {G:Nat->Prop} {w:U} {x:St} {P:Pl} (h:cZ G w x P):x.di.vs.length=P.vm:=h.EM.2.2.2.1.1
theorem cZ.LJ {G:Nat->Prop} {w:U} {x:St} {P:Pl} (h:cZ G w x P):x.di.ws.length=P.wm:=h.EM.2.2.2.2.1
def D6 (x:St):Prop:=x.nm.size<=140737488355328/\x.f.size<=140737488355328/\(Sz x.e/\Ex.cnt x.e<=1000000)/\(Sz x.g/\Ex.cnt x.g<=1000000)/\∀y∈x.ar,Sz y/\Ex.cnt y<=1000000
def lY (l:List St):Prop:=∀x∈fw l,D6 x
theorem lY.mem {l:List St} (h:lY l) {x:St} (hx:x∈l):D6 x:=h x (apc hx)
theorem lY.bo {l:List St} (h:lY l) {x:St} (hx:x∈l):lY x.bo:=fun y hy=>h y (Pj hx (apd hy))
theorem lY.el {l:List St} (h:lY l) {x:St} (hx:x∈l):lY x.el:=fun y hy=>h y (Pj hx (ape hy))
theorem lY.app {a b:List St} (ha:lY a) (hb:lY b):lY (a++b):=fun x hx=>by
 rw[GU] at hx;rcases List.mem_append.1 hx with h|h
 · exact ha x h
 · exact hb x h
end Sm
namespace Md
open Go.RowKit
open Na (Strs)
open Ex (Lo)
open Sm (rQ Ints dE)
set_option maxHeartbeats 1000000
def At (w:U) (b o:Nat) (c:Array X):Prop:=∀r v,c[r]?=V v->w.cell? ⟨b,o+r,Y⟩=V v
theorem At.keep {w w2:U} {b o:Nat} {c:Array X} (hb:w2.heap[b]?=w.heap[b]?) (h:At w b o c):At w2 b o c:=fun r v hv=>(World.cell?_of_block (w:=w) (a:=⟨b,o+r,Y⟩) hb).trans (h r v hv)
theorem At.on {w w2:U} {b o:Nat} {c:Array X} (hb:aj w.heap.size w w2) (hg:b<w.heap.size) (h:At w b o c):At w2 b o c:=h.keep (hb.block b hg)
theorem At.get {w:U} {b o:Nat} {c:Array X} (h:At w b o c) {r:Nat} {v:X} (hv:c[r]?=V v):w.cell? ⟨b,o+r,Y⟩=V v:=h r v hv
theorem At.range {w:U} {b o:Nat} {c:Array X} (h:At w b o c):w.rangeAt b o c.toList:=fun j v hv=>h j v (by rwa [Array.getElem?_toList] at hv)
theorem At.load {w:U} {b o:Nat} {c:Array X} (h:At w b o c):(loadCellsFrom ⟨b,o,Y⟩ 0 c.size #[]).run af w=.ok c w:=by
 have:=run_loadCells_list (P:=af) w ⟨b,o,Y⟩ c.toList (fun j v hv=>by rw[Addr.add_mid];exact h j v (by rwa [Array.getElem?_toList] at hv));rw[Array.length_toList,Array.toArray_toList] at this;exact this
theorem At.dW {w:U} {b o n:Nat} {c:Array X} (h:At w b o c) (hn:c.size=n):(loadCellsFrom ⟨b,o,Y⟩ 0 n #[]).run af w=.ok c w:=by subst hn;exact h.load
def Big (t:ak) (k:Nat):Prop:=(∃d,Tryz.prog.underlying t=V d/\d.isRow=true)/\(Tryz.prog.info? t).map (·.size)=V k
theorem At.kg {w:U} {b o:Nat} {c:Array X} {t:ak} (h:At w b o c) (ht:Big t c.size):(loadVar t ⟨b,o,Y⟩).run af w=.ok (.agg c) w:=by
 obtain⟨⟨d,h1,h2⟩,h3⟩:=ht;have:=run_loadVar_mid (P:=af) w b o t c.toList d h.range h1 h2 (by rw[h3];simp);rwa [Array.toArray_toList] at this
theorem At.kN {w:U} {b o:Nat} {c:Array X} {t:ak} (h:At w b o c) (ht:Big t c.size):(Instr.loadAt t (.pointer (V ⟨b,o,Y⟩))).run af w=.ok (.agg c) w:=by
 simp only[Instr.loadAt,Instr.sureAddr,Sem.run_bind,Sem.run_pure,Result.andThen_ok,h.kg ht]
theorem At.at {w:U} {b o i k n:Nat} {c:Array X} (h:At w b (o+i*k) c) (hn:k=n):At w b (o+i*n) c:=by subst hn;exact h
theorem rE {t:ak} {c:Array X} (ht:Big t c.size) (h1:c.all (·.oneCell')=true) (z:Array X) (hz:z.size=c.size) (W:U) (B:Nat) (hB:W.heap.size=B):(storeVar t ⟨B,0,Y⟩ (.agg c)).run af (W.alloc (.cells z t))=.ok () (W.alloc (.cells c t)):=by
 subst hB;exact run_storeVar_new W _ _ _ ht.2 hz h1
theorem rC {t:ak} {c:Array X} (ht:Big t c.size) (h1:c.all (·.oneCell')=true) (z:Array X) (hz:z.size=c.size) (W:U) (B:Nat) (hB:W.heap.size=B):(Instr.storeAt t (.pointer (V ⟨B,0,Y⟩)) (.agg c)).run af (W.alloc (.cells z t))=.ok () (W.alloc (.cells c t)):=by
 subst hB;exact run_storeAt_new W _ _ _ ht.2 hz h1
theorem rD {t:ak} {c:Array X} (ht:Big t c.size) (h1:c.all (·.oneCell')=true) (z:Array X) (hz:z.size=c.size) (W:U) (B:Nat) (hB:W.heap.size=B):(storeCells ⟨B,0,Y⟩ c.toList 0).run af (W.alloc (.cells z t))=.ok () (W.alloc (.cells c t)):=by
 subst hB;exact run_storeCells_new W _ _ _ ht.2 hz h1
def bT (w:U) (g:Nat) (t:ak) (c:Array X):Prop:=w.heap[g]?=V (.cells c t (0,0))
theorem bT.lt {w:U} {g:Nat} {t:ak} {c:Array X} (h:bT w g t c):g<w.heap.size:=(Array.getElem?_eq_some_iff.1 h).1
theorem bT.keep {w w2:U} {g:Nat} {t:ak} {c:Array X} (hb:w2.heap[g]?=w.heap[g]?) (h:bT w g t c):bT w2 g t c:=hb.trans h
theorem bT.on {w w2:U} {g:Nat} {t:ak} {c:Array X} (hb:aj w.heap.size w w2) (h:bT w g t c):bT w2 g t c:=h.keep (hb.block g h.lt)
theorem bT.new {w:U} {t:ak} {c:Array X}:bT (w.alloc (.cells c t)) w.heap.size t c:=World.alloc_heap_new w _
theorem bT.cell {w:U} {g:Nat} {t:ak} {c:Array X} (h:bT w g t c):At w g 0 c:=fun r v hv=>by
 rw[Nat.zero_add,cell_of_row w g r _ _ _ h];exact hv
theorem bT.get {w:U} {g:Nat} {t:ak} {c:Array X} (h:bT w g t c) {r:Nat} {v:X} (hv:c[r]?=V v):w.cell? ⟨g,r,Y⟩=V v:=by
 rw[cell_of_row w g r _ _ _ h];exact hv
theorem far {w:U} (t:ak) (c:Array X):Hid (∀W,aj (w.alloc (.cells c t)).heap.size (w.alloc (.cells c t)) W->bT W w.heap.size t c):=hid fun W hb=>bT.new.on hb
theorem rq {w:U} (t u:ak) (c d:Array X):Hid (∀W,aj ((w.alloc (.cells c t)).alloc (.cells d u)).heap.size ((w.alloc (.cells c t)).alloc (.cells d u)) W->bT W w.heap.size t c/\bT W (w.heap.size+1) u d):=hid fun W hb=>by
 have h1:bT (w.alloc (.cells c t)) w.heap.size t c:=bT.new;have h2:=bT.new (w:=w.alloc (.cells c t)) (c:=d) (t:=u);have e:(w.alloc (.cells c t)).heap.size=w.heap.size+1:=by simp
 rw[e] at h2;exact⟨(h1.on bl).on hb,h2.on hb⟩
abbrev Rec (α:Type):=(Nat->Prop)->U->α->Array X->Prop
def fC {α:Type} (R:Rec α):Prop:=∀{G H:Nat->Prop} {w w2:U},w.heap.size<=w2.heap.size->(∀b,G b->b<w.heap.size->H b/\w2.heap[b]?=w.heap[b]?)->∀{x:α} {c:Array X},R G w x c->R H w2 x c
def Rw {α:Type} (k:Nat) (R:Rec α) (G:Nat->Prop) (w:U) (l:List α) (p:Option ai) (m:Nat):Prop:=rQ G w l.length m p fun b o=>Hid (∀i,(h:i<l.length)->∃c,c.size=k/\At w b (o+i*k) c/\R G w l[i] c)
section
variable {α:Type} {k:Nat} {R:Rec α} {G H:Nat->Prop} {w w2:U} {l:List α} {p:Option ai} {m:Nat}
theorem Rw.map (hm:fC R) (hs:w.heap.size<=w2.heap.size) (hk:∀b,G b->b<w.heap.size->H b/\w2.heap[b]?=w.heap[b]?) (h:Rw k R G w l p m):Rw k R H w2 l p m:=
 Sm.rQ.imp hs hk (fun b o hg hb h=>hid fun i hl=>let ⟨c,h0,h1,h2⟩:=h.out i hl;⟨c,h0,h1.keep (hk b hg hb).2,hm hs hk h2⟩) h
theorem Rw.mono (hm:fC R) (hk:∀b,G b->b<w.heap.size->H b) (h:Rw k R G w l p m):Rw k R H w l p m:=h.map hm (ah _) fun b g hb=>⟨hk b g hb,rfl⟩
theorem Rw.below {B:Nat} (hm:fC R) (hb:aj B w w2) (h:Rw k R (Lo B) w l p m):Rw k R (Lo B) w2 l p m:=h.map hm hb.size fun b g _=>⟨g,hb.block b g⟩
theorem Rw.all (hm:fC R) (h:Rw k R G w l p m):Rw k R (Lo w.heap.size) w l p m:=h.mono hm fun b _ hb=>hb
theorem Rw.on (hm:fC R) (hb:aj w.heap.size w w2) (h:Rw k R (Lo w.heap.size) w l p m):Rw k R (Lo w2.heap.size) w2 l p m:=(h.below hm hb).all hm
theorem Rw.len (h:Rw k R G w l p m):l.length=m/\m<=9223372036854775807:=⟨h.1,h.2.1⟩
theorem Rw.nil:Rw k R G w ([]:List α) p 0:=⟨rfl,by omega,.inl rfl⟩
theorem Rw.rows (h:Rw k R G w l p m) (hm:0<m):∃b o,p=V ⟨b,o,Y⟩/\G b/\b<w.heap.size/\Hid (∀i,(h:i<l.length)->∃c,c.size=k/\At w b (o+i*k) c/\R G w l[i] c):=by
 rcases h.2.2 with h|h
 · omega
 · exact h
theorem Rw.take (h:Rw k R G w l p m) {j:Nat} (hj:j<=m):Rw k R G w (l.take j) p j:=by
 obtain⟨h1,h2,h3⟩:=h;refine⟨by rw[List.length_take];omega,by omega,?_⟩;by_cases h0:j=0
 · exact .inl h0
 · rcases h3 with h3|⟨b,o,rfl,hg,hb,hc⟩
   · omega
   · refine .inr ⟨b,o,rfl,hg,hb,hid fun i hi=>?_⟩;rw[List.length_take] at hi;obtain⟨c,q⟩:=hc.out i (by omega);exact⟨c,by rw[List.getElem_take];exact q⟩
end
theorem Ints.on {w w2:U} {l:List Int} {p:Option ai} {m:Nat} (hb:aj w.heap.size w w2) (h:Ints (Lo w.heap.size) w l p m):Ints (Lo w2.heap.size) w2 l p m:=h.map hb.size fun b g _=>⟨ag g hb.size,hb.block b g⟩
theorem fC.on {α:Type} {R:Rec α} (hm:fC R) {w w2:U} {x:α} {c:Array X} (hb:aj w.heap.size w w2) (h:R (Lo w.heap.size) w x c):R (Lo w2.heap.size) w2 x c:=hm hb.size (fun b g=>fun hb2=>⟨ag hb2 hb.size,hb.block b hb2⟩) h
theorem fC.all {α:Type} {R:Rec α} (hm:fC R) {G:Nat->Prop} {w:U} {x:α} {c:Array X} (h:R G w x c):R (Lo w.heap.size) w x c:=hm (ah _) (fun b _ hb=>⟨hb,rfl⟩) h
def dP:Rec ByteArray:=fun _ _ x c=>c=#[.string x]
theorem dP.map:fC dP:=by intro G H w w2 _ _ x c h;exact h
theorem Rw.strs {w:U} {l:List ByteArray} {p:Option ai} {m:Nat} {G:Nat->Prop} (h:Rw 1 dP G w l p m):Strs w p m l:=by
 obtain⟨h1,h2,h3⟩:=h;refine⟨h1,h2,?_⟩;rcases h3 with h3|⟨b,o,rfl,hg,hb,hc⟩
 · exact .inl h3
 · refine .inr ⟨b,o,rfl,hb,hid fun i hi=>?_⟩;obtain⟨c,-,h4,rfl⟩:=hc.out i hi;have:=h4 0 _ rfl;rwa [show o+i*1+0=o+i by omega] at this
def zf (x:dQ):Array X:=#[.int .i64 x.t,.int .i64 x.u]
theorem ajh (x:dQ):(zf x).size=2:=rfl
theorem ajg (x:dQ):(zf x).all (·.oneCell')=true:=by unfold zf;simp[ae]
def iU:Rec dQ:=fun _ _ x c=>c=zf x
theorem iU.map:fC iU:=by intro G H w w2 _ _ x c h;exact h
theorem iU.is {G:Nat->Prop} {w:U} {x:dQ} {c:Array X} (h:iU G w x c):c.size=2/\c.all (·.oneCell')=true:=by
 subst h;exact⟨ajh x,ajg x⟩
def lZ (x:Val):Array X:=#[.string x.nm,.int .i64 x.ty,.int .i64 x.n]
theorem ajA (x:Val):(lZ x).size=3:=rfl
theorem ajz (x:Val):(lZ x).all (·.oneCell')=true:=by unfold lZ;simp[ae]
theorem ZX (x:Val):(lZ x)[0]?=V (.string x.nm):=rfl
theorem SB (x:Val):(lZ x)[1]?=V (.int .i64 x.ty):=rfl
theorem SC (x:Val):(lZ x)[2]?=V (.int .i64 x.n):=rfl
theorem M9:Big 93 3:=⟨⟨_,Tryz.underlying93,rfl⟩,by kernel_rfl⟩
def fV:Rec Val:=fun _ _ x c=>c=lZ x
theorem fV.map:fC fV:=by intro G H w w2 _ _ x c h;exact h
theorem fV.is {G:Nat->Prop} {w:U} {x:Val} {c:Array X} (h:fV G w x c):c.size=3/\c.all (·.oneCell')=true:=by
 subst h;exact⟨ajA x,ajz x⟩
def lD (x:iI):Array X:=#[.string x.nm,.int .i64 x.rm,.int .i64 x.po]
theorem aju (x:iI):(lD x).size=3:=rfl
theorem ajt (x:iI):(lD x).all (·.oneCell')=true:=by unfold lD;simp[ae]
theorem NI (x:iI):(lD x)[0]?=V (.string x.nm):=rfl
theorem ajr (x:iI):(lD x)[1]?=V (.int .i64 x.rm):=rfl
theorem ajs (x:iI):(lD x)[2]?=V (.int .i64 x.po):=rfl
theorem M8:Big 114 3:=⟨⟨_,Tryz.underlying114,rfl⟩,by kernel_rfl⟩
def jZ:Rec iI:=fun _ _ x c=>c=lD x
theorem jZ.map:fC jZ:=by intro G H w w2 _ _ x c h;exact h
theorem jZ.is {G:Nat->Prop} {w:U} {x:iI} {c:Array X} (h:jZ G w x c):c.size=3/\c.all (·.oneCell')=true:=by
 subst h;exact⟨aju x,ajt x⟩
def lC (x:iF):Array X:=#[.string x.nm,.int .i64 x.ln,.int .i64 x.sp]
theorem ajf (x:iF):(lC x).size=3:=rfl
theorem aje (x:iF):(lC x).all (·.oneCell')=true:=by unfold lC;simp[ae]
theorem Nl (x:iF):(lC x)[0]?=V (.string x.nm):=rfl
theorem ajc (x:iF):(lC x)[1]?=V (.int .i64 x.ln):=rfl
theorem ajd (x:iF):(lC x)[2]?=V (.int .i64 x.sp):=rfl
theorem M5:Big 116 3:=⟨⟨_,Tryz.underlying116,rfl⟩,by kernel_rfl⟩
def jY:Rec iF:=fun _ _ x c=>c=lC x
theorem jY.map:fC jY:=by intro G H w w2 _ _ x c h;exact h
theorem jY.is {G:Nat->Prop} {w:U} {x:iF} {c:Array X} (h:jY G w x c):c.size=3/\c.all (·.oneCell')=true:=by
 subst h;exact⟨ajf x,aje x⟩
def gI (x:d_):Array X:=#[.string x.nm,.int .i64 x.ty]
theorem ajk (x:d_):(gI x).size=2:=rfl
theorem ajj (x:d_):(gI x).all (·.oneCell')=true:=by unfold gI;simp[ae]
theorem aji (x:d_):(gI x)[0]?=V (.string x.nm):=rfl
theorem ZO (x:d_):(gI x)[1]?=V (.int .i64 x.ty):=rfl
theorem Sg:Big 179 2:=⟨⟨_,Tryz.underlying179,rfl⟩,by kernel_rfl⟩
def dH:Rec d_:=fun _ _ x c=>c=gI x
theorem dH.map:fC dH:=by intro G H w w2 _ _ x c h;exact h
theorem dH.is {G:Nat->Prop} {w:U} {x:d_} {c:Array X} (h:dH G w x c):c.size=2/\c.all (·.oneCell')=true:=by
 subst h;exact⟨ajk x,ajj x⟩
def iw (x:gU):Array X:=#[.int .i64 x.co,.string x.wh,.string x.nm]
theorem ajy (x:gU):(iw x).size=3:=rfl
theorem ajx (x:gU):(iw x).all (·.oneCell')=true:=by unfold iw;simp[ae]
theorem ZW (x:gU):(iw x)[0]?=V (.int .i64 x.co):=rfl
theorem ajv (x:gU):(iw x)[1]?=V (.string x.wh):=rfl
theorem ajw (x:gU):(iw x)[2]?=V (.string x.nm):=rfl
theorem Sj:Big 181 3:=⟨⟨_,Tryz.underlying181,rfl⟩,by kernel_rfl⟩
def jw:Rec gU:=fun _ _ x c=>c=iw x
theorem jw.map:fC jw:=by intro G H w w2 _ _ x c h;exact h
theorem jw.is {G:Nat->Prop} {w:U} {x:gU} {c:Array X} (h:jw G w x c):c.size=3/\c.all (·.oneCell')=true:=by
 subst h;exact⟨ajy x,ajx x⟩
def oN (x:gz):Array X:=#[.string x.fr,.string x.tt,.int .i64 x.de]
theorem ajm (x:gz):(oN x).size=3:=rfl
theorem ajl (x:gz):(oN x).all (·.oneCell')=true:=by unfold oN;simp[ae]
theorem ZP (x:gz):(oN x)[0]?=V (.string x.fr):=rfl
theorem ZQ (x:gz):(oN x)[1]?=V (.string x.tt):=rfl
theorem ZR (x:gz):(oN x)[2]?=V (.int .i64 x.de):=rfl
theorem Si:Big 73 3:=⟨⟨_,Tryz.underlying73,rfl⟩,by kernel_rfl⟩
def ng:Rec gz:=fun _ _ x c=>c=oN x
theorem ng.map:fC ng:=by intro G H w w2 _ _ x c h;exact h
theorem ng.is {G:Nat->Prop} {w:U} {x:gz} {c:Array X} (h:ng G w x c):c.size=3/\c.all (·.oneCell')=true:=by
 subst h;exact⟨ajm x,ajl x⟩
structure eO where
 yE:Option ai
 Bq:Nat
 zR:Nat
 tu:Option ai
 sZ:Nat
 vX:Nat
 tF:Option ai
 tC:Nat
 vY:Nat
 rW:Option ai
 rV:Nat
 u_:Nat
 rY:Option ai
 rX:Nat
 ve:Nat
def dI (x:dm) (P:eO):Array X:=#[.string x.nm,.int .i64 x.un,.slice P.yE P.Bq P.zR,.int .i64 x.cy,.string x.fs,.int .i64 x.up.op,.int .i64 x.up.a,.int .i64 x.up.b,.int .i64 x.up.n,.slice P.tu P.sZ P.vX,.slice P.tF P.tC P.vY,.int .i64 x.dn.op,.int .i64 x.dn.a,.int .i64 x.dn.b,.int .i64 x.dn.n,.slice P.rW P.rV P.u_,.slice P.rY P.rX P.ve]
theorem ajp (x:dm) (P:eO):(dI x P).size=17:=rfl
theorem Ee (x:dm) (P:eO):(dI x P).all (·.oneCell')=true:=by unfold dI;simp[ae]
theorem Gf (x:dm) (P:eO):(dI x P)[0]?=V (.string x.nm):=rfl
theorem Np (x:dm) (P:eO):(dI x P)[1]?=V (.int .i64 x.un):=rfl
theorem Jc (x:dm) (P:eO):(dI x P)[2]?=V (.slice P.yE P.Bq P.zR):=rfl
theorem Jd (x:dm) (P:eO):(dI x P)[3]?=V (.int .i64 x.cy):=rfl
theorem Nz (x:dm) (P:eO):(dI x P)[4]?=V (.string x.fs):=rfl
theorem NA (x:dm) (P:eO):(dI x P)[5]?=V (.int .i64 x.up.op):=rfl
theorem NB (x:dm) (P:eO):(dI x P)[6]?=V (.int .i64 x.up.a):=rfl
theorem NC (x:dm) (P:eO):(dI x P)[7]?=V (.int .i64 x.up.b):=rfl
theorem ND (x:dm) (P:eO):(dI x P)[8]?=V (.int .i64 x.up.n):=rfl
theorem NF (x:dm) (P:eO):(dI x P)[9]?=V (.slice P.tu P.sZ P.vX):=rfl
theorem Nq (x:dm) (P:eO):(dI x P)[10]?=V (.slice P.tF P.tC P.vY):=rfl
theorem Nr (x:dm) (P:eO):(dI x P)[11]?=V (.int .i64 x.dn.op):=rfl
theorem Ns (x:dm) (P:eO):(dI x P)[12]?=V (.int .i64 x.dn.a):=rfl
theorem Nt (x:dm) (P:eO):(dI x P)[13]?=V (.int .i64 x.dn.b):=rfl
theorem Nv (x:dm) (P:eO):(dI x P)[14]?=V (.int .i64 x.dn.n):=rfl
theorem Nw (x:dm) (P:eO):(dI x P)[15]?=V (.slice P.rW P.rV P.u_):=rfl
theorem Ny (x:dm) (P:eO):(dI x P)[16]?=V (.slice P.rY P.rX P.ve):=rfl
theorem Cc:Big 111 17:=⟨⟨_,Tryz.underlying111,rfl⟩,by kernel_rfl⟩
structure m_ (G:Nat->Prop) (w:U) (x:dm) (P:eO):Prop where
 sh:Rw 2 iU G w x.sh P.yE P.Bq
 upv:Ints G w x.up.vs P.tu P.sZ
 upw:Ints G w x.up.ws P.tF P.tC
 dnv:Ints G w x.dn.vs P.rW P.rV
 dnw:Ints G w x.dn.ws P.rY P.rX
theorem m_.map {G H:Nat->Prop} {w w2:U} (hs:w.heap.size<=w2.heap.size) (hk:∀b,G b->b<w.heap.size->H b/\w2.heap[b]?=w.heap[b]?) {x:dm} {P:eO} (h:m_ G w x P):m_ H w2 x P:=
 ⟨h.sh.map iU.map hs hk,h.upv.map hs hk,h.upw.map hs hk,h.dnv.map hs hk,h.dnw.map hs hk⟩
theorem m_.on {w w2:U} (hb:aj w.heap.size w w2) {x:dm} {P:eO} (h:m_ (Lo w.heap.size) w x P):m_ (Lo w2.heap.size) w2 x P:=h.map hb.size fun b g _=>⟨ag g hb.size,hb.block b g⟩
theorem m_.all {G:Nat->Prop} {w:U} {x:dm} {P:eO} (h:m_ G w x P):m_ (Lo w.heap.size) w x P:=h.map (ah _) fun b _ hb=>⟨hb,rfl⟩
def iV:Rec dm:=fun G w x c=>∃P,c=dI x P/\m_ G w x P
theorem iV.map:fC iV:=by intro G H w w2 hs hk x c ⟨P,h1,h2⟩;exact⟨P,h1,h2.map hs hk⟩
theorem iV.is {G:Nat->Prop} {w:U} {x:dm} {c:Array X} (h:iV G w x c):c.size=17/\c.all (·.oneCell')=true:=by
 obtain⟨P,rfl,-⟩:=h;exact⟨ajp x P,Ee x P⟩
structure qV where
 Df:Option ai
 nH:Nat
 GY:Nat
 GM:Option ai
 EJ:Nat
 Kn:Nat
 xX:Option ai
 xW:Nat
 za:Nat
def fJ (x:eQ) (P:qV):Array X:=#[.string x.nm,.slice P.Df P.nH P.GY,.slice P.GM P.EJ P.Kn,.slice P.xX P.xW P.za]
theorem ajq (x:eQ) (P:qV):(fJ x P).size=4:=rfl
theorem j_ (x:eQ) (P:qV):(fJ x P).all (·.oneCell')=true:=by unfold fJ;simp[ae]
theorem Ef (x:eQ) (P:qV):(fJ x P)[0]?=V (.string x.nm):=rfl
theorem Je (x:eQ) (P:qV):(fJ x P)[1]?=V (.slice P.Df P.nH P.GY):=rfl
theorem NG (x:eQ) (P:qV):(fJ x P)[2]?=V (.slice P.GM P.EJ P.Kn):=rfl
theorem Jf (x:eQ) (P:qV):(fJ x P)[3]?=V (.slice P.xX P.xW P.za):=rfl
theorem F6:Big 119 4:=⟨⟨_,Tryz.underlying119,rfl⟩,by kernel_rfl⟩
structure qw (G:Nat->Prop) (w:U) (x:eQ) (P:qV):Prop where
 ps:Rw 2 dH G w x.ps P.Df P.nH
 ls:Rw 2 dH G w x.ls P.GM P.EJ
 bo:dE G w x.bo P.xX P.xW
theorem qw.map {G H:Nat->Prop} {w w2:U} (hs:w.heap.size<=w2.heap.size) (hk:∀b,G b->b<w.heap.size->H b/\w2.heap[b]?=w.heap[b]?) {x:eQ} {P:qV} (h:qw G w x P):qw H w2 x P:=
 ⟨h.ps.map dH.map hs hk,h.ls.map dH.map hs hk,h.bo.map hs hk⟩
theorem qw.on {w w2:U} (hb:aj w.heap.size w w2) {x:eQ} {P:qV} (h:qw (Lo w.heap.size) w x P):qw (Lo w2.heap.size) w2 x P:=h.map hb.size fun b g _=>⟨ag g hb.size,hb.block b g⟩
theorem qw.all {G:Nat->Prop} {w:U} {x:eQ} {P:qV} (h:qw G w x P):qw (Lo w.heap.size) w x P:=h.map (ah _) fun b _ hb=>⟨hb,rfl⟩
def gT:Rec eQ:=fun G w x c=>∃P,c=fJ x P/\qw G w x P
theorem gT.map:fC gT:=by intro G H w w2 hs hk x c ⟨P,h1,h2⟩;exact⟨P,h1,h2.map hs hk⟩
theorem gT.is {G:Nat->Prop} {w:U} {x:eQ} {c:Array X} (h:gT G w x c):c.size=4/\c.all (·.oneCell')=true:=by
 obtain⟨P,rfl,-⟩:=h;exact⟨ajq x P,j_ x P⟩
structure qX where
 Cb:Option ai
 arm:Nat
 IW:Nat
def fB (x:h_) (P:qX):Array X:=#[.string x.ro,.slice P.Cb P.arm P.IW,.int .i64 x.a,.int .i64 x.e,.int .i64 x.u]
theorem ZU (x:h_) (P:qX):(fB x P).size=5:=rfl
theorem jP (x:h_) (P:qX):(fB x P).all (·.oneCell')=true:=by unfold fB;simp[ae]
theorem NH (x:h_) (P:qX):(fB x P)[0]?=V (.string x.ro):=rfl
theorem Jg (x:h_) (P:qX):(fB x P)[1]?=V (.slice P.Cb P.arm P.IW):=rfl
theorem Jh (x:h_) (P:qX):(fB x P)[2]?=V (.int .i64 x.a):=rfl
theorem Ji (x:h_) (P:qX):(fB x P)[3]?=V (.int .i64 x.e):=rfl
theorem Jj (x:h_) (P:qX):(fB x P)[4]?=V (.int .i64 x.u):=rfl
theorem F7:Big 122 5:=⟨⟨_,Tryz.underlying122,rfl⟩,by kernel_rfl⟩
structure pJ (G:Nat->Prop) (w:U) (x:h_) (P:qX):Prop where
 ar:Ints G w x.ar P.Cb P.arm
theorem pJ.map {G H:Nat->Prop} {w w2:U} (hs:w.heap.size<=w2.heap.size) (hk:∀b,G b->b<w.heap.size->H b/\w2.heap[b]?=w.heap[b]?) {x:h_} {P:qX} (h:pJ G w x P):pJ H w2 x P:=
 ⟨h.ar.map hs hk⟩
theorem pJ.on {w w2:U} (hb:aj w.heap.size w w2) {x:h_} {P:qX} (h:pJ (Lo w.heap.size) w x P):pJ (Lo w2.heap.size) w2 x P:=h.map hb.size fun b g _=>⟨ag g hb.size,hb.block b g⟩
theorem pJ.all {G:Nat->Prop} {w:U} {x:h_} {P:qX} (h:pJ G w x P):pJ (Lo w.heap.size) w x P:=h.map (ah _) fun b _ hb=>⟨hb,rfl⟩
def kU:Rec h_:=fun G w x c=>∃P,c=fB x P/\pJ G w x P
theorem kU.map:fC kU:=by intro G H w w2 hs hk x c ⟨P,h1,h2⟩;exact⟨P,h1,h2.map hs hk⟩
theorem kU.is {G:Nat->Prop} {w:U} {x:h_} {c:Array X} (h:kU G w x c):c.size=5/\c.all (·.oneCell')=true:=by
 obtain⟨P,rfl,-⟩:=h;exact⟨ZU x P,jP x P⟩
structure rR where
 Dz:Option ai
 Bw:Nat
 Fv:Nat
def fo (x:Lw) (P:rR):Array X:=#[.string x.nm,.slice P.Dz P.Bw P.Fv,.int .i64 x.tt]
theorem ajn (x:Lw) (P:rR):(fo x P).size=3:=rfl
theorem Nn (x:Lw) (P:rR):(fo x P).all (·.oneCell')=true:=by unfold fo;simp[ae]
theorem Ec (x:Lw) (P:rR):(fo x P)[0]?=V (.string x.nm):=rfl
theorem Jb (x:Lw) (P:rR):(fo x P)[1]?=V (.slice P.Dz P.Bw P.Fv):=rfl
theorem Ga (x:Lw) (P:rR):(fo x P)[2]?=V (.int .i64 x.tt):=rfl
theorem M6:Big 127 3:=⟨⟨_,Tryz.underlying127,rfl⟩,by kernel_rfl⟩
structure oL (G:Nat->Prop) (w:U) (x:Lw) (P:rR):Prop where
 ts:Rw 3 jw G w x.ts P.Dz P.Bw
theorem oL.map {G H:Nat->Prop} {w w2:U} (hs:w.heap.size<=w2.heap.size) (hk:∀b,G b->b<w.heap.size->H b/\w2.heap[b]?=w.heap[b]?) {x:Lw} {P:rR} (h:oL G w x P):oL H w2 x P:=
 ⟨h.ts.map jw.map hs hk⟩
theorem oL.on {w w2:U} (hb:aj w.heap.size w w2) {x:Lw} {P:rR} (h:oL (Lo w.heap.size) w x P):oL (Lo w2.heap.size) w2 x P:=h.map hb.size fun b g _=>⟨ag g hb.size,hb.block b g⟩
theorem oL.all {G:Nat->Prop} {w:U} {x:Lw} {P:rR} (h:oL G w x P):oL (Lo w.heap.size) w x P:=h.map (ah _) fun b _ hb=>⟨hb,rfl⟩
def kT:Rec Lw:=fun G w x c=>∃P,c=fo x P/\oL G w x P
theorem kT.map:fC kT:=by intro G H w w2 hs hk x c ⟨P,h1,h2⟩;exact⟨P,h1,h2.map hs hk⟩
theorem kT.is {G:Nat->Prop} {w:U} {x:Lw} {c:Array X} (h:kT G w x c):c.size=3/\c.all (·.oneCell')=true:=by
 obtain⟨P,rfl,-⟩:=h;exact⟨ajn x P,Nn x P⟩
structure fe where
 jb:Option ai
 ja:Nat
 i_:Nat
 jD:Option ai
 dS:Nat
 gq:Nat
 jT:Option ai
 dD:Nat
 kD:Nat
 kJ:Option ai
 eF:Nat
 kV:Nat
 vQ:Option ai
 vP:Nat
 vO:Nat
 sU:Option ai
 sS:Nat
 sQ:Nat
 vU:Option ai
 vT:Nat
 tac:Nat
 vE:Option ai
 vD:Nat
 vC:Nat
 uZ:Option ai
 uY:Nat
 uX:Nat
 mi:Option ai
 ed:Nat
 k_:Nat
 qi:Option ai
 fG:Nat
 nI:Nat
 vB:Option ai
 lam:Nat
 rz:Nat
def bX (x:b_) (P:fe):Array X:=#[.string x.nm,.slice P.jb P.ja P.i_,.slice P.jD P.dS P.gq,.slice P.jT P.dD P.kD,.slice P.kJ P.eF P.kV,.slice P.vQ P.vP P.vO,.slice P.sU P.sS P.sQ,.slice P.vU P.vT P.tac,.slice P.vE P.vD P.vC,.slice P.uZ P.uY P.uX,.slice P.mi P.ed P.k_,.slice P.qi P.fG P.nI,.slice P.vB P.lam P.rz]
theorem SA (x:b_) (P:fe):(bX x P).size=13:=rfl
theorem ZV (x:b_) (P:fe):(bX x P).all (·.oneCell')=true:=by unfold bX;simp[ae]
theorem Gg (x:b_) (P:fe):(bX x P)[0]?=V (.string x.nm):=rfl
theorem Jk (x:b_) (P:fe):(bX x P)[1]?=V (.slice P.jb P.ja P.i_):=rfl
theorem Ei (x:b_) (P:fe):(bX x P)[2]?=V (.slice P.jD P.dS P.gq):=rfl
theorem Ej (x:b_) (P:fe):(bX x P)[3]?=V (.slice P.jT P.dD P.kD):=rfl
theorem El (x:b_) (P:fe):(bX x P)[4]?=V (.slice P.kJ P.eF P.kV):=rfl
theorem Jl (x:b_) (P:fe):(bX x P)[5]?=V (.slice P.vQ P.vP P.vO):=rfl
theorem Gh (x:b_) (P:fe):(bX x P)[6]?=V (.slice P.sU P.sS P.sQ):=rfl
theorem Jm (x:b_) (P:fe):(bX x P)[7]?=V (.slice P.vU P.vT P.tac):=rfl
theorem Jn (x:b_) (P:fe):(bX x P)[8]?=V (.slice P.vE P.vD P.vC):=rfl
theorem Jo (x:b_) (P:fe):(bX x P)[9]?=V (.slice P.uZ P.uY P.uX):=rfl
theorem Ap (x:b_) (P:fe):(bX x P)[10]?=V (.slice P.mi P.ed P.k_):=rfl
theorem Eg (x:b_) (P:fe):(bX x P)[11]?=V (.slice P.qi P.fG P.nI):=rfl
theorem Eh (x:b_) (P:fe):(bX x P)[12]?=V (.slice P.vB P.lam P.rz):=rfl
theorem M7:Big 53 13:=⟨⟨_,Tryz.underlying53,rfl⟩,by kernel_rfl⟩
structure iT (G:Nat->Prop) (w:U) (x:b_) (P:fe):Prop where
 va:Rw 3 fV G w x.va P.jb P.ja
 rs:Rw 17 iV G w x.rs P.jD P.dS
 st:Rw 3 jZ G w x.st P.jT P.dD
 be:Rw 3 jY G w x.be P.kJ P.eF
 qu:Rw 1 dP G w x.qu P.vQ P.vP
 sm:Rw 1 dP G w x.sm P.sU P.sS
 ta:Rw 1 dP G w x.ta P.vU P.vT
 le:Rw 1 dP G w x.le P.vE P.vD
 co:Rw 1 dP G w x.co P.uZ P.uY
 ro:Rw 4 gT G w x.ro P.mi P.ed
 ss:Rw 5 kU G w x.ss P.qi P.fG
 la:Rw 3 kT G w x.la P.vB P.lam
theorem iT.map {G H:Nat->Prop} {w w2:U} (hs:w.heap.size<=w2.heap.size) (hk:∀b,G b->b<w.heap.size->H b/\w2.heap[b]?=w.heap[b]?) {x:b_} {P:fe} (h:iT G w x P):iT H w2 x P:=
 ⟨h.va.map fV.map hs hk,h.rs.map iV.map hs hk,h.st.map jZ.map hs hk,h.be.map jY.map hs hk,h.qu.map dP.map hs hk,h.sm.map dP.map hs hk,h.ta.map dP.map hs hk,h.le.map dP.map hs hk,h.co.map dP.map hs hk,h.ro.map gT.map hs hk,h.ss.map kU.map hs hk,h.la.map kT.map hs hk⟩
theorem iT.on {w w2:U} (hb:aj w.heap.size w w2) {x:b_} {P:fe} (h:iT (Lo w.heap.size) w x P):iT (Lo w2.heap.size) w2 x P:=h.map hb.size fun b g _=>⟨ag g hb.size,hb.block b g⟩
theorem iT.all {G:Nat->Prop} {w:U} {x:b_} {P:fe} (h:iT G w x P):iT (Lo w.heap.size) w x P:=h.map (ah _) fun b _ hb=>⟨hb,rfl⟩
def gH:Rec b_:=fun G w x c=>∃P,c=bX x P/\iT G w x P
theorem gH.map:fC gH:=by intro G H w w2 hs hk x c ⟨P,h1,h2⟩;exact⟨P,h1,h2.map hs hk⟩
theorem gH.is {G:Nat->Prop} {w:U} {x:b_} {c:Array X} (h:gH G w x c):c.size=13/\c.all (·.oneCell')=true:=by
 obtain⟨P,rfl,-⟩:=h;exact⟨SA x P,ZV x P⟩
structure kS where
 pap:Option ai
 sO:Nat
 sN:Nat
 rH:Option ai
 ig:Nat
 qg:Nat
 xm:Option ai
 lim:Nat
 yx:Nat
def dB (x:dx) (P:kS):Array X:=#[.string x.nm,.slice P.pap P.sO P.sN,.slice P.rH P.ig P.qg,.slice P.xm P.lim P.yx]
theorem ajo (x:dx) (P:kS):(dB x P).size=4:=rfl
theorem ZT (x:dx) (P:kS):(dB x P).all (·.oneCell')=true:=by unfold dB;simp[ae]
theorem Gb (x:dx) (P:kS):(dB x P)[0]?=V (.string x.nm):=rfl
theorem Gc (x:dx) (P:kS):(dB x P)[1]?=V (.slice P.pap P.sO P.sN):=rfl
theorem Cg (x:dx) (P:kS):(dB x P)[2]?=V (.slice P.rH P.ig P.qg):=rfl
theorem Ed (x:dx) (P:kS):(dB x P)[3]?=V (.slice P.xm P.lim P.yx):=rfl
theorem aiR:Big 27 4:=⟨⟨_,Tryz.underlying27,rfl⟩,by kernel_rfl⟩
structure iG (G:Nat->Prop) (w:U) (x:dx) (P:kS):Prop where
 pa:Rw 3 fV G w x.pa P.pap P.sO
 si:Rw 13 gH G w x.si P.rH P.ig
 li:Rw 3 ng G w x.li P.xm P.lim
theorem iG.map {G H:Nat->Prop} {w w2:U} (hs:w.heap.size<=w2.heap.size) (hk:∀b,G b->b<w.heap.size->H b/\w2.heap[b]?=w.heap[b]?) {x:dx} {P:kS} (h:iG G w x P):iG H w2 x P:=
 ⟨h.pa.map fV.map hs hk,h.si.map gH.map hs hk,h.li.map ng.map hs hk⟩
theorem iG.on {w w2:U} (hb:aj w.heap.size w w2) {x:dx} {P:kS} (h:iG (Lo w.heap.size) w x P):iG (Lo w2.heap.size) w2 x P:=h.map hb.size fun b g _=>⟨ag g hb.size,hb.block b g⟩
theorem iG.all {G:Nat->Prop} {w:U} {x:dx} {P:kS} (h:iG G w x P):iG (Lo w.heap.size) w x P:=h.map (ah _) fun b _ hb=>⟨hb,rfl⟩
def Aj:Rec dx:=fun G w x c=>∃P,c=dB x P/\iG G w x P
theorem Aj.map:fC Aj:=by intro G H w w2 hs hk x c ⟨P,h1,h2⟩;exact⟨P,h1,h2.map hs hk⟩
theorem Aj.is {G:Nat->Prop} {w:U} {x:dx} {c:Array X} (h:Aj G w x c):c.size=4/\c.all (·.oneCell')=true:=by
 obtain⟨P,rfl,-⟩:=h;exact⟨ajo x P,ZT x P⟩
end Md
namespace Sm
open Go.RowKit
open Ex (Ex In Gives)
attribute [local go_sem] cs0 cs1 cs2 wU wV wW wX wY wZ w_ wJ wK wL wM wN wO wP wQ wR wS wT
set_option maxHeartbeats 2000000
set_option maxRecDepth 100000 in
theorem ap9 (l:List Ex)
 (l2:List Ex) (p:Option ai) (m c:Nat) (p2:Option ai) (m2 c2:Nat) (w:U) (h:In w (.mk 0 nE 0 l) p m) (h2:In w (.mk 0 nE 0 l2) p2 m2) :
 Calls af 21 #[.slice p m c,.slice p2 m2 c2] w (Gives (.bool (Ex.ky l l2)) w):=by
 have HH:=hid h;have qm:=hid h2;obtain⟨hl,hm⟩:=h.len;obtain⟨hl2,hm2⟩:=h2.len;have HL:=hid hl;have HL2:=hid hl2;clear h h2 hl hl2;by_cases hmm:m=m2
 · subst hmm;go_enter Tryz.func21,Tryz.ntmps21;go_wp2_with fail;go_loopw [5] (fun i wr=>∃k:Nat,k<=m/\Hid (l.take k=l2.take k)/\i=.int .i64 (k:Nat)/\Hid (aj w.heap.size w wr)) (fun i _=>m-(intOf i).toNat)
   case atStart=>exact⟨0,Nat.zero_le _,hid rfl,rfl,hid bl⟩
   case round=>
    obtain⟨k,hk,HT0,rfl,HW⟩:=hrel;have k0:(0:Int)<=(k:Int):=by omega
    rcases Nat.lt_or_ge k m with h|h
    · have k1:(k:Int)<(m:Int):=by omega
      obtain⟨b,o',rfl,-,hG,hcell⟩:=HH.out.kids (by omega);have hkl:k<l.length:=by rw[HL.out];omega
      obtain⟨q,j,c',hc4,kL⟩:=hcell.out k hkl;have hmem:l[k]∈l:=List.getElem_mem hkl;have hgx:l[k]?=V l[k]:=au hkl;obtain⟨x,hx⟩:∃x,l[k]=x:=⟨_,rfl⟩
      rw[hx] at hc4 kL hmem hgx;obtain⟨e0,e1,e2,e3⟩:=hc4.on HW.out hG;have Ad:=hid kL;have HX:=hid hgx;have HM:=hid hmem;clear hcell hc4 kL hx hmem hgx hkl;obtain⟨b',o'',rfl,-,hG',hcell'⟩:=qm.out.kids (by omega);have dM:k<l2.length:=by rw[HL2.out];omega
      obtain⟨q',j',c'',yg,yj⟩:=hcell'.out k dM;have yn:l2[k]∈l2:=List.getElem_mem dM;have hgx2:l2[k]?=V l2[k]:=au dM;obtain⟨y,hy⟩:∃y,l2[k]=y:=⟨_,rfl⟩
      rw[hy] at yg yj yn hgx2;obtain⟨f0,f1,f2,f3⟩:=yg.on HW.out hG';have Iy:=hid yj;have dV:=hid hgx2;have YD:=hid yn;clear hcell' yg yj hy yn hgx2 dM;have HS:=hid (Ex.VD HX.out dV.out);have HE:=hid (Ex.take_same HX.out dV.out);have HI1:=hid (fun W=>Ex.Fb x y q j c' q' j' c'' W);obtain⟨E,hE⟩:∃E,Ex.same x y=E:=⟨_,rfl⟩
      rw[hE] at HI1 HS HE;clear hE;have hb1:b'<wr.heap.size:=ag hG' HW.out.size;go_wp2_with fail;go_region_with (go_at_call 12;refine(HI1.out _ (Ad.out.on (by have bU:=HW.out;exact bl)) (Iy.out.on (by have bU:=HW.out;exact bl))).mono ?_;rintro e w2 ⟨rfl,hb2⟩)
      all_goals
       have HW2:Hid (aj w.heap.size w w2):=hid (by have bU:=HW.out;exact bl);clear hb2 HI1
       cases E with
       | true=>
        have HR:=hid (HE.out rfl HT0.out);go_wp2_with fail;go_roundw
        case rel=>exact⟨k+1,by omega,HR,by go_num,HW2⟩
        case measure=>simp[intOf];omega
       | false=>
        have HR:=hid (HS.out rfl);go_wp2_with fail;go_ret;exact⟨by rw[HR.out];rfl,HW2.out⟩
    · obtain rfl:m=k:=by omega
      have HR:Hid (Ex.ky l l2=true):=hid (by
       have h1:=HT0.out;rw[List.take_of_length_le (by rw[HL.out];exact ah _),List.take_of_length_le (by rw[HL2.out];exact ah _)] at h1;rw[h1];exact Ex.G_ _)
      go_wp2_with fail;go_ret;exact⟨by rw[HR.out];rfl,HW.out⟩
 · rw[Ex.VA (by rw[HL.out,HL2.out];exact hmm)];have t1:((m:Int)==(m2:Int))=false:=beq_eq_false_iff_ne.2 (by omega);have t2:((m:Int) != (m2:Int))=true:=bne_iff_ne.2 (by omega);clear hmm;go_enter Tryz.func21,Tryz.ntmps21;go_wp2_with fail;go_ret;exact⟨rfl,bl⟩
end Sm
namespace Sm
open Go.RowKit
open Ex (Gives)
attribute [local go_sem] cs0 cs1 cs2 wU wV wW wX wY wZ w_ wJ wK wL wM wN wO wP wQ wR wS wT
set_option maxHeartbeats 1000000
abbrev aid (f:FuncId) (sl:List St):Prop:=∀(l2:List St) (p:Option ai) (m c:Nat) (p2:Option ai) (m2 c2:Nat) (w:U),oK w sl p m->oK w l2 p2 m2->Calls af f #[.slice p m c,.slice p2 m2 c2] w (Gives (.bool (jN sl l2)) w)
theorem Qb {x y:St} (h:Bo x y=false):zP x y=false:=by rw[VG,h];rfl
end Sm
namespace Sm
open Go.RowKit
attribute [local go_sem] cs0 cs1 cs2 wU wV wW wX wY wZ w_ wJ wK wL wM wN wO wP wQ wR wS wT
set_option maxHeartbeats 2000000
set_option linter.unusedSimpArgs false
abbrev P0:Pl:=⟨Y,0,0,Y,0,0,Y,0,0,Y,0,0,Y,0,0,Y,0,0,Y,0,0⟩
theorem nA {G:Nat->Prop} {w:U} {p:Option ai}:Ints G w [] p 0:=⟨rfl,by omega,.inl rfl⟩
theorem apy {o:Option TypeInfo} {z:X} {s b:Nat} (h:o.map (fun i=>(i.zero,i.size,i.bytes))=V (V z,s,b)):∃i,o=V i/\i.zero=V z/\i.size=s/\i.bytes=b:=by
 cases o with
 | none=>cases h
 | some i=>simp only[Option.map_some,Option.some.injEq,Prod.mk.injEq] at h;exact⟨i,rfl,h.1,h.2.1,h.2.2⟩
theorem amh:(Tryz.prog.info? 60).map (fun i=>(i.zero,i.size,i.bytes))=V (V (.agg #[.int .i64 0,.string ⟨#[]⟩,.string ⟨#[]⟩,.int .i64 0,.string ⟨#[]⟩,.int .i64 0,.slice Y 0 0,.int .i64 0,.string ⟨#[]⟩,.int .i64 0,.slice Y 0 0,.slice Y 0 0,.int .i64 0,.int .i64 0,.int .i64 0,.int .i64 0,.slice Y 0 0,.slice Y 0 0,.bool false,.slice Y 0 0,.slice Y 0 0]),21,312):=by kernel_rfl
theorem afj (x:St) (P:Pl) (z:Array X) (hz:z.size=21) (W:U) (B:Nat) (hB:W.heap.size=B):(storeCells ⟨B,0,Y⟩ (cs x P).toList 0).run af (W.alloc (.cells z 60))=.ok () (W.alloc (.cells (cs x P) 60)):=by subst hB;exact Le x P z hz W
theorem afk (x:St) (P:Pl) (z:Array X) (hz:z.size=21) (W:U) (B:Nat) (hB:W.heap.size=B):(storeVar 60 ⟨B,0,Y⟩ (.agg (cs x P))).run af (W.alloc (.cells z 60))=.ok () (W.alloc (.cells (cs x P) 60)):=by subst hB;exact Lg x P z hz W
theorem afi (x:St) (P:Pl) (z:Array X) (hz:z.size=21) (W:U) (B:Nat) (hB:W.heap.size=B):(Instr.storeAt 60 (.pointer (V ⟨B,0,Y⟩)) (.agg (cs x P))).run af (W.alloc (.cells z 60))=.ok () (W.alloc (.cells (cs x P) 60)):=by subst hB;exact Lf x P z hz W
end Sm
end Go.Proofs.YtbgodajefaahdaaGreatDoor
