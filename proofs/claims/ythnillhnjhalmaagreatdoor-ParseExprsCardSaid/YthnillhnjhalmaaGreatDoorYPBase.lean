/-
  Parts of this proof: Words for worlds and statements in memory. Words for worlds and lists of texts in memory; h. The contracts of Find, of the library and of the. Closing tactics under a short name. The contracts of Const, of the reference's Const. The contracts of Depth. The contracts of the reference's Nodes and Depth. The contracts of Same and of the library's Equal. What the chapter's examples are.
-/
import Derived.Test.YthnillhnjhalmaaGreatDoorYPMath
open Go.Proofs.Tryz
open Go renaming World->U,Addr->ag,bodyPost_ret->au
open Option renaming none->V,some->X
open Go.Proofs.Tryz renaming prog->ae
open Go.RowKit renaming Below->af
open List renaming getElem?_eq_getElem->ah
open Go.Lib renaming hid->ai
open Nat renaming le_refl->aj,lt_or_ge->ak,zero_le->av
set_option linter.unusedVariables false
set_option maxRecDepth 100000
set_option maxHeartbeats 2000000
open Go.Lib (hid)
namespace Go.Proofs.YthnillhnjhalmaaGreatDoor
namespace Sm
open Go.RowKit
open Ex (Ex bW In Sz Lo)
structure Pl where
 ep:Option ag
 em:Nat
 ec:Nat
 gp:Option ag
 gm:Nat
 gc:Nat
 ap:Option ag
 am:Nat
 ac:Nat
 vp:Option ag
 vm:Nat
 vc:Nat
 wp:Option ag
 wm:Nat
 wc:Nat
 bp:Option ag
 bm:Nat
 bc:Nat
 lp:Option ag
 lm:Nat
 lc:Nat
def cs (x:St) (P:Pl):Array Value:=#[.int .i64 x.o,.string x.nm,.string x.f,.int .i64 x.e.o,.string x.e.s,.int .i64 x.e.n,.slice P.ep P.em P.ec,.int .i64 x.g.o,.string x.g.s,.int .i64 x.g.n,.slice P.gp P.gm P.gc,.slice P.ap P.am P.ac,.int .i64 x.di.op,.int .i64 x.di.a,.int .i64 x.di.b,.int .i64 x.di.n,.slice P.vp P.vm P.vc,.slice P.wp P.wm P.wc,.bool x.fl,.slice P.bp P.bm P.bc,.slice P.lp P.lm P.lc]
theorem Yg (x:St) (P:Pl):(cs x P).size=21:=rfl
theorem jV (x:St) (P:Pl):(cs x P).all (·.oneCell')=true:=by unfold cs;simp[Value.oneCell']
theorem cs0 (x:St) (P:Pl):(cs x P)[0]?=X (.int .i64 x.o):=rfl
theorem cs1 (x:St) (P:Pl):(cs x P)[1]?=X (.string x.nm):=rfl
theorem cs2 (x:St) (P:Pl):(cs x P)[2]?=X (.string x.f):=rfl
theorem wo (x:St) (P:Pl):(cs x P)[3]?=X (.int .i64 x.e.o):=rfl
theorem wu (x:St) (P:Pl):(cs x P)[4]?=X (.string x.e.s):=rfl
theorem wy (x:St) (P:Pl):(cs x P)[5]?=X (.int .i64 x.e.n):=rfl
theorem wB (x:St) (P:Pl):(cs x P)[6]?=X (.slice P.ep P.em P.ec):=rfl
theorem wC (x:St) (P:Pl):(cs x P)[7]?=X (.int .i64 x.g.o):=rfl
theorem wD (x:St) (P:Pl):(cs x P)[8]?=X (.string x.g.s):=rfl
theorem wE (x:St) (P:Pl):(cs x P)[9]?=X (.int .i64 x.g.n):=rfl
theorem vQ (x:St) (P:Pl):(cs x P)[10]?=X (.slice P.gp P.gm P.gc):=rfl
theorem vR (x:St) (P:Pl):(cs x P)[11]?=X (.slice P.ap P.am P.ac):=rfl
theorem vS (x:St) (P:Pl):(cs x P)[12]?=X (.int .i64 x.di.op):=rfl
theorem vT (x:St) (P:Pl):(cs x P)[13]?=X (.int .i64 x.di.a):=rfl
theorem vU (x:St) (P:Pl):(cs x P)[14]?=X (.int .i64 x.di.b):=rfl
theorem vV (x:St) (P:Pl):(cs x P)[15]?=X (.int .i64 x.di.n):=rfl
theorem vW (x:St) (P:Pl):(cs x P)[16]?=X (.slice P.vp P.vm P.vc):=rfl
theorem vX (x:St) (P:Pl):(cs x P)[17]?=X (.slice P.wp P.wm P.wc):=rfl
theorem vY (x:St) (P:Pl):(cs x P)[18]?=X (.bool x.fl):=rfl
theorem vZ (x:St) (P:Pl):(cs x P)[19]?=X (.slice P.bp P.bm P.bc):=rfl
theorem v_ (x:St) (P:Pl):(cs x P)[20]?=X (.slice P.lp P.lm P.lc):=rfl
def kS (w:U) (g o:Nat) (x:St) (P:Pl):Prop:=∀r v,(cs x P)[r]?=X v->w.cell? ⟨g,o+r,V⟩=X v
theorem kS.keep {w w2:U} {g o:Nat} {x:St} {P:Pl} (hb:w2.heap[g]?=w.heap[g]?) (h:kS w g o x P):kS w2 g o x P:=fun r v hv=>(World.cell?_of_block (w:=w) (a:=⟨g,o+r,V⟩) hb).trans (h r v hv)
theorem kS.on {w w2:U} {g o:Nat} {x:St} {P:Pl} (hb:af w.heap.size w w2) (hg:g<w.heap.size) (h:kS w g o x P):kS w2 g o x P:=h.keep (hb.block g hg)
theorem Ke:(Tryz.prog.info? 58).map (·.size)=X 21:=by kernel_rfl
theorem apk:∃d,Tryz.prog.underlying 58=X d/\d.isRow=true:=⟨_,underlying58,rfl⟩
theorem kS.range {w:U} {g o:Nat} {x:St} {P:Pl} (h:kS w g o x P):w.rangeAt g o (cs x P).toList:=fun j v hv=>h j v Wm
theorem kS.load {w:U} {g o:Nat} {x:St} {P:Pl} (h:kS w g o x P):(loadCellsFrom ⟨g,o,V⟩ 0 21 #[]).run ae w=.ok (cs x P) w:=by
 have:=run_loadCells_list (P:=ae) w ⟨g,o,V⟩ (cs x P).toList (fun j v hv=>by rw[Addr.add_mid];exact h j v Wm);rw[Array.length_toList,Yg,Array.toArray_toList] at this;exact this
theorem kS.loadVar {w:U} {g o:Nat} {x:St} {P:Pl} (h:kS w g o x P):(loadVar 58 ⟨g,o,V⟩).run ae w=.ok (.agg (cs x P)) w:=by
 obtain⟨d,h1,h2⟩:=apk;have:=run_loadVar_mid (P:=ae) w g o 58 (cs x P).toList d h.range h1 h2 (by rw[Ke];rfl);rwa [Array.toArray_toList] at this
theorem kS.loadAt {w:U} {g o:Nat} {x:St} {P:Pl} (h:kS w g o x P):(Instr.loadAt 58 (.pointer (X ⟨g,o,V⟩))).run ae w=.ok (.agg (cs x P)) w:=by
 simp only[Instr.loadAt,Instr.sureAddr,Sem.run_bind,Sem.run_pure,Result.andThen_ok,h.loadVar]
theorem kS.gJ {w:U} {g o n:Nat} {x:St} {P:Pl} (h:kS w g o x P) (hn:21=n):(loadCellsFrom ⟨g,o,V⟩ 0 n #[]).run ae w=.ok (cs x P) w:=by subst hn;exact h.load
theorem kS.at {w:U} {g o k n:Nat} {x:St} {P:Pl} (h:kS w g (o+k*21) x P) (hn:21=n):kS w g (o+k*n) x P:=by subst hn;exact h
theorem Kg (x:St) (P:Pl) (z:Array Value) (hz:z.size=21) (w:U):(storeCells ⟨w.heap.size,0,V⟩ (cs x P).toList 0).run ae (w.alloc (.cells z 58))=.ok () (w.alloc (.cells (cs x P) 58)):=
 run_storeCells_new w _ _ _ (by rw[Ke];rfl) hz (jV x P)
theorem Ki (x:St) (P:Pl) (z:Array Value) (hz:z.size=21) (w:U):(storeVar 58 ⟨w.heap.size,0,V⟩ (.agg (cs x P))).run ae (w.alloc (.cells z 58))=.ok () (w.alloc (.cells (cs x P) 58)):=
 run_storeVar_new w _ _ _ (by rw[Ke];rfl) hz (jV x P)
theorem Kh (x:St) (P:Pl) (z:Array Value) (hz:z.size=21) (w:U):(Instr.storeAt 58 (.pointer (X ⟨w.heap.size,0,V⟩)) (.agg (cs x P))).run ae (w.alloc (.cells z 58))=.ok () (w.alloc (.cells (cs x P) 58)):=
 run_storeAt_new w _ _ _ (by rw[Ke];rfl) hz (jV x P)
def dG (w:U) (g:Nat) (x:St) (P:Pl):Prop:=w.heap[g]?=X (.cells (cs x P) 58 (0,0))
theorem dG.cell {w:U} {g:Nat} {x:St} {P:Pl} (h:dG w g x P):kS w g 0 x P:=fun r v hv=>by
 rw[Nat.zero_add,cell_of_row w g r _ _ _ h];exact hv
theorem dG.c0 {w:U} {g:Nat} {x:St} {P:Pl} (h:dG w g x P):w.cell? ⟨g,0,V⟩=X (.int .i64 x.o):=cell_of_row w g 0 _ _ _ h
theorem dG.c1 {w:U} {g:Nat} {x:St} {P:Pl} (h:dG w g x P):w.cell? ⟨g,1,V⟩=X (.string x.nm):=cell_of_row w g 1 _ _ _ h
theorem dG.c2 {w:U} {g:Nat} {x:St} {P:Pl} (h:dG w g x P):w.cell? ⟨g,2,V⟩=X (.string x.f):=cell_of_row w g 2 _ _ _ h
theorem dG.c3 {w:U} {g:Nat} {x:St} {P:Pl} (h:dG w g x P):w.cell? ⟨g,3,V⟩=X (.int .i64 x.e.o):=cell_of_row w g 3 _ _ _ h
theorem dG.c4 {w:U} {g:Nat} {x:St} {P:Pl} (h:dG w g x P):w.cell? ⟨g,4,V⟩=X (.string x.e.s):=cell_of_row w g 4 _ _ _ h
theorem dG.c5 {w:U} {g:Nat} {x:St} {P:Pl} (h:dG w g x P):w.cell? ⟨g,5,V⟩=X (.int .i64 x.e.n):=cell_of_row w g 5 _ _ _ h
theorem dG.c6 {w:U} {g:Nat} {x:St} {P:Pl} (h:dG w g x P):w.cell? ⟨g,6,V⟩=X (.slice P.ep P.em P.ec):=cell_of_row w g 6 _ _ _ h
theorem dG.c7 {w:U} {g:Nat} {x:St} {P:Pl} (h:dG w g x P):w.cell? ⟨g,7,V⟩=X (.int .i64 x.g.o):=cell_of_row w g 7 _ _ _ h
theorem dG.c8 {w:U} {g:Nat} {x:St} {P:Pl} (h:dG w g x P):w.cell? ⟨g,8,V⟩=X (.string x.g.s):=cell_of_row w g 8 _ _ _ h
theorem dG.c9 {w:U} {g:Nat} {x:St} {P:Pl} (h:dG w g x P):w.cell? ⟨g,9,V⟩=X (.int .i64 x.g.n):=cell_of_row w g 9 _ _ _ h
theorem dG.c10 {w:U} {g:Nat} {x:St} {P:Pl} (h:dG w g x P):w.cell? ⟨g,10,V⟩=X (.slice P.gp P.gm P.gc):=cell_of_row w g 10 _ _ _ h
theorem dG.c11 {w:U} {g:Nat} {x:St} {P:Pl} (h:dG w g x P):w.cell? ⟨g,11,V⟩=X (.slice P.ap P.am P.ac):=cell_of_row w g 11 _ _ _ h
theorem dG.c12 {w:U} {g:Nat} {x:St} {P:Pl} (h:dG w g x P):w.cell? ⟨g,12,V⟩=X (.int .i64 x.di.op):=cell_of_row w g 12 _ _ _ h
theorem dG.c13 {w:U} {g:Nat} {x:St} {P:Pl} (h:dG w g x P):w.cell? ⟨g,13,V⟩=X (.int .i64 x.di.a):=cell_of_row w g 13 _ _ _ h
theorem dG.c14 {w:U} {g:Nat} {x:St} {P:Pl} (h:dG w g x P):w.cell? ⟨g,14,V⟩=X (.int .i64 x.di.b):=cell_of_row w g 14 _ _ _ h
theorem dG.c15 {w:U} {g:Nat} {x:St} {P:Pl} (h:dG w g x P):w.cell? ⟨g,15,V⟩=X (.int .i64 x.di.n):=cell_of_row w g 15 _ _ _ h
theorem dG.c16 {w:U} {g:Nat} {x:St} {P:Pl} (h:dG w g x P):w.cell? ⟨g,16,V⟩=X (.slice P.vp P.vm P.vc):=cell_of_row w g 16 _ _ _ h
theorem dG.c17 {w:U} {g:Nat} {x:St} {P:Pl} (h:dG w g x P):w.cell? ⟨g,17,V⟩=X (.slice P.wp P.wm P.wc):=cell_of_row w g 17 _ _ _ h
theorem dG.c18 {w:U} {g:Nat} {x:St} {P:Pl} (h:dG w g x P):w.cell? ⟨g,18,V⟩=X (.bool x.fl):=cell_of_row w g 18 _ _ _ h
theorem dG.c19 {w:U} {g:Nat} {x:St} {P:Pl} (h:dG w g x P):w.cell? ⟨g,19,V⟩=X (.slice P.bp P.bm P.bc):=cell_of_row w g 19 _ _ _ h
theorem dG.c20 {w:U} {g:Nat} {x:St} {P:Pl} (h:dG w g x P):w.cell? ⟨g,20,V⟩=X (.slice P.lp P.lm P.lc):=cell_of_row w g 20 _ _ _ h
theorem Ak {w:U} {x:St} {P:Pl}:dG (w.alloc (.cells (cs x P) 58)) w.heap.size x P:=World.alloc_heap_new w _
theorem dG.lt {w:U} {g:Nat} {x:St} {P:Pl} (h:dG w g x P):g<w.heap.size:=(Array.getElem?_eq_some_iff.1 h).1
theorem dG.keep {w w2:U} {g:Nat} {x:St} {P:Pl} (hb:w2.heap[g]?=w.heap[g]?) (h:dG w g x P):dG w2 g x P:=hb.trans h
theorem dG.on {w w2:U} {g:Nat} {x:St} {P:Pl} (hb:af w.heap.size w w2) (h:dG w g x P):dG w2 g x P:=h.keep (hb.block g h.lt)
def ry (G:Nat->Prop) (w:U) (n m:Nat) (p:Option ag) (R:Nat->Nat->Prop):Prop:=n=m/\m<=9223372036854775807/\(m=0∨∃b o,p=X ⟨b,o,V⟩/\G b/\b<w.heap.size/\R b o)
def Ints (G:Nat->Prop) (w:U) (l:List Int) (p:Option ag) (m:Nat):Prop:=ry G w l.length m p fun b o=>Hid (∀k,(h:k<l.length)->w.cell? ⟨b,o+k,V⟩=X (.int .i64 l[k]))
def Br (G:Nat->Prop) (w:U) (e g:Ex) (ar:List Ex) (di:Dt) (P:Pl):Prop:=bW G w e P.ep P.em/\bW G w g P.gp P.gm/\bW G w (.mk 0 nE 0 ar) P.ap P.am/\Ints G w di.vs P.vp P.vm/\Ints G w di.ws P.wp P.wm
mutual
def dC (G:Nat->Prop) (w:U):St->Pl->Prop
 | .mk _ _ _ e g ar di _ bo el,P=>Br G w e g ar di P/\ry G w bo.length P.bm P.bp (fun b o=>Hid (Dg G w bo b o))/\ry G w el.length P.lm P.lp (fun b o=>Hid (Dg G w el b o))
def Dg (G:Nat->Prop) (w:U):List St->Nat->Nat->Prop
 | [],_,_=>True
 | x::t,b,o=>(∃P,kS w b o x P/\dC G w x P)/\Dg G w t b (o+21)
end
def dE (G:Nat->Prop) (w:U) (l:List St) (p:Option ag) (m:Nat):Prop:=ry G w l.length m p fun b o=>Hid (∀k,(h:k<l.length)->∃P,kS w b (o+k*21) l[k] P/\dC G w l[k] P)
theorem NT {G:Nat->Prop} {w:U}:∀{l:List St} {b o:Nat},Dg G w l b o ↔ ∀k,(h:k<l.length)->∃P,kS w b (o+k*21) l[k] P/\dC G w l[k] P
 | [],b,o=>⟨fun _ k h=>absurd h (Nat.not_lt_zero _),fun _=>by rw[Dg];trivial⟩
 | x::t,b,o=>by
  rw[Dg];constructor
  · rintro⟨h1,h2⟩ k hk
    match k,hk with
    | 0,_=>rw[show o+0*21=o by omega];exact h1
    | k+1,hk=>
     have:=NT.1 h2 k (by simpa using hk);rw[show o+21+k*21=o+(k+1)*21 by omega] at this;exact this
  · intro h;refine⟨by have:=h 0 cz;rw[show o+0*21=o by omega] at this;exact this,NT.2 fun k hk=>?_⟩;have:=h (k+1) (by simpa using hk);rw[show o+(k+1)*21=o+21+k*21 by omega] at this;exact this
theorem ry.imp {G H:Nat->Prop} {w w2:U} {n m:Nat} {p:Option ag} {R R':Nat->Nat->Prop} (hs:w.heap.size<=w2.heap.size) (hk:∀b,G b->b<w.heap.size->H b/\w2.heap[b]?=w.heap[b]?) (hR:∀b o,G b->b<w.heap.size->R b o->R' b o) (h:ry G w n m p R):ry H w2 n m p R':=by
 obtain⟨h1,h2,h3|⟨b,o,rfl,hg,hb,h4⟩⟩:=h
 · exact⟨h1,h2,.inl h3⟩
 · exact⟨h1,h2,.inr ⟨b,o,rfl,(hk b hg hb).1,by omega,hR b o hg hb h4⟩⟩
theorem pQ {G:Nat->Prop} {w:U} {x:St} {P:Pl}:dC G w x P↔Br G w x.e x.g x.ar x.di P/\dE G w x.bo P.bp P.bm/\dE G w x.el P.lp P.lm:=by
 obtain⟨o,nm,f,e,g,ar,di,fl,bo,el⟩:=x;rw[dC];have key:∀(l:List St) (p:Option ag) (m:Nat),ry G w l.length m p (fun b o=>Hid (Dg G w l b o))↔dE G w l p m:=fun l p m=>
  ⟨ry.imp (aj _) (fun b hg _=>⟨hg,rfl⟩) (fun b o _ _ h=>ai (NT.1 h.out)),ry.imp (aj _) (fun b hg _=>⟨hg,rfl⟩) (fun b o _ _ h=>ai (NT.2 h.out))⟩
 rw[key,key];rfl
theorem Ints.map {G H:Nat->Prop} {w w2:U} (hs:w.heap.size<=w2.heap.size) (hk:∀b,G b->b<w.heap.size->H b/\w2.heap[b]?=w.heap[b]?) {l:List Int} {p:Option ag} {m:Nat} (h:Ints G w l p m):Ints H w2 l p m:=
 ry.imp hs hk (fun b o hg hb h=>ai fun k hl=>(World.cell?_of_block (w:=w) (a:=⟨b,o+k,V⟩) (hk b hg hb).2).trans (h.out k hl)) h
theorem Br.map {G H:Nat->Prop} {w w2:U} (hs:w.heap.size<=w2.heap.size) (hk:∀b,G b->b<w.heap.size->H b/\w2.heap[b]?=w.heap[b]?) {e g:Ex} {ar:List Ex} {di:Dt} {P:Pl} (h:Br G w e g ar di P):Br H w2 e g ar di P:=
 ⟨bW.map hs hk e h.1,bW.map hs hk g h.2.1,bW.map hs hk _ h.2.2.1,h.2.2.2.1.map hs hk,h.2.2.2.2.map hs hk⟩
theorem dE.TF {G H:Nat->Prop} {w w2:U} (hs:w.heap.size<=w2.heap.size) (hk:∀b,G b->b<w.heap.size->H b/\w2.heap[b]?=w.heap[b]?) {l:List St} (ih:∀x∈l,∀{P:Pl},dC G w x P->dC H w2 x P) {p:Option ag} {m:Nat} (h:dE G w l p m):dE H w2 l p m:=
 ry.imp hs hk (fun b o hg hb h=>ai fun k hl=>let ⟨P,h1,h2⟩:=h.out k hl;⟨P,h1.keep (hk b hg hb).2,ih _ (List.getElem_mem hl) h2⟩) h
theorem dC.map {G H:Nat->Prop} {w w2:U} (hs:w.heap.size<=w2.heap.size) (hk:∀b,G b->b<w.heap.size->H b/\w2.heap[b]?=w.heap[b]?) (x:St):∀{P:Pl},dC G w x P->dC H w2 x P:=by
 induction x using St.ind with
 | h x h1 h2=>
  intro P h;rw[pQ] at h ⊢;exact⟨h.1.map hs hk,dE.TF hs hk h1 h.2.1,dE.TF hs hk h2 h.2.2⟩
theorem dE.map {G H:Nat->Prop} {w w2:U} (hs:w.heap.size<=w2.heap.size) (hk:∀b,G b->b<w.heap.size->H b/\w2.heap[b]?=w.heap[b]?) {l:List St} {p:Option ag} {m:Nat} (h:dE G w l p m):dE H w2 l p m:=dE.TF hs hk (fun x _=>dC.map hs hk x) h
theorem dE.mono {G H:Nat->Prop} {w:U} {l:List St} {p:Option ag} {m:Nat} (hk:∀b,G b->b<w.heap.size->H b) (h:dE G w l p m):dE H w l p m:=h.map (aj _) fun b g hb=>⟨hk b g hb,rfl⟩
theorem dC.mono {G H:Nat->Prop} {w:U} {x:St} {P:Pl} (hk:∀b,G b->b<w.heap.size->H b) (h:dC G w x P):dC H w x P:=dC.map (aj _) (fun b g hb=>⟨hk b g hb,rfl⟩) x h
abbrev qB (w:U) (l:List St) (p:Option ag) (m:Nat):Prop:=dE (Lo w.heap.size) w l p m
abbrev vK (w:U) (x:St) (P:Pl):Prop:=dC (Lo w.heap.size) w x P
theorem dE.below {B:Nat} {w w2:U} {l:List St} {p:Option ag} {m:Nat} (hb:af B w w2) (h:dE (Lo B) w l p m):dE (Lo B) w2 l p m:=h.map hb.size fun b g _=>⟨g,hb.block b g⟩
theorem dC.below {B:Nat} {w w2:U} {x:St} {P:Pl} (hb:af B w w2) (h:dC (Lo B) w x P):dC (Lo B) w2 x P:=dC.map hb.size (fun b g _=>⟨g,hb.block b g⟩) x h
theorem dE.all {G:Nat->Prop} {w:U} {l:List St} {p:Option ag} {m:Nat} (h:dE G w l p m):qB w l p m:=h.mono fun b _ hb=>hb
theorem dC.all {G:Nat->Prop} {w:U} {x:St} {P:Pl} (h:dC G w x P):vK w x P:=h.mono fun b _ hb=>hb
theorem dE.on {w w2:U} {l:List St} {p:Option ag} {m:Nat} (hb:af w.heap.size w w2) (h:qB w l p m):qB w2 l p m:=(h.below hb).all
theorem dC.on {w w2:U} {x:St} {P:Pl} (hb:af w.heap.size w w2) (h:vK w x P):vK w2 x P:=(h.below hb).all
theorem dE.len {G:Nat->Prop} {w:U} {l:List St} {p:Option ag} {m:Nat} (h:dE G w l p m):l.length=m/\m<=9223372036854775807:=⟨h.1,h.2.1⟩
theorem dE.nil {G:Nat->Prop} {w:U} {p:Option ag}:dE G w [] p 0:=⟨rfl,by omega,.inl rfl⟩
theorem dE.rows {G:Nat->Prop} {w:U} {l:List St} {p:Option ag} {m:Nat} (h:dE G w l p m) (hm:0<m):∃b o,p=X ⟨b,o,V⟩/\G b/\b<w.heap.size/\Hid (∀k,(h:k<l.length)->∃P,kS w b (o+k*21) l[k] P/\dC G w l[k] P):=by
 rcases h.2.2 with h|h
 · omega
 · exact h
theorem dC.bo {G:Nat->Prop} {w:U} {x:St} {P:Pl} (h:dC G w x P):dE G w x.bo P.bp P.bm:=(pQ.1 h).2.1
theorem dC.el {G:Nat->Prop} {w:U} {x:St} {P:Pl} (h:dC G w x P):dE G w x.el P.lp P.lm:=(pQ.1 h).2.2
theorem dC.Ei {G:Nat->Prop} {w:U} {x:St} {P:Pl} (h:dC G w x P):Br G w x.e x.g x.ar x.di P:=(pQ.1 h).1
theorem dC.e {G:Nat->Prop} {w:U} {x:St} {P:Pl} (h:dC G w x P):In w x.e P.ep P.em:=h.Ei.1.all
theorem dC.g {G:Nat->Prop} {w:U} {x:St} {P:Pl} (h:dC G w x P):In w x.g P.gp P.gm:=h.Ei.2.1.all
theorem dC.ar {G:Nat->Prop} {w:U} {x:St} {P:Pl} (h:dC G w x P):In w (.mk 0 nE 0 x.ar) P.ap P.am:=h.Ei.2.2.1.all
theorem Ints.row {G:Nat->Prop} {w:U} {l:List Int} {p:Option ag} {m:Nat} (h:Ints G w l p m):Di.Row w p l.length (fun i=>l.getD i 0):=by
 obtain⟨h1,h2,h3|⟨b,o,rfl,hg,hb,h4⟩⟩:=h
 · exact⟨by omega,.inl bU⟩
 · refine⟨by omega,.inr ⟨b,o,rfl,hb,ai fun i hi=>?_⟩⟩;rw[h4.out i hi];simp[List.getD,ah hi]
theorem dC.vs {G:Nat->Prop} {w:U} {x:St} {P:Pl} (h:dC G w x P):Di.Row w P.vp x.di.vs.length (fun i=>x.di.vs.getD i 0):=h.Ei.2.2.2.1.row
theorem dC.ws {G:Nat->Prop} {w:U} {x:St} {P:Pl} (h:dC G w x P):Di.Row w P.wp x.di.ws.length (fun i=>x.di.ws.getD i 0):=h.Ei.2.2.2.2.row
theorem dC.Kr {G:Nat->Prop} {w:U} {x:St} {P:Pl} (h:dC G w x P):x.di.vs.length=P.vm:=h.Ei.2.2.2.1.1
theorem dC.Kt {G:Nat->Prop} {w:U} {x:St} {P:Pl} (h:dC G w x P):x.di.ws.length=P.wm:=h.Ei.2.2.2.2.1
def Dh (x:St):Prop:=x.nm.size<=140737488355328/\x.f.size<=140737488355328/\(Sz x.e/\Ex.cnt x.e<=1000000)/\(Sz x.g/\Ex.cnt x.g<=1000000)/\∀y∈x.ar,Sz y/\Ex.cnt y<=1000000
def lu (l:List St):Prop:=∀x∈fq l,Dh x
theorem lu.mem {l:List St} (h:lu l) {x:St} (hx:x∈l):Dh x:=h x (amt hx)
theorem lu.bo {l:List St} (h:lu l) {x:St} (hx:x∈l):lu x.bo:=fun y hy=>h y (NF hx (amu hy))
theorem lu.el {l:List St} (h:lu l) {x:St} (hx:x∈l):lu x.el:=fun y hy=>h y (NF hx (amv hy))
theorem lu.app {a b:List St} (ha:lu a) (hb:lu b):lu (a++b):=fun x hx=>by
 rw[Gp] at hx;rcases List.mem_append.1 hx with h|h
 · exact ha x h
 · exact hb x h
end Sm
namespace Na
open Go.RowKit
theorem nZ {k:IntKind} {a b:Int} (h:a=b):Ending.returned (.int k a)=.returned (.int k b):=by rw[h]
theorem lJ {a b:Bool} (h:a=b):Ending.returned (.bool a)=.returned (.bool b):=by rw[h]
def Gives (v:Value) (w:U) (e:Ending) (w':U):Prop:=e=.returned v/\af w.heap.size w w'
theorem below_drewN {B:Nat} {a w:U} (h:af B a w) (n:Nat):af B a (w.drewN n):=⟨h.os,h.tape,h.output,h.size,h.block⟩
section
variable {a w w2:U}
theorem iw {o:Obj} (h:af a.heap.size a w):af a.heap.size a (w.alloc o):=h.alloc h.size o
theorem vN {n:Nat} (h:af a.heap.size a w):af a.heap.size a (w.drewN n):=below_drewN h n
theorem rC (h:af a.heap.size a w):af a.heap.size a w.drew:=h.drew
theorem zf {p:ag} (h:af a.heap.size a w) (hp:a.heap.size<=p.block) (u:Value):af a.heap.size a (w.setCell p u):=h.setCell hp u
theorem sQ (h:af a.heap.size a w) (hb:af w.heap.size w w2):af a.heap.size a w2:=h.trans (hb.mono h.size)
end
def Strs (w:U) (p:Option ag) (n:Nat) (l:List ByteArray):Prop:=
 l.length=n/\n<=9223372036854775807/\(n=0∨∃b o,p=X ⟨b,o,V⟩/\b<w.heap.size/\Hid (∀i,(h:i<l.length)->w.cell? ⟨b,o+i,V⟩=X (.string (l[i]))))
theorem ayk {p:Prop} (h:p:=by
 exact Wy
 ):p:=h
theorem Strs.on {w w2:U} {p:Option ag} {n:Nat} {l:List ByteArray} (hb:af w.heap.size w w2) (h:Strs w p n l):Strs w2 p n l:=by
 exact ayk
theorem Strs.alloc {w:U} {o:Obj} {p:Option ag} {n:Nat} {l:List ByteArray} (h:Strs w p n l):Strs (w.alloc o) p n l:=h.on ((Below.refl _ _).alloc (aj _) o)
theorem Strs.drew {w:U} {p:Option ag} {n:Nat} {l:List ByteArray} (h:Strs w p n l):Strs w.drew p n l:=h
theorem Strs.drewN {w:U} {p:Option ag} {n:Nat} {l:List ByteArray} (h:Strs w p n l) (m:Nat):Strs (w.drewN m) p n l:=h
def K8 (w:U) (p:Option ag) (n:Nat) (l:List UInt8):Prop:=
 l.length=n/\n<=9223372036854775807/\(n=0∨∃b o,p=X ⟨b,o,V⟩/\b<w.heap.size/\Hid (∀i,(h:i<l.length)->w.cell? ⟨b,o+i,V⟩=X (.int .u8 ((l[i]).toNat:Int))))
theorem K8.on {w w2:U} {p:Option ag} {n:Nat} {l:List UInt8} (hb:af w.heap.size w w2) (h:K8 w p n l):K8 w2 p n l:=by
 exact ayk
theorem agz (S:ByteArray) (hl:S.size<=9223372036854775807) (w:U) :
 ∃c w',(convert 9 143 (.string S)).run ae w=.ok (.slice (X ⟨w.heap.size,0,V⟩) S.size c) w'/\K8 w' (X ⟨w.heap.size,0,V⟩) S.size (bs S)/\af w.heap.size w w':=by
 refine⟨_,_,run_bytes_of_string w _ _ 5 _ underlying9 underlying143 underlying5,⟨eF S,hl,.inr ⟨_,_,rfl,by simp,ai fun i hi=>?_⟩⟩,iw (rC (Below.refl _ _))⟩;have e:=World.cell?_alloc_mark w.drew (bytesRow S (grownCap w S.size 0 5)) 5 ((bytesRow S (grownCap w S.size 0 5)).size,(bytesRow S (grownCap w S.size 0 5)).size+1) (0+i);rw[show w.drew.heap.size=w.heap.size from rfl] at e;rw[e,Nat.zero_add,bytesRow_at _ _ _ (by rw[eF] at hi;exact hi)];rfl
theorem nS {a b:ByteArray} (h:bs a=bs b):(a.toList==b.toList)=true:=by rw[kH h];simp
theorem pE {a b:ByteArray} (h:¬bs a=bs b):(a.toList==b.toList)=false:=by
 exact afk
end Na
namespace Na
open Go.RowKit
def Not (l:List ByteArray) (s:ByteArray) (k:Nat):Prop:=∀j,(hj:j<k)->(hl:j<l.length)->¬bs l[j]=bs s
theorem al9 {l:List ByteArray} {s:ByteArray} {k:Nat} (hk:k<l.length) (h:Not l s k) (e:¬bs l[k]=bs s):Not l s (k+1):=by
 exact WA
theorem not_zero {l:List ByteArray} {s:ByteArray}:Not l s 0:=fun _ hj=>absurd hj (Nat.not_lt_zero _)
theorem al7 {l:List ByteArray} {s:ByteArray} {k:Nat} (hk:k<l.length) (h:Not l s k) (e:bs l[k]=bs s):(k:Int)=fst l s:=(ZY hk (fun j hj=>h j hj bU) e).symm
theorem al8 {l:List ByteArray} {s:ByteArray} {k:Nat} (hk:l.length=k) (h:Not l s k):(-1:Int)=fst l s:=(Z5 (fun j hj=>h j bU hj)).symm
theorem ar5 {p:Prop} (h:p:=by
 have C_:=ai (al9 hkl HN.out he);obtain⟨x,ex⟩:∃x,l[k]=x:=⟨_,rfl⟩
 rw[ex] at e1 q1;clear he hcell ex hkl;go_wp2_with fail;go_round
 case rel=>exact⟨k+1,by omega,by go_num,C_⟩
 case measure=>simp[intOf];omega
 ):p:=h
theorem ar6 {p:Prop} (h:p:=by
 have HR:=ai (al7 hkl HN.out he);obtain⟨x,ex⟩:∃x,l[k]=x:=⟨_,rfl⟩
 rw[ex] at e1 q1;clear he hcell ex hkl;go_wp2_with fail;go_ret;exact⟨nZ HR.out,rfl⟩
 ):p:=h
theorem F7 (p:Option ag) (n c:Nat) (l:List ByteArray) (s:ByteArray) (w:U) (hb:Strs w p n l):Calls ae 232 #[.slice p n c,.string s] w fun e w'=>e=.returned (.int .i64 (fst l s))/\w'=w:=by
 have HB:=ai hb;have HL:=ai hb.1;have hn:(n:Int)<=9223372036854775807:=by have:=hb.2.1;omega
 clear hb;go_enter func232,ntmps232;go_wp2_with fail;go_loop [8] (fun i=>∃k:Nat,k<=n/\i=.int .i64 (k:Nat)/\Hid (Not l s k)) (fun i=>n-(intOf i).toNat)
 case atStart=>exact⟨0,av _,rfl,ai not_zero⟩
 case round=>
  obtain⟨k,hk,rfl,HN⟩:=hrel;have c1:(0:Int)<=(k:Int):=by omega
  rcases ak k n with h|h
  · have hkl:k<l.length:=by rw[HL.out];exact h
    obtain⟨-,-,h0|⟨b,o,rfl,hb,hcell⟩⟩:=HB.out
    · omega
    · have e1:=hcell.out k hkl;have c2:(k:Int)<(n:Int):=by omega
      by_cases he:bs l[k]=bs s
      · have q1:=nS he.symm;exact ar6
      · have q1:=pE (fun g=>he g.symm);exact ar5
  · exact afj
theorem Zz (p:Option ag) (n c:Nat) (l:List ByteArray) (s:ByteArray) (w:U) (hb:Strs w p n l):Calls ae 220 #[.slice p n c,.string s] w fun e w'=>e=.returned (.int .i64 (fst l s))/\w'=w:=by
 have I1:=F7 p n c l s w hb;clear hb;go_enter func220,ntmps220;go_wp2_with fail;refine I1.mono ?_;rintro e w1 ⟨rfl,rfl⟩;exact CQ
theorem anH (p:Option ag) (n c:Nat) (l:List ByteArray) (s:ByteArray) (w:U) (hb:Strs w p n l):Calls ae 210 #[.slice p n c,.string s] w fun e w'=>e=.returned (.int .i64 (fst l s))/\w'=w:=by
 have HB:=ai hb;have HL:=ai hb.1;have hn:(n:Int)<=9223372036854775807:=by have:=hb.2.1;omega
 clear hb;go_enter func210,ntmps210;go_wp2_with fail;go_loop [5] (fun i=>∃k:Nat,k<=n/\i=.int .i64 (k:Nat)/\Hid (Not l s k)) (fun i=>n-(intOf i).toNat)
 case atStart=>exact⟨0,av _,rfl,ai not_zero⟩
 case round=>
  obtain⟨k,hk,rfl,HN⟩:=hrel;have c1:(0:Int)<=(k:Int):=by omega
  rcases ak k n with h|h
  · have hkl:k<l.length:=by rw[HL.out];exact h
    obtain⟨-,-,h0|⟨b,o,rfl,hb,hcell⟩⟩:=HB.out
    · omega
    · have e1:=hcell.out k hkl;have c2:(k:Int)<(n:Int):=by omega
      by_cases he:bs l[k]=bs s
      · have q1:=nS he;exact ar6
      · have q1:=pE he;exact ar5
  · exact afj
end Na
section
open Go
theorem bl {p:Prop} (h:p:=by(repeat (first|(with_reducible exact Below.refl _ _)|(with_reducible assumption)|(with_reducible apply Ex.iw)|(with_reducible apply Ex.vN)|(with_reducible apply Ex.rC)|(with_reducible refine Ex.zf ?_ (by first|(simp;done)|(simp;omega)) _)|(with_reducible refine Ex.sQ ?_ (by assumption))))):p:=h
theorem htake {P:Program} {md:Region.Mode} {ops:Array Oper} {Q:Exit->Act->World->Prop} {S:World->Prop} (i:Nat) (v:Value) {oi:Oper} {fuel:Nat} {listed:Array Bool} {a:Act} {w:World} (hi:ops[i]?=some oi:=by rfl) (hs:Region.noSelect ops=true:=by kernel_rfl) (hf:Region.free md ops listed i=true:=by kernel_rfl) (hr:(Region.ready md ops listed).contains i=true:=by kernel_rfl) (hQ:∀c a w,Q (.panic c) (a.put oi.dst v) w->Q (.panic c) a w:=by exact fun _ _ _ h=>h) (hw:Region.wanted oi (yielded ops a.tmps)=true:=by rfl) (hy:∀w,S w->(execOp a.eval oi).run P w=.ok (.value v) w:=by(intro w' hS';(try dsimp only at hS');first|(go_simp;done)|(go_simp;with_reducible rfl))) (hS:S w:=by assumption) (h:wpAnyH P md ops Q S fuel (listed.setIfInBounds i true) (a.put oi.dst v) w):wpAnyH P md ops Q S (fuel+1) listed a w:=
 wpAnyH_take hi hs hf hr hQ (Or.inl ⟨hw,hy⟩) hS h
theorem jW {P:Program} {md:Region.Mode} {ops:Array Oper} {Q:Exit->Act->World->Prop} {S:World->Prop} (rs:List Nat) {fuel:Nat} {listed:Array Bool} {a:Act} {w:World} (h:AllReadyH P md ops Q S fuel listed a w rs) (hr:Region.ready md ops listed=rs:=by kernel_rfl) (hne:rs ≠ []:=by simp):wpAnyH P md ops Q S (fuel+1) listed a w:=
 wpAnyH_ready hr hne h
theorem jr {P:Program} {md:Region.Mode} {ops:Array Oper} {Q:Exit->Act->World->Prop} {S:World->Prop} {fuel:Nat} {listed:Array Bool} {a:Act} {w:World} {i:Nat} {o:Oper} {rs:List Nat} (h:∀K':Act->World->Prop,Shut (∀a w,S w->(S w->wpAnyH P md ops Q S fuel (listed.setIfInBounds i true) a w)->K' a w)->if Region.wanted o (yielded ops a.tmps)=true then Oper.wp P o a w K' Q else K' (a.put o.dst undef) w) (hs:AllReadyH P md ops Q S fuel listed a w rs) (ho:ops[i]?=some o:=by rfl):AllReadyH P md ops Q S fuel listed a w (i::rs):=
 AllReadyH.cons ho h hs
theorem hcall {P:Program} {md:Region.Mode} {ops:Array Oper} {Q:Exit->Act->World->Prop} {S:World->Prop} (i:Nat) {fuel:Nat} {listed:Array Bool} {a:Act} {w:World} {o:Oper} (h:∀K':Act->World->Prop,Shut (∀a w,S w->(S w->wpAnyH P md ops Q S fuel (listed.setIfInBounds i true) a w)->K' a w)->if Region.wanted o (yielded ops a.tmps)=true then Oper.wp P o a w K' Q else K' (a.put o.dst undef) w) (hr:Region.ready md ops listed=[i]:=by kernel_rfl) (ho:ops[i]?=some o:=by rfl):wpAnyH P md ops Q S (fuel+1) listed a w:=
 wpAnyH_ready hr (by simp) (AllReadyH.cons ho h AllReadyH.nil)
theorem sA {α:Type _} (l:List α) (i:Nat) (a:α):l.toArray.setIfInBounds i a=(l.set i a).toArray:=List.setIfInBounds_toArray ..
theorem sB {α:Type _} (x:α) (l:List α) (a:α):(x::l).set 0 a=a::l:=rfl
theorem sC {α:Type _} (x:α) (l:List α) (n:Nat) (a:α):(x::l).set (n+1) a=x::l.set n a:=rfl
end
namespace Ex
open Go.RowKit
set_option linter.unusedSimpArgs false
abbrev mE:ByteArray:=⟨#[]⟩
def afC (x:Ex) (w:U) (e:Ending) (w':U):Prop:=∃p m c,e=.returned (.agg #[.int .i64 x.o,.string x.s,.int .i64 x.n,.slice p m c])/\In w' x p m/\af w.heap.size w w'
def b01 (n:Int):Int:=if n=0 then 0 else 1
def Mj (t n:Int):Ex:=if t=1 then .mk 1 mE n [] else if t=2 then .mk 2 mE (b01 n) [] else if t=3 then .mk 7 mE 0 [.mk 1 mE n []] else .mk 0 mE 0 []
theorem In.leaf {w:U} {o n:Int} {s:ByteArray} {p:Option ag}:In w (.mk o s n []) p 0:=bW.zero
theorem In.one {w:U} {o n:Int} {s:ByteArray} {x:Ex} {b:Nat} {p:Option ag} {m c:Nat} (hb:b<w.heap.size) (h:h_ w b 0 x p m c) (hx:In w x p m):In w (.mk o s n [x]) (X ⟨b,0,V⟩) 1:=by
 refine qN.2 ⟨rfl,by omega,.inr ⟨b,0,rfl,hb,hb,ai fun k hk=>?_⟩⟩;have:k=0:=by simpa using hk
 subst this;exact⟨p,m,c,h,hx⟩
theorem In.two {w:U} {o n:Int} {s:ByteArray} {x y:Ex} {b:Nat} {p q:Option ag} {m c m2 c2:Nat} (hb:b<w.heap.size) (h:h_ w b 0 x p m c) (hx:In w x p m) (h2:h_ w b 4 y q m2 c2) (hy:In w y q m2):In w (.mk o s n [x,y]) (X ⟨b,0,V⟩) 2:=by
 refine qN.2 ⟨rfl,by omega,.inr ⟨b,0,rfl,hb,hb,ai fun k hk=>?_⟩⟩;have:k=0∨k=1:=by simp at hk;omega
 rcases this with rfl|rfl
 · exact⟨p,m,c,h,hx⟩
 · exact⟨q,m2,c2,h2,hy⟩
theorem MU {w:U} {C:Array Value} {t:TypeId} (k:Nat):(w.alloc (.cells C t)).frozen? ⟨w.heap.size,k,V⟩=false:=by
 have h:(w.alloc (.cells C t)).heap[w.heap.size]?=X (.cells C t (0,0)):=World.alloc_heap_new w _;unfold World.frozen?;rw[h];simp
theorem aoO {W:U} {g:Nat} {o:Int} {s:ByteArray} {n:Int} {p:Option ag} {m c:Nat} (h:dW W g o s n p m c) (o':Int) (s':ByteArray) (n':Int) (p':Option ag) (m' c':Nat) :
 dW ((((W.setCell ⟨g,0,V⟩ (.int .i64 o')).setCell ⟨g,1,V⟩ (.string s')).setCell ⟨g,2,V⟩ (.int .i64 n')).setCell ⟨g,3,V⟩ (.slice p' m' c')) g o' s' n' p' m' c':=by
 obtain⟨h0,h1,h2,h3⟩:=h;refine⟨?_,?_,?_,?_⟩ <;> simp[go_sem,h0,h1,h2,h3]
theorem agt {a W:U} {g:Nat} (h:af a.heap.size a W) (hg:a.heap.size<=g) (v0 v1 v2 v3:Value):af a.heap.size a ((((W.setCell ⟨g,0,V⟩ v0).setCell ⟨g,1,V⟩ v1).setCell ⟨g,2,V⟩ v2).setCell ⟨g,3,V⟩ v3):=
 (((h.setCell (p:=⟨g,0,V⟩) hg v0).setCell (p:=⟨g,1,V⟩) hg v1).setCell (p:=⟨g,2,V⟩) hg v2).setCell (p:=⟨g,3,V⟩) hg v3
theorem arv {p:Prop} (h:p:=by simp[results,results268,go_sem]):p:=h
theorem FC (n:Int) (w:U):Calls ae 268 #[.int .i64 1,.int .i64 n] w fun e w'=>e=.returned (.agg #[.int .i64 1,.string mE,.int .i64 n,.slice V 0 0])/\af w.heap.size w w':=by
 go_enter func268,ntmps268;go_wp2_with fail
 (try simp only[Exit.inBlock,Exit.then])
 exact au (v:=.agg #[.int .i64 1,.string mE,.int .i64 n,.slice V 0 0]) arv rfl ⟨rfl,bl⟩
theorem Re (t n:Int) (w:U):Calls ae 268 #[.int .i64 t,.int .i64 n] w (afC (Mj t n) w):=by
 unfold Mj;by_cases h1:t=1
 · subst h1;rw[if_pos rfl];exact(FC n w).mono fun e w' h=>⟨V,0,0,h.1,In.leaf,h.2⟩
 rw[if_neg h1];have t1:(t==1)=false:=beq_eq_false_iff_ne.2 h1;by_cases h2:t=2
 · subst h2;rw[if_pos rfl];by_cases hn:n=0
   · subst hn;go_enter func268,ntmps268;go_wp2_with fail
     (try simp only[Exit.inBlock,Exit.then])
     exact au (v:=.agg #[.int .i64 2,.string mE,.int .i64 0,.slice V 0 0]) arv rfl ⟨V,0,0,rfl,In.leaf,bl⟩
   · have f0:(n==0)=false:=beq_eq_false_iff_ne.2 hn;rw[show b01 n=1 from if_neg hn];go_enter func268,ntmps268;go_wp2_with fail
     (try simp only[Exit.inBlock,Exit.then])
     exact au (v:=.agg #[.int .i64 2,.string mE,.int .i64 1,.slice V 0 0]) arv rfl ⟨V,0,0,rfl,In.leaf,bl⟩
 rw[if_neg h2];have t2:(t==2)=false:=beq_eq_false_iff_ne.2 h2;by_cases h3:t=3
 · subst h3;rw[if_pos rfl];go_enter func268,ntmps268;go_wp2_with fail;refine(FC n _).mono ?_;rintro e w2 ⟨rfl,hb2⟩;obtain⟨z0,z1,z2,z3⟩:=dW.on hb2 gK;have y0:=(hb2.frozen (p:=⟨w.heap.size,0,V⟩) cz).trans (MU 0);have y1:=(hb2.frozen (p:=⟨w.heap.size,1,V⟩) cz).trans (MU 1);have y2:=(hb2.frozen (p:=⟨w.heap.size,2,V⟩) cz).trans (MU 2);have y3:=(hb2.frozen (p:=⟨w.heap.size,3,V⟩) cz).trans (MU 3);have hlt:w.heap.size<w2.heap.size:=by have:=hb2.size;simp at this;omega
   have HB:=ai (show af w.heap.size w w2 by exact bl);clear hb2;go_wp2_with fail
   (try simp only[Exit.inBlock,Exit.then])
   obtain⟨r0,r1,r2,r3⟩:=(aoO ⟨z0,z1,z2,z3⟩ 7 mE 0 (X ⟨w2.heap.size,0,V⟩) 1 1).alloc (.cells #[.int .i64 1,.string mE,.int .i64 n,.slice V 0 0] 26);have hB:=iw (o:=.cells #[.int .i64 1,.string mE,.int .i64 n,.slice V 0 0] 26) (agt HB.out (g:=w.heap.size) (aj _) (.int .i64 7) (.string mE) (.int .i64 0) (.slice (X ⟨w2.heap.size,0,V⟩) 1 1));have mF:=xV (w:=(((w2.setCell ⟨w.heap.size,0,V⟩ (.int .i64 7)).setCell ⟨w.heap.size,1,V⟩ (.string mE)).setCell ⟨w.heap.size,2,V⟩ (.int .i64 0)).setCell ⟨w.heap.size,3,V⟩ (.slice (X ⟨w2.heap.size,0,V⟩) 1 1)) (x:=.mk 1 mE n []) (p:=V) (m:=0) (c:=0) (t:=26);simp only[World.size_setCell] at mF;exact au (v:=.agg #[.int .i64 7,.string mE,.int .i64 0,.slice (X ⟨w2.heap.size,0,V⟩) 1 1]) (by simp[results,results268,go_sem,r0,r1,r2,r3]) rfl ⟨_,_,_,rfl,In.one cz mF In.leaf,hB⟩
 rw[if_neg h3];have t3:(t==3)=false:=beq_eq_false_iff_ne.2 h3;clear h1 h2 h3;go_enter func268,ntmps268;go_wp2_with fail
 (try simp only[Exit.inBlock,Exit.then])
 exact au (v:=.agg #[.int .i64 0,.string mE,.int .i64 0,.slice V 0 0]) arv rfl ⟨V,0,0,rfl,In.leaf,bl⟩
end Ex
namespace Ex
open Go.RowKit
theorem ash {p:Prop} (h:p:=by
 go_wp2_with fail;go_roundw
 case rel=>exact⟨k+1,by omega,by rw[HK.out];go_num,by go_num,HW2⟩
 case measure=>simp[intOf];omega
 ):p:=h
theorem Ri (e:Ex):∀(p:Option ag) (m c:Nat) (w:U),In w e p m->cnt e<=1000000->Calls ae 69 #[.agg #[.int .i64 e.o,.string e.s,.int .i64 e.n,.slice p m c]] w (Gives (.int .i64 (dep e:Nat)) w):=by
 induction e using Ex.ind with
 | h o s n l ih=>
  intro p m c w h hc;rw[Dw] at hc;have HH:=ai h;have HI:=ai ih;obtain⟨hl,hm⟩:=h.len;have HL:=ai hl;have HC:=ai hc;simp only[Ex.o,Ex.s,Ex.n];clear ih h hl hc;rw[Ml];go_enter func69,ntmps69;go_wp2_with fail;go_loopw [3,9] (fun d i wr=>∃k:Nat,k<=m/\d=.int .i64 (kI (l.take k):Nat)/\i=.int .i64 (k:Nat)/\Hid (af w.heap.size w wr)) (fun d i _=>m-(intOf i).toNat)
  case atStart=>exact⟨0,av _,rfl,rfl,ai bl⟩
  case round=>
   obtain⟨k,hk,rfl,rfl,HW⟩:=hrel;have k0:(0:Int)<=(k:Int):=by omega
   rcases ak k m with h|h
   · have k1:(k:Int)<(m:Int):=by omega
     obtain⟨b,o',rfl,-,hG,hcell⟩:=HH.out.kids bU;have hkl:k<l.length:=by rw[HL.out];omega
     obtain⟨q,j,c',hc4,dP⟩:=hcell.out k hkl;have hmem:l[k]∈l:=List.getElem_mem hkl;have hgx:l[k]?=X l[k]:=ah hkl;obtain⟨x,hx⟩:∃x,l[k]=x:=⟨_,rfl⟩
     rw[hx] at hc4 dP hmem hgx;obtain⟨e0,e1,e2,e3⟩:=hc4.on HW.out hG;have ng:=ai dP;have HX:=ai hgx;have HM:=ai hmem;clear hcell hc4 dP hx hmem hgx hkl;obtain⟨d1,d2⟩:=Yl k HM.out HC.out;have HK:=ai (Yk HX.out);have HB:=ai (Rc k HX.out HC.out);obtain⟨D,hD⟩:∃D,kI (l.take k)=D:=⟨_,rfl⟩
     obtain⟨E,hE⟩:∃E,dep x=E:=⟨_,rfl⟩
     rw[hD] at d1 HK ⊢;have HI1:=HI.out x HM.out q j c';rw[hE] at d2 HK HI1;have HI2:=ai HI1;clear HI1 hD hE;go_wp2_with fail;refine(HI2.out _ (ng.out.on rq) HB.out.2).mono ?_;rintro e w2 ⟨rfl,hb2⟩;have HW2:Hid (af w.heap.size w w2):=ai rq;clear hb2;by_cases hDE:D<E
     · have m1:(D:Int)<(E:Int):=by omega
       exact ash
     · have m1:(E:Int)<=(D:Int):=by omega
       exact ash
   · exact zzf
end Ex
namespace Ex
open Go.RowKit
theorem atN {p:Prop} (h:p:=by
 go_wp2_with fail;go_roundw
 case rel=>exact⟨k+1,by omega,by rw[HK.out];go_num,by go_num,HW2,y8⟩
 case measure=>simp[intOf];omega
 ):p:=h
theorem aob (e:Ex):∀(p:Option ag) (m c:Nat) (w:U),In w e p m->cnt e<=1000000->Calls ae 77 #[.agg #[.int .i64 e.o,.string e.s,.int .i64 e.n,.slice p m c]] w (Gives (.int .i64 (cnt e:Nat)) w):=by
 induction e using Ex.ind with
 | h o s n l ih=>
  intro p m c w h hc;rw[Dw] at hc;have HH:=ai h;have HI:=ai ih;obtain⟨hl,hm⟩:=h.len;have HL:=ai hl;have HC:=ai hc;simp only[Ex.o,Ex.s,Ex.n];clear ih h hl hc;rw[Dw];go_enter func77,ntmps77;go_wp2_with fail;go_loopw [3,4] (fun d i wr=>∃k:Nat,k<=m/\d=.int .i64 ((iM (l.take k)+1:Nat))/\i=.int .i64 (k:Nat)/\Hid (af w.heap.size w wr)/\Hid (dW wr w.heap.size o s n p m c)) (fun d i _=>m-(intOf i).toNat)
  case atStart=>exact⟨0,av _,rfl,rfl,ai bl,ai gK⟩
  case round=>
   obtain⟨k,hk,rfl,rfl,HW,iH⟩:=hrel;obtain⟨b0,b1,b2,b3⟩:=iH.out;have k0:(0:Int)<=(k:Int):=by omega
   rcases ak k m with h|h
   · have k1:(k:Int)<(m:Int):=by omega
     obtain⟨b,o',rfl,-,hG,hcell⟩:=HH.out.kids bU;have hkl:k<l.length:=by rw[HL.out];omega
     obtain⟨q,j,c',hc4,dP⟩:=hcell.out k hkl;have hmem:l[k]∈l:=List.getElem_mem hkl;have hgx:l[k]?=X l[k]:=ah hkl;obtain⟨x,hx⟩:∃x,l[k]=x:=⟨_,rfl⟩
     rw[hx] at hc4 dP hmem hgx;obtain⟨e0,e1,e2,e3⟩:=hc4.on HW.out hG;have ng:=ai dP;have HX:=ai hgx;have HM:=ai hmem;clear hcell hc4 dP hx hmem hgx hkl;obtain⟨d1,d2⟩:=Rc k HX.out HC.out;have HK:=ai (Rb HX.out);obtain⟨D,hD⟩:∃D,iM (l.take k)=D:=⟨_,rfl⟩
     obtain⟨E,hE⟩:∃E,cnt x=E:=⟨_,rfl⟩
     have HI1:=HI.out x HM.out q j c' wr (ng.out.on HW.out) d2;rw[hD] at d1 HK ⊢;rw[hE] at d1 HK HI1;clear d2 hD hE;go_wp2_with fail;refine HI1.mono ?_;rintro e w2 ⟨rfl,hb2⟩;have HW2:Hid (af w.heap.size w w2):=ai rq;have y8:=ai (iH.out.on hb2);clear hb2 HI1;exact atN
   · obtain rfl:m=k:=by omega
     have HT:Hid (l.take m=l):=ai (List.take_of_length_le t_);rw[HT.out];go_wp2_with fail;go_ret;exact⟨by go_num,HW.out⟩
theorem anr (e:Ex):∀(p:Option ag) (m c:Nat) (w:U),In w e p m->cnt e<=1000000->Calls ae 78 #[.agg #[.int .i64 e.o,.string e.s,.int .i64 e.n,.slice p m c]] w (Gives (.int .i64 (dep e:Nat)) w):=by
 induction e using Ex.ind with
 | h o s n l ih=>
  intro p m c w h hc;rw[Dw] at hc;have HH:=ai h;have HI:=ai ih;obtain⟨hl,hm⟩:=h.len;have HL:=ai hl;have HC:=ai hc;simp only[Ex.o,Ex.s,Ex.n];clear ih h hl hc;rw[Ml];go_enter func78,ntmps78;go_wp2_with fail;go_loopw [3,4] (fun d i wr=>∃k:Nat,k<=m/\d=.int .i64 (kI (l.take k):Nat)/\i=.int .i64 (k:Nat)/\Hid (af w.heap.size w wr)/\Hid (dW wr w.heap.size o s n p m c)) (fun d i _=>m-(intOf i).toNat)
  case atStart=>exact⟨0,av _,rfl,rfl,ai bl,ai gK⟩
  case round=>
   obtain⟨k,hk,rfl,rfl,HW,iH⟩:=hrel;obtain⟨b0,b1,b2,b3⟩:=iH.out;have k0:(0:Int)<=(k:Int):=by omega
   rcases ak k m with h|h
   · have k1:(k:Int)<(m:Int):=by omega
     obtain⟨b,o',rfl,-,hG,hcell⟩:=HH.out.kids bU;have hkl:k<l.length:=by rw[HL.out];omega
     obtain⟨q,j,c',hc4,dP⟩:=hcell.out k hkl;have hmem:l[k]∈l:=List.getElem_mem hkl;have hgx:l[k]?=X l[k]:=ah hkl;obtain⟨x,hx⟩:∃x,l[k]=x:=⟨_,rfl⟩
     rw[hx] at hc4 dP hmem hgx;obtain⟨e0,e1,e2,e3⟩:=hc4.on HW.out hG;have ng:=ai dP;have HX:=ai hgx;have HM:=ai hmem;clear hcell hc4 dP hx hmem hgx hkl;obtain⟨d1,d2⟩:=Yl k HM.out HC.out;have HK:=ai (Yk HX.out);obtain⟨D,hD⟩:∃D,kI (l.take k)=D:=⟨_,rfl⟩
     obtain⟨E,hE⟩:∃E,dep x=E:=⟨_,rfl⟩
     have HI1:=HI.out x HM.out q j c' wr (ng.out.on HW.out) (Rc k HX.out HC.out).2;rw[hD] at d1 HK ⊢;rw[hE] at d2 HK HI1;clear hD hE;go_wp2_with fail;refine HI1.mono ?_;rintro e w2 ⟨rfl,hb2⟩;have HW2:Hid (af w.heap.size w w2):=ai rq;have y8:=ai (iH.out.on hb2);clear hb2 HI1;by_cases hDE:D<E
     · have m1:(D:Int)<(E:Int):=by omega
       exact atN
     · have m1:(E:Int)<=(D:Int):=by omega
       exact atN
   · exact zzf
end Ex
namespace Sm
open Go.RowKit
open Ex (Gives)
attribute [local go_sem] cs0 cs1 cs2 wo wu wy wB wC wD wE vQ vR vS vT vU vV vW vX vY vZ v_
abbrev afZ (f:FuncId) (sl:List St):Prop:=∀(l2:List St) (p:Option ag) (m c:Nat) (p2:Option ag) (m2 c2:Nat) (w:U),qB w sl p m->qB w l2 p2 m2->Calls ae f #[.slice p m c,.slice p2 m2 c2] w (Gives (.bool (kK sl l2)) w)
theorem NZ {x y:St} (h:Ba x y=false):zJ x y=false:=by rw[Uq,h];rfl
end Sm
namespace Sm
open Go.RowKit
attribute [local go_sem] cs0 cs1 cs2 wo wu wy wB wC wD wE vQ vR vS vT vU vV vW vX vY vZ v_
set_option linter.unusedSimpArgs false
abbrev P0:Pl:=⟨V,0,0,V,0,0,V,0,0,V,0,0,V,0,0,V,0,0,V,0,0⟩
theorem mG {G:Nat->Prop} {w:U} {p:Option ag}:Ints G w [] p 0:=⟨rfl,by omega,.inl rfl⟩
theorem amN {o:Option TypeInfo} {z:Value} {s b:Nat} (h:o.map (fun i=>(i.zero,i.size,i.bytes))=X (X z,s,b)):∃i,o=X i/\i.zero=X z/\i.size=s/\i.bytes=b:=by
 exact afb
theorem ajJ:(Tryz.prog.info? 58).map (fun i=>(i.zero,i.size,i.bytes))=X (X (.agg #[.int .i64 0,.string ⟨#[]⟩,.string ⟨#[]⟩,.int .i64 0,.string ⟨#[]⟩,.int .i64 0,.slice V 0 0,.int .i64 0,.string ⟨#[]⟩,.int .i64 0,.slice V 0 0,.slice V 0 0,.int .i64 0,.int .i64 0,.int .i64 0,.int .i64 0,.slice V 0 0,.slice V 0 0,.bool false,.slice V 0 0,.slice V 0 0]),21,312):=by kernel_rfl
theorem ac7 (x:St) (P:Pl) (z:Array Value) (hz:z.size=21) (W:U) (B:Nat) (hB:W.heap.size=B):(storeCells ⟨B,0,V⟩ (cs x P).toList 0).run ae (W.alloc (.cells z 58))=.ok () (W.alloc (.cells (cs x P) 58)):=by subst hB;exact Kg x P z hz W
theorem ac8 (x:St) (P:Pl) (z:Array Value) (hz:z.size=21) (W:U) (B:Nat) (hB:W.heap.size=B):(storeVar 58 ⟨B,0,V⟩ (.agg (cs x P))).run ae (W.alloc (.cells z 58))=.ok () (W.alloc (.cells (cs x P) 58)):=by subst hB;exact Ki x P z hz W
theorem ac6 (x:St) (P:Pl) (z:Array Value) (hz:z.size=21) (W:U) (B:Nat) (hB:W.heap.size=B):(Instr.storeAt 58 (.pointer (X ⟨B,0,V⟩)) (.agg (cs x P))).run ae (W.alloc (.cells z 58))=.ok () (W.alloc (.cells (cs x P) 58)):=by subst hB;exact Kh x P z hz W
end Sm
end Go.Proofs.YthnillhnjhalmaaGreatDoor
