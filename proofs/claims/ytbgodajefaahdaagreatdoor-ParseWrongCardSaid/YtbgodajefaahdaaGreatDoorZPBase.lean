/-
  Parts of this proof: Words for worlds and statements in memory. The records of a model in memory. The contracts of slices.IndexFunc at its types. The contracts of the small functions. The contracts of Same and of the library's Equal. What the chapter's examples are.
-/
import Derived.Test.YtbgodajefaahdaaGreatDoorZDCheck
import Derived.Great.BuildSlice
import Derived.ChangeKeysEq
set_option linter.unusedVariables false
open Go.Lib (hid)
namespace Go.Proofs.YtbgodajefaahdaaGreatDoor.Sm
open Go.RowKit
open Go.Proofs.YtbgodajefaahdaaGreatDoor.Ex (Ex Kin In Sz Lo)
set_option maxHeartbeats 1000000
structure Pl where
 ep:Option Addr
 em:Nat
 ec:Nat
 gp:Option Addr
 gm:Nat
 gc:Nat
 ap:Option Addr
 am:Nat
 ac:Nat
 vp:Option Addr
 vm:Nat
 vc:Nat
 wp:Option Addr
 wm:Nat
 wc:Nat
 bp:Option Addr
 bm:Nat
 bc:Nat
 lp:Option Addr
 lm:Nat
 lc:Nat
def cs (x:St) (P:Pl):Array Value:=#[.int .i64 x.o,.string x.nm,.string x.f,.int .i64 x.e.o,.string x.e.s,.int .i64 x.e.n,.slice P.ep P.em P.ec,.int .i64 x.g.o,.string x.g.s,.int .i64 x.g.n,.slice P.gp P.gm P.gc,.slice P.ap P.am P.ac,.int .i64 x.di.op,.int .i64 x.di.a,.int .i64 x.di.b,.int .i64 x.di.n,.slice P.vp P.vm P.vc,.slice P.wp P.wm P.wc,.bool x.fl,.slice P.bp P.bm P.bc,.slice P.lp P.lm P.lc]
theorem cs_size (x:St) (P:Pl):(cs x P).size=21:=rfl
theorem cs_one (x:St) (P:Pl):(cs x P).all (·.oneCell')=true:=by unfold cs;simp[Value.oneCell']
theorem cs0 (x:St) (P:Pl):(cs x P)[0]?=some (.int .i64 x.o):=rfl
theorem cs1 (x:St) (P:Pl):(cs x P)[1]?=some (.string x.nm):=rfl
theorem cs2 (x:St) (P:Pl):(cs x P)[2]?=some (.string x.f):=rfl
theorem cs3 (x:St) (P:Pl):(cs x P)[3]?=some (.int .i64 x.e.o):=rfl
theorem cs4 (x:St) (P:Pl):(cs x P)[4]?=some (.string x.e.s):=rfl
theorem cs5 (x:St) (P:Pl):(cs x P)[5]?=some (.int .i64 x.e.n):=rfl
theorem cs6 (x:St) (P:Pl):(cs x P)[6]?=some (.slice P.ep P.em P.ec):=rfl
theorem cs7 (x:St) (P:Pl):(cs x P)[7]?=some (.int .i64 x.g.o):=rfl
theorem cs8 (x:St) (P:Pl):(cs x P)[8]?=some (.string x.g.s):=rfl
theorem cs9 (x:St) (P:Pl):(cs x P)[9]?=some (.int .i64 x.g.n):=rfl
theorem cs10 (x:St) (P:Pl):(cs x P)[10]?=some (.slice P.gp P.gm P.gc):=rfl
theorem cs11 (x:St) (P:Pl):(cs x P)[11]?=some (.slice P.ap P.am P.ac):=rfl
theorem cs12 (x:St) (P:Pl):(cs x P)[12]?=some (.int .i64 x.di.op):=rfl
theorem cs13 (x:St) (P:Pl):(cs x P)[13]?=some (.int .i64 x.di.a):=rfl
theorem cs14 (x:St) (P:Pl):(cs x P)[14]?=some (.int .i64 x.di.b):=rfl
theorem cs15 (x:St) (P:Pl):(cs x P)[15]?=some (.int .i64 x.di.n):=rfl
theorem cs16 (x:St) (P:Pl):(cs x P)[16]?=some (.slice P.vp P.vm P.vc):=rfl
theorem cs17 (x:St) (P:Pl):(cs x P)[17]?=some (.slice P.wp P.wm P.wc):=rfl
theorem cs18 (x:St) (P:Pl):(cs x P)[18]?=some (.bool x.fl):=rfl
theorem cs19 (x:St) (P:Pl):(cs x P)[19]?=some (.slice P.bp P.bm P.bc):=rfl
theorem cs20 (x:St) (P:Pl):(cs x P)[20]?=some (.slice P.lp P.lm P.lc):=rfl
def cell21 (w:World) (g o:Nat) (x:St) (P:Pl):Prop:=∀r v,(cs x P)[r]?=some v->w.cell? ⟨g,o+r,none⟩=some v
theorem cell21.keep {w w2:World} {g o:Nat} {x:St} {P:Pl} (hb:w2.heap[g]?=w.heap[g]?) (h:cell21 w g o x P):cell21 w2 g o x P:=fun r v hv=>(World.cell?_of_block (w:=w) (a:=⟨g,o+r,none⟩) hb).trans (h r v hv)
theorem cell21.on {w w2:World} {g o:Nat} {x:St} {P:Pl} (hb:Below w.heap.size w w2) (hg:g<w.heap.size) (h:cell21 w g o x P):cell21 w2 g o x P:=h.keep (hb.block g hg)
theorem st_info:(Tryz.prog.info? 60).map (·.size)=some 21:=by kernel_rfl
theorem st_under:∃d,Tryz.prog.underlying 60=some d/\d.isRow=true:=⟨_,Tryz.underlying60,rfl⟩
theorem cell21.range {w:World} {g o:Nat} {x:St} {P:Pl} (h:cell21 w g o x P):w.rangeAt g o (cs x P).toList:=fun j v hv=>h j v (by rwa [Array.getElem?_toList] at hv)
theorem cell21.load {w:World} {g o:Nat} {x:St} {P:Pl} (h:cell21 w g o x P):(loadCellsFrom ⟨g,o,none⟩ 0 21 #[]).run Tryz.prog w=.ok (cs x P) w:=by
 have:=run_loadCells_list (P:=Tryz.prog) w ⟨g,o,none⟩ (cs x P).toList (fun j v hv=>by rw[Addr.add_mid];exact h j v (by rwa [Array.getElem?_toList] at hv));rw[Array.length_toList,cs_size,Array.toArray_toList] at this;exact this
theorem cell21.loadVar {w:World} {g o:Nat} {x:St} {P:Pl} (h:cell21 w g o x P):(loadVar 60 ⟨g,o,none⟩).run Tryz.prog w=.ok (.agg (cs x P)) w:=by
 obtain⟨d,h1,h2⟩:=st_under;have:=run_loadVar_mid (P:=Tryz.prog) w g o 60 (cs x P).toList d h.range h1 h2 (by rw[st_info];rfl);rwa [Array.toArray_toList] at this
theorem cell21.loadAt {w:World} {g o:Nat} {x:St} {P:Pl} (h:cell21 w g o x P):(Instr.loadAt 60 (.pointer (some ⟨g,o,none⟩))).run Tryz.prog w=.ok (.agg (cs x P)) w:=by
 simp only[Instr.loadAt,Instr.sureAddr,Sem.run_bind,Sem.run_pure,Result.andThen_ok,h.loadVar]
theorem cell21.ldN {w:World} {g o n:Nat} {x:St} {P:Pl} (h:cell21 w g o x P) (hn:21=n):(loadCellsFrom ⟨g,o,none⟩ 0 n #[]).run Tryz.prog w=.ok (cs x P) w:=by subst hn;exact h.load
theorem cell21.at {w:World} {g o k n:Nat} {x:St} {P:Pl} (h:cell21 w g (o+k*21) x P) (hn:21=n):cell21 w g (o+k*n) x P:=by subst hn;exact h
theorem st_store (x:St) (P:Pl) (z:Array Value) (hz:z.size=21) (w:World):(storeCells ⟨w.heap.size,0,none⟩ (cs x P).toList 0).run Tryz.prog (w.alloc (.cells z 60))=.ok () (w.alloc (.cells (cs x P) 60)):=
 run_storeCells_new w _ _ _ (by rw[st_info];rfl) hz (cs_one x P)
theorem st_storeVar (x:St) (P:Pl) (z:Array Value) (hz:z.size=21) (w:World):(storeVar 60 ⟨w.heap.size,0,none⟩ (.agg (cs x P))).run Tryz.prog (w.alloc (.cells z 60))=.ok () (w.alloc (.cells (cs x P) 60)):=
 run_storeVar_new w _ _ _ (by rw[st_info];rfl) hz (cs_one x P)
theorem st_storeAt (x:St) (P:Pl) (z:Array Value) (hz:z.size=21) (w:World):(Instr.storeAt 60 (.pointer (some ⟨w.heap.size,0,none⟩)) (.agg (cs x P))).run Tryz.prog (w.alloc (.cells z 60))=.ok () (w.alloc (.cells (cs x P) 60)):=
 run_storeAt_new w _ _ _ (by rw[st_info];rfl) hz (cs_one x P)
def box21 (w:World) (g:Nat) (x:St) (P:Pl):Prop:=w.heap[g]?=some (.cells (cs x P) 60 (0,0))
theorem box21.cell {w:World} {g:Nat} {x:St} {P:Pl} (h:box21 w g x P):cell21 w g 0 x P:=fun r v hv=>by
 rw[Nat.zero_add,cell_of_row w g r _ _ _ h];exact hv
theorem box21.c0 {w:World} {g:Nat} {x:St} {P:Pl} (h:box21 w g x P):w.cell? ⟨g,0,none⟩=some (.int .i64 x.o):=cell_of_row w g 0 _ _ _ h
theorem box21.c1 {w:World} {g:Nat} {x:St} {P:Pl} (h:box21 w g x P):w.cell? ⟨g,1,none⟩=some (.string x.nm):=cell_of_row w g 1 _ _ _ h
theorem box21.c2 {w:World} {g:Nat} {x:St} {P:Pl} (h:box21 w g x P):w.cell? ⟨g,2,none⟩=some (.string x.f):=cell_of_row w g 2 _ _ _ h
theorem box21.c3 {w:World} {g:Nat} {x:St} {P:Pl} (h:box21 w g x P):w.cell? ⟨g,3,none⟩=some (.int .i64 x.e.o):=cell_of_row w g 3 _ _ _ h
theorem box21.c4 {w:World} {g:Nat} {x:St} {P:Pl} (h:box21 w g x P):w.cell? ⟨g,4,none⟩=some (.string x.e.s):=cell_of_row w g 4 _ _ _ h
theorem box21.c5 {w:World} {g:Nat} {x:St} {P:Pl} (h:box21 w g x P):w.cell? ⟨g,5,none⟩=some (.int .i64 x.e.n):=cell_of_row w g 5 _ _ _ h
theorem box21.c6 {w:World} {g:Nat} {x:St} {P:Pl} (h:box21 w g x P):w.cell? ⟨g,6,none⟩=some (.slice P.ep P.em P.ec):=cell_of_row w g 6 _ _ _ h
theorem box21.c7 {w:World} {g:Nat} {x:St} {P:Pl} (h:box21 w g x P):w.cell? ⟨g,7,none⟩=some (.int .i64 x.g.o):=cell_of_row w g 7 _ _ _ h
theorem box21.c8 {w:World} {g:Nat} {x:St} {P:Pl} (h:box21 w g x P):w.cell? ⟨g,8,none⟩=some (.string x.g.s):=cell_of_row w g 8 _ _ _ h
theorem box21.c9 {w:World} {g:Nat} {x:St} {P:Pl} (h:box21 w g x P):w.cell? ⟨g,9,none⟩=some (.int .i64 x.g.n):=cell_of_row w g 9 _ _ _ h
theorem box21.c10 {w:World} {g:Nat} {x:St} {P:Pl} (h:box21 w g x P):w.cell? ⟨g,10,none⟩=some (.slice P.gp P.gm P.gc):=cell_of_row w g 10 _ _ _ h
theorem box21.c11 {w:World} {g:Nat} {x:St} {P:Pl} (h:box21 w g x P):w.cell? ⟨g,11,none⟩=some (.slice P.ap P.am P.ac):=cell_of_row w g 11 _ _ _ h
theorem box21.c12 {w:World} {g:Nat} {x:St} {P:Pl} (h:box21 w g x P):w.cell? ⟨g,12,none⟩=some (.int .i64 x.di.op):=cell_of_row w g 12 _ _ _ h
theorem box21.c13 {w:World} {g:Nat} {x:St} {P:Pl} (h:box21 w g x P):w.cell? ⟨g,13,none⟩=some (.int .i64 x.di.a):=cell_of_row w g 13 _ _ _ h
theorem box21.c14 {w:World} {g:Nat} {x:St} {P:Pl} (h:box21 w g x P):w.cell? ⟨g,14,none⟩=some (.int .i64 x.di.b):=cell_of_row w g 14 _ _ _ h
theorem box21.c15 {w:World} {g:Nat} {x:St} {P:Pl} (h:box21 w g x P):w.cell? ⟨g,15,none⟩=some (.int .i64 x.di.n):=cell_of_row w g 15 _ _ _ h
theorem box21.c16 {w:World} {g:Nat} {x:St} {P:Pl} (h:box21 w g x P):w.cell? ⟨g,16,none⟩=some (.slice P.vp P.vm P.vc):=cell_of_row w g 16 _ _ _ h
theorem box21.c17 {w:World} {g:Nat} {x:St} {P:Pl} (h:box21 w g x P):w.cell? ⟨g,17,none⟩=some (.slice P.wp P.wm P.wc):=cell_of_row w g 17 _ _ _ h
theorem box21.c18 {w:World} {g:Nat} {x:St} {P:Pl} (h:box21 w g x P):w.cell? ⟨g,18,none⟩=some (.bool x.fl):=cell_of_row w g 18 _ _ _ h
theorem box21.c19 {w:World} {g:Nat} {x:St} {P:Pl} (h:box21 w g x P):w.cell? ⟨g,19,none⟩=some (.slice P.bp P.bm P.bc):=cell_of_row w g 19 _ _ _ h
theorem box21.c20 {w:World} {g:Nat} {x:St} {P:Pl} (h:box21 w g x P):w.cell? ⟨g,20,none⟩=some (.slice P.lp P.lm P.lc):=cell_of_row w g 20 _ _ _ h
theorem box_new21 {w:World} {x:St} {P:Pl}:box21 (w.alloc (.cells (cs x P) 60)) w.heap.size x P:=World.alloc_heap_new w _
theorem box21.lt {w:World} {g:Nat} {x:St} {P:Pl} (h:box21 w g x P):g<w.heap.size:=(Array.getElem?_eq_some_iff.1 h).1
theorem box21.keep {w w2:World} {g:Nat} {x:St} {P:Pl} (hb:w2.heap[g]?=w.heap[g]?) (h:box21 w g x P):box21 w2 g x P:=hb.trans h
theorem box21.on {w w2:World} {g:Nat} {x:St} {P:Pl} (hb:Below w.heap.size w w2) (h:box21 w g x P):box21 w2 g x P:=h.keep (hb.block g h.lt)
def Lie (G:Nat->Prop) (w:World) (n m:Nat) (p:Option Addr) (R:Nat->Nat->Prop):Prop:=n=m/\m<=9223372036854775807/\(m=0∨∃b o,p=some ⟨b,o,none⟩/\G b/\b<w.heap.size/\R b o)
def Ints (G:Nat->Prop) (w:World) (l:List Int) (p:Option Addr) (m:Nat):Prop:=Lie G w l.length m p fun b o=>Hid (∀k,(h:k<l.length)->w.cell? ⟨b,o+k,none⟩=some (.int .i64 l[k]))
def Own0 (G:Nat->Prop) (w:World) (e g:Ex) (ar:List Ex) (di:Dt) (P:Pl):Prop:=Kin G w e P.ep P.em/\Kin G w g P.gp P.gm/\Kin G w (.mk 0 nE 0 ar) P.ap P.am/\Ints G w di.vs P.vp P.vm/\Ints G w di.ws P.wp P.wm
mutual
def Sin (G:Nat->Prop) (w:World):St->Pl->Prop
 | .mk _ _ _ e g ar di _ bo el,P=>Own0 G w e g ar di P/\Lie G w bo.length P.bm P.bp (fun b o=>Hid (RowsS G w bo b o))/\Lie G w el.length P.lm P.lp (fun b o=>Hid (RowsS G w el b o))
def RowsS (G:Nat->Prop) (w:World):List St->Nat->Nat->Prop
 | [],_,_=>True
 | x::t,b,o=>(∃P,cell21 w b o x P/\Sin G w x P)/\RowsS G w t b (o+21)
end
def Lin (G:Nat->Prop) (w:World) (l:List St) (p:Option Addr) (m:Nat):Prop:=Lie G w l.length m p fun b o=>Hid (∀k,(h:k<l.length)->∃P,cell21 w b (o+k*21) l[k] P/\Sin G w l[k] P)
theorem rowsS_iff {G:Nat->Prop} {w:World}:∀{l:List St} {b o:Nat},RowsS G w l b o ↔ ∀k,(h:k<l.length)->∃P,cell21 w b (o+k*21) l[k] P/\Sin G w l[k] P
 | [],b,o=>⟨fun _ k h=>absurd h (Nat.not_lt_zero _),fun _=>by rw[RowsS];trivial⟩
 | x::t,b,o=>by
  rw[RowsS];constructor
  · rintro⟨h1,h2⟩ k hk
    match k,hk with
    | 0,_=>rw[show o+0*21=o by omega];exact h1
    | k+1,hk=>
     have:=rowsS_iff.1 h2 k (by simpa using hk);rw[show o+21+k*21=o+(k+1)*21 by omega] at this;exact this
  · intro h;refine⟨by have:=h 0 (by simp);rw[show o+0*21=o by omega] at this;exact this,rowsS_iff.2 fun k hk=>?_⟩;have:=h (k+1) (by simpa using hk);rw[show o+(k+1)*21=o+21+k*21 by omega] at this;exact this
theorem Lie.imp {G H:Nat->Prop} {w w2:World} {n m:Nat} {p:Option Addr} {R R':Nat->Nat->Prop} (hs:w.heap.size<=w2.heap.size) (hk:∀b,G b->b<w.heap.size->H b/\w2.heap[b]?=w.heap[b]?) (hR:∀b o,G b->b<w.heap.size->R b o->R' b o) (h:Lie G w n m p R):Lie H w2 n m p R':=by
 obtain⟨h1,h2,h3|⟨b,o,rfl,hg,hb,h4⟩⟩:=h
 · exact⟨h1,h2,.inl h3⟩
 · exact⟨h1,h2,.inr ⟨b,o,rfl,(hk b hg hb).1,by omega,hR b o hg hb h4⟩⟩
theorem sin_iff {G:Nat->Prop} {w:World} {x:St} {P:Pl}:Sin G w x P↔Own0 G w x.e x.g x.ar x.di P/\Lin G w x.bo P.bp P.bm/\Lin G w x.el P.lp P.lm:=by
 obtain⟨o,nm,f,e,g,ar,di,fl,bo,el⟩:=x;rw[Sin];have key:∀(l:List St) (p:Option Addr) (m:Nat),Lie G w l.length m p (fun b o=>Hid (RowsS G w l b o))↔Lin G w l p m:=fun l p m=>
  ⟨Lie.imp (Nat.le_refl _) (fun b hg _=>⟨hg,rfl⟩) (fun b o _ _ h=>hid (rowsS_iff.1 h.out)),Lie.imp (Nat.le_refl _) (fun b hg _=>⟨hg,rfl⟩) (fun b o _ _ h=>hid (rowsS_iff.2 h.out))⟩
 rw[key,key];rfl
theorem Ints.map {G H:Nat->Prop} {w w2:World} (hs:w.heap.size<=w2.heap.size) (hk:∀b,G b->b<w.heap.size->H b/\w2.heap[b]?=w.heap[b]?) {l:List Int} {p:Option Addr} {m:Nat} (h:Ints G w l p m):Ints H w2 l p m:=
 Lie.imp hs hk (fun b o hg hb h=>hid fun k hl=>(World.cell?_of_block (w:=w) (a:=⟨b,o+k,none⟩) (hk b hg hb).2).trans (h.out k hl)) h
theorem Own0.map {G H:Nat->Prop} {w w2:World} (hs:w.heap.size<=w2.heap.size) (hk:∀b,G b->b<w.heap.size->H b/\w2.heap[b]?=w.heap[b]?) {e g:Ex} {ar:List Ex} {di:Dt} {P:Pl} (h:Own0 G w e g ar di P):Own0 H w2 e g ar di P:=
 ⟨Kin.map hs hk e h.1,Kin.map hs hk g h.2.1,Kin.map hs hk _ h.2.2.1,h.2.2.2.1.map hs hk,h.2.2.2.2.map hs hk⟩
theorem Lin.map_of {G H:Nat->Prop} {w w2:World} (hs:w.heap.size<=w2.heap.size) (hk:∀b,G b->b<w.heap.size->H b/\w2.heap[b]?=w.heap[b]?) {l:List St} (ih:∀x∈l,∀{P:Pl},Sin G w x P->Sin H w2 x P) {p:Option Addr} {m:Nat} (h:Lin G w l p m):Lin H w2 l p m:=
 Lie.imp hs hk (fun b o hg hb h=>hid fun k hl=>let ⟨P,h1,h2⟩:=h.out k hl;⟨P,h1.keep (hk b hg hb).2,ih _ (List.getElem_mem hl) h2⟩) h
theorem Sin.map {G H:Nat->Prop} {w w2:World} (hs:w.heap.size<=w2.heap.size) (hk:∀b,G b->b<w.heap.size->H b/\w2.heap[b]?=w.heap[b]?) (x:St):∀{P:Pl},Sin G w x P->Sin H w2 x P:=by
 induction x using St.ind with
 | h x h1 h2=>
  intro P h;rw[sin_iff] at h ⊢;exact⟨h.1.map hs hk,Lin.map_of hs hk h1 h.2.1,Lin.map_of hs hk h2 h.2.2⟩
theorem Lin.map {G H:Nat->Prop} {w w2:World} (hs:w.heap.size<=w2.heap.size) (hk:∀b,G b->b<w.heap.size->H b/\w2.heap[b]?=w.heap[b]?) {l:List St} {p:Option Addr} {m:Nat} (h:Lin G w l p m):Lin H w2 l p m:=Lin.map_of hs hk (fun x _=>Sin.map hs hk x) h
theorem Lin.mono {G H:Nat->Prop} {w:World} {l:List St} {p:Option Addr} {m:Nat} (hk:∀b,G b->b<w.heap.size->H b) (h:Lin G w l p m):Lin H w l p m:=h.map (Nat.le_refl _) fun b g hb=>⟨hk b g hb,rfl⟩
theorem Sin.mono {G H:Nat->Prop} {w:World} {x:St} {P:Pl} (hk:∀b,G b->b<w.heap.size->H b) (h:Sin G w x P):Sin H w x P:=Sin.map (Nat.le_refl _) (fun b g hb=>⟨hk b g hb,rfl⟩) x h
abbrev LIn (w:World) (l:List St) (p:Option Addr) (m:Nat):Prop:=Lin (Lo w.heap.size) w l p m
abbrev SIn (w:World) (x:St) (P:Pl):Prop:=Sin (Lo w.heap.size) w x P
theorem Lin.below {B:Nat} {w w2:World} {l:List St} {p:Option Addr} {m:Nat} (hb:Below B w w2) (h:Lin (Lo B) w l p m):Lin (Lo B) w2 l p m:=h.map hb.size fun b g _=>⟨g,hb.block b g⟩
theorem Sin.below {B:Nat} {w w2:World} {x:St} {P:Pl} (hb:Below B w w2) (h:Sin (Lo B) w x P):Sin (Lo B) w2 x P:=Sin.map hb.size (fun b g _=>⟨g,hb.block b g⟩) x h
theorem Lin.all {G:Nat->Prop} {w:World} {l:List St} {p:Option Addr} {m:Nat} (h:Lin G w l p m):LIn w l p m:=h.mono fun b _ hb=>hb
theorem Sin.all {G:Nat->Prop} {w:World} {x:St} {P:Pl} (h:Sin G w x P):SIn w x P:=h.mono fun b _ hb=>hb
theorem Lin.on {w w2:World} {l:List St} {p:Option Addr} {m:Nat} (hb:Below w.heap.size w w2) (h:LIn w l p m):LIn w2 l p m:=(h.below hb).all
theorem Sin.on {w w2:World} {x:St} {P:Pl} (hb:Below w.heap.size w w2) (h:SIn w x P):SIn w2 x P:=(h.below hb).all
theorem Lin.len {G:Nat->Prop} {w:World} {l:List St} {p:Option Addr} {m:Nat} (h:Lin G w l p m):l.length=m/\m<=9223372036854775807:=⟨h.1,h.2.1⟩
theorem Lin.nil {G:Nat->Prop} {w:World} {p:Option Addr}:Lin G w [] p 0:=⟨rfl,by omega,.inl rfl⟩
theorem Lin.rows {G:Nat->Prop} {w:World} {l:List St} {p:Option Addr} {m:Nat} (h:Lin G w l p m) (hm:0<m):∃b o,p=some ⟨b,o,none⟩/\G b/\b<w.heap.size/\Hid (∀k,(h:k<l.length)->∃P,cell21 w b (o+k*21) l[k] P/\Sin G w l[k] P):=by
 rcases h.2.2 with h|h
 · omega
 · exact h
theorem Sin.bo {G:Nat->Prop} {w:World} {x:St} {P:Pl} (h:Sin G w x P):Lin G w x.bo P.bp P.bm:=(sin_iff.1 h).2.1
theorem Sin.el {G:Nat->Prop} {w:World} {x:St} {P:Pl} (h:Sin G w x P):Lin G w x.el P.lp P.lm:=(sin_iff.1 h).2.2
theorem Sin.own0 {G:Nat->Prop} {w:World} {x:St} {P:Pl} (h:Sin G w x P):Own0 G w x.e x.g x.ar x.di P:=(sin_iff.1 h).1
theorem Sin.e {G:Nat->Prop} {w:World} {x:St} {P:Pl} (h:Sin G w x P):In w x.e P.ep P.em:=h.own0.1.all
theorem Sin.g {G:Nat->Prop} {w:World} {x:St} {P:Pl} (h:Sin G w x P):In w x.g P.gp P.gm:=h.own0.2.1.all
theorem Sin.ar {G:Nat->Prop} {w:World} {x:St} {P:Pl} (h:Sin G w x P):In w (.mk 0 nE 0 x.ar) P.ap P.am:=h.own0.2.2.1.all
theorem Ints.row {G:Nat->Prop} {w:World} {l:List Int} {p:Option Addr} {m:Nat} (h:Ints G w l p m):Di.Row w p l.length (fun i=>l.getD i 0):=by
 obtain⟨h1,h2,h3|⟨b,o,rfl,hg,hb,h4⟩⟩:=h
 · exact⟨by omega,.inl (by omega)⟩
 · refine⟨by omega,.inr ⟨b,o,rfl,hb,hid fun i hi=>?_⟩⟩;rw[h4.out i hi];simp[List.getD,List.getElem?_eq_getElem hi]
theorem Sin.vs {G:Nat->Prop} {w:World} {x:St} {P:Pl} (h:Sin G w x P):Di.Row w P.vp x.di.vs.length (fun i=>x.di.vs.getD i 0):=h.own0.2.2.2.1.row
theorem Sin.ws {G:Nat->Prop} {w:World} {x:St} {P:Pl} (h:Sin G w x P):Di.Row w P.wp x.di.ws.length (fun i=>x.di.ws.getD i 0):=h.own0.2.2.2.2.row
theorem Sin.vlen {G:Nat->Prop} {w:World} {x:St} {P:Pl} (h:Sin G w x P):x.di.vs.length=P.vm:=h.own0.2.2.2.1.1
theorem Sin.wlen {G:Nat->Prop} {w:World} {x:St} {P:Pl} (h:Sin G w x P):x.di.ws.length=P.wm:=h.own0.2.2.2.2.1
def SzS (x:St):Prop:=x.nm.size<=140737488355328/\x.f.size<=140737488355328/\(Sz x.e/\Ex.cnt x.e<=1000000)/\(Sz x.g/\Ex.cnt x.g<=1000000)/\∀y∈x.ar,Sz y/\Ex.cnt y<=1000000
def SzL (l:List St):Prop:=∀x∈ordL l,SzS x
theorem SzL.mem {l:List St} (h:SzL l) {x:St} (hx:x∈l):SzS x:=h x (ordL_self hx)
theorem SzL.bo {l:List St} (h:SzL l) {x:St} (hx:x∈l):SzL x.bo:=fun y hy=>h y (ordL_mem hx (ord_bo hy))
theorem SzL.el {l:List St} (h:SzL l) {x:St} (hx:x∈l):SzL x.el:=fun y hy=>h y (ordL_mem hx (ord_el hy))
theorem SzL.app {a b:List St} (ha:SzL a) (hb:SzL b):SzL (a++b):=fun x hx=>by
 rw[ordL_app] at hx;rcases List.mem_append.1 hx with h|h
 · exact ha x h
 · exact hb x h
end Go.Proofs.YtbgodajefaahdaaGreatDoor.Sm
namespace Go.Proofs.YtbgodajefaahdaaGreatDoor.Md
open Go.RowKit
open Go.Proofs.YtbgodajefaahdaaGreatDoor.Na (Strs)
open Go.Proofs.YtbgodajefaahdaaGreatDoor.Ex (Lo)
open Go.Proofs.YtbgodajefaahdaaGreatDoor.Sm (Lie Ints Lin)
set_option maxHeartbeats 1000000
def At (w:World) (b o:Nat) (c:Array Value):Prop:=∀r v,c[r]?=some v->w.cell? ⟨b,o+r,none⟩=some v
theorem At.keep {w w2:World} {b o:Nat} {c:Array Value} (hb:w2.heap[b]?=w.heap[b]?) (h:At w b o c):At w2 b o c:=fun r v hv=>(World.cell?_of_block (w:=w) (a:=⟨b,o+r,none⟩) hb).trans (h r v hv)
theorem At.on {w w2:World} {b o:Nat} {c:Array Value} (hb:Below w.heap.size w w2) (hg:b<w.heap.size) (h:At w b o c):At w2 b o c:=h.keep (hb.block b hg)
theorem At.get {w:World} {b o:Nat} {c:Array Value} (h:At w b o c) {r:Nat} {v:Value} (hv:c[r]?=some v):w.cell? ⟨b,o+r,none⟩=some v:=h r v hv
theorem At.range {w:World} {b o:Nat} {c:Array Value} (h:At w b o c):w.rangeAt b o c.toList:=fun j v hv=>h j v (by rwa [Array.getElem?_toList] at hv)
theorem At.load {w:World} {b o:Nat} {c:Array Value} (h:At w b o c):(loadCellsFrom ⟨b,o,none⟩ 0 c.size #[]).run Tryz.prog w=.ok c w:=by
 have:=run_loadCells_list (P:=Tryz.prog) w ⟨b,o,none⟩ c.toList (fun j v hv=>by rw[Addr.add_mid];exact h j v (by rwa [Array.getElem?_toList] at hv));rw[Array.length_toList,Array.toArray_toList] at this;exact this
theorem At.ldN {w:World} {b o n:Nat} {c:Array Value} (h:At w b o c) (hn:c.size=n):(loadCellsFrom ⟨b,o,none⟩ 0 n #[]).run Tryz.prog w=.ok c w:=by subst hn;exact h.load
def Big (t:TypeId) (k:Nat):Prop:=(∃d,Tryz.prog.underlying t=some d/\d.isRow=true)/\(Tryz.prog.info? t).map (·.size)=some k
theorem At.ldV {w:World} {b o:Nat} {c:Array Value} {t:TypeId} (h:At w b o c) (ht:Big t c.size):(loadVar t ⟨b,o,none⟩).run Tryz.prog w=.ok (.agg c) w:=by
 obtain⟨⟨d,h1,h2⟩,h3⟩:=ht;have:=run_loadVar_mid (P:=Tryz.prog) w b o t c.toList d h.range h1 h2 (by rw[h3];simp);rwa [Array.toArray_toList] at this
theorem At.ldA {w:World} {b o:Nat} {c:Array Value} {t:TypeId} (h:At w b o c) (ht:Big t c.size):(Instr.loadAt t (.pointer (some ⟨b,o,none⟩))).run Tryz.prog w=.ok (.agg c) w:=by
 simp only[Instr.loadAt,Instr.sureAddr,Sem.run_bind,Sem.run_pure,Result.andThen_ok,h.ldV ht]
theorem At.at {w:World} {b o i k n:Nat} {c:Array Value} (h:At w b (o+i*k) c) (hn:k=n):At w b (o+i*n) c:=by subst hn;exact h
theorem put_V {t:TypeId} {c:Array Value} (ht:Big t c.size) (h1:c.all (·.oneCell')=true) (z:Array Value) (hz:z.size=c.size) (W:World) (B:Nat) (hB:W.heap.size=B):(storeVar t ⟨B,0,none⟩ (.agg c)).run Tryz.prog (W.alloc (.cells z t))=.ok () (W.alloc (.cells c t)):=by
 subst hB;exact run_storeVar_new W _ _ _ ht.2 hz h1
theorem put_A {t:TypeId} {c:Array Value} (ht:Big t c.size) (h1:c.all (·.oneCell')=true) (z:Array Value) (hz:z.size=c.size) (W:World) (B:Nat) (hB:W.heap.size=B):(Instr.storeAt t (.pointer (some ⟨B,0,none⟩)) (.agg c)).run Tryz.prog (W.alloc (.cells z t))=.ok () (W.alloc (.cells c t)):=by
 subst hB;exact run_storeAt_new W _ _ _ ht.2 hz h1
theorem put_C {t:TypeId} {c:Array Value} (ht:Big t c.size) (h1:c.all (·.oneCell')=true) (z:Array Value) (hz:z.size=c.size) (W:World) (B:Nat) (hB:W.heap.size=B):(storeCells ⟨B,0,none⟩ c.toList 0).run Tryz.prog (W.alloc (.cells z t))=.ok () (W.alloc (.cells c t)):=by
 subst hB;exact run_storeCells_new W _ _ _ ht.2 hz h1
def Box (w:World) (g:Nat) (t:TypeId) (c:Array Value):Prop:=w.heap[g]?=some (.cells c t (0,0))
theorem Box.lt {w:World} {g:Nat} {t:TypeId} {c:Array Value} (h:Box w g t c):g<w.heap.size:=(Array.getElem?_eq_some_iff.1 h).1
theorem Box.keep {w w2:World} {g:Nat} {t:TypeId} {c:Array Value} (hb:w2.heap[g]?=w.heap[g]?) (h:Box w g t c):Box w2 g t c:=hb.trans h
theorem Box.on {w w2:World} {g:Nat} {t:TypeId} {c:Array Value} (hb:Below w.heap.size w w2) (h:Box w g t c):Box w2 g t c:=h.keep (hb.block g h.lt)
theorem Box.new {w:World} {t:TypeId} {c:Array Value}:Box (w.alloc (.cells c t)) w.heap.size t c:=World.alloc_heap_new w _
theorem Box.cell {w:World} {g:Nat} {t:TypeId} {c:Array Value} (h:Box w g t c):At w g 0 c:=fun r v hv=>by
 rw[Nat.zero_add,cell_of_row w g r _ _ _ h];exact hv
theorem Box.get {w:World} {g:Nat} {t:TypeId} {c:Array Value} (h:Box w g t c) {r:Nat} {v:Value} (hv:c[r]?=some v):w.cell? ⟨g,r,none⟩=some v:=by
 rw[cell_of_row w g r _ _ _ h];exact hv
theorem far {w:World} (t:TypeId) (c:Array Value):Hid (∀W,Below (w.alloc (.cells c t)).heap.size (w.alloc (.cells c t)) W->Box W w.heap.size t c):=hid fun W hb=>Box.new.on hb
theorem far2 {w:World} (t u:TypeId) (c d:Array Value):Hid (∀W,Below ((w.alloc (.cells c t)).alloc (.cells d u)).heap.size ((w.alloc (.cells c t)).alloc (.cells d u)) W->Box W w.heap.size t c/\Box W (w.heap.size+1) u d):=hid fun W hb=>by
 have h1:Box (w.alloc (.cells c t)) w.heap.size t c:=Box.new;have h2:=Box.new (w:=w.alloc (.cells c t)) (c:=d) (t:=u);have e:(w.alloc (.cells c t)).heap.size=w.heap.size+1:=by simp
 rw[e] at h2;exact⟨(h1.on bl).on hb,h2.on hb⟩
abbrev Rec (α:Type):=(Nat->Prop)->World->α->Array Value->Prop
def Mono {α:Type} (R:Rec α):Prop:=∀{G H:Nat->Prop} {w w2:World},w.heap.size<=w2.heap.size->(∀b,G b->b<w.heap.size->H b/\w2.heap[b]?=w.heap[b]?)->∀{x:α} {c:Array Value},R G w x c->R H w2 x c
def Rw {α:Type} (k:Nat) (R:Rec α) (G:Nat->Prop) (w:World) (l:List α) (p:Option Addr) (m:Nat):Prop:=Lie G w l.length m p fun b o=>Hid (∀i,(h:i<l.length)->∃c,c.size=k/\At w b (o+i*k) c/\R G w l[i] c)
section
variable {α:Type} {k:Nat} {R:Rec α} {G H:Nat->Prop} {w w2:World} {l:List α} {p:Option Addr} {m:Nat}
theorem Rw.map (hm:Mono R) (hs:w.heap.size<=w2.heap.size) (hk:∀b,G b->b<w.heap.size->H b/\w2.heap[b]?=w.heap[b]?) (h:Rw k R G w l p m):Rw k R H w2 l p m:=
 Sm.Lie.imp hs hk (fun b o hg hb h=>hid fun i hl=>let ⟨c,h0,h1,h2⟩:=h.out i hl;⟨c,h0,h1.keep (hk b hg hb).2,hm hs hk h2⟩) h
theorem Rw.mono (hm:Mono R) (hk:∀b,G b->b<w.heap.size->H b) (h:Rw k R G w l p m):Rw k R H w l p m:=h.map hm (Nat.le_refl _) fun b g hb=>⟨hk b g hb,rfl⟩
theorem Rw.below {B:Nat} (hm:Mono R) (hb:Below B w w2) (h:Rw k R (Lo B) w l p m):Rw k R (Lo B) w2 l p m:=h.map hm hb.size fun b g _=>⟨g,hb.block b g⟩
theorem Rw.all (hm:Mono R) (h:Rw k R G w l p m):Rw k R (Lo w.heap.size) w l p m:=h.mono hm fun b _ hb=>hb
theorem Rw.on (hm:Mono R) (hb:Below w.heap.size w w2) (h:Rw k R (Lo w.heap.size) w l p m):Rw k R (Lo w2.heap.size) w2 l p m:=(h.below hm hb).all hm
theorem Rw.len (h:Rw k R G w l p m):l.length=m/\m<=9223372036854775807:=⟨h.1,h.2.1⟩
theorem Rw.nil:Rw k R G w ([]:List α) p 0:=⟨rfl,by omega,.inl rfl⟩
theorem Rw.rows (h:Rw k R G w l p m) (hm:0<m):∃b o,p=some ⟨b,o,none⟩/\G b/\b<w.heap.size/\Hid (∀i,(h:i<l.length)->∃c,c.size=k/\At w b (o+i*k) c/\R G w l[i] c):=by
 rcases h.2.2 with h|h
 · omega
 · exact h
theorem Rw.take (h:Rw k R G w l p m) {j:Nat} (hj:j<=m):Rw k R G w (l.take j) p j:=by
 obtain⟨h1,h2,h3⟩:=h;refine⟨by rw[List.length_take];omega,by omega,?_⟩;by_cases h0:j=0
 · exact .inl h0
 · rcases h3 with h3|⟨b,o,rfl,hg,hb,hc⟩
   · omega
   · refine .inr ⟨b,o,rfl,hg,hb,hid fun i hi=>?_⟩;rw[List.length_take] at hi;obtain⟨c,q⟩:=hc.out i (by omega);exact⟨c,by rw[List.getElem_take];exact q⟩
end
theorem Ints.on {w w2:World} {l:List Int} {p:Option Addr} {m:Nat} (hb:Below w.heap.size w w2) (h:Ints (Lo w.heap.size) w l p m):Ints (Lo w2.heap.size) w2 l p m:=h.map hb.size fun b g _=>⟨Nat.lt_of_lt_of_le g hb.size,hb.block b g⟩
theorem Mono.on {α:Type} {R:Rec α} (hm:Mono R) {w w2:World} {x:α} {c:Array Value} (hb:Below w.heap.size w w2) (h:R (Lo w.heap.size) w x c):R (Lo w2.heap.size) w2 x c:=hm hb.size (fun b g=>fun hb2=>⟨Nat.lt_of_lt_of_le hb2 hb.size,hb.block b hb2⟩) h
theorem Mono.all {α:Type} {R:Rec α} (hm:Mono R) {G:Nat->Prop} {w:World} {x:α} {c:Array Value} (h:R G w x c):R (Lo w.heap.size) w x c:=hm (Nat.le_refl _) (fun b _ hb=>⟨hb,rfl⟩) h
def RTxt:Rec ByteArray:=fun _ _ x c=>c=#[.string x]
theorem RTxt.map:Mono RTxt:=by intro G H w w2 _ _ x c h;exact h
theorem Rw.strs {w:World} {l:List ByteArray} {p:Option Addr} {m:Nat} {G:Nat->Prop} (h:Rw 1 RTxt G w l p m):Strs w p m l:=by
 obtain⟨h1,h2,h3⟩:=h;refine⟨h1,h2,?_⟩;rcases h3 with h3|⟨b,o,rfl,hg,hb,hc⟩
 · exact .inl h3
 · refine .inr ⟨b,o,rfl,hb,hid fun i hi=>?_⟩;obtain⟨c,-,h4,rfl⟩:=hc.out i hi;have:=h4 0 _ rfl;rwa [show o+i*1+0=o+i by omega] at this
def cChg (x:Chg):Array Value:=#[.int .i64 x.t,.int .i64 x.u]
theorem cChg_size (x:Chg):(cChg x).size=2:=rfl
theorem cChg_one (x:Chg):(cChg x).all (·.oneCell')=true:=by unfold cChg;simp[Value.oneCell']
def RChg:Rec Chg:=fun _ _ x c=>c=cChg x
theorem RChg.map:Mono RChg:=by intro G H w w2 _ _ x c h;exact h
theorem RChg.is {G:Nat->Prop} {w:World} {x:Chg} {c:Array Value} (h:RChg G w x c):c.size=2/\c.all (·.oneCell')=true:=by
 subst h;exact⟨cChg_size x,cChg_one x⟩
def cVal (x:Val):Array Value:=#[.string x.nm,.int .i64 x.ty,.int .i64 x.n]
theorem cVal_size (x:Val):(cVal x).size=3:=rfl
theorem cVal_one (x:Val):(cVal x).all (·.oneCell')=true:=by unfold cVal;simp[Value.oneCell']
theorem cVal0 (x:Val):(cVal x)[0]?=some (.string x.nm):=rfl
theorem cVal1 (x:Val):(cVal x)[1]?=some (.int .i64 x.ty):=rfl
theorem cVal2 (x:Val):(cVal x)[2]?=some (.int .i64 x.n):=rfl
theorem bVal:Big 93 3:=⟨⟨_,Tryz.underlying93,rfl⟩,by kernel_rfl⟩
def RVal:Rec Val:=fun _ _ x c=>c=cVal x
theorem RVal.map:Mono RVal:=by intro G H w w2 _ _ x c h;exact h
theorem RVal.is {G:Nat->Prop} {w:World} {x:Val} {c:Array Value} (h:RVal G w x c):c.size=3/\c.all (·.oneCell')=true:=by
 subst h;exact⟨cVal_size x,cVal_one x⟩
def cSto (x:Sto):Array Value:=#[.string x.nm,.int .i64 x.rm,.int .i64 x.po]
theorem cSto_size (x:Sto):(cSto x).size=3:=rfl
theorem cSto_one (x:Sto):(cSto x).all (·.oneCell')=true:=by unfold cSto;simp[Value.oneCell']
theorem cSto0 (x:Sto):(cSto x)[0]?=some (.string x.nm):=rfl
theorem cSto1 (x:Sto):(cSto x)[1]?=some (.int .i64 x.rm):=rfl
theorem cSto2 (x:Sto):(cSto x)[2]?=some (.int .i64 x.po):=rfl
theorem bSto:Big 114 3:=⟨⟨_,Tryz.underlying114,rfl⟩,by kernel_rfl⟩
def RSto:Rec Sto:=fun _ _ x c=>c=cSto x
theorem RSto.map:Mono RSto:=by intro G H w w2 _ _ x c h;exact h
theorem RSto.is {G:Nat->Prop} {w:World} {x:Sto} {c:Array Value} (h:RSto G w x c):c.size=3/\c.all (·.oneCell')=true:=by
 subst h;exact⟨cSto_size x,cSto_one x⟩
def cBlt (x:Blt):Array Value:=#[.string x.nm,.int .i64 x.ln,.int .i64 x.sp]
theorem cBlt_size (x:Blt):(cBlt x).size=3:=rfl
theorem cBlt_one (x:Blt):(cBlt x).all (·.oneCell')=true:=by unfold cBlt;simp[Value.oneCell']
theorem cBlt0 (x:Blt):(cBlt x)[0]?=some (.string x.nm):=rfl
theorem cBlt1 (x:Blt):(cBlt x)[1]?=some (.int .i64 x.ln):=rfl
theorem cBlt2 (x:Blt):(cBlt x)[2]?=some (.int .i64 x.sp):=rfl
theorem bBlt:Big 116 3:=⟨⟨_,Tryz.underlying116,rfl⟩,by kernel_rfl⟩
def RBlt:Rec Blt:=fun _ _ x c=>c=cBlt x
theorem RBlt.map:Mono RBlt:=by intro G H w w2 _ _ x c h;exact h
theorem RBlt.is {G:Nat->Prop} {w:World} {x:Blt} {c:Array Value} (h:RBlt G w x c):c.size=3/\c.all (·.oneCell')=true:=by
 subst h;exact⟨cBlt_size x,cBlt_one x⟩
def cFld (x:Fld):Array Value:=#[.string x.nm,.int .i64 x.ty]
theorem cFld_size (x:Fld):(cFld x).size=2:=rfl
theorem cFld_one (x:Fld):(cFld x).all (·.oneCell')=true:=by unfold cFld;simp[Value.oneCell']
theorem cFld0 (x:Fld):(cFld x)[0]?=some (.string x.nm):=rfl
theorem cFld1 (x:Fld):(cFld x)[1]?=some (.int .i64 x.ty):=rfl
theorem bFld:Big 179 2:=⟨⟨_,Tryz.underlying179,rfl⟩,by kernel_rfl⟩
def RFld:Rec Fld:=fun _ _ x c=>c=cFld x
theorem RFld.map:Mono RFld:=by intro G H w w2 _ _ x c h;exact h
theorem RFld.is {G:Nat->Prop} {w:World} {x:Fld} {c:Array Value} (h:RFld G w x c):c.size=2/\c.all (·.oneCell')=true:=by
 subst h;exact⟨cFld_size x,cFld_one x⟩
def cTrm (x:Trm):Array Value:=#[.int .i64 x.co,.string x.wh,.string x.nm]
theorem cTrm_size (x:Trm):(cTrm x).size=3:=rfl
theorem cTrm_one (x:Trm):(cTrm x).all (·.oneCell')=true:=by unfold cTrm;simp[Value.oneCell']
theorem cTrm0 (x:Trm):(cTrm x)[0]?=some (.int .i64 x.co):=rfl
theorem cTrm1 (x:Trm):(cTrm x)[1]?=some (.string x.wh):=rfl
theorem cTrm2 (x:Trm):(cTrm x)[2]?=some (.string x.nm):=rfl
theorem bTrm:Big 181 3:=⟨⟨_,Tryz.underlying181,rfl⟩,by kernel_rfl⟩
def RTrm:Rec Trm:=fun _ _ x c=>c=cTrm x
theorem RTrm.map:Mono RTrm:=by intro G H w w2 _ _ x c h;exact h
theorem RTrm.is {G:Nat->Prop} {w:World} {x:Trm} {c:Array Value} (h:RTrm G w x c):c.size=3/\c.all (·.oneCell')=true:=by
 subst h;exact⟨cTrm_size x,cTrm_one x⟩
def cLnk (x:Lnk):Array Value:=#[.string x.fr,.string x.tt,.int .i64 x.de]
theorem cLnk_size (x:Lnk):(cLnk x).size=3:=rfl
theorem cLnk_one (x:Lnk):(cLnk x).all (·.oneCell')=true:=by unfold cLnk;simp[Value.oneCell']
theorem cLnk0 (x:Lnk):(cLnk x)[0]?=some (.string x.fr):=rfl
theorem cLnk1 (x:Lnk):(cLnk x)[1]?=some (.string x.tt):=rfl
theorem cLnk2 (x:Lnk):(cLnk x)[2]?=some (.int .i64 x.de):=rfl
theorem bLnk:Big 73 3:=⟨⟨_,Tryz.underlying73,rfl⟩,by kernel_rfl⟩
def RLnk:Rec Lnk:=fun _ _ x c=>c=cLnk x
theorem RLnk.map:Mono RLnk:=by intro G H w w2 _ _ x c h;exact h
theorem RLnk.is {G:Nat->Prop} {w:World} {x:Lnk} {c:Array Value} (h:RLnk G w x c):c.size=3/\c.all (·.oneCell')=true:=by
 subst h;exact⟨cLnk_size x,cLnk_one x⟩
structure PRes where
 shp:Option Addr
 shm:Nat
 shc:Nat
 upvp:Option Addr
 upvm:Nat
 upvc:Nat
 upwp:Option Addr
 upwm:Nat
 upwc:Nat
 dnvp:Option Addr
 dnvm:Nat
 dnvc:Nat
 dnwp:Option Addr
 dnwm:Nat
 dnwc:Nat
def cRes (x:Res) (P:PRes):Array Value:=#[.string x.nm,.int .i64 x.un,.slice P.shp P.shm P.shc,.int .i64 x.cy,.string x.fs,.int .i64 x.up.op,.int .i64 x.up.a,.int .i64 x.up.b,.int .i64 x.up.n,.slice P.upvp P.upvm P.upvc,.slice P.upwp P.upwm P.upwc,.int .i64 x.dn.op,.int .i64 x.dn.a,.int .i64 x.dn.b,.int .i64 x.dn.n,.slice P.dnvp P.dnvm P.dnvc,.slice P.dnwp P.dnwm P.dnwc]
theorem cRes_size (x:Res) (P:PRes):(cRes x P).size=17:=rfl
theorem cRes_one (x:Res) (P:PRes):(cRes x P).all (·.oneCell')=true:=by unfold cRes;simp[Value.oneCell']
theorem cRes0 (x:Res) (P:PRes):(cRes x P)[0]?=some (.string x.nm):=rfl
theorem cRes1 (x:Res) (P:PRes):(cRes x P)[1]?=some (.int .i64 x.un):=rfl
theorem cRes2 (x:Res) (P:PRes):(cRes x P)[2]?=some (.slice P.shp P.shm P.shc):=rfl
theorem cRes3 (x:Res) (P:PRes):(cRes x P)[3]?=some (.int .i64 x.cy):=rfl
theorem cRes4 (x:Res) (P:PRes):(cRes x P)[4]?=some (.string x.fs):=rfl
theorem cRes5 (x:Res) (P:PRes):(cRes x P)[5]?=some (.int .i64 x.up.op):=rfl
theorem cRes6 (x:Res) (P:PRes):(cRes x P)[6]?=some (.int .i64 x.up.a):=rfl
theorem cRes7 (x:Res) (P:PRes):(cRes x P)[7]?=some (.int .i64 x.up.b):=rfl
theorem cRes8 (x:Res) (P:PRes):(cRes x P)[8]?=some (.int .i64 x.up.n):=rfl
theorem cRes9 (x:Res) (P:PRes):(cRes x P)[9]?=some (.slice P.upvp P.upvm P.upvc):=rfl
theorem cRes10 (x:Res) (P:PRes):(cRes x P)[10]?=some (.slice P.upwp P.upwm P.upwc):=rfl
theorem cRes11 (x:Res) (P:PRes):(cRes x P)[11]?=some (.int .i64 x.dn.op):=rfl
theorem cRes12 (x:Res) (P:PRes):(cRes x P)[12]?=some (.int .i64 x.dn.a):=rfl
theorem cRes13 (x:Res) (P:PRes):(cRes x P)[13]?=some (.int .i64 x.dn.b):=rfl
theorem cRes14 (x:Res) (P:PRes):(cRes x P)[14]?=some (.int .i64 x.dn.n):=rfl
theorem cRes15 (x:Res) (P:PRes):(cRes x P)[15]?=some (.slice P.dnvp P.dnvm P.dnvc):=rfl
theorem cRes16 (x:Res) (P:PRes):(cRes x P)[16]?=some (.slice P.dnwp P.dnwm P.dnwc):=rfl
theorem bRes:Big 111 17:=⟨⟨_,Tryz.underlying111,rfl⟩,by kernel_rfl⟩
structure ORes (G:Nat->Prop) (w:World) (x:Res) (P:PRes):Prop where
 sh:Rw 2 RChg G w x.sh P.shp P.shm
 upv:Ints G w x.up.vs P.upvp P.upvm
 upw:Ints G w x.up.ws P.upwp P.upwm
 dnv:Ints G w x.dn.vs P.dnvp P.dnvm
 dnw:Ints G w x.dn.ws P.dnwp P.dnwm
theorem ORes.map {G H:Nat->Prop} {w w2:World} (hs:w.heap.size<=w2.heap.size) (hk:∀b,G b->b<w.heap.size->H b/\w2.heap[b]?=w.heap[b]?) {x:Res} {P:PRes} (h:ORes G w x P):ORes H w2 x P:=
 ⟨h.sh.map RChg.map hs hk,h.upv.map hs hk,h.upw.map hs hk,h.dnv.map hs hk,h.dnw.map hs hk⟩
theorem ORes.on {w w2:World} (hb:Below w.heap.size w w2) {x:Res} {P:PRes} (h:ORes (Lo w.heap.size) w x P):ORes (Lo w2.heap.size) w2 x P:=h.map hb.size fun b g _=>⟨Nat.lt_of_lt_of_le g hb.size,hb.block b g⟩
theorem ORes.all {G:Nat->Prop} {w:World} {x:Res} {P:PRes} (h:ORes G w x P):ORes (Lo w.heap.size) w x P:=h.map (Nat.le_refl _) fun b _ hb=>⟨hb,rfl⟩
def RRes:Rec Res:=fun G w x c=>∃P,c=cRes x P/\ORes G w x P
theorem RRes.map:Mono RRes:=by intro G H w w2 hs hk x c ⟨P,h1,h2⟩;exact⟨P,h1,h2.map hs hk⟩
theorem RRes.is {G:Nat->Prop} {w:World} {x:Res} {c:Array Value} (h:RRes G w x c):c.size=17/\c.all (·.oneCell')=true:=by
 obtain⟨P,rfl,-⟩:=h;exact⟨cRes_size x P,cRes_one x P⟩
structure PRou where
 psp:Option Addr
 psm:Nat
 psc:Nat
 lsp:Option Addr
 lsm:Nat
 lsc:Nat
 bop:Option Addr
 bom:Nat
 boc:Nat
def cRou (x:Rou) (P:PRou):Array Value:=#[.string x.nm,.slice P.psp P.psm P.psc,.slice P.lsp P.lsm P.lsc,.slice P.bop P.bom P.boc]
theorem cRou_size (x:Rou) (P:PRou):(cRou x P).size=4:=rfl
theorem cRou_one (x:Rou) (P:PRou):(cRou x P).all (·.oneCell')=true:=by unfold cRou;simp[Value.oneCell']
theorem cRou0 (x:Rou) (P:PRou):(cRou x P)[0]?=some (.string x.nm):=rfl
theorem cRou1 (x:Rou) (P:PRou):(cRou x P)[1]?=some (.slice P.psp P.psm P.psc):=rfl
theorem cRou2 (x:Rou) (P:PRou):(cRou x P)[2]?=some (.slice P.lsp P.lsm P.lsc):=rfl
theorem cRou3 (x:Rou) (P:PRou):(cRou x P)[3]?=some (.slice P.bop P.bom P.boc):=rfl
theorem bRou:Big 119 4:=⟨⟨_,Tryz.underlying119,rfl⟩,by kernel_rfl⟩
structure ORou (G:Nat->Prop) (w:World) (x:Rou) (P:PRou):Prop where
 ps:Rw 2 RFld G w x.ps P.psp P.psm
 ls:Rw 2 RFld G w x.ls P.lsp P.lsm
 bo:Lin G w x.bo P.bop P.bom
theorem ORou.map {G H:Nat->Prop} {w w2:World} (hs:w.heap.size<=w2.heap.size) (hk:∀b,G b->b<w.heap.size->H b/\w2.heap[b]?=w.heap[b]?) {x:Rou} {P:PRou} (h:ORou G w x P):ORou H w2 x P:=
 ⟨h.ps.map RFld.map hs hk,h.ls.map RFld.map hs hk,h.bo.map hs hk⟩
theorem ORou.on {w w2:World} (hb:Below w.heap.size w w2) {x:Rou} {P:PRou} (h:ORou (Lo w.heap.size) w x P):ORou (Lo w2.heap.size) w2 x P:=h.map hb.size fun b g _=>⟨Nat.lt_of_lt_of_le g hb.size,hb.block b g⟩
theorem ORou.all {G:Nat->Prop} {w:World} {x:Rou} {P:PRou} (h:ORou G w x P):ORou (Lo w.heap.size) w x P:=h.map (Nat.le_refl _) fun b _ hb=>⟨hb,rfl⟩
def RRou:Rec Rou:=fun G w x c=>∃P,c=cRou x P/\ORou G w x P
theorem RRou.map:Mono RRou:=by intro G H w w2 hs hk x c ⟨P,h1,h2⟩;exact⟨P,h1,h2.map hs hk⟩
theorem RRou.is {G:Nat->Prop} {w:World} {x:Rou} {c:Array Value} (h:RRou G w x c):c.size=4/\c.all (·.oneCell')=true:=by
 obtain⟨P,rfl,-⟩:=h;exact⟨cRou_size x P,cRou_one x P⟩
structure PSta where
 arp:Option Addr
 arm:Nat
 arc:Nat
def cSta (x:Sta) (P:PSta):Array Value:=#[.string x.ro,.slice P.arp P.arm P.arc,.int .i64 x.a,.int .i64 x.e,.int .i64 x.u]
theorem cSta_size (x:Sta) (P:PSta):(cSta x P).size=5:=rfl
theorem cSta_one (x:Sta) (P:PSta):(cSta x P).all (·.oneCell')=true:=by unfold cSta;simp[Value.oneCell']
theorem cSta0 (x:Sta) (P:PSta):(cSta x P)[0]?=some (.string x.ro):=rfl
theorem cSta1 (x:Sta) (P:PSta):(cSta x P)[1]?=some (.slice P.arp P.arm P.arc):=rfl
theorem cSta2 (x:Sta) (P:PSta):(cSta x P)[2]?=some (.int .i64 x.a):=rfl
theorem cSta3 (x:Sta) (P:PSta):(cSta x P)[3]?=some (.int .i64 x.e):=rfl
theorem cSta4 (x:Sta) (P:PSta):(cSta x P)[4]?=some (.int .i64 x.u):=rfl
theorem bSta:Big 122 5:=⟨⟨_,Tryz.underlying122,rfl⟩,by kernel_rfl⟩
structure OSta (G:Nat->Prop) (w:World) (x:Sta) (P:PSta):Prop where
 ar:Ints G w x.ar P.arp P.arm
theorem OSta.map {G H:Nat->Prop} {w w2:World} (hs:w.heap.size<=w2.heap.size) (hk:∀b,G b->b<w.heap.size->H b/\w2.heap[b]?=w.heap[b]?) {x:Sta} {P:PSta} (h:OSta G w x P):OSta H w2 x P:=
 ⟨h.ar.map hs hk⟩
theorem OSta.on {w w2:World} (hb:Below w.heap.size w w2) {x:Sta} {P:PSta} (h:OSta (Lo w.heap.size) w x P):OSta (Lo w2.heap.size) w2 x P:=h.map hb.size fun b g _=>⟨Nat.lt_of_lt_of_le g hb.size,hb.block b g⟩
theorem OSta.all {G:Nat->Prop} {w:World} {x:Sta} {P:PSta} (h:OSta G w x P):OSta (Lo w.heap.size) w x P:=h.map (Nat.le_refl _) fun b _ hb=>⟨hb,rfl⟩
def RSta:Rec Sta:=fun G w x c=>∃P,c=cSta x P/\OSta G w x P
theorem RSta.map:Mono RSta:=by intro G H w w2 hs hk x c ⟨P,h1,h2⟩;exact⟨P,h1,h2.map hs hk⟩
theorem RSta.is {G:Nat->Prop} {w:World} {x:Sta} {c:Array Value} (h:RSta G w x c):c.size=5/\c.all (·.oneCell')=true:=by
 obtain⟨P,rfl,-⟩:=h;exact⟨cSta_size x P,cSta_one x P⟩
structure PLw where
 tsp:Option Addr
 tsm:Nat
 tsc:Nat
def cLw (x:Lw) (P:PLw):Array Value:=#[.string x.nm,.slice P.tsp P.tsm P.tsc,.int .i64 x.tt]
theorem cLw_size (x:Lw) (P:PLw):(cLw x P).size=3:=rfl
theorem cLw_one (x:Lw) (P:PLw):(cLw x P).all (·.oneCell')=true:=by unfold cLw;simp[Value.oneCell']
theorem cLw0 (x:Lw) (P:PLw):(cLw x P)[0]?=some (.string x.nm):=rfl
theorem cLw1 (x:Lw) (P:PLw):(cLw x P)[1]?=some (.slice P.tsp P.tsm P.tsc):=rfl
theorem cLw2 (x:Lw) (P:PLw):(cLw x P)[2]?=some (.int .i64 x.tt):=rfl
theorem bLw:Big 127 3:=⟨⟨_,Tryz.underlying127,rfl⟩,by kernel_rfl⟩
structure OLw (G:Nat->Prop) (w:World) (x:Lw) (P:PLw):Prop where
 ts:Rw 3 RTrm G w x.ts P.tsp P.tsm
theorem OLw.map {G H:Nat->Prop} {w w2:World} (hs:w.heap.size<=w2.heap.size) (hk:∀b,G b->b<w.heap.size->H b/\w2.heap[b]?=w.heap[b]?) {x:Lw} {P:PLw} (h:OLw G w x P):OLw H w2 x P:=
 ⟨h.ts.map RTrm.map hs hk⟩
theorem OLw.on {w w2:World} (hb:Below w.heap.size w w2) {x:Lw} {P:PLw} (h:OLw (Lo w.heap.size) w x P):OLw (Lo w2.heap.size) w2 x P:=h.map hb.size fun b g _=>⟨Nat.lt_of_lt_of_le g hb.size,hb.block b g⟩
theorem OLw.all {G:Nat->Prop} {w:World} {x:Lw} {P:PLw} (h:OLw G w x P):OLw (Lo w.heap.size) w x P:=h.map (Nat.le_refl _) fun b _ hb=>⟨hb,rfl⟩
def RLw:Rec Lw:=fun G w x c=>∃P,c=cLw x P/\OLw G w x P
theorem RLw.map:Mono RLw:=by intro G H w w2 hs hk x c ⟨P,h1,h2⟩;exact⟨P,h1,h2.map hs hk⟩
theorem RLw.is {G:Nat->Prop} {w:World} {x:Lw} {c:Array Value} (h:RLw G w x c):c.size=3/\c.all (·.oneCell')=true:=by
 obtain⟨P,rfl,-⟩:=h;exact⟨cLw_size x P,cLw_one x P⟩
structure PSte where
 vap:Option Addr
 vam:Nat
 vac:Nat
 rsp:Option Addr
 rsm:Nat
 rsc:Nat
 stp:Option Addr
 stm:Nat
 stc:Nat
 bep:Option Addr
 bem:Nat
 bec:Nat
 qup:Option Addr
 qum:Nat
 quc:Nat
 smp:Option Addr
 smm:Nat
 smc:Nat
 tap:Option Addr
 tam:Nat
 tac:Nat
 lep:Option Addr
 lem:Nat
 lec:Nat
 cop:Option Addr
 com:Nat
 coc:Nat
 rop:Option Addr
 rom:Nat
 roc:Nat
 ssp:Option Addr
 ssm:Nat
 ssc:Nat
 lap:Option Addr
 lam:Nat
 lac:Nat
def cSte (x:Ste) (P:PSte):Array Value:=#[.string x.nm,.slice P.vap P.vam P.vac,.slice P.rsp P.rsm P.rsc,.slice P.stp P.stm P.stc,.slice P.bep P.bem P.bec,.slice P.qup P.qum P.quc,.slice P.smp P.smm P.smc,.slice P.tap P.tam P.tac,.slice P.lep P.lem P.lec,.slice P.cop P.com P.coc,.slice P.rop P.rom P.roc,.slice P.ssp P.ssm P.ssc,.slice P.lap P.lam P.lac]
theorem cSte_size (x:Ste) (P:PSte):(cSte x P).size=13:=rfl
theorem cSte_one (x:Ste) (P:PSte):(cSte x P).all (·.oneCell')=true:=by unfold cSte;simp[Value.oneCell']
theorem cSte0 (x:Ste) (P:PSte):(cSte x P)[0]?=some (.string x.nm):=rfl
theorem cSte1 (x:Ste) (P:PSte):(cSte x P)[1]?=some (.slice P.vap P.vam P.vac):=rfl
theorem cSte2 (x:Ste) (P:PSte):(cSte x P)[2]?=some (.slice P.rsp P.rsm P.rsc):=rfl
theorem cSte3 (x:Ste) (P:PSte):(cSte x P)[3]?=some (.slice P.stp P.stm P.stc):=rfl
theorem cSte4 (x:Ste) (P:PSte):(cSte x P)[4]?=some (.slice P.bep P.bem P.bec):=rfl
theorem cSte5 (x:Ste) (P:PSte):(cSte x P)[5]?=some (.slice P.qup P.qum P.quc):=rfl
theorem cSte6 (x:Ste) (P:PSte):(cSte x P)[6]?=some (.slice P.smp P.smm P.smc):=rfl
theorem cSte7 (x:Ste) (P:PSte):(cSte x P)[7]?=some (.slice P.tap P.tam P.tac):=rfl
theorem cSte8 (x:Ste) (P:PSte):(cSte x P)[8]?=some (.slice P.lep P.lem P.lec):=rfl
theorem cSte9 (x:Ste) (P:PSte):(cSte x P)[9]?=some (.slice P.cop P.com P.coc):=rfl
theorem cSte10 (x:Ste) (P:PSte):(cSte x P)[10]?=some (.slice P.rop P.rom P.roc):=rfl
theorem cSte11 (x:Ste) (P:PSte):(cSte x P)[11]?=some (.slice P.ssp P.ssm P.ssc):=rfl
theorem cSte12 (x:Ste) (P:PSte):(cSte x P)[12]?=some (.slice P.lap P.lam P.lac):=rfl
theorem bSte:Big 53 13:=⟨⟨_,Tryz.underlying53,rfl⟩,by kernel_rfl⟩
structure OSte (G:Nat->Prop) (w:World) (x:Ste) (P:PSte):Prop where
 va:Rw 3 RVal G w x.va P.vap P.vam
 rs:Rw 17 RRes G w x.rs P.rsp P.rsm
 st:Rw 3 RSto G w x.st P.stp P.stm
 be:Rw 3 RBlt G w x.be P.bep P.bem
 qu:Rw 1 RTxt G w x.qu P.qup P.qum
 sm:Rw 1 RTxt G w x.sm P.smp P.smm
 ta:Rw 1 RTxt G w x.ta P.tap P.tam
 le:Rw 1 RTxt G w x.le P.lep P.lem
 co:Rw 1 RTxt G w x.co P.cop P.com
 ro:Rw 4 RRou G w x.ro P.rop P.rom
 ss:Rw 5 RSta G w x.ss P.ssp P.ssm
 la:Rw 3 RLw G w x.la P.lap P.lam
theorem OSte.map {G H:Nat->Prop} {w w2:World} (hs:w.heap.size<=w2.heap.size) (hk:∀b,G b->b<w.heap.size->H b/\w2.heap[b]?=w.heap[b]?) {x:Ste} {P:PSte} (h:OSte G w x P):OSte H w2 x P:=
 ⟨h.va.map RVal.map hs hk,h.rs.map RRes.map hs hk,h.st.map RSto.map hs hk,h.be.map RBlt.map hs hk,h.qu.map RTxt.map hs hk,h.sm.map RTxt.map hs hk,h.ta.map RTxt.map hs hk,h.le.map RTxt.map hs hk,h.co.map RTxt.map hs hk,h.ro.map RRou.map hs hk,h.ss.map RSta.map hs hk,h.la.map RLw.map hs hk⟩
theorem OSte.on {w w2:World} (hb:Below w.heap.size w w2) {x:Ste} {P:PSte} (h:OSte (Lo w.heap.size) w x P):OSte (Lo w2.heap.size) w2 x P:=h.map hb.size fun b g _=>⟨Nat.lt_of_lt_of_le g hb.size,hb.block b g⟩
theorem OSte.all {G:Nat->Prop} {w:World} {x:Ste} {P:PSte} (h:OSte G w x P):OSte (Lo w.heap.size) w x P:=h.map (Nat.le_refl _) fun b _ hb=>⟨hb,rfl⟩
def RSte:Rec Ste:=fun G w x c=>∃P,c=cSte x P/\OSte G w x P
theorem RSte.map:Mono RSte:=by intro G H w w2 hs hk x c ⟨P,h1,h2⟩;exact⟨P,h1,h2.map hs hk⟩
theorem RSte.is {G:Nat->Prop} {w:World} {x:Ste} {c:Array Value} (h:RSte G w x c):c.size=13/\c.all (·.oneCell')=true:=by
 obtain⟨P,rfl,-⟩:=h;exact⟨cSte_size x P,cSte_one x P⟩
structure PMdl where
 pap:Option Addr
 pam:Nat
 pac:Nat
 sip:Option Addr
 sim:Nat
 sic:Nat
 lip:Option Addr
 lim:Nat
 lic:Nat
def cMdl (x:Mdl) (P:PMdl):Array Value:=#[.string x.nm,.slice P.pap P.pam P.pac,.slice P.sip P.sim P.sic,.slice P.lip P.lim P.lic]
theorem cMdl_size (x:Mdl) (P:PMdl):(cMdl x P).size=4:=rfl
theorem cMdl_one (x:Mdl) (P:PMdl):(cMdl x P).all (·.oneCell')=true:=by unfold cMdl;simp[Value.oneCell']
theorem cMdl0 (x:Mdl) (P:PMdl):(cMdl x P)[0]?=some (.string x.nm):=rfl
theorem cMdl1 (x:Mdl) (P:PMdl):(cMdl x P)[1]?=some (.slice P.pap P.pam P.pac):=rfl
theorem cMdl2 (x:Mdl) (P:PMdl):(cMdl x P)[2]?=some (.slice P.sip P.sim P.sic):=rfl
theorem cMdl3 (x:Mdl) (P:PMdl):(cMdl x P)[3]?=some (.slice P.lip P.lim P.lic):=rfl
theorem bMdl:Big 27 4:=⟨⟨_,Tryz.underlying27,rfl⟩,by kernel_rfl⟩
structure OMdl (G:Nat->Prop) (w:World) (x:Mdl) (P:PMdl):Prop where
 pa:Rw 3 RVal G w x.pa P.pap P.pam
 si:Rw 13 RSte G w x.si P.sip P.sim
 li:Rw 3 RLnk G w x.li P.lip P.lim
theorem OMdl.map {G H:Nat->Prop} {w w2:World} (hs:w.heap.size<=w2.heap.size) (hk:∀b,G b->b<w.heap.size->H b/\w2.heap[b]?=w.heap[b]?) {x:Mdl} {P:PMdl} (h:OMdl G w x P):OMdl H w2 x P:=
 ⟨h.pa.map RVal.map hs hk,h.si.map RSte.map hs hk,h.li.map RLnk.map hs hk⟩
theorem OMdl.on {w w2:World} (hb:Below w.heap.size w w2) {x:Mdl} {P:PMdl} (h:OMdl (Lo w.heap.size) w x P):OMdl (Lo w2.heap.size) w2 x P:=h.map hb.size fun b g _=>⟨Nat.lt_of_lt_of_le g hb.size,hb.block b g⟩
theorem OMdl.all {G:Nat->Prop} {w:World} {x:Mdl} {P:PMdl} (h:OMdl G w x P):OMdl (Lo w.heap.size) w x P:=h.map (Nat.le_refl _) fun b _ hb=>⟨hb,rfl⟩
def RMdl:Rec Mdl:=fun G w x c=>∃P,c=cMdl x P/\OMdl G w x P
theorem RMdl.map:Mono RMdl:=by intro G H w w2 hs hk x c ⟨P,h1,h2⟩;exact⟨P,h1,h2.map hs hk⟩
theorem RMdl.is {G:Nat->Prop} {w:World} {x:Mdl} {c:Array Value} (h:RMdl G w x c):c.size=4/\c.all (·.oneCell')=true:=by
 obtain⟨P,rfl,-⟩:=h;exact⟨cMdl_size x P,cMdl_one x P⟩
end Go.Proofs.YtbgodajefaahdaaGreatDoor.Md
namespace Go.Proofs.YtbgodajefaahdaaGreatDoor.Md
open Go.RowKit
open Go.Proofs.YtbgodajefaahdaaGreatDoor.Na (bs fst)
open Go.Proofs.YtbgodajefaahdaaGreatDoor.Ex (Lo Gives take_one ret_int)
set_option maxHeartbeats 2000000
def idxB {α:Type} (f:α->Bool):List α->Int
 | []=>-1
 | x::t=>if f x=true then 0 else if idxB f t = -1 then -1 else idxB f t+1
theorem idxB_ge {α:Type} {f:α->Bool}:∀l:List α,-1<=idxB f l
 | []=>by unfold idxB;omega
 | x::t=>by
  have:=idxB_ge (f:=f) t;unfold idxB
  split
  · omega
  · split <;> omega
theorem idxB_app {α:Type} {f:α->Bool}:∀{a b:List α},idxB f a = -1->idxB f (a++b)=if idxB f b = -1 then -1 else a.length+idxB f b
 | [],b,_=>by
  rw[List.nil_append]
  split
  · assumption
  · simp
 | x::t,b,h=>by
  rw[List.cons_append,idxB];rw[idxB] at h;by_cases hx:f x=true
  · rw[if_pos hx] at h;omega
  · rw[if_neg hx] at h ⊢;have h0:=idxB_ge (f:=f) t;have h1:=idxB_ge (f:=f) b;by_cases ht:idxB f t = -1
    · rw[idxB_app ht];by_cases hb:idxB f b = -1
      · rw[if_pos hb,if_pos hb,if_pos rfl]
      · rw[if_neg hb,if_neg hb,if_neg (by omega),List.length_cons];omega
    · rw[if_neg ht] at h;omega
theorem idxB_miss {α:Type} {f:α->Bool} {l:List α} {k:Nat} {x:α} (hx:l[k]?=some x) (h:idxB f (l.take k) = -1) (g:f x=false):idxB f (l.take (k+1)) = -1:=by
 rw[take_one hx,idxB_app h];have:idxB f [x] = -1:=by unfold idxB;rw[g];rfl
 rw[if_pos this]
theorem idxB_hit {α:Type} {f:α->Bool} {l:List α} {k:Nat} {x:α} (hx:l[k]?=some x) (h:idxB f (l.take k) = -1) (g:f x=true):idxB f l=(k:Int):=by
 obtain⟨hk,e⟩:=List.getElem?_eq_some_iff.1 hx;have h1:=List.take_append_drop k l;rw[List.drop_eq_getElem_cons hk,e] at h1;have h2:=idxB_app (b:=x::l.drop (k+1)) h;rw[h1] at h2;have h3:idxB f (x::l.drop (k+1))=0:=by unfold idxB;rw[if_pos g]
 rw[h2,h3,if_neg (by omega),List.length_take];omega
theorem idxB_fst {α:Type} {nm:α->ByteArray} {s:ByteArray}:∀{l:List α},idxB (fun x=>txB (nm x) s) l=fst (l.map nm) s
 | []=>rfl
 | x::t=>by
  rw[List.map_cons,fst_cons,idxB,idxB_fst];have:(txB (nm x) s=true)=(bs (nm x)=bs s):=by unfold txB;rw[decide_eq_true_eq]
  simp only[this]
theorem tx_is (a b:ByteArray):(a.toList==b.toList)=txB a b:=by
 unfold txB;by_cases h:bs a=bs b
 · rw[decide_eq_true h];exact Na.eq_yes h
 · rw[decide_eq_false h];exact Na.eq_no h
theorem zBI_0 {p:Prop} (h:p:=by
 have ld1:=hat2.ldN hcsz;have ld2:=hat2.ldV bt;have ld3:=hat2.ldA bt;obtain⟨x,hx⟩:∃x,l[k]=x:=⟨_,rfl⟩
 rw[hx] at HX HR;clear hcell hcs hat hat2 bt hR hx hkl;go_wp2_with fail;refine(hc.out x c _ HR.out HW.out).mono ?_;rintro e w2 ⟨rfl,hb2⟩;have HW2:Hid (Below w.heap.size w w2):=hid (by have HBB:=HW.out;exact bl);clear ld1 ld2 ld3 hb2
 cases hr:f x
 · have H:=hid (idxB_miss HX.out HA.out hr);clear hr;go_wp2_with fail;go_roundw
   case rel=>exact⟨k+1,by omega,by go_num,HW2,H⟩
   case measure=>simp[intOf];omega
 · have H:=hid (idxB_hit HX.out HA.out hr);clear hr;go_wp2_with fail;go_ret;exact⟨ret_int H.out.symm,HW2.out⟩
 ):p:=h
theorem zBI_1 {p:Prop} (h:p:=by
 obtain rfl:m=k:=by omega
 have HT:=hid (show idxB f l = -1 by have h1:=HA.out;rwa [List.take_of_length_le (by rw[HL.out];exact Nat.le_refl _)] at h1);go_wp2_with fail;go_ret;exact⟨ret_int HT.out.symm,HW.out⟩
 ):p:=h
set_option maxRecDepth 100000 in
theorem index_Ste {l:List Ste} {p:Option Addr} {m c:Nat} {w:World} (hl:Hid (Rw 13 RSte (Lo w.heap.size) w l p m)) (bnd cap:Array Value) (f:Ste->Bool)
 (hc:Hid (∀x c W,RSte (Lo W.heap.size) W x c->Below w.heap.size w W->Calls Tryz.prog 127 (bnd.push (.agg c)++cap) W (Gives (.bool (f x)) W))) :
 Calls Tryz.prog 126 #[.slice p m c,.func (.func 127) bnd cap] w (Gives (.int .i64 (idxB f l)) w):=by
 obtain⟨hlm,hm⟩:=hl.out.len;have HL:=hid hlm;have t3:(m:Int)<=9223372036854775807:=by omega
 clear hlm hm;obtain⟨kk,hkk⟩:∃n:Nat,13=n:=⟨_,rfl⟩
 have hsz:∀w,(sizeOf 53).run Tryz.prog w=.ok kk w:=fun w=>by rw[Tryz.sizeOf53,hkk]
 have HKK:=hid hkk;clear hkk;go_enter Tryz.func126,Tryz.ntmps126;go_wp2_with fail;go_loopw [8] (fun i wr=>∃k:Nat,k<=m/\i=.int .i64 (k:Nat)/\Hid (Below w.heap.size w wr)/\Hid (idxB f (l.take k) = -1)) (fun i _=>m-(intOf i).toNat)
 case atStart=>exact⟨0,Nat.zero_le _,rfl,hid (Below.refl _ _),hid rfl⟩
 case round=>
  obtain⟨k,hk,rfl,HW,HA⟩:=hrel;have k0:(0:Int)<=(k:Int):=by omega
  rcases Nat.lt_or_ge k m with h|h
  · have k1:(k:Int)<(m:Int):=by omega
    have hkl:k<l.length:=by rw[HL.out];exact h
    have HX:=hid (List.getElem?_eq_getElem hkl);obtain⟨b,o,rfl,hbG,hG,hcell⟩:=(hl.out.below RSte.map HW.out).rows (by omega);obtain⟨c,hcs,hat,hR⟩:=hcell.out k hkl;have HC:=hid hcs;have HR:=hid (RSte.map.all hR);have hcsz:c.size=kk:=by rw[HC.out,HKK.out]
    have hat2:=hat.at HKK.out;have bt:Big 53 c.size:=by rw[HC.out];exact bSte
    exact zBI_0
  · exact zBI_1
set_option maxRecDepth 100000 in
theorem index_Rou {l:List Rou} {p:Option Addr} {m c:Nat} {w:World} (hl:Hid (Rw 4 RRou (Lo w.heap.size) w l p m)) (bnd cap:Array Value) (f:Rou->Bool)
 (hc:Hid (∀x c W,RRou (Lo W.heap.size) W x c->Below w.heap.size w W->Calls Tryz.prog 192 (bnd.push (.agg c)++cap) W (Gives (.bool (f x)) W))) :
 Calls Tryz.prog 191 #[.slice p m c,.func (.func 192) bnd cap] w (Gives (.int .i64 (idxB f l)) w):=by
 obtain⟨hlm,hm⟩:=hl.out.len;have HL:=hid hlm;have t3:(m:Int)<=9223372036854775807:=by omega
 clear hlm hm;obtain⟨kk,hkk⟩:∃n:Nat,4=n:=⟨_,rfl⟩
 have hsz:∀w,(sizeOf 119).run Tryz.prog w=.ok kk w:=fun w=>by rw[Tryz.sizeOf119,hkk]
 have HKK:=hid hkk;clear hkk;go_enter Tryz.func191,Tryz.ntmps191;go_wp2_with fail;go_loopw [8] (fun i wr=>∃k:Nat,k<=m/\i=.int .i64 (k:Nat)/\Hid (Below w.heap.size w wr)/\Hid (idxB f (l.take k) = -1)) (fun i _=>m-(intOf i).toNat)
 case atStart=>exact⟨0,Nat.zero_le _,rfl,hid (Below.refl _ _),hid rfl⟩
 case round=>
  obtain⟨k,hk,rfl,HW,HA⟩:=hrel;have k0:(0:Int)<=(k:Int):=by omega
  rcases Nat.lt_or_ge k m with h|h
  · have k1:(k:Int)<(m:Int):=by omega
    have hkl:k<l.length:=by rw[HL.out];exact h
    have HX:=hid (List.getElem?_eq_getElem hkl);obtain⟨b,o,rfl,hbG,hG,hcell⟩:=(hl.out.below RRou.map HW.out).rows (by omega);obtain⟨c,hcs,hat,hR⟩:=hcell.out k hkl;have HC:=hid hcs;have HR:=hid (RRou.map.all hR);have hcsz:c.size=kk:=by rw[HC.out,HKK.out]
    have hat2:=hat.at HKK.out;have bt:Big 119 c.size:=by rw[HC.out];exact bRou
    exact zBI_0
  · exact zBI_1
set_option maxRecDepth 100000 in
theorem index_Val {l:List Val} {p:Option Addr} {m c:Nat} {w:World} (hl:Hid (Rw 3 RVal (Lo w.heap.size) w l p m)) (bnd cap:Array Value) (f:Val->Bool)
 (hc:Hid (∀x c W,RVal (Lo W.heap.size) W x c->Below w.heap.size w W->Calls Tryz.prog 216 (bnd.push (.agg c)++cap) W (Gives (.bool (f x)) W))) :
 Calls Tryz.prog 215 #[.slice p m c,.func (.func 216) bnd cap] w (Gives (.int .i64 (idxB f l)) w):=by
 obtain⟨hlm,hm⟩:=hl.out.len;have HL:=hid hlm;have t3:(m:Int)<=9223372036854775807:=by omega
 clear hlm hm;obtain⟨kk,hkk⟩:∃n:Nat,3=n:=⟨_,rfl⟩
 have hsz:∀w,(sizeOf 93).run Tryz.prog w=.ok kk w:=fun w=>by rw[Tryz.sizeOf93,hkk]
 have HKK:=hid hkk;clear hkk;go_enter Tryz.func215,Tryz.ntmps215;go_wp2_with fail;go_loopw [8] (fun i wr=>∃k:Nat,k<=m/\i=.int .i64 (k:Nat)/\Hid (Below w.heap.size w wr)/\Hid (idxB f (l.take k) = -1)) (fun i _=>m-(intOf i).toNat)
 case atStart=>exact⟨0,Nat.zero_le _,rfl,hid (Below.refl _ _),hid rfl⟩
 case round=>
  obtain⟨k,hk,rfl,HW,HA⟩:=hrel;have k0:(0:Int)<=(k:Int):=by omega
  rcases Nat.lt_or_ge k m with h|h
  · have k1:(k:Int)<(m:Int):=by omega
    have hkl:k<l.length:=by rw[HL.out];exact h
    have HX:=hid (List.getElem?_eq_getElem hkl);obtain⟨b,o,rfl,hbG,hG,hcell⟩:=(hl.out.below RVal.map HW.out).rows (by omega);obtain⟨c,hcs,hat,hR⟩:=hcell.out k hkl;have HC:=hid hcs;have HR:=hid (RVal.map.all hR);have hcsz:c.size=kk:=by rw[HC.out,HKK.out]
    have hat2:=hat.at HKK.out;have bt:Big 93 c.size:=by rw[HC.out];exact bVal
    exact zBI_0
  · exact zBI_1
set_option maxRecDepth 100000 in
theorem index_Res {l:List Res} {p:Option Addr} {m c:Nat} {w:World} (hl:Hid (Rw 17 RRes (Lo w.heap.size) w l p m)) (bnd cap:Array Value) (f:Res->Bool)
 (hc:Hid (∀x c W,RRes (Lo W.heap.size) W x c->Below w.heap.size w W->Calls Tryz.prog 218 (bnd.push (.agg c)++cap) W (Gives (.bool (f x)) W))) :
 Calls Tryz.prog 217 #[.slice p m c,.func (.func 218) bnd cap] w (Gives (.int .i64 (idxB f l)) w):=by
 obtain⟨hlm,hm⟩:=hl.out.len;have HL:=hid hlm;have t3:(m:Int)<=9223372036854775807:=by omega
 clear hlm hm;obtain⟨kk,hkk⟩:∃n:Nat,17=n:=⟨_,rfl⟩
 have hsz:∀w,(sizeOf 111).run Tryz.prog w=.ok kk w:=fun w=>by rw[Tryz.sizeOf111,hkk]
 have HKK:=hid hkk;clear hkk;go_enter Tryz.func217,Tryz.ntmps217;go_wp2_with fail;go_loopw [8] (fun i wr=>∃k:Nat,k<=m/\i=.int .i64 (k:Nat)/\Hid (Below w.heap.size w wr)/\Hid (idxB f (l.take k) = -1)) (fun i _=>m-(intOf i).toNat)
 case atStart=>exact⟨0,Nat.zero_le _,rfl,hid (Below.refl _ _),hid rfl⟩
 case round=>
  obtain⟨k,hk,rfl,HW,HA⟩:=hrel;have k0:(0:Int)<=(k:Int):=by omega
  rcases Nat.lt_or_ge k m with h|h
  · have k1:(k:Int)<(m:Int):=by omega
    have hkl:k<l.length:=by rw[HL.out];exact h
    have HX:=hid (List.getElem?_eq_getElem hkl);obtain⟨b,o,rfl,hbG,hG,hcell⟩:=(hl.out.below RRes.map HW.out).rows (by omega);obtain⟨c,hcs,hat,hR⟩:=hcell.out k hkl;have HC:=hid hcs;have HR:=hid (RRes.map.all hR);have hcsz:c.size=kk:=by rw[HC.out,HKK.out]
    have hat2:=hat.at HKK.out;have bt:Big 111 c.size:=by rw[HC.out];exact bRes
    exact zBI_0
  · exact zBI_1
set_option maxRecDepth 100000 in
theorem index_Sto {l:List Sto} {p:Option Addr} {m c:Nat} {w:World} (hl:Hid (Rw 3 RSto (Lo w.heap.size) w l p m)) (bnd cap:Array Value) (f:Sto->Bool)
 (hc:Hid (∀x c W,RSto (Lo W.heap.size) W x c->Below w.heap.size w W->Calls Tryz.prog 220 (bnd.push (.agg c)++cap) W (Gives (.bool (f x)) W))) :
 Calls Tryz.prog 219 #[.slice p m c,.func (.func 220) bnd cap] w (Gives (.int .i64 (idxB f l)) w):=by
 obtain⟨hlm,hm⟩:=hl.out.len;have HL:=hid hlm;have t3:(m:Int)<=9223372036854775807:=by omega
 clear hlm hm;obtain⟨kk,hkk⟩:∃n:Nat,3=n:=⟨_,rfl⟩
 have hsz:∀w,(sizeOf 114).run Tryz.prog w=.ok kk w:=fun w=>by rw[Tryz.sizeOf114,hkk]
 have HKK:=hid hkk;clear hkk;go_enter Tryz.func219,Tryz.ntmps219;go_wp2_with fail;go_loopw [8] (fun i wr=>∃k:Nat,k<=m/\i=.int .i64 (k:Nat)/\Hid (Below w.heap.size w wr)/\Hid (idxB f (l.take k) = -1)) (fun i _=>m-(intOf i).toNat)
 case atStart=>exact⟨0,Nat.zero_le _,rfl,hid (Below.refl _ _),hid rfl⟩
 case round=>
  obtain⟨k,hk,rfl,HW,HA⟩:=hrel;have k0:(0:Int)<=(k:Int):=by omega
  rcases Nat.lt_or_ge k m with h|h
  · have k1:(k:Int)<(m:Int):=by omega
    have hkl:k<l.length:=by rw[HL.out];exact h
    have HX:=hid (List.getElem?_eq_getElem hkl);obtain⟨b,o,rfl,hbG,hG,hcell⟩:=(hl.out.below RSto.map HW.out).rows (by omega);obtain⟨c,hcs,hat,hR⟩:=hcell.out k hkl;have HC:=hid hcs;have HR:=hid (RSto.map.all hR);have hcsz:c.size=kk:=by rw[HC.out,HKK.out]
    have hat2:=hat.at HKK.out;have bt:Big 114 c.size:=by rw[HC.out];exact bSto
    exact zBI_0
  · exact zBI_1
set_option maxRecDepth 100000 in
theorem index_Blt {l:List Blt} {p:Option Addr} {m c:Nat} {w:World} (hl:Hid (Rw 3 RBlt (Lo w.heap.size) w l p m)) (bnd cap:Array Value) (f:Blt->Bool)
 (hc:Hid (∀x c W,RBlt (Lo W.heap.size) W x c->Below w.heap.size w W->Calls Tryz.prog 222 (bnd.push (.agg c)++cap) W (Gives (.bool (f x)) W))) :
 Calls Tryz.prog 221 #[.slice p m c,.func (.func 222) bnd cap] w (Gives (.int .i64 (idxB f l)) w):=by
 obtain⟨hlm,hm⟩:=hl.out.len;have HL:=hid hlm;have t3:(m:Int)<=9223372036854775807:=by omega
 clear hlm hm;obtain⟨kk,hkk⟩:∃n:Nat,3=n:=⟨_,rfl⟩
 have hsz:∀w,(sizeOf 116).run Tryz.prog w=.ok kk w:=fun w=>by rw[Tryz.sizeOf116,hkk]
 have HKK:=hid hkk;clear hkk;go_enter Tryz.func221,Tryz.ntmps221;go_wp2_with fail;go_loopw [8] (fun i wr=>∃k:Nat,k<=m/\i=.int .i64 (k:Nat)/\Hid (Below w.heap.size w wr)/\Hid (idxB f (l.take k) = -1)) (fun i _=>m-(intOf i).toNat)
 case atStart=>exact⟨0,Nat.zero_le _,rfl,hid (Below.refl _ _),hid rfl⟩
 case round=>
  obtain⟨k,hk,rfl,HW,HA⟩:=hrel;have k0:(0:Int)<=(k:Int):=by omega
  rcases Nat.lt_or_ge k m with h|h
  · have k1:(k:Int)<(m:Int):=by omega
    have hkl:k<l.length:=by rw[HL.out];exact h
    have HX:=hid (List.getElem?_eq_getElem hkl);obtain⟨b,o,rfl,hbG,hG,hcell⟩:=(hl.out.below RBlt.map HW.out).rows (by omega);obtain⟨c,hcs,hat,hR⟩:=hcell.out k hkl;have HC:=hid hcs;have HR:=hid (RBlt.map.all hR);have hcsz:c.size=kk:=by rw[HC.out,HKK.out]
    have hat2:=hat.at HKK.out;have bt:Big 116 c.size:=by rw[HC.out];exact bBlt
    exact zBI_0
  · exact zBI_1
end Go.Proofs.YtbgodajefaahdaaGreatDoor.Md
namespace Go.Proofs.YtbgodajefaahdaaGreatDoor.Md
open Go.RowKit
open Go.Proofs.YtbgodajefaahdaaGreatDoor.Na (bs bs_inj)
set_option maxHeartbeats 2000000
def Stay (v:Value) (w:World) (e:Ending) (w':World):Prop:=e=.returned v/\w=w'
theorem zBJ_0 {p:Prop} (h:p:=by
 go_wp2_with fail;go_ret;exact⟨rfl,rfl⟩
 ):p:=h
theorem between_any (lo n hi:Int) (w:World):Calls Tryz.prog 78 #[.int .i64 lo,.int .i64 n,.int .i64 hi] w (Stay (.bool (btw lo n hi)) w):=by
 unfold btw;by_cases h1:lo<=n
 · by_cases h2:n<=hi
   · have d1:=decide_eq_true h1;have d2:=decide_eq_true h2;rw[d1,d2];go_enter Tryz.func78,Tryz.ntmps78;exact zBJ_0
   · have d1:=decide_eq_true h1;have d2:=decide_eq_false h2;rw[d1,d2];go_enter Tryz.func78,Tryz.ntmps78;exact zBJ_0
 · have d1:=decide_eq_false h1;rw[d1];go_enter Tryz.func78,Tryz.ntmps78;exact zBJ_0
theorem between_gives {lo n hi:Int} {b:Bool} (h:btw lo n hi=b) (w:World):Calls Tryz.prog 78 #[.int .i64 lo,.int .i64 n,.int .i64 hi] w (Stay (.bool b) w):=by rw[← h];exact between_any lo n hi w
theorem isTime_any (n:Int) (w:World):Calls Tryz.prog 108 #[.int .i64 n] w (Stay (.bool (isT n)) w):=by
 go_enter Tryz.func108,Tryz.ntmps108;go_wp2_with fail;refine(between_any 0 n 1000000000 w).mono ?_;rintro e w1 ⟨rfl,rfl⟩;exact zBJ_0
theorem isUnits_any (n:Int) (w:World):Calls Tryz.prog 158 #[.int .i64 n] w (Stay (.bool (isU n)) w):=by
 go_enter Tryz.func158,Tryz.ntmps158;go_wp2_with fail;refine(between_any 0 n 1000 w).mono ?_;rintro e w1 ⟨rfl,rfl⟩;exact zBJ_0
theorem ty_cases (t:Int):t=1∨t=2∨t=3∨((t==1)=false/\(t==2)=false/\(t==3)=false/\¬t=1/\¬t=2/\¬t=3):=by
 by_cases h1:t=1
 · exact .inl h1
 by_cases h2:t=2
 · exact .inr (.inl h2)
 by_cases h3:t=3
 · exact .inr (.inr (.inl h3))
 exact .inr (.inr (.inr ⟨beq_eq_false_iff_ne.2 h1,beq_eq_false_iff_ne.2 h2,beq_eq_false_iff_ne.2 h3,h1,h2,h3⟩))
theorem isType_any (t:Int) (w:World):Calls Tryz.prog 70 #[.int .i64 t] w (Stay (.bool (typ t)) w):=by
 rcases ty_cases t with rfl|rfl|rfl|⟨e1,e2,e3,h1,h2,h3⟩
 · go_enter Tryz.func70,Tryz.ntmps70;exact zBJ_0
 · go_enter Tryz.func70,Tryz.ntmps70;exact zBJ_0
 · go_enter Tryz.func70,Tryz.ntmps70;exact zBJ_0
 · have hz:typ t=false:=by unfold typ;rw[decide_eq_false h1,decide_eq_false h2,decide_eq_false h3];rfl
   rw[hz];clear hz h1 h2 h3;go_enter Tryz.func70,Tryz.ntmps70;exact zBJ_0
theorem in_any (n:Int) (w:World):Calls Tryz.prog 107 #[.int .i64 n] w (Stay (.bool (btw (-1000000000000) n 1000000000000)) w):=by
 unfold btw;by_cases h1:-1000000000000<=n
 · by_cases h2:n<=1000000000000
   · have d1:=decide_eq_true h1;have d2:=decide_eq_true h2;rw[d1,d2];go_enter Tryz.func107,Tryz.ntmps107;exact zBJ_0
   · have d1:=decide_eq_true h1;have d2:=decide_eq_false h2;rw[d1,d2];go_enter Tryz.func107,Tryz.ntmps107;exact zBJ_0
 · have d1:=decide_eq_false h1;rw[d1];go_enter Tryz.func107,Tryz.ntmps107;exact zBJ_0
theorem fits_any (t n:Int) (w:World):Calls Tryz.prog 71 #[.int .i64 t,.int .i64 n] w (Stay (.bool (fits t n)) w):=by
 rcases ty_cases t with rfl|rfl|rfl|⟨e1,e2,e3,h1,h2,h3⟩
 · go_enter Tryz.func71,Tryz.ntmps71;go_wp2_with fail;refine(in_any n w).mono ?_;rintro e w1 ⟨rfl,rfl⟩;exact zBJ_0
 · go_enter Tryz.func71,Tryz.ntmps71;go_wp2_with fail;refine(between_any 0 n 1 w).mono ?_;rintro e w1 ⟨rfl,rfl⟩;exact zBJ_0
 · go_enter Tryz.func71,Tryz.ntmps71;go_wp2_with fail;refine(isTime_any n w).mono ?_;rintro e w1 ⟨rfl,rfl⟩;exact zBJ_0
 · have hz:fits t n=false:=by unfold fits;rw[if_neg h1,if_neg h2,if_neg h3]
   rw[hz];clear hz h1 h2 h3;go_enter Tryz.func71,Tryz.ntmps71;exact zBJ_0
theorem clash {x:Bool} (h:x=true) (g:x=false):False:=by rw[h] at g;cases g
theorem is_lit {s:ByteArray} {c:List UInt8} (h:(s.toList==c)=true):s=⟨c.toArray⟩:=by
 have g:=eq_of_beq h;rw[Lib.toList_data] at g;exact bs_inj (by show bs s=_;unfold bs;simpa using g)
theorem not_lit {s:ByteArray} {c:List UInt8} (h:(s.toList==c)=false):¬s=⟨c.toArray⟩:=by
 rintro rfl;rw[beq_eq_false_iff_ne] at h;exact h (by rw[Lib.toList_data])
theorem cnt_none {s:ByteArray} (h1:¬s=tCrd) (h2:¬s=tEnd) (h3:¬s=tIns) (h4:¬s=tStd) (h5:¬s=tEnt) (h6:¬s=tLft) (h7:¬s=tCtd):cntK s=Sm.nE:=by
 unfold cntK;rw[if_neg (by simp[h1,h2,h3]),if_neg (by simp[h4,h5,h6]),if_neg h7]
theorem zBJ_1 {p:Prop} (h:p:=by assumption):p:=h
set_option maxRecDepth 100000 in
theorem counted_any (s:ByteArray) (w:World):Calls Tryz.prog 201 #[.string s] w (Stay (.string (cntK s)) w):=by
 go_enter Tryz.func201,Tryz.ntmps201;go_wp2_with fail
 all_goals first
  | exact(clash zBJ_1 zBJ_1).elim
  | (go_ret;refine⟨?_,rfl⟩;rw[is_lit (s:=s) zBJ_1];rfl)
  | (go_ret;refine⟨?_,rfl⟩;have n1:¬s=tCrd:=not_lit zBJ_1;have n2:¬s=tEnd:=not_lit zBJ_1;have n3:¬s=tIns:=not_lit zBJ_1;have n4:¬s=tStd:=not_lit zBJ_1;have n5:¬s=tEnt:=not_lit zBJ_1;have n6:¬s=tLft:=not_lit zBJ_1;have n7:¬s=tCtd:=not_lit zBJ_1;rw[cnt_none n1 n2 n3 n4 n5 n6 n7];rfl)
end Go.Proofs.YtbgodajefaahdaaGreatDoor.Md
namespace Go.Proofs.YtbgodajefaahdaaGreatDoor.Sm
open Go.RowKit
open Go.Proofs.YtbgodajefaahdaaGreatDoor.Ex (Gives)
attribute [local go_sem] cs0 cs1 cs2 cs3 cs4 cs5 cs6 cs7 cs8 cs9 cs10 cs11 cs12 cs13 cs14 cs15 cs16 cs17 cs18 cs19 cs20
set_option maxHeartbeats 1000000
abbrev SameC (f:FuncId) (sl:List St):Prop:=∀(l2:List St) (p:Option Addr) (m c:Nat) (p2:Option Addr) (m2 c2:Nat) (w:World),LIn w sl p m->LIn w l2 p2 m2->Calls Tryz.prog f #[.slice p m c,.slice p2 m2 c2] w (Gives (.bool (sameSL sl l2)) w)
theorem sameS_no {x y:St} (h:same0 x y=false):sameS x y=false:=by rw[sameS_one,h];rfl
end Go.Proofs.YtbgodajefaahdaaGreatDoor.Sm
namespace Go.Proofs.YtbgodajefaahdaaGreatDoor.Sm
open Go.RowKit
attribute [local go_sem] cs0 cs1 cs2 cs3 cs4 cs5 cs6 cs7 cs8 cs9 cs10 cs11 cs12 cs13 cs14 cs15 cs16 cs17 cs18 cs19 cs20
set_option maxHeartbeats 2000000
set_option linter.unusedSimpArgs false
abbrev P0:Pl:=⟨none,0,0,none,0,0,none,0,0,none,0,0,none,0,0,none,0,0,none,0,0⟩
theorem ints_nil {G:Nat->Prop} {w:World} {p:Option Addr}:Ints G w [] p 0:=⟨rfl,by omega,.inl rfl⟩
theorem parts_of' {o:Option TypeInfo} {z:Value} {s b:Nat} (h:o.map (fun i=>(i.zero,i.size,i.bytes))=some (some z,s,b)):∃i,o=some i/\i.zero=some z/\i.size=s/\i.bytes=b:=by
 cases o with
 | none=>cases h
 | some i=>simp only[Option.map_some,Option.some.injEq,Prod.mk.injEq] at h;exact⟨i,rfl,h.1,h.2.1,h.2.2⟩
theorem fld_info:(Tryz.prog.info? 60).map (fun i=>(i.zero,i.size,i.bytes))=some (some (.agg #[.int .i64 0,.string ⟨#[]⟩,.string ⟨#[]⟩,.int .i64 0,.string ⟨#[]⟩,.int .i64 0,.slice none 0 0,.int .i64 0,.string ⟨#[]⟩,.int .i64 0,.slice none 0 0,.slice none 0 0,.int .i64 0,.int .i64 0,.int .i64 0,.int .i64 0,.slice none 0 0,.slice none 0 0,.bool false,.slice none 0 0,.slice none 0 0]),21,312):=by kernel_rfl
theorem st_anyC (x:St) (P:Pl) (z:Array Value) (hz:z.size=21) (W:World) (B:Nat) (hB:W.heap.size=B):(storeCells ⟨B,0,none⟩ (cs x P).toList 0).run Tryz.prog (W.alloc (.cells z 60))=.ok () (W.alloc (.cells (cs x P) 60)):=by subst hB;exact st_store x P z hz W
theorem st_anyV (x:St) (P:Pl) (z:Array Value) (hz:z.size=21) (W:World) (B:Nat) (hB:W.heap.size=B):(storeVar 60 ⟨B,0,none⟩ (.agg (cs x P))).run Tryz.prog (W.alloc (.cells z 60))=.ok () (W.alloc (.cells (cs x P) 60)):=by subst hB;exact st_storeVar x P z hz W
theorem st_anyA (x:St) (P:Pl) (z:Array Value) (hz:z.size=21) (W:World) (B:Nat) (hB:W.heap.size=B):(Instr.storeAt 60 (.pointer (some ⟨B,0,none⟩)) (.agg (cs x P))).run Tryz.prog (W.alloc (.cells z 60))=.ok () (W.alloc (.cells (cs x P) 60)):=by subst hB;exact st_storeAt x P z hz W
end Go.Proofs.YtbgodajefaahdaaGreatDoor.Sm
