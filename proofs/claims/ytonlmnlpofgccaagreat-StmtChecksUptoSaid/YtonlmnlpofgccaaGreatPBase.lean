/-
  Words for worlds and statements in memory: a list of statements reads as a list of trees in a world.
-/
import Derived.Test.YtonlmnlpofgccaaGreatEBase
import Derived.RangeFuncRecord
import Derived.Deep.MidRow
import Derived.Deep.WholeRow
import Derived.Test.YtonlmnlpofgccaaGreatPMath
namespace Go.Proofs.YtonlmnlpofgccaaGreat.Sm
open Go.RowKit
open Go.Proofs.YtonlmnlpofgccaaGreat.Na (bs bs_inj chk)
open Go.Proofs.YtonlmnlpofgccaaGreat.Ex (Ex Nm Kin In Sz Lo Gives cell4 kin_iff ret_int ret_bool below_drewN bl_alloc bl_drewN bl_drew bl_set bl_call block_lt add_off take_one take_snoc)
set_option maxHeartbeats 1000000
set_option linter.unusedVariables false
/-- Where the parts of a statement lie. -/
structure Pl where
  ep : Option Addr
  em : Nat
  ec : Nat
  gp : Option Addr
  gm : Nat
  gc : Nat
  ap : Option Addr
  am : Nat
  ac : Nat
  vp : Option Addr
  vm : Nat
  vc : Nat
  wp : Option Addr
  wm : Nat
  wc : Nat
  bp : Option Addr
  bm : Nat
  bc : Nat
  lp : Option Addr
  lm : Nat
  lc : Nat
/-- The 21 cells of a statement. -/
def cs (x : St) (P : Pl) : Array Value := #[.int .i64 x.o, .string x.nm, .string x.f, .int .i64 x.e.o, .string x.e.s, .int .i64 x.e.n, .slice P.ep P.em P.ec, .int .i64 x.g.o, .string x.g.s, .int .i64 x.g.n, .slice P.gp P.gm P.gc, .slice P.ap P.am P.ac, .int .i64 x.di.op, .int .i64 x.di.a, .int .i64 x.di.b, .int .i64 x.di.n, .slice P.vp P.vm P.vc, .slice P.wp P.wm P.wc, .bool x.fl, .slice P.bp P.bm P.bc, .slice P.lp P.lm P.lc]
theorem cs_size (x : St) (P : Pl) : (cs x P).size = 21 := rfl
theorem cs_one (x : St) (P : Pl) : (cs x P).all (·.oneCell') = true := by unfold cs; simp [Value.oneCell']
theorem cs0 (x : St) (P : Pl) : (cs x P)[0]? = some (.int .i64 x.o) := rfl
theorem cs1 (x : St) (P : Pl) : (cs x P)[1]? = some (.string x.nm) := rfl
theorem cs2 (x : St) (P : Pl) : (cs x P)[2]? = some (.string x.f) := rfl
theorem cs3 (x : St) (P : Pl) : (cs x P)[3]? = some (.int .i64 x.e.o) := rfl
theorem cs4 (x : St) (P : Pl) : (cs x P)[4]? = some (.string x.e.s) := rfl
theorem cs5 (x : St) (P : Pl) : (cs x P)[5]? = some (.int .i64 x.e.n) := rfl
theorem cs6 (x : St) (P : Pl) : (cs x P)[6]? = some (.slice P.ep P.em P.ec) := rfl
theorem cs7 (x : St) (P : Pl) : (cs x P)[7]? = some (.int .i64 x.g.o) := rfl
theorem cs8 (x : St) (P : Pl) : (cs x P)[8]? = some (.string x.g.s) := rfl
theorem cs9 (x : St) (P : Pl) : (cs x P)[9]? = some (.int .i64 x.g.n) := rfl
theorem cs10 (x : St) (P : Pl) : (cs x P)[10]? = some (.slice P.gp P.gm P.gc) := rfl
theorem cs11 (x : St) (P : Pl) : (cs x P)[11]? = some (.slice P.ap P.am P.ac) := rfl
theorem cs12 (x : St) (P : Pl) : (cs x P)[12]? = some (.int .i64 x.di.op) := rfl
theorem cs13 (x : St) (P : Pl) : (cs x P)[13]? = some (.int .i64 x.di.a) := rfl
theorem cs14 (x : St) (P : Pl) : (cs x P)[14]? = some (.int .i64 x.di.b) := rfl
theorem cs15 (x : St) (P : Pl) : (cs x P)[15]? = some (.int .i64 x.di.n) := rfl
theorem cs16 (x : St) (P : Pl) : (cs x P)[16]? = some (.slice P.vp P.vm P.vc) := rfl
theorem cs17 (x : St) (P : Pl) : (cs x P)[17]? = some (.slice P.wp P.wm P.wc) := rfl
theorem cs18 (x : St) (P : Pl) : (cs x P)[18]? = some (.bool x.fl) := rfl
theorem cs19 (x : St) (P : Pl) : (cs x P)[19]? = some (.slice P.bp P.bm P.bc) := rfl
theorem cs20 (x : St) (P : Pl) : (cs x P)[20]? = some (.slice P.lp P.lm P.lc) := rfl
def cell21 (w : World) (g o : Nat) (x : St) (P : Pl) : Prop := ∀ r v, (cs x P)[r]? = some v → w.cell? ⟨g, o + r, none⟩ = some v
theorem cell21.keep {w w2 : World} {g o : Nat} {x : St} {P : Pl} (hb : w2.heap[g]? = w.heap[g]?) (h : cell21 w g o x P) : cell21 w2 g o x P := fun r v hv => (World.cell?_of_block (w := w) (a := ⟨g, o + r, none⟩) hb).trans (h r v hv)
theorem cell21.on {w w2 : World} {g o : Nat} {x : St} {P : Pl} (hb : Below w.heap.size w w2) (hg : g < w.heap.size) (h : cell21 w g o x P) : cell21 w2 g o x P := h.keep (hb.block g hg)
theorem st_info : (Tryz.prog.info? 39).map (·.size) = some 21 := by kernel_rfl
theorem st_under : ∃ d, Tryz.prog.underlying 39 = some d ∧ d.isRow = true := ⟨_, Tryz.underlying39, rfl⟩
theorem cell21.range {w : World} {g o : Nat} {x : St} {P : Pl} (h : cell21 w g o x P) : w.rangeAt g o (cs x P).toList := fun j v hv => h j v (by rwa [Array.getElem?_toList] at hv)
/-- A whole statement is read. -/
theorem cell21.load {w : World} {g o : Nat} {x : St} {P : Pl} (h : cell21 w g o x P) : (loadCellsFrom ⟨g, o, none⟩ 0 21 #[]).run Tryz.prog w = .ok (cs x P) w := by
  have := run_loadCells_list (P := Tryz.prog) w ⟨g, o, none⟩ (cs x P).toList (fun j v hv => by rw [Addr.add_mid]; exact h j v (by rwa [Array.getElem?_toList] at hv))
  rw [Array.length_toList, cs_size, Array.toArray_toList] at this
  exact this
theorem cell21.loadVar {w : World} {g o : Nat} {x : St} {P : Pl} (h : cell21 w g o x P) : (loadVar 39 ⟨g, o, none⟩).run Tryz.prog w = .ok (.agg (cs x P)) w := by
  obtain ⟨d, h1, h2⟩ := st_under
  have := run_loadVar_mid (P := Tryz.prog) w g o 39 (cs x P).toList d h.range h1 h2 (by rw [st_info]; rfl)
  rwa [Array.toArray_toList] at this
theorem cell21.loadAt {w : World} {g o : Nat} {x : St} {P : Pl} (h : cell21 w g o x P) : (Instr.loadAt 39 (.pointer (some ⟨g, o, none⟩))).run Tryz.prog w = .ok (.agg (cs x P)) w := by
  simp only [Instr.loadAt, Instr.sureAddr, Sem.run_bind, Sem.run_pure, Result.andThen_ok, h.loadVar]
theorem cell21.ldN {w : World} {g o n : Nat} {x : St} {P : Pl} (h : cell21 w g o x P) (hn : 21 = n) : (loadCellsFrom ⟨g, o, none⟩ 0 n #[]).run Tryz.prog w = .ok (cs x P) w := by subst hn; exact h.load
theorem cell21.at {w : World} {g o k n : Nat} {x : St} {P : Pl} (h : cell21 w g (o + k * 21) x P) (hn : 21 = n) : cell21 w g (o + k * n) x P := by subst hn; exact h
/-- A whole statement goes into a block that was just made. -/
theorem st_store (x : St) (P : Pl) (z : Array Value) (hz : z.size = 21) (w : World) : (storeCells ⟨w.heap.size, 0, none⟩ (cs x P).toList 0).run Tryz.prog (w.alloc (.cells z 39)) = .ok () (w.alloc (.cells (cs x P) 39)) :=
  run_storeCells_new w _ _ _ (by rw [st_info]; rfl) hz (cs_one x P)
theorem st_storeVar (x : St) (P : Pl) (z : Array Value) (hz : z.size = 21) (w : World) : (storeVar 39 ⟨w.heap.size, 0, none⟩ (.agg (cs x P))).run Tryz.prog (w.alloc (.cells z 39)) = .ok () (w.alloc (.cells (cs x P) 39)) :=
  run_storeVar_new w _ _ _ (by rw [st_info]; rfl) hz (cs_one x P)
theorem st_storeAt (x : St) (P : Pl) (z : Array Value) (hz : z.size = 21) (w : World) : (Instr.storeAt 39 (.pointer (some ⟨w.heap.size, 0, none⟩)) (.agg (cs x P))).run Tryz.prog (w.alloc (.cells z 39)) = .ok () (w.alloc (.cells (cs x P) 39)) :=
  run_storeAt_new w _ _ _ (by rw [st_info]; rfl) hz (cs_one x P)
/-- A statement in a block of its own. -/
def box21 (w : World) (g : Nat) (x : St) (P : Pl) : Prop := w.heap[g]? = some (.cells (cs x P) 39 (0, 0))
theorem box21.cell {w : World} {g : Nat} {x : St} {P : Pl} (h : box21 w g x P) : cell21 w g 0 x P := fun r v hv => by
  rw [Nat.zero_add, cell_of_row w g r _ _ _ h]; exact hv
theorem box21.c0 {w : World} {g : Nat} {x : St} {P : Pl} (h : box21 w g x P) : w.cell? ⟨g, 0, none⟩ = some (.int .i64 x.o) := cell_of_row w g 0 _ _ _ h
theorem box21.c1 {w : World} {g : Nat} {x : St} {P : Pl} (h : box21 w g x P) : w.cell? ⟨g, 1, none⟩ = some (.string x.nm) := cell_of_row w g 1 _ _ _ h
theorem box21.c2 {w : World} {g : Nat} {x : St} {P : Pl} (h : box21 w g x P) : w.cell? ⟨g, 2, none⟩ = some (.string x.f) := cell_of_row w g 2 _ _ _ h
theorem box21.c3 {w : World} {g : Nat} {x : St} {P : Pl} (h : box21 w g x P) : w.cell? ⟨g, 3, none⟩ = some (.int .i64 x.e.o) := cell_of_row w g 3 _ _ _ h
theorem box21.c4 {w : World} {g : Nat} {x : St} {P : Pl} (h : box21 w g x P) : w.cell? ⟨g, 4, none⟩ = some (.string x.e.s) := cell_of_row w g 4 _ _ _ h
theorem box21.c5 {w : World} {g : Nat} {x : St} {P : Pl} (h : box21 w g x P) : w.cell? ⟨g, 5, none⟩ = some (.int .i64 x.e.n) := cell_of_row w g 5 _ _ _ h
theorem box21.c6 {w : World} {g : Nat} {x : St} {P : Pl} (h : box21 w g x P) : w.cell? ⟨g, 6, none⟩ = some (.slice P.ep P.em P.ec) := cell_of_row w g 6 _ _ _ h
theorem box21.c7 {w : World} {g : Nat} {x : St} {P : Pl} (h : box21 w g x P) : w.cell? ⟨g, 7, none⟩ = some (.int .i64 x.g.o) := cell_of_row w g 7 _ _ _ h
theorem box21.c8 {w : World} {g : Nat} {x : St} {P : Pl} (h : box21 w g x P) : w.cell? ⟨g, 8, none⟩ = some (.string x.g.s) := cell_of_row w g 8 _ _ _ h
theorem box21.c9 {w : World} {g : Nat} {x : St} {P : Pl} (h : box21 w g x P) : w.cell? ⟨g, 9, none⟩ = some (.int .i64 x.g.n) := cell_of_row w g 9 _ _ _ h
theorem box21.c10 {w : World} {g : Nat} {x : St} {P : Pl} (h : box21 w g x P) : w.cell? ⟨g, 10, none⟩ = some (.slice P.gp P.gm P.gc) := cell_of_row w g 10 _ _ _ h
theorem box21.c11 {w : World} {g : Nat} {x : St} {P : Pl} (h : box21 w g x P) : w.cell? ⟨g, 11, none⟩ = some (.slice P.ap P.am P.ac) := cell_of_row w g 11 _ _ _ h
theorem box21.c12 {w : World} {g : Nat} {x : St} {P : Pl} (h : box21 w g x P) : w.cell? ⟨g, 12, none⟩ = some (.int .i64 x.di.op) := cell_of_row w g 12 _ _ _ h
theorem box21.c13 {w : World} {g : Nat} {x : St} {P : Pl} (h : box21 w g x P) : w.cell? ⟨g, 13, none⟩ = some (.int .i64 x.di.a) := cell_of_row w g 13 _ _ _ h
theorem box21.c14 {w : World} {g : Nat} {x : St} {P : Pl} (h : box21 w g x P) : w.cell? ⟨g, 14, none⟩ = some (.int .i64 x.di.b) := cell_of_row w g 14 _ _ _ h
theorem box21.c15 {w : World} {g : Nat} {x : St} {P : Pl} (h : box21 w g x P) : w.cell? ⟨g, 15, none⟩ = some (.int .i64 x.di.n) := cell_of_row w g 15 _ _ _ h
theorem box21.c16 {w : World} {g : Nat} {x : St} {P : Pl} (h : box21 w g x P) : w.cell? ⟨g, 16, none⟩ = some (.slice P.vp P.vm P.vc) := cell_of_row w g 16 _ _ _ h
theorem box21.c17 {w : World} {g : Nat} {x : St} {P : Pl} (h : box21 w g x P) : w.cell? ⟨g, 17, none⟩ = some (.slice P.wp P.wm P.wc) := cell_of_row w g 17 _ _ _ h
theorem box21.c18 {w : World} {g : Nat} {x : St} {P : Pl} (h : box21 w g x P) : w.cell? ⟨g, 18, none⟩ = some (.bool x.fl) := cell_of_row w g 18 _ _ _ h
theorem box21.c19 {w : World} {g : Nat} {x : St} {P : Pl} (h : box21 w g x P) : w.cell? ⟨g, 19, none⟩ = some (.slice P.bp P.bm P.bc) := cell_of_row w g 19 _ _ _ h
theorem box21.c20 {w : World} {g : Nat} {x : St} {P : Pl} (h : box21 w g x P) : w.cell? ⟨g, 20, none⟩ = some (.slice P.lp P.lm P.lc) := cell_of_row w g 20 _ _ _ h
theorem box_new21 {w : World} {x : St} {P : Pl} : box21 (w.alloc (.cells (cs x P) 39)) w.heap.size x P := World.alloc_heap_new w _
theorem box21.lt {w : World} {g : Nat} {x : St} {P : Pl} (h : box21 w g x P) : g < w.heap.size := (Array.getElem?_eq_some_iff.1 h).1
theorem box21.keep {w w2 : World} {g : Nat} {x : St} {P : Pl} (hb : w2.heap[g]? = w.heap[g]?) (h : box21 w g x P) : box21 w2 g x P := hb.trans h
theorem box21.on {w w2 : World} {g : Nat} {x : St} {P : Pl} (hb : Below w.heap.size w w2) (h : box21 w g x P) : box21 w2 g x P := h.keep (hb.block g h.lt)
/-- A list of n elements lies at a slice in blocks of a set. -/
def Lie (G : Nat → Prop) (w : World) (n m : Nat) (p : Option Addr) (R : Nat → Nat → Prop) : Prop := n = m ∧ m ≤ 9223372036854775807 ∧ (m = 0 ∨ ∃ b o, p = some ⟨b, o, none⟩ ∧ G b ∧ b < w.heap.size ∧ R b o)
def Ints (G : Nat → Prop) (w : World) (l : List Int) (p : Option Addr) (m : Nat) : Prop := Lie G w l.length m p fun b o => Hid (∀ k, (h : k < l.length) → w.cell? ⟨b, o + k, none⟩ = some (.int .i64 l[k]))
/-- The expressions, arguments and numbers of a statement lie at their slices. -/
def Own0 (G : Nat → Prop) (w : World) (e g : Ex) (ar : List Ex) (di : Dt) (P : Pl) : Prop := Kin G w e P.ep P.em ∧ Kin G w g P.gp P.gm ∧ Kin G w (.mk 0 nE 0 ar) P.ap P.am ∧ Ints G w di.vs P.vp P.vm ∧ Ints G w di.ws P.wp P.wm
mutual
def Sin (G : Nat → Prop) (w : World) : St → Pl → Prop
  | .mk _ _ _ e g ar di _ bo el, P => Own0 G w e g ar di P ∧ Lie G w bo.length P.bm P.bp (fun b o => Hid (RowsS G w bo b o)) ∧ Lie G w el.length P.lm P.lp (fun b o => Hid (RowsS G w el b o))
def RowsS (G : Nat → Prop) (w : World) : List St → Nat → Nat → Prop
  | [], _, _ => True
  | x :: t, b, o => (∃ P, cell21 w b o x P ∧ Sin G w x P) ∧ RowsS G w t b (o + 21)
end
/-- A list of statements lies at a slice. -/
def Lin (G : Nat → Prop) (w : World) (l : List St) (p : Option Addr) (m : Nat) : Prop := Lie G w l.length m p fun b o => Hid (∀ k, (h : k < l.length) → ∃ P, cell21 w b (o + k * 21) l[k] P ∧ Sin G w l[k] P)
theorem rowsS_iff {G : Nat → Prop} {w : World} : ∀ {l : List St} {b o : Nat}, RowsS G w l b o ↔ ∀ k, (h : k < l.length) → ∃ P, cell21 w b (o + k * 21) l[k] P ∧ Sin G w l[k] P
  | [], b, o => ⟨fun _ k h => absurd h (Nat.not_lt_zero _), fun _ => by rw [RowsS]; trivial⟩
  | x :: t, b, o => by
    rw [RowsS]
    constructor
    · rintro ⟨h1, h2⟩ k hk
      match k, hk with
      | 0, _ => rw [show o + 0 * 21 = o by omega]; exact h1
      | k + 1, hk =>
        have := rowsS_iff.1 h2 k (by simpa using hk)
        rw [show o + 21 + k * 21 = o + (k + 1) * 21 by omega] at this
        exact this
    · intro h
      refine ⟨by have := h 0 (by simp); rw [show o + 0 * 21 = o by omega] at this; exact this, rowsS_iff.2 fun k hk => ?_⟩
      have := h (k + 1) (by simpa using hk)
      rw [show o + (k + 1) * 21 = o + 21 + k * 21 by omega] at this
      exact this
theorem Lie.imp {G H : Nat → Prop} {w w2 : World} {n m : Nat} {p : Option Addr} {R R' : Nat → Nat → Prop} (hs : w.heap.size ≤ w2.heap.size) (hk : ∀ b, G b → b < w.heap.size → H b ∧ w2.heap[b]? = w.heap[b]?) (hR : ∀ b o, G b → b < w.heap.size → R b o → R' b o) (h : Lie G w n m p R) : Lie H w2 n m p R' := by
  obtain ⟨h1, h2, h3 | ⟨b, o, rfl, hg, hb, h4⟩⟩ := h
  · exact ⟨h1, h2, .inl h3⟩
  · exact ⟨h1, h2, .inr ⟨b, o, rfl, (hk b hg hb).1, by omega, hR b o hg hb h4⟩⟩
theorem sin_iff {G : Nat → Prop} {w : World} {x : St} {P : Pl} : Sin G w x P ↔ Own0 G w x.e x.g x.ar x.di P ∧ Lin G w x.bo P.bp P.bm ∧ Lin G w x.el P.lp P.lm := by
  obtain ⟨o, nm, f, e, g, ar, di, fl, bo, el⟩ := x
  rw [Sin]
  have key : ∀ (l : List St) (p : Option Addr) (m : Nat), Lie G w l.length m p (fun b o => Hid (RowsS G w l b o)) ↔ Lin G w l p m := fun l p m =>
    ⟨Lie.imp (Nat.le_refl _) (fun b hg _ => ⟨hg, rfl⟩) (fun b o _ _ h => Lib.hid (rowsS_iff.1 h.out)), Lie.imp (Nat.le_refl _) (fun b hg _ => ⟨hg, rfl⟩) (fun b o _ _ h => Lib.hid (rowsS_iff.2 h.out))⟩
  rw [key, key]
  rfl
theorem Ints.map {G H : Nat → Prop} {w w2 : World} (hs : w.heap.size ≤ w2.heap.size) (hk : ∀ b, G b → b < w.heap.size → H b ∧ w2.heap[b]? = w.heap[b]?) {l : List Int} {p : Option Addr} {m : Nat} (h : Ints G w l p m) : Ints H w2 l p m :=
  Lie.imp hs hk (fun b o hg hb h => Lib.hid fun k hl => (World.cell?_of_block (w := w) (a := ⟨b, o + k, none⟩) (hk b hg hb).2).trans (h.out k hl)) h
theorem Own0.map {G H : Nat → Prop} {w w2 : World} (hs : w.heap.size ≤ w2.heap.size) (hk : ∀ b, G b → b < w.heap.size → H b ∧ w2.heap[b]? = w.heap[b]?) {e g : Ex} {ar : List Ex} {di : Dt} {P : Pl} (h : Own0 G w e g ar di P) : Own0 H w2 e g ar di P :=
  ⟨Kin.map hs hk e h.1, Kin.map hs hk g h.2.1, Kin.map hs hk _ h.2.2.1, h.2.2.2.1.map hs hk, h.2.2.2.2.map hs hk⟩
theorem Lin.map_of {G H : Nat → Prop} {w w2 : World} (hs : w.heap.size ≤ w2.heap.size) (hk : ∀ b, G b → b < w.heap.size → H b ∧ w2.heap[b]? = w.heap[b]?) {l : List St} (ih : ∀ x ∈ l, ∀ {P : Pl}, Sin G w x P → Sin H w2 x P) {p : Option Addr} {m : Nat} (h : Lin G w l p m) : Lin H w2 l p m :=
  Lie.imp hs hk (fun b o hg hb h => Lib.hid fun k hl => let ⟨P, h1, h2⟩ := h.out k hl; ⟨P, h1.keep (hk b hg hb).2, ih _ (List.getElem_mem hl) h2⟩) h
theorem Sin.map {G H : Nat → Prop} {w w2 : World} (hs : w.heap.size ≤ w2.heap.size) (hk : ∀ b, G b → b < w.heap.size → H b ∧ w2.heap[b]? = w.heap[b]?) (x : St) : ∀ {P : Pl}, Sin G w x P → Sin H w2 x P := by
  induction x using St.ind with
  | h x h1 h2 =>
    intro P h
    rw [sin_iff] at h ⊢
    exact ⟨h.1.map hs hk, Lin.map_of hs hk h1 h.2.1, Lin.map_of hs hk h2 h.2.2⟩
theorem Lin.map {G H : Nat → Prop} {w w2 : World} (hs : w.heap.size ≤ w2.heap.size) (hk : ∀ b, G b → b < w.heap.size → H b ∧ w2.heap[b]? = w.heap[b]?) {l : List St} {p : Option Addr} {m : Nat} (h : Lin G w l p m) : Lin H w2 l p m := Lin.map_of hs hk (fun x _ => Sin.map hs hk x) h
theorem Lin.mono {G H : Nat → Prop} {w : World} {l : List St} {p : Option Addr} {m : Nat} (hk : ∀ b, G b → b < w.heap.size → H b) (h : Lin G w l p m) : Lin H w l p m := h.map (Nat.le_refl _) fun b g hb => ⟨hk b g hb, rfl⟩
theorem Sin.mono {G H : Nat → Prop} {w : World} {x : St} {P : Pl} (hk : ∀ b, G b → b < w.heap.size → H b) (h : Sin G w x P) : Sin H w x P := Sin.map (Nat.le_refl _) (fun b g hb => ⟨hk b g hb, rfl⟩) x h
abbrev LIn (w : World) (l : List St) (p : Option Addr) (m : Nat) : Prop := Lin (Lo w.heap.size) w l p m
abbrev SIn (w : World) (x : St) (P : Pl) : Prop := Sin (Lo w.heap.size) w x P
theorem Lin.below {B : Nat} {w w2 : World} {l : List St} {p : Option Addr} {m : Nat} (hb : Below B w w2) (h : Lin (Lo B) w l p m) : Lin (Lo B) w2 l p m := h.map hb.size fun b g _ => ⟨g, hb.block b g⟩
theorem Sin.below {B : Nat} {w w2 : World} {x : St} {P : Pl} (hb : Below B w w2) (h : Sin (Lo B) w x P) : Sin (Lo B) w2 x P := Sin.map hb.size (fun b g _ => ⟨g, hb.block b g⟩) x h
theorem Lin.all {G : Nat → Prop} {w : World} {l : List St} {p : Option Addr} {m : Nat} (h : Lin G w l p m) : LIn w l p m := h.mono fun b _ hb => hb
theorem Sin.all {G : Nat → Prop} {w : World} {x : St} {P : Pl} (h : Sin G w x P) : SIn w x P := h.mono fun b _ hb => hb
theorem Lin.on {w w2 : World} {l : List St} {p : Option Addr} {m : Nat} (hb : Below w.heap.size w w2) (h : LIn w l p m) : LIn w2 l p m := (h.below hb).all
theorem Sin.on {w w2 : World} {x : St} {P : Pl} (hb : Below w.heap.size w w2) (h : SIn w x P) : SIn w2 x P := (h.below hb).all
theorem Lin.len {G : Nat → Prop} {w : World} {l : List St} {p : Option Addr} {m : Nat} (h : Lin G w l p m) : l.length = m ∧ m ≤ 9223372036854775807 := ⟨h.1, h.2.1⟩
theorem Lin.nil {G : Nat → Prop} {w : World} {p : Option Addr} : Lin G w [] p 0 := ⟨rfl, by omega, .inl rfl⟩
theorem Lin.rows {G : Nat → Prop} {w : World} {l : List St} {p : Option Addr} {m : Nat} (h : Lin G w l p m) (hm : 0 < m) : ∃ b o, p = some ⟨b, o, none⟩ ∧ G b ∧ b < w.heap.size ∧ Hid (∀ k, (h : k < l.length) → ∃ P, cell21 w b (o + k * 21) l[k] P ∧ Sin G w l[k] P) := by
  rcases h.2.2 with h | h
  · omega
  · exact h
theorem Sin.bo {G : Nat → Prop} {w : World} {x : St} {P : Pl} (h : Sin G w x P) : Lin G w x.bo P.bp P.bm := (sin_iff.1 h).2.1
theorem Sin.el {G : Nat → Prop} {w : World} {x : St} {P : Pl} (h : Sin G w x P) : Lin G w x.el P.lp P.lm := (sin_iff.1 h).2.2
theorem Sin.own0 {G : Nat → Prop} {w : World} {x : St} {P : Pl} (h : Sin G w x P) : Own0 G w x.e x.g x.ar x.di P := (sin_iff.1 h).1
theorem Sin.e {G : Nat → Prop} {w : World} {x : St} {P : Pl} (h : Sin G w x P) : In w x.e P.ep P.em := h.own0.1.all
theorem Sin.g {G : Nat → Prop} {w : World} {x : St} {P : Pl} (h : Sin G w x P) : In w x.g P.gp P.gm := h.own0.2.1.all
theorem Sin.ar {G : Nat → Prop} {w : World} {x : St} {P : Pl} (h : Sin G w x P) : In w (.mk 0 nE 0 x.ar) P.ap P.am := h.own0.2.2.1.all
theorem Ints.row {G : Nat → Prop} {w : World} {l : List Int} {p : Option Addr} {m : Nat} (h : Ints G w l p m) : Di.Row w p l.length (fun i => l.getD i 0) := by
  obtain ⟨h1, h2, h3 | ⟨b, o, rfl, hg, hb, h4⟩⟩ := h
  · exact ⟨by omega, .inl (by omega)⟩
  · refine ⟨by omega, .inr ⟨b, o, rfl, hb, Lib.hid fun i hi => ?_⟩⟩
    rw [h4.out i hi]
    simp [List.getD, List.getElem?_eq_getElem hi]
theorem Sin.vs {G : Nat → Prop} {w : World} {x : St} {P : Pl} (h : Sin G w x P) : Di.Row w P.vp x.di.vs.length (fun i => x.di.vs.getD i 0) := h.own0.2.2.2.1.row
theorem Sin.ws {G : Nat → Prop} {w : World} {x : St} {P : Pl} (h : Sin G w x P) : Di.Row w P.wp x.di.ws.length (fun i => x.di.ws.getD i 0) := h.own0.2.2.2.2.row
theorem Sin.vlen {G : Nat → Prop} {w : World} {x : St} {P : Pl} (h : Sin G w x P) : x.di.vs.length = P.vm := h.own0.2.2.2.1.1
theorem Sin.wlen {G : Nat → Prop} {w : World} {x : St} {P : Pl} (h : Sin G w x P) : x.di.ws.length = P.wm := h.own0.2.2.2.2.1
/-- Names that the arguments can hold, of the expressions and of the statements; expressions within a bound. -/
def SzS (x : St) : Prop := x.nm.size ≤ 140737488355328 ∧ x.f.size ≤ 140737488355328 ∧ (Sz x.e ∧ Ex.cnt x.e ≤ 1000000) ∧ (Sz x.g ∧ Ex.cnt x.g ≤ 1000000) ∧ ∀ y ∈ x.ar, Sz y ∧ Ex.cnt y ≤ 1000000
def SzL (l : List St) : Prop := ∀ x ∈ ordL l, SzS x
theorem SzL.mem {l : List St} (h : SzL l) {x : St} (hx : x ∈ l) : SzS x := h x (ordL_self hx)
theorem SzL.bo {l : List St} (h : SzL l) {x : St} (hx : x ∈ l) : SzL x.bo := fun y hy => h y (ordL_mem hx (ord_bo hy))
theorem SzL.el {l : List St} (h : SzL l) {x : St} (hx : x ∈ l) : SzL x.el := fun y hy => h y (ordL_mem hx (ord_el hy))
theorem SzL.app {a b : List St} (ha : SzL a) (hb : SzL b) : SzL (a ++ b) := fun x hx => by
  rw [ordL_app] at hx
  rcases List.mem_append.1 hx with h | h
  · exact ha x h
  · exact hb x h
end Go.Proofs.YtonlmnlpofgccaaGreat.Sm
