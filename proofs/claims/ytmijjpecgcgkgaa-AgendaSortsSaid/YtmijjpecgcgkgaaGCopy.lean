/-
  The contracts of slices.Clone on ints and of copied: an event whose arguments lie in a block of their own.
-/
import Derived.Test.YtmijjpecgcgkgaaGList
import Derived.Maps.AppendAt
import Derived.Laws.OwnMore
import Derived.OwnWalk
import Derived.Lib.AppendZeros
import Derived.Lib.SliceRun
namespace Go.Proofs.Ytmijjpecgcgkgaa.Ag
open Go.RowKit
set_option maxHeartbeats 2000000
/-- A row of ints from a block on. -/
def RowF (lo : Nat) (w : World) (p : Option Addr) (n : Nat) (V : Nat → Int) : Prop :=
  n ≤ 9223372036854775807 ∧ (n = 0 ∨ ∃ b o, p = some ⟨b, o, none⟩ ∧ lo ≤ b ∧ b < w.heap.size ∧ Hid (∀ i, i < n → w.cell? ⟨b, o + i, none⟩ = some (.int .i64 (V i))))
theorem RowF.row {lo : Nat} {w : World} {p : Option Addr} {n : Nat} {V : Nat → Int} (h : RowF lo w p n V) : Row w p n V := by
  obtain ⟨hl, h | ⟨b, o, rfl, -, h1, h2⟩⟩ := h
  · exact ⟨hl, .inl h⟩
  · exact ⟨hl, .inr ⟨b, o, rfl, h1, h2⟩⟩
/-- A block known whole. -/
def Blk (w : World) (g : Nat) (t : TypeId) (cs : Array Value) : Prop := w.heap[g]? = some (.cells cs t (0, 0))
theorem Blk.frozen {w : World} {g : Nat} {t : TypeId} {cs : Array Value} (h : Blk w g t cs) (o : Nat) : w.frozen? ⟨g, o, none⟩ = false := frozen_of_row w g o cs t h
theorem Blk.new {w : World} {t : TypeId} {cs : Array Value} : Blk (w.alloc (.cells cs t)) w.heap.size t cs := heap_alloc_new w _
theorem Blk.new2 {w : World} {t : TypeId} {cs : Array Value} {o : Obj} : Blk ((w.alloc o).alloc (.cells cs t)) (w.heap.size + 1) t cs := by
  have h := Blk.new (w := w.alloc o) (t := t) (cs := cs)
  rwa [show (w.alloc o).heap.size = w.heap.size + 1 from by simp] at h
theorem Blk.lt {w : World} {g : Nat} {t : TypeId} {cs : Array Value} (h : Blk w g t cs) : g < w.heap.size := (Array.getElem?_eq_some_iff.1 h).1
theorem Blk.alloc {w : World} {g : Nat} {t : TypeId} {cs : Array Value} {o : Obj} (h : Blk w g t cs) : Blk (w.alloc o) g t cs := (Below.heap_alloc w o g h.lt).trans h
theorem cell_far {w : World} {g i b o : Nat} {u : Value} (h : b ≠ g) : (w.setCell ⟨g, i, none⟩ u).cell? ⟨b, o, none⟩ = w.cell? ⟨b, o, none⟩ := World.cell?_setCell_other w ⟨g, i, none⟩ ⟨b, o, none⟩ u (fun e => h (by injection e with e; exact e.symm))
def zeroEv : Ev := ⟨0, 0, 0, 0, 0, 0, 0, 0, none, 0, 0, fun _ => 0⟩
theorem append_none {P : Program} {w : World} (base : Nat) (t ty e : TypeId) (i : TypeInfo) (size : Nat) (ht : P.underlying t = some (.slice e)) (hi : P.info? e = some i)
    (v : Value) (n : Nat) (xs : List Value) (hown : w.ownsRow base e size v n xs) (c : Nat) : (Builtin.append_ #[t, t] ty #[v, .slice none 0 c]).run P w = .ok v w := by
  rcases hown.2 with ⟨rfl, rfl⟩ | ⟨g, cap, cur, rfl, -, -, hnc, -⟩
  · simp [Builtin.append_, run_underlying ht, sizeOf, typeInfo, hi, Builtin.lenOf, Builtin.firstCells]
  · simp [Builtin.append_, run_underlying ht, sizeOf, typeInfo, hi, Builtin.lenOf, Builtin.firstCells, hnc, storeCells]
theorem parts_of {o : Option TypeInfo} {z : Value} {s b : Nat} (h : o.map (fun i => (i.zero, i.size, i.bytes)) = some (some z, s, b)) : ∃ i, o = some i ∧ i.zero = some z ∧ i.size = s ∧ i.bytes = b := by
  cases o with
  | none => cases h
  | some i => simp only [Option.map_some, Option.some.injEq, Prod.mk.injEq] at h; exact ⟨i, rfl, h.1, h.2.1, h.2.2⟩
theorem int_info : (Try.prog.info? 3).map (fun i => (i.zero, i.size, i.bytes)) = some (some (.int .i64 0), 1, 8) := by kernel_rfl
def iv (V : Nat → Int) (n : Nat) : List Value := (List.range n).map fun i => .int .i64 (V i)
theorem iv_get {V : Nat → Int} {n j : Nat} (h : j < n) : (iv V n)[j]? = some (.int .i64 (V j)) := by simp [iv, h]
theorem add_off (b o j : Nat) : (⟨b, o, none⟩ : Addr).add j = ⟨b, o + j, none⟩ := by unfold Addr.add; split <;> simp_all
theorem row_of_own {lo : Nat} {w : World} {v : Value} {n : Nat} {V : Nat → Int} (h : w.ownsRow lo 3 1 v n (iv V n)) (hn : n ≤ 9223372036854775807) : ∃ q d, v = .slice q n d ∧ RowF lo w q n V := by
  rcases h.2 with ⟨rfl, rfl⟩ | ⟨g, cap, cur, rfl, hb, hg, -⟩
  · exact ⟨none, 0, rfl, hn, .inl rfl⟩
  · refine ⟨_, cap, rfl, hn, .inr ⟨g, 0, rfl, hb, (Array.getElem?_eq_some_iff.1 hg).1, Lib.hid fun i hi => ?_⟩⟩
    rw [Nat.zero_add, h.cellAt i (by omega)]
    exact iv_get hi
theorem ints_nil (w : World) (a : Option Addr) (n c : Nat) : (binOp .eql 23 (.slice a n c) (.slice none 0 0)).run Try.prog w = .ok (.bool a.isNone) w := Lib.run_eql_slice_nil w _ _ a n c 0 0 Try.underlying23
/-- A fresh copy of a row. -/
def CloneOf (w : World) (n : Nat) (V : Nat → Int) (e : Ending) (w' : World) : Prop := ∃ q d, e = .returned (.slice q n d) ∧ Below w.heap.size w w' ∧ RowF w.heap.size w' q n V
theorem CloneOf.mk {w w' : World} {n : Nat} {V : Nat → Int} {e : Ending} {q : Option Addr} {d : Nat} (h : e = .returned (.slice q n d)) (hb : Below w.heap.size w w') (hr : RowF w.heap.size w' q n V) : CloneOf w n V e w' := ⟨q, d, h, hb, hr⟩
theorem clone_any (p : Option Addr) (n c : Nat) (V : Nat → Int) (w : World) (hR : Row w p n V) (hn : n ≤ 6) :
    Calls Try.prog 46 #[.slice p n c] w (CloneOf w n V) := by
  obtain ⟨hl, hR⟩ := hR
  rcases p with - | ⟨b, o, sp⟩
  · have hz : n = 0 := by
      rcases hR with h | ⟨b, o, h, -⟩
      · exact h
      · cases h
    subst hz
    have q := ints_nil
    go_enter Try.func46, Try.ntmps46
    go_wp2_with fail
    go_ret
    exact CloneOf.mk (q := none) (d := 0) rfl (Below.refl _ _) ⟨by omega, .inl rfl⟩
  · obtain ⟨i0, hi0, hz0, hz1, hz2⟩ := parts_of int_info
    have hnews : ∀ j u, (iv V n)[j]? = some u → (w.alloc (.cells #[] 3)).cell? ((⟨b, o, sp⟩ : Addr).add j) = some u := by
      intro j u hu
      have hj : j < n := by
        have := (List.getElem?_eq_some_iff.1 hu).1
        simpa [iv] using this
      rcases hR with h | ⟨b', o', h, hb, hc⟩
      · omega
      · cases h
        rw [iv_get hj] at hu
        cases hu
        rw [add_off]
        exact (World.cell?_alloc_lt w _ ⟨b, o + j, none⟩ hb).trans (hc.out j hj)
    have hown := World.ownsRow_lit (w := w) (base := w.heap.size) (e := 3) (size := 1) #[] 0 (Nat.le_refl _) (by unfold maxLen; omega) rfl
    obtain ⟨v', w', hrun, h2, h3, -, h5⟩ := run_append_own_at (P := Try.prog) (w.alloc (.cells #[] 3)) w.heap.size 23 23 3 i0 _ 1 8 Try.underlying23 hi0 hz0 hz1 hz2 rfl (by omega) _ 0 _ hown ⟨b, o, sp⟩ n c (iv V n) (by simp [iv]) hnews
      (by intro u hu; simp only [iv, List.mem_map] at hu; obtain ⟨i, -, rfl⟩ := hu; rfl) (by unfold maxLen; omega) (by omega) (by simp)
    have HB : Below w.heap.size w w' := (bl_alloc (Below.refl _ _)).grown h3 (by simp) (by intro k hk; simp [Value.ownBlock] at hk; omega)
    obtain ⟨a, d, rfl, hq⟩ := row_of_own (n := n) (V := V) (by simpa using h2) hl
    have HQ := Lib.hid hq
    clear hnews hown h2 h3 h5 hR hq
    have q := ints_nil
    go_enter Try.func46, Try.ntmps46
    go_wp2_with (at_builtin; refine Lib.wpList_append_run _ rfl _ _ _ _ rfl _ _ rfl rfl _ _ hrun ?_)
    go_ret
    exact CloneOf.mk rfl HB HQ.out
/-- An event with the same numbers and a copy of the arguments. -/
def CopyOf (w : World) (x : Ev) (e : Ending) (w' : World) : Prop := ∃ y : Ev, e = .returned (.agg #[.int .i64 y.t, .int .i64 y.p, .int .i64 y.f, .int .i64 y.s, .int .i64 y.st, .int .i64 y.k, .int .i64 y.a, .int .i64 y.b, .slice y.ap y.al y.ac]) ∧ Eqv y x ∧ RowF w.heap.size w' y.ap y.al y.V ∧ Below w.heap.size w w'
theorem CopyOf.mk {w w' w1 : World} {x : Ev} {e : Ending} {lo : Nat} {q : Option Addr} {d : Nat} (h : e = .returned (.agg #[.int .i64 x.t, .int .i64 x.p, .int .i64 x.f, .int .i64 x.s, .int .i64 x.st, .int .i64 x.k, .int .i64 x.a, .int .i64 x.b, .slice q x.al d])) (hr : RowF lo w1 q x.al x.V) (hz : w.heap.size ≤ lo)
    (hsz : w1.heap.size = w'.heap.size) (hk : ∀ b o, lo ≤ b → w'.cell? ⟨b, o, none⟩ = w1.cell? ⟨b, o, none⟩) (hb : Below w.heap.size w w') : CopyOf w x e w' := by
  refine ⟨{ x with ap := q, ac := d }, h, Eqv.refl _, ?_, hb⟩
  obtain ⟨hl, hr | ⟨b, o, rfl, h0, h1, h2⟩⟩ := hr
  · exact ⟨hl, .inl hr⟩
  · exact ⟨hl, .inr ⟨b, o, rfl, by omega, by omega, Lib.hid fun i hi => (hk b (o + i) h0).trans (h2.out i hi)⟩⟩
theorem copied_any (x : Ev) (w : World) (hx : Row w x.ap x.al x.V) (hl : x.al ≤ 6) : Calls Try.prog 37 #[.agg #[.int .i64 x.t, .int .i64 x.p, .int .i64 x.f, .int .i64 x.s, .int .i64 x.st, .int .i64 x.k, .int .i64 x.a, .int .i64 x.b, .slice x.ap x.al x.ac]] w (CopyOf w x) := by
  go_enter Try.func37, Try.ntmps37
  go_wp2_with fail
  refine (clone_any x.ap x.al x.ac x.V _ hx.alloc.alloc hl).mono ?_
  rintro e w1 ⟨q, d, rfl, hb1, hr1⟩
  have HR := Lib.hid hr1
  clear hr1
  have A0 : nine ((w.alloc (.cells #[.int .i64 x.t, .int .i64 x.p, .int .i64 x.f, .int .i64 x.s, .int .i64 x.st, .int .i64 x.k, .int .i64 x.a, .int .i64 x.b, .slice x.ap x.al x.ac] 25)).alloc (.cells #[.int .i64 0, .int .i64 0, .int .i64 0, .int .i64 0, .int .i64 0, .int .i64 0, .int .i64 0, .int .i64 0, .slice none 0 0] 25)) w.heap.size x := nine.new.alloc
  have A1 := nine.on hb1 A0
  have f0 : ∀ o, w1.frozen? ⟨w.heap.size, o, none⟩ = false := fun o => (hb1.frozen (p := ⟨w.heap.size, o, none⟩) (by simp; omega)).trans (Blk.frozen (Blk.alloc Blk.new) o)
  have f1 : ∀ o, w1.frozen? ⟨w.heap.size + 1, o, none⟩ = false := fun o => (hb1.frozen (p := ⟨w.heap.size + 1, o, none⟩) (by simp)).trans (Blk.frozen Blk.new2 o)
  have C1 : nine w1 (w.heap.size + 1) zeroEv := nine.on hb1 (by have := nine.new (w := w.alloc (.cells #[.int .i64 x.t, .int .i64 x.p, .int .i64 x.f, .int .i64 x.s, .int .i64 x.st, .int .i64 x.k, .int .i64 x.a, .int .i64 x.b, .slice x.ap x.al x.ac] 25)) (x := zeroEv); rwa [show (w.alloc (.cells #[.int .i64 x.t, .int .i64 x.p, .int .i64 x.f, .int .i64 x.s, .int .i64 x.st, .int .i64 x.k, .int .i64 x.a, .int .i64 x.b, .slice x.ap x.al x.ac] 25)).heap.size = w.heap.size + 1 from by simp] at this)
  have hz : w.heap.size + 1 < w1.heap.size := C1.2.2.2.2.2.2.2.2.2
  obtain ⟨a0, a1, a2, a3, a4, a5, a6, a7, a8, a9⟩ := A1
  have A1 : nine _ _ _ := ⟨a0, a1, a2, a3, a4, a5, a6, a7, a8, a9⟩
  obtain ⟨c0, c1, c2, c3, c4, c5, c6, c7, c8, c9⟩ := C1
  have C1 : nine _ _ _ := ⟨c0, c1, c2, c3, c4, c5, c6, c7, c8, c9⟩
  clear A0
  go_wp2_with fail
  exact bodyPost_ret (v := .agg #[.int .i64 x.t, .int .i64 x.p, .int .i64 x.f, .int .i64 x.s, .int .i64 x.st, .int .i64 x.k, .int .i64 x.a, .int .i64 x.b, .slice q x.al d]) (by simp [results, Try.results37, go_sem, *]) rfl (CopyOf.mk rfl HR.out (by simp; omega) (by simp [World.setCell]) (by
    intro b o hbo
    have hbo2 : w.heap.size + 2 ≤ b := by simpa using hbo
    have n0 : b ≠ w.heap.size := by omega
    have n1 : b ≠ w.heap.size + 1 := by omega
    rw [cell_far n1, cell_far n1, cell_far n1, cell_far n1, cell_far n1, cell_far n1, cell_far n1, cell_far n1, cell_far n1, cell_far n0]) (by (repeat (first | (with_reducible exact Below.refl _ _) | (with_reducible assumption) | (with_reducible apply bl_alloc) | (with_reducible apply bl_drewN) | (with_reducible apply bl_drew) | (with_reducible refine bl_set ?_ (by first | (simp; done) | (simp; omega)) _) | (with_reducible refine bl_call ?_ (by assumption))))))
end Go.Proofs.Ytmijjpecgcgkgaa.Ag
