/-
  How a slice of fractions among the arguments is read.
-/
import Derived.Test.YtnfddeoddjmpkabDoorFrame
import Derived.Test.YtnfddeoddjmpkabDoorSumsB
import Derived.Deep.Slices
import Derived.Deep.SlicePairs
import Derived.ChangeSame
namespace Go.Proofs.YtnfddeoddjmpkabDoor
open Go.ChangeShapes Go.WideShapes Go.ChangeAt Go.RowKit Go.Joins Go.Deep
set_option maxHeartbeats 1000000
set_option maxRecDepth 100000
section
variable {H : Type} {enc : TypeId × Value → H}
theorem fslots : ∃ f0 f1 : Field, Tryd.prog.underlying 24 = some (.struct #[f0, f1]) ∧ f0.offset = 0 ∧ f1.offset = 1 ∧ Tryd.prog.cellsOf f0.type = 1 ∧ Tryd.prog.cellsOf f1.type = 1 ∧ Tryd.prog.cellsOf 24 = 2 ∧ f0.type = 3 ∧ f1.type = 3 :=
  ⟨_, _, Tryd.underlying24, rfl, rfl, by kernel_rfl, by kernel_rfl, by kernel_rfl, rfl, rfl⟩
theorem slice_in {w : World} {b0 : Nat} {a : Addr} {len cap : Nat} (h : Value.okWide Tryd.prog w .any b0 22 (.slice (some a) len cap)) : a.spot = none ∧ a.block < w.heap.size := by
  simp only [Value.okWide, Tryd.underlying22, Cell.okWide, Cell.ok] at h
  obtain ⟨-, -, -, hs, row, cells, hsh, -⟩ := h
  refine ⟨hs, ?_⟩
  rcases Nat.lt_or_ge a.block w.heap.size with g | g
  · exact g
  · unfold World.shape? at hsh
    rw [Array.getElem?_eq_none g] at hsh
    cases hsh
theorem open_fracs {w : World} {b0 : Nat} {v : Value} {d : DataW H} {ps : List MemPlace} (hv : Value.okWide Tryd.prog w .any b0 22 v) (h : DataW.Trod enc Tryd.prog w 0 (fun _ => true) true 22 v d ps) :
    ∃ (p : Option Addr) (n c : Nat) (N D : Nat → Int), v = .slice p n c ∧ (p = none → c = 0) ∧ n ≤ 9223372036854775807 ∧ Src w p n N D ∧ ∀ i, i < n → -9223372036854775808 ≤ N i ∧ N i ≤ 9223372036854775807 ∧ -9223372036854775808 ≤ D i ∧ D i ≤ 9223372036854775807 := by
  obtain ⟨a0, l0, k0, rfl⟩ := okWide_slice Tryd.underlying22 hv
  obtain ⟨fuel, hf⟩ := h
  obtain ⟨f0, f1, he, o0, o1, c0, c1, ce, t0, t1⟩ := fslots
  rcases open_slice_pairs Tryd.underlying22 he ce o0 o1 c0 c1 hf with ⟨hcs, -⟩ | ⟨a, len, cap, m, n, V0, V1, D0, D1, P0, P1, hcs, -, hl, hm, hmm, -, hx⟩
  · have hv' : Value.slice a0 l0 k0 = .slice none 0 0 := by simpa [Value.cells] using hcs
    exact ⟨none, 0, 0, fun _ => 0, fun _ => 0, hv', fun _ => rfl, by omega, .inl ⟨rfl, rfl⟩, fun i hi => absurd hi (Nat.not_lt_zero i)⟩
  · have hv' : Value.slice a0 l0 k0 = .slice (some a) len cap := by simpa [Value.cells] using hcs
    rw [hv'] at hv
    obtain ⟨hsp, hlt⟩ := slice_in hv
    obtain ⟨b, off, spot⟩ := a
    obtain rfl : spot = none := hsp
    simp only [if_true] at hmm
    have key : ∀ i, i < len → w.cell? ⟨b, off + i * 2, none⟩ = some (.int .i64 (intOf (V0 i))) ∧ w.cell? ⟨b, off + i * 2 + 1, none⟩ = some (.int .i64 (intOf (V1 i))) ∧
        -9223372036854775808 ≤ intOf (V0 i) ∧ intOf (V0 i) ≤ 9223372036854775807 ∧ -9223372036854775808 ≤ intOf (V1 i) ∧ intOf (V1 i) ≤ 9223372036854775807 := by
      intro i hi
      obtain ⟨g0, g1, r0, r1⟩ := hx i (by omega)
      rw [t0] at r0
      rw [t1] at r1
      obtain ⟨x, q0, -, wx⟩ := DataW.trod_int Tryd.underlying3 r0
      obtain ⟨y, q1, -, wy⟩ := DataW.trod_int Tryd.underlying3 r1
      simp only [List.cons.injEq, and_true] at q0 q1
      rw [add_plain, q0] at g0
      rw [add_plain, q1, ← Nat.add_assoc] at g1
      have b0 := bounds_i64 wx
      have b1 := bounds_i64 wy
      rw [q0, q1]
      exact ⟨g0, g1, b0.1, b0.2, b1.1, b1.2⟩
    exact ⟨_, len, cap, fun i => intOf (V0 i), fun i => intOf (V1 i), hv', fun e => (by cases e), by unfold maxLen at hm; omega, .inr ⟨b, off, rfl, hlt, key⟩, fun i hi => (key i hi).2.2⟩
/-- An argument reads as before in a world in which nothing of the old has turned. -/
theorem laidOut : laidOutB Tryd.prog = true := by kernel_rfl
theorem arg_back {W W' : World} {v : Value} {d : DataW H} {ps : List MemPlace} {t : TypeId} (hr : Tryd.prog.readableRec t = true) (ht : t < Tryd.prog.types.size) (h : DataW.Trod enc Tryd.prog W 0 (fun _ => true) true t v d ps) (hb : Below W.heap.size W W') (hlt : ∀ y ∈ ps, y.block < W.heap.size) :
    DataW.Trod enc Tryd.prog W' 0 (fun k => decide (k < W.heap.size)) true t v d ps := Below.trod laidOut hr ht h hb hlt
end
end Go.Proofs.YtnfddeoddjmpkabDoor
