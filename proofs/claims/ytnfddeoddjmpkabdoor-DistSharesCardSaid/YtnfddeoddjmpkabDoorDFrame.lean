/-
  How a distribution among the arguments is read.
-/
import Derived.Test.YtnfddeoddjmpkabDoorFrame
import Derived.Test.YtnfddeoddjmpkabDoorDBase
namespace Go.Proofs.YtnfddeoddjmpkabDoor.Di
open Go.ChangeShapes Go.WideShapes Go.ChangeAt Go.RowKit Go.Joins Go.Deep
set_option maxHeartbeats 1000000
section
variable {H : Type} {enc : TypeId × Value → H}
theorem c_int : Tryd.prog.cellsOf 3 = 1 := by kernel_rfl
theorem block_lt {w : World} {b k : Nat} {v : Value} (h : w.cell? ⟨b, k, none⟩ = some v) : b < w.heap.size := by
  rcases Nat.lt_or_ge b w.heap.size with g | g
  · exact g
  · unfold World.cell? at h
    rw [Array.getElem?_eq_none g] at h
    cases h
/-- A slice of ints as the arguments hold it. -/
theorem row_of {w : World} {fuel : Nat} {v : Value} {y : DataW H × List MemPlace} (h : DataW.trod enc Tryd.prog w 0 (fun _ => true) true fuel 31 [v] = some y) :
    ∃ (p : Option Addr) (n c : Nat) (V : Nat → Int), v = .slice p n c ∧ Row w p n V := by
  rcases open_ints Tryd.underlying31 Tryd.underlying3 c_int h with ⟨hcs, -⟩ | ⟨a, len, cap, zs, hcs, -, hl, hm, hz, -, hcell, -⟩
  · simp only [List.cons.injEq, and_true] at hcs
    exact ⟨none, 0, 0, fun _ => 0, hcs, Nat.zero_le _, .inl rfl⟩
  · simp only [List.cons.injEq, and_true] at hcs
    simp only [if_true] at hz
    refine ⟨some a, len, cap, fun i => zs.getD i 0, hcs, by unfold maxLen at hm; omega, ?_⟩
    by_cases h0 : len = 0
    · exact .inl h0
    · obtain ⟨b, off, spot⟩ := a
      have hspot : spot = none := by simpa [Addr.add] using World.cell?_spot (hcell 0 (by omega))
      subst hspot
      have hc : ∀ j, j < len → w.cell? ⟨b, off + j, none⟩ = some (.int .i64 (zs.getD j 0)) := fun j hj => by rw [← add_plain]; exact hcell j (by omega)
      exact .inr ⟨b, off, rfl, block_lt (hc 0 (by omega)), Lib.hid hc⟩
theorem dist_is : ∃ f0 f1 f2 f3 f4 f5 : Field, Tryd.prog.underlying 33 = some (.struct #[f0, f1, f2, f3, f4, f5]) ∧ oneCellFields Tryd.prog #[f0, f1, f2, f3, f4, f5] = true ∧ Tryd.prog.cellsOf 33 = 6 ∧
    f0.type = 30 ∧ f1.type = 3 ∧ f2.type = 3 ∧ f3.type = 3 ∧ f4.type = 31 ∧ f5.type = 31 :=
  ⟨_, _, _, _, _, _, Tryd.underlying33, by kernel_rfl, by kernel_rfl, rfl, rfl, rfl, rfl, rfl, rfl⟩
theorem six_of {l : List Value} (h : l.length = 6) : ∃ c0 c1 c2 c3 c4 c5, l = [c0, c1, c2, c3, c4, c5] := by
  match l, h with
  | [c0, c1, c2, c3, c4, c5], _ => exact ⟨c0, c1, c2, c3, c4, c5, rfl⟩
set_option maxRecDepth 100000 in
theorem open_dist {w : World} {r : Reach} {b0 : Nat} {v : Value} {d : DataW H} {ps : List MemPlace} (hv : Value.okWide Tryd.prog w r b0 33 v) (h : DataW.Trod enc Tryd.prog w 0 (fun _ => true) true 33 v d ps) :
    ∃ (op a b n : Int) (p : Option Addr) (lv c : Nat) (q : Option Addr) (lw f : Nat) (V W : Nat → Int), v = .agg #[.int .i64 op, .int .i64 a, .int .i64 b, .int .i64 n, .slice p lv c, .slice q lw f] ∧ Row w p lv V ∧ Row w q lw W := by
  obtain ⟨f0, f1, f2, f3, f4, f5, hs, h1, hC, t0, t1, t2, t3, t4, t5⟩ := dist_is
  obtain ⟨cs, rfl, hsz⟩ := okWide_struct hs hv
  obtain ⟨l⟩ := cs
  obtain ⟨c0, c1, c2, c3, c4, c5, rfl⟩ := six_of (hsz.trans hC)
  obtain ⟨fuel, hf⟩ := h
  obtain ⟨ys, m, -, -, -, hlen, hg⟩ := DataW.trod_struct hs hf
  obtain ⟨o0, k0⟩ := hone_of h1 0 f0 rfl
  have e0 := hg 0 f0 rfl
  rw [o0, k0, t0] at e0
  obtain ⟨y0, g0⟩ : ∃ y, ys[0]? = some y := ⟨ys[0]'(by rw [hlen]; simp), List.getElem?_eq_getElem _⟩
  rw [g0] at e0
  have e0 : DataW.trod enc Tryd.prog w 0 (fun _ => true) true m 30 [c0] = some y0 := by simpa [Value.cells] using e0
  obtain ⟨o1, k1⟩ := hone_of h1 1 f1 rfl
  have e1 := hg 1 f1 rfl
  rw [o1, k1, t1] at e1
  obtain ⟨y1, g1⟩ : ∃ y, ys[1]? = some y := ⟨ys[1]'(by rw [hlen]; simp), List.getElem?_eq_getElem _⟩
  rw [g1] at e1
  have e1 : DataW.trod enc Tryd.prog w 0 (fun _ => true) true m 3 [c1] = some y1 := by simpa [Value.cells] using e1
  obtain ⟨o2, k2⟩ := hone_of h1 2 f2 rfl
  have e2 := hg 2 f2 rfl
  rw [o2, k2, t2] at e2
  obtain ⟨y2, g2⟩ : ∃ y, ys[2]? = some y := ⟨ys[2]'(by rw [hlen]; simp), List.getElem?_eq_getElem _⟩
  rw [g2] at e2
  have e2 : DataW.trod enc Tryd.prog w 0 (fun _ => true) true m 3 [c2] = some y2 := by simpa [Value.cells] using e2
  obtain ⟨o3, k3⟩ := hone_of h1 3 f3 rfl
  have e3 := hg 3 f3 rfl
  rw [o3, k3, t3] at e3
  obtain ⟨y3, g3⟩ : ∃ y, ys[3]? = some y := ⟨ys[3]'(by rw [hlen]; simp), List.getElem?_eq_getElem _⟩
  rw [g3] at e3
  have e3 : DataW.trod enc Tryd.prog w 0 (fun _ => true) true m 3 [c3] = some y3 := by simpa [Value.cells] using e3
  obtain ⟨o4, k4⟩ := hone_of h1 4 f4 rfl
  have e4 := hg 4 f4 rfl
  rw [o4, k4, t4] at e4
  obtain ⟨y4, g4⟩ : ∃ y, ys[4]? = some y := ⟨ys[4]'(by rw [hlen]; simp), List.getElem?_eq_getElem _⟩
  rw [g4] at e4
  have e4 : DataW.trod enc Tryd.prog w 0 (fun _ => true) true m 31 [c4] = some y4 := by simpa [Value.cells] using e4
  obtain ⟨o5, k5⟩ := hone_of h1 5 f5 rfl
  have e5 := hg 5 f5 rfl
  rw [o5, k5, t5] at e5
  obtain ⟨y5, g5⟩ : ∃ y, ys[5]? = some y := ⟨ys[5]'(by rw [hlen]; simp), List.getElem?_eq_getElem _⟩
  rw [g5] at e5
  have e5 : DataW.trod enc Tryd.prog w 0 (fun _ => true) true m 31 [c5] = some y5 := by simpa [Value.cells] using e5
  obtain ⟨op, q0, -, -⟩ := DataW.trod_int Tryd.underlying30 e0
  obtain ⟨a, q1, -, -⟩ := DataW.trod_int Tryd.underlying3 e1
  obtain ⟨b, q2, -, -⟩ := DataW.trod_int Tryd.underlying3 e2
  obtain ⟨n, q3, -, -⟩ := DataW.trod_int Tryd.underlying3 e3
  obtain ⟨p, lv, c, V, rfl, hV⟩ := row_of e4
  obtain ⟨q, lw, f, W, rfl, hW⟩ := row_of e5
  simp only [List.cons.injEq, and_true] at q0 q1 q2 q3
  subst q0 q1 q2 q3
  exact ⟨op, a, b, n, p, lv, c, q, lw, f, V, W, rfl, hV, hW⟩
/-- An argument reads as before in a world in which nothing of the old has turned. -/
theorem laidOut : laidOutB Tryd.prog = true := by kernel_rfl
theorem arg_back {W W' : World} {v : Value} {d : DataW H} {ps : List MemPlace} {t : TypeId} (hr : Tryd.prog.readableRec t = true) (ht : t < Tryd.prog.types.size) (h : DataW.Trod enc Tryd.prog W 0 (fun _ => true) true t v d ps) (hb : Below W.heap.size W W') (hlt : ∀ y ∈ ps, y.block < W.heap.size) :
    DataW.Trod enc Tryd.prog W' 0 (fun k => decide (k < W.heap.size)) true t v d ps := Below.trod laidOut hr ht h hb hlt
theorem nat_of {k : Int} (h : (Lit.int .u64 k).wf = true) : ∃ n : Nat, k = (n : Int) ∧ n < 18446744073709551616 := by
  have := bounds_u64 h
  exact ⟨k.toNat, by omega, by omega⟩
end
end Go.Proofs.YtnfddeoddjmpkabDoor.Di
