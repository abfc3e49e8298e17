/-
  How a list of tokens among the arguments is read.
-/
import Derived.Test.YtilnojcbebchdaaDoorFrame
import Derived.Test.YtilnojcbebchdaaDoorLxBase
import Derived.ProofKit
import Derived.Lib.SmallJoins
import Derived.Deep.Slices
import Derived.Deep.Fields
import Derived.ChangeSame
import Derived.SizedLaws
namespace Go.Proofs.YtilnojcbebchdaaDoor.Lx
open Go.ChangeShapes Go.WideShapes Go.ChangeAt Go.RowKit Go.Joins Go.Deep
set_option maxHeartbeats 1000000
set_option linter.unusedVariables false
section
variable {H : Type} {enc : TypeId × Value → H}
theorem block_lt {w : World} {b k : Nat} {v : Value} (h : w.cell? ⟨b, k, none⟩ = some v) : b < w.heap.size := by
  rcases Nat.lt_or_ge b w.heap.size with g | g
  · exact g
  · unfold World.cell? at h
    rw [Array.getElem?_eq_none g] at h
    cases h
theorem tok_is : ∃ f0 f1 f2 f3 : Field, Tryd.prog.underlying 31 = some (.struct #[f0, f1, f2, f3]) ∧ oneCellFields Tryd.prog #[f0, f1, f2, f3] = true ∧ Tryd.prog.cellsOf 31 = 4 ∧
    f0.type = 29 ∧ f1.type = 9 ∧ f2.type = 3 ∧ f3.type = 3 :=
  ⟨_, _, _, _, Tryd.underlying31, by kernel_rfl, by kernel_rfl, rfl, rfl, rfl, rfl⟩
theorem four_of {l : List Value} (h : l.length = 4) : ∃ c0 c1 c2 c3, l = [c0, c1, c2, c3] := by
  match l, h with
  | [c0, c1, c2, c3], _ => exact ⟨c0, c1, c2, c3, rfl⟩
set_option maxRecDepth 100000 in
theorem tok_of {w : World} {fuel : Nat} {cs : List Value} {y : DataW H × List MemPlace} (hl : cs.length = 4) (hf : DataW.trod enc Tryd.prog w 0 (fun _ => true) true fuel 31 cs = some y) :
    ∃ x : Tk, cs = [.int .i64 x.k, .string x.t, .int .i64 x.n, .int .i64 x.l] ∧ x.t.size ∈ y.1.weights Tryd.prog 31 ∧ x.l ≤ 9223372036854775807 := by
  obtain ⟨f0, f1, f2, f3, hs, h1, hC, t0, t1, t2, t3⟩ := tok_is
  obtain ⟨c0, c1, c2, c3, rfl⟩ := four_of hl
  obtain ⟨ys, m, -, hy, -, hlen, hg⟩ := DataW.trod_struct hs hf
  obtain ⟨o0, k0⟩ := hone_of h1 0 f0 rfl
  have e0 := hg 0 f0 rfl
  rw [o0, k0, t0] at e0
  obtain ⟨y0, g0⟩ : ∃ y, ys[0]? = some y := ⟨ys[0]'(by rw [hlen]; simp), List.getElem?_eq_getElem _⟩
  rw [g0] at e0
  have e0 : DataW.trod enc Tryd.prog w 0 (fun _ => true) true m 29 [c0] = some y0 := by simpa [Value.cells] using e0
  obtain ⟨o1, k1⟩ := hone_of h1 1 f1 rfl
  have e1 := hg 1 f1 rfl
  rw [o1, k1, t1] at e1
  obtain ⟨y1, g1⟩ : ∃ y, ys[1]? = some y := ⟨ys[1]'(by rw [hlen]; simp), List.getElem?_eq_getElem _⟩
  rw [g1] at e1
  have e1 : DataW.trod enc Tryd.prog w 0 (fun _ => true) true m 9 [c1] = some y1 := by simpa [Value.cells] using e1
  obtain ⟨o2, k2⟩ := hone_of h1 2 f2 rfl
  have e2 := hg 2 f2 rfl
  rw [o2, k2, t2] at e2
  obtain ⟨y2, g2⟩ : ∃ y, ys[2]? = some y := ⟨ys[2]'(by rw [hlen]; simp), List.getElem?_eq_getElem _⟩
  rw [g2] at e2
  have e2 : DataW.trod enc Tryd.prog w 0 (fun _ => true) true m 3 [c2] = some y2 := by simpa [Value.cells] using e2
  obtain ⟨o3, k3⟩ := hone_of h1 3 f3 rfl
  have e3 := hg 3 f3 rfl
  rw [o3, k3, t3] at e3
  obtain ⟨y3, g3⟩ : ∃ y, ys[3]? = some y := ⟨ys[3]'(by rw [hlen]; simp), List.getElem?_eq_getElem _⟩
  rw [g3] at e3
  have e3 : DataW.trod enc Tryd.prog w 0 (fun _ => true) true m 3 [c3] = some y3 := by simpa [Value.cells] using e3
  obtain ⟨a0, q0, -, -⟩ := DataW.trod_int Tryd.underlying29 e0
  obtain ⟨s, q1, d1, -⟩ := DataW.trod_string Tryd.underlying9 e1
  obtain ⟨a2, q2, -, -⟩ := DataW.trod_int Tryd.underlying3 e2
  obtain ⟨a3, q3, -, w3⟩ := DataW.trod_int Tryd.underlying3 e3
  have b3 := bounds_i64 w3
  simp only [List.cons.injEq, and_true] at q0 q1 q2 q3
  subst q0 q1 q2 q3
  refine ⟨⟨a0, s, a2, a3⟩, rfl, ?_, b3.2⟩
  rw [hy]
  show s.size ∈ DataW.weights Tryd.prog 31 (.agg (ys.map (·.1)))
  unfold DataW.weights
  rw [hs]
  refine DataW.weights_mem_each (j := 1) (t := 9) (d := y1.1) (by simp [t1]) (by rw [List.getElem?_map, g1]; rfl) _ ?_
  rw [d1]
  simp [DataW.weights]
theorem weights_elem {P : Program} {e : TypeId} {n : Nat} {d : DataW H} : ∀ {ds : List (DataW H)}, d ∈ ds → n ∈ d.weights P e → n ∈ DataW.weightsAll P e ds
  | [], h, _ => by cases h
  | x :: r, h, hn => by
    unfold DataW.weightsAll
    rw [List.mem_append]
    rcases List.mem_cons.1 h with rfl | h
    · exact .inl hn
    · exact .inr (weights_elem h hn)
set_option maxRecDepth 100000 in
theorem open_toks {w : World} {r : Reach} {b0 : Nat} {v : Value} {d : DataW H} {ps : List MemPlace} (hv0 : Value.okWide Tryd.prog w r b0 23 v) (h : DataW.Trod enc Tryd.prog w 0 (fun _ => true) true 23 v d ps) (hz : (d.weights Tryd.prog 23).all (· ≤ reachBytes) = true) :
    ∃ (p : Option Addr) (n c : Nat) (l : List Tk), v = .slice p n c ∧ n ≤ c ∧ Toks w p n l ∧ ∀ x ∈ l, x.t.size ≤ 140737488355328 ∧ x.l ≤ 9223372036854775807 := by
  obtain ⟨a0, l0, k0, rfl⟩ := okWide_slice Tryd.underlying23 hv0
  obtain ⟨fuel, hf⟩ := h
  obtain ⟨f0, f1, f2, f3, hs, h1, hC, -⟩ := tok_is
  rcases open_slice Tryd.underlying23 hf with ⟨hcs, -⟩ | ⟨a, len, cap, m, n, D, Pl, hcs, -, hl, hm, hmm, hx, hi⟩
  · refine ⟨none, 0, 0, [], ?_, Nat.le_refl _, Toks.nil, fun x h => by cases h⟩
    simpa [Value.cells] using hcs
  · simp only [if_true] at hmm
    have hd : d = .slice ((List.range len).map D) ((List.range (m - len)).map fun j => D (len + j)) := congrArg Prod.fst hx
    have hcell : ∀ i, i < len → ∃ x : Tk, (∀ r, r < 4 → w.cell? ((a.add (i * 4)).add r) = some (c4 x r)) ∧ x.t.size ≤ 140737488355328 ∧ x.l ≤ 9223372036854775807 := by
      intro i hil
      obtain ⟨cs', hc, ht'⟩ := hi i (by omega)
      rw [hC] at hc
      obtain ⟨-, hcl, hat⟩ := World.cells?_some hc
      obtain ⟨x, hx2, hw, hb⟩ := tok_of (cs := cs') (by omega) ht'
      refine ⟨x, fun r hr => ?_, ?_, hb⟩
      · rw [hat r (by omega), hx2]
        match r, hr with
        | 0, _ => rfl
        | 1, _ => rfl
        | 2, _ => rfl
        | 3, _ => rfl
      · have hmem : x.t.size ∈ d.weights Tryd.prog 23 := by
          rw [hd]
          unfold DataW.weights
          rw [Tryd.underlying23]
          refine List.mem_cons_of_mem _ (List.mem_append_left _ (weights_elem (d := D i) ?_ hw))
          exact List.mem_map.2 ⟨i, List.mem_range.2 hil, rfl⟩
        have h2 := List.all_eq_true.1 hz _ hmem
        have h3 : x.t.size ≤ reachBytes := by simpa using h2
        have h4 : reachBytes = 140737488351232 := by decide
        omega
    have hv : Value.slice a0 l0 k0 = .slice (some a) len cap := by simpa [Value.cells] using hcs
    unfold maxLen at hm
    by_cases h0 : len = 0
    · exact ⟨some a, len, cap, [], hv, hl, ⟨h0.symm, by omega, .inl h0⟩, fun x h => by cases h⟩
    · obtain ⟨b, off, spot⟩ := a
      obtain ⟨x0, hx0, -⟩ := hcell 0 (by omega)
      have hspot : spot = none := by simpa [Addr.add] using World.cell?_spot (hx0 0 (by omega))
      subst hspot
      have hex : ∀ i, ∃ x : Tk, i < len → cell4 w b (off + i * 4) x ∧ x.t.size ≤ 140737488355328 ∧ x.l ≤ 9223372036854775807 := by
        intro i
        by_cases hil : i < len
        · obtain ⟨x, hx1, hx2⟩ := hcell i hil
          refine ⟨x, fun _ => ⟨cell4_of fun r hr => ?_, hx2⟩⟩
          have := hx1 r hr
          rwa [add_off, add_off] at this
        · exact ⟨⟨0, mt, 0, 0⟩, fun h => absurd h hil⟩
      have hE : ∀ i, i < len → cell4 w b (off + i * 4) (hex i).choose ∧ (hex i).choose.t.size ≤ 140737488355328 ∧ (hex i).choose.l ≤ 9223372036854775807 := fun i hi => (hex i).choose_spec hi
      refine ⟨_, len, cap, (List.range len).map fun i => (hex i).choose, hv, hl, ⟨by simp, by omega, .inr ⟨b, off, rfl, block_lt (hE 0 (by omega)).1.1, Lib.hid fun i hi => ?_⟩⟩, fun x hx => ?_⟩
      · simp only [List.length_map, List.length_range] at hi
        simp only [List.getElem_map, List.getElem_range]
        exact (hE i hi).1
      · obtain ⟨i, hi, rfl⟩ := List.mem_map.1 hx
        exact (hE i (List.mem_range.1 hi)).2
/-- An argument reads as before in a world in which nothing of the old has turned. -/
theorem laidOut : laidOutB Tryd.prog = true := by kernel_rfl
theorem arg_back {W W' : World} {v : Value} {d : DataW H} {ps : List MemPlace} {t : TypeId} (hr : Tryd.prog.readableRec t = true) (ht : t < Tryd.prog.types.size) (h : DataW.Trod enc Tryd.prog W 0 (fun _ => true) true t v d ps) (hb : Below W.heap.size W W') (hlt : ∀ y ∈ ps, y.block < W.heap.size) :
    DataW.Trod enc Tryd.prog W' 0 (fun k => decide (k < W.heap.size)) true t v d ps := Below.trod laidOut hr ht h hb hlt
end
end Go.Proofs.YtilnojcbebchdaaDoor.Lx
