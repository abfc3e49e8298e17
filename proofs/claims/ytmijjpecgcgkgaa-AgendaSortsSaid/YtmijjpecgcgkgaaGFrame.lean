/-
  How an event and a list of events among the arguments are read; the last step of a law's row.
-/
import Derived.Test.YtmijjpecgcgkgaaGDrop2
import Derived.ProofKit
import Derived.LaidMore
import Derived.LaidHandle
import Derived.MakeChecks
import Derived.OpenShut
import Derived.Stop.Joined
import Derived.Lib.SmallJoins
import Derived.Deep.Slices
import Derived.Deep.Fields
import Derived.ChangeSame
namespace Go.Proofs.Ytmijjpecgcgkgaa.Ag
open Go.ChangeShapes Go.WideShapes Go.ChangeAt Go.RowKit Go.Joins Go.Deep
set_option maxHeartbeats 1000000
section
variable {H : Type} {enc : TypeId × Value → H}
/-- The last step of a law's row (a row that does not say 'again'): the result is a bool, the arguments read as before, and of what was there nothing has turned; new blocks may be of any make. -/
theorem law_post {f : Func} {s : ChangeSpec} {W W' : World} {args : Array Value} {b : Bool} {ds : List (DataW H)} {before : List MemPlace}
    (hW : DataW.Whole enc Try.prog f.params.toList s.vars false W args.toList ds [] before)
    (hres : DataW.TrodAll enc Try.prog W' W.heap.size (fun _ => false) false f.resultTypes.toList ((Value.bool b).resultList f.resultTypes.size) (s.fn H (ds ++ [])).results [])
    (hargs : DataW.TrodAll enc Try.prog W' 0 (fun k => decide (k < W.heap.size)) true f.params.toList args.toList (s.fn H (ds ++ [])).args before)
    (hvars : DataW.TrodVars enc Try.prog W' (fun k => decide (k < W.heap.size)) s.vars (s.fn H (ds ++ [])).vars [])
    (hb : Below W.heap.size W W') : s.post enc Try.prog f false true false false W args (.bool b) W' :=
  ⟨ds, [], before, [], before, [], hW, hres, hargs, hvars, World.keptBut_mono (fun _ hp => ⟨hp, Or.inr (Or.inl hp)⟩) (hb.frame (· ∈ before)), fun h => by cases h⟩
theorem own : ownKnob Try.prog.godebug = none := by kernel_rfl
theorem c_int : Try.prog.cellsOf 3 = 1 := by kernel_rfl
theorem block_lt {w : World} {b k : Nat} {v : Value} (h : w.cell? ⟨b, k, none⟩ = some v) : b < w.heap.size := by
  rcases Nat.lt_or_ge b w.heap.size with g | g
  · exact g
  · unfold World.cell? at h
    rw [Array.getElem?_eq_none g] at h
    cases h
/-- A slice of ints as the arguments hold it. -/
theorem row_of {w : World} {fuel : Nat} {v : Value} {y : DataW H × List MemPlace} (h : DataW.trod enc Try.prog w 0 (fun _ => true) true fuel 23 [v] = some y) :
    ∃ (p : Option Addr) (n c : Nat) (V : Nat → Int), v = .slice p n c ∧ Row w p n V := by
  rcases open_ints Try.underlying23 Try.underlying3 c_int h with ⟨hcs, -⟩ | ⟨a, len, cap, zs, hcs, -, hl, hm, hz, -, hcell, -⟩
  · simp only [List.cons.injEq, and_true] at hcs
    exact ⟨none, 0, 0, fun _ => 0, hcs, Nat.zero_le _, .inl rfl⟩
  · simp only [List.cons.injEq, and_true] at hcs
    simp only [if_true] at hz
    refine ⟨some a, len, cap, fun i => zs.getD i 0, hcs, by unfold maxLen at hm; omega, ?_⟩
    by_cases h0 : len = 0
    · exact .inl h0
    · obtain ⟨b, off, spot⟩ := a
      have hspot : spot = none := by simpa [Addr.add] using World.cell?_spot (hcell 0 (by omega))
      subst hspot
      have hc : ∀ j, j < len → w.cell? ⟨b, off + j, none⟩ = some (.int .i64 (zs.getD j 0)) := fun j hj => by rw [← add_plain]; exact hcell j (by omega)
      exact .inr ⟨b, off, rfl, block_lt (hc 0 (by omega)), Lib.hid hc⟩

theorem ev_is : ∃ f0 f1 f2 f3 f4 f5 f6 f7 f8 : Field, Try.prog.underlying 25 = some (.struct #[f0, f1, f2, f3, f4, f5, f6, f7, f8]) ∧ oneCellFields Try.prog #[f0, f1, f2, f3, f4, f5, f6, f7, f8] = true ∧ Try.prog.cellsOf 25 = 9 ∧
    f0.type = 3 ∧ f1.type = 3 ∧ f2.type = 3 ∧ f3.type = 3 ∧ f4.type = 3 ∧ f5.type = 22 ∧ f6.type = 3 ∧ f7.type = 3 ∧ f8.type = 23 :=
  ⟨_, _, _, _, _, _, _, _, _, Try.underlying25, by kernel_rfl, by kernel_rfl, rfl, rfl, rfl, rfl, rfl, rfl, rfl, rfl, rfl⟩
theorem nine_of {l : List Value} (h : l.length = 9) : ∃ c0 c1 c2 c3 c4 c5 c6 c7 c8, l = [c0, c1, c2, c3, c4, c5, c6, c7, c8] := by
  match l, h with
  | [c0, c1, c2, c3, c4, c5, c6, c7, c8], _ => exact ⟨c0, c1, c2, c3, c4, c5, c6, c7, c8, rfl⟩
set_option maxRecDepth 100000 in
theorem ev_of {w : World} {fuel : Nat} {cs : List Value} {y : DataW H × List MemPlace} (hl : cs.length = 9) (hf : DataW.trod enc Try.prog w 0 (fun _ => true) true fuel 25 cs = some y) :
    ∃ x : Ev, cs = [.int .i64 x.t, .int .i64 x.p, .int .i64 x.f, .int .i64 x.s, .int .i64 x.st, .int .i64 x.k, .int .i64 x.a, .int .i64 x.b, .slice x.ap x.al x.ac] ∧ ok w x := by
  obtain ⟨f0, f1, f2, f3, f4, f5, f6, f7, f8, hs, h1, hC, t0, t1, t2, t3, t4, t5, t6, t7, t8⟩ := ev_is
  obtain ⟨c0, c1, c2, c3, c4, c5, c6, c7, c8, rfl⟩ := nine_of hl
  obtain ⟨ys, m, -, -, -, hlen, hg⟩ := DataW.trod_struct hs hf
  obtain ⟨o0, k0⟩ := hone_of h1 0 f0 rfl
  have e0 := hg 0 f0 rfl
  rw [o0, k0, t0] at e0
  obtain ⟨y0, g0⟩ : ∃ y, ys[0]? = some y := ⟨ys[0]'(by rw [hlen]; simp), List.getElem?_eq_getElem _⟩
  rw [g0] at e0
  have e0 : DataW.trod enc Try.prog w 0 (fun _ => true) true m 3 [c0] = some y0 := by simpa [Value.cells] using e0
  obtain ⟨o1, k1⟩ := hone_of h1 1 f1 rfl
  have e1 := hg 1 f1 rfl
  rw [o1, k1, t1] at e1
  obtain ⟨y1, g1⟩ : ∃ y, ys[1]? = some y := ⟨ys[1]'(by rw [hlen]; simp), List.getElem?_eq_getElem _⟩
  rw [g1] at e1
  have e1 : DataW.trod enc Try.prog w 0 (fun _ => true) true m 3 [c1] = some y1 := by simpa [Value.cells] using e1
  obtain ⟨o2, k2⟩ := hone_of h1 2 f2 rfl
  have e2 := hg 2 f2 rfl
  rw [o2, k2, t2] at e2
  obtain ⟨y2, g2⟩ : ∃ y, ys[2]? = some y := ⟨ys[2]'(by rw [hlen]; simp), List.getElem?_eq_getElem _⟩
  rw [g2] at e2
  have e2 : DataW.trod enc Try.prog w 0 (fun _ => true) true m 3 [c2] = some y2 := by simpa [Value.cells] using e2
  obtain ⟨o3, k3⟩ := hone_of h1 3 f3 rfl
  have e3 := hg 3 f3 rfl
  rw [o3, k3, t3] at e3
  obtain ⟨y3, g3⟩ : ∃ y, ys[3]? = some y := ⟨ys[3]'(by rw [hlen]; simp), List.getElem?_eq_getElem _⟩
  rw [g3] at e3
  have e3 : DataW.trod enc Try.prog w 0 (fun _ => true) true m 3 [c3] = some y3 := by simpa [Value.cells] using e3
  obtain ⟨o4, k4⟩ := hone_of h1 4 f4 rfl
  have e4 := hg 4 f4 rfl
  rw [o4, k4, t4] at e4
  obtain ⟨y4, g4⟩ : ∃ y, ys[4]? = some y := ⟨ys[4]'(by rw [hlen]; simp), List.getElem?_eq_getElem _⟩
  rw [g4] at e4
  have e4 : DataW.trod enc Try.prog w 0 (fun _ => true) true m 3 [c4] = some y4 := by simpa [Value.cells] using e4
  obtain ⟨o5, k5⟩ := hone_of h1 5 f5 rfl
  have e5 := hg 5 f5 rfl
  rw [o5, k5, t5] at e5
  obtain ⟨y5, g5⟩ : ∃ y, ys[5]? = some y := ⟨ys[5]'(by rw [hlen]; simp), List.getElem?_eq_getElem _⟩
  rw [g5] at e5
  have e5 : DataW.trod enc Try.prog w 0 (fun _ => true) true m 22 [c5] = some y5 := by simpa [Value.cells] using e5
  obtain ⟨o6, k6⟩ := hone_of h1 6 f6 rfl
  have e6 := hg 6 f6 rfl
  rw [o6, k6, t6] at e6
  obtain ⟨y6, g6⟩ : ∃ y, ys[6]? = some y := ⟨ys[6]'(by rw [hlen]; simp), List.getElem?_eq_getElem _⟩
  rw [g6] at e6
  have e6 : DataW.trod enc Try.prog w 0 (fun _ => true) true m 3 [c6] = some y6 := by simpa [Value.cells] using e6
  obtain ⟨o7, k7⟩ := hone_of h1 7 f7 rfl
  have e7 := hg 7 f7 rfl
  rw [o7, k7, t7] at e7
  obtain ⟨y7, g7⟩ : ∃ y, ys[7]? = some y := ⟨ys[7]'(by rw [hlen]; simp), List.getElem?_eq_getElem _⟩
  rw [g7] at e7
  have e7 : DataW.trod enc Try.prog w 0 (fun _ => true) true m 3 [c7] = some y7 := by simpa [Value.cells] using e7
  obtain ⟨o8, k8⟩ := hone_of h1 8 f8 rfl
  have e8 := hg 8 f8 rfl
  rw [o8, k8, t8] at e8
  obtain ⟨y8, g8⟩ : ∃ y, ys[8]? = some y := ⟨ys[8]'(by rw [hlen]; simp), List.getElem?_eq_getElem _⟩
  rw [g8] at e8
  have e8 : DataW.trod enc Try.prog w 0 (fun _ => true) true m 23 [c8] = some y8 := by simpa [Value.cells] using e8
  obtain ⟨a0, q0, -, -⟩ := DataW.trod_int Try.underlying3 e0
  obtain ⟨a1, q1, -, -⟩ := DataW.trod_int Try.underlying3 e1
  obtain ⟨a2, q2, -, -⟩ := DataW.trod_int Try.underlying3 e2
  obtain ⟨a3, q3, -, -⟩ := DataW.trod_int Try.underlying3 e3
  obtain ⟨a4, q4, -, -⟩ := DataW.trod_int Try.underlying3 e4
  obtain ⟨a5, q5, -, -⟩ := DataW.trod_int Try.underlying22 e5
  obtain ⟨a6, q6, -, -⟩ := DataW.trod_int Try.underlying3 e6
  obtain ⟨a7, q7, -, -⟩ := DataW.trod_int Try.underlying3 e7
  obtain ⟨p, lv, c, V, rfl, hV⟩ := row_of e8
  simp only [List.cons.injEq, and_true] at q0 q1 q2 q3 q4 q5 q6 q7
  subst q0 q1 q2 q3 q4 q5 q6 q7
  exact ⟨⟨a0, a1, a2, a3, a4, a5, a6, a7, p, lv, c, V⟩, rfl, hV⟩
theorem open_event {w : World} {r : Reach} {b0 : Nat} {v : Value} {d : DataW H} {ps : List MemPlace} (hv : Value.okWide Try.prog w r b0 25 v) (h : DataW.Trod enc Try.prog w 0 (fun _ => true) true 25 v d ps) :
    ∃ x : Ev, v = .agg #[.int .i64 x.t, .int .i64 x.p, .int .i64 x.f, .int .i64 x.s, .int .i64 x.st, .int .i64 x.k, .int .i64 x.a, .int .i64 x.b, .slice x.ap x.al x.ac] ∧ ok w x := by
  obtain ⟨f0, f1, f2, f3, f4, f5, f6, f7, f8, hs, h1, hC, -⟩ := ev_is
  obtain ⟨cs, rfl, hsz⟩ := okWide_struct hs hv
  obtain ⟨fuel, hf⟩ := h
  obtain ⟨x, hx, ho⟩ := ev_of (cs := cs.toList) (by rw [Array.length_toList]; exact hsz.trans hC) hf
  refine ⟨x, ?_, ho⟩
  obtain ⟨l⟩ := cs
  simp only at hx
  rw [hx]
theorem open_events {w : World} {r : Reach} {b0 : Nat} {v : Value} {d : DataW H} {ps : List MemPlace} (hv0 : Value.okWide Try.prog w r b0 29 v) (h : DataW.Trod enc Try.prog w 0 (fun _ => true) true 29 v d ps) :
    ∃ (p : Option Addr) (n c : Nat) (E : Nat → Ev), v = .slice p n c ∧ WL p n c ∧ Evs w p n E := by
  obtain ⟨a0, l0, k0, rfl⟩ := okWide_slice Try.underlying29 hv0
  obtain ⟨fuel, hf⟩ := h
  obtain ⟨f0, f1, f2, f3, f4, f5, f6, f7, f8, hs, h1, hC, -⟩ := ev_is
  rcases open_slice Try.underlying29 hf with ⟨hcs, -⟩ | ⟨a, len, cap, m, n, D, Pl, hcs, -, hl, hm, hmm, -, hi⟩
  · refine ⟨none, 0, 0, fun _ => zeroEv, ?_, ⟨Nat.le_refl _, .inl rfl⟩, Evs.nil⟩
    simpa [Value.cells] using hcs
  · simp only [if_true] at hmm
    have hcell : ∀ i, i < m → ∃ x : Ev, (∀ r, r < 9 → w.cell? ((a.add (i * 9)).add r) = some (c9 x r)) ∧ ok w x := by
      intro i him
      obtain ⟨cs', hc, ht'⟩ := hi i him
      rw [hC] at hc
      obtain ⟨-, hcl, hat⟩ := World.cells?_some hc
      obtain ⟨x, hx, ho⟩ := ev_of (cs := cs') (by omega) ht'
      refine ⟨x, fun r hr => ?_, ho⟩
      rw [hat r (by omega), hx]
      match r, hr with
      | 0, _ => rfl
      | 1, _ => rfl
      | 2, _ => rfl
      | 3, _ => rfl
      | 4, _ => rfl
      | 5, _ => rfl
      | 6, _ => rfl
      | 7, _ => rfl
      | 8, _ => rfl
    have hv : Value.slice a0 l0 k0 = .slice (some a) len cap := by simpa [Value.cells] using hcs
    unfold maxLen at hm
    by_cases h0 : cap = 0
    · exact ⟨some a, len, cap, fun _ => zeroEv, hv, ⟨hl, .inl h0⟩, by omega, .inl (by omega)⟩
    · obtain ⟨b, off, spot⟩ := a
      obtain ⟨x0, hx0, -⟩ := hcell 0 (by omega)
      have hspot : spot = none := by simpa [Addr.add] using World.cell?_spot (hx0 0 (by omega))
      subst hspot
      have hex : ∀ i, ∃ x : Ev, i < len → cell9 w b (off + i * 9) x ∧ ok w x := by
        intro i
        by_cases hil : i < len
        · obtain ⟨x, hx, ho⟩ := hcell i (by omega)
          refine ⟨x, fun _ => ⟨cell9_of fun r hr => ?_, ho⟩⟩
          have := hx r hr
          rwa [add_off, add_off] at this
        · exact ⟨zeroEv, fun h => absurd h hil⟩
      refine ⟨_, len, cap, fun i => (hex i).choose, hv, ⟨hl, .inr ⟨b, off, rfl⟩⟩, by omega, ?_⟩
      by_cases hl0 : len = 0
      · exact .inl hl0
      · have hE : ∀ i, i < len → cell9 w b (off + i * 9) (hex i).choose ∧ ok w (hex i).choose := fun i hi => (hex i).choose_spec hi
        have hb : b < w.heap.size := by have := (hE 0 (by omega)).1.1; exact block_lt this
        exact .inr ⟨b, off, rfl, hb, Lib.hid hE⟩
/-- An argument reads as before in a world in which nothing of the old has turned. -/
theorem laidOut : laidOutB Try.prog = true := by kernel_rfl
theorem arg_back {W W' : World} {v : Value} {d : DataW H} {ps : List MemPlace} {t : TypeId} (hr : Try.prog.readableRec t = true) (ht : t < Try.prog.types.size) (h : DataW.Trod enc Try.prog W 0 (fun _ => true) true t v d ps) (hb : Below W.heap.size W W') (hlt : ∀ y ∈ ps, y.block < W.heap.size) :
    DataW.Trod enc Try.prog W' 0 (fun k => decide (k < W.heap.size)) true t v d ps := Below.trod laidOut hr ht h hb hlt
end
end Go.Proofs.Ytmijjpecgcgkgaa.Ag
