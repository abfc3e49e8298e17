/-
  The contracts of Count and of hasMore: loops over statements that count.
-/
import Derived.Test.YtonlmnlpofgccaaGreatPWalk
import Derived.Test.YtonlmnlpofgccaaGreatECount
namespace Go.Proofs.YtonlmnlpofgccaaGreat.Sm
open Go.RowKit Go.Shelf
open Go.Proofs.YtonlmnlpofgccaaGreat.Ex (Ex Nm Kin In Sz Lo Gives bl_alloc bl_drewN bl_drew bl_set bl_call block_lt cell_of_box cell_new cell_alloc_on frozen_alloc_on set_other below_set)
attribute [local go_sem] Oper.semAt_some
set_option maxHeartbeats 1000000
set_option linter.unusedVariables false
theorem map_len {n₀ : Nat} {W0 : World} {ys : List (Nd n₀ W0)} {sl : List St} (h : ys.map Nd.x = ordL sl) : ys.length = cnL sl := by
  have := congrArg List.length h
  rwa [List.length_map, ordL_len] at this
theorem prefix_len {n₀ : Nat} {W0 : World} {q : List (Nd n₀ W0)} {sl : List St} (h : q.map Nd.x <+: ordL sl) : q.length ≤ cnL sl := by
  have := h.length_le
  rwa [List.length_map, ordL_len] at this
set_option maxRecDepth 100000 in
theorem count_any (sl : List St) (p : Option Addr) (m c : Nat) (w : World) (h : LIn w sl p m) (hs : SzL sl) (hc : cnL sl ≤ 4000000) : Calls Tryz.prog 8 #[.slice p m c] w (Gives (.int .i64 (cnL sl : Nat)) w) := by
  have HH := Lib.hid h
  have HS := Lib.hid hs
  have HC := Lib.hid hc
  clear h hs hc
  refine (callsIn_wide (n := 3)).1 ?_
  refine callsIn_of_wp_marks Tryz.func8 rfl trivial ?_ rfl
  simp only [Tryz.ntmps8, List.size_toArray, List.length_cons, List.length_nil, Nat.reduceAdd, Nat.reduceSub, Array.replicate_succ, Array.replicate_zero, List.push_toArray, List.append_toArray, List.nil_append, List.cons_append]
  gi_wp2_with (refine ⟨trivial, ?_⟩; gi_at_call 18; refine (statements_in Fence.wide _ trivial rfl _ _ _ _).mono ?_; rintro e w' ⟨rfl, rfl⟩)
  obtain ⟨w1, hw1⟩ : ∃ w1, w.alloc (.cells #[.int .i64 0] 3) = w1 := ⟨_, rfl⟩
  have hz1 : w1.heap.size = w.heap.size + 1 := by rw [← hw1]; simp
  have hb1 : Below w.heap.size w w1 := by rw [← hw1]; (repeat (first | (with_reducible exact Below.refl _ _) | (with_reducible assumption) | (with_reducible apply bl_alloc) | (with_reducible apply bl_drewN) | (with_reducible apply bl_drew) | (with_reducible refine bl_set ?_ (by first | (simp; done) | (simp; omega)) _) | (with_reducible refine bl_call ?_ (by assumption))))
  have h1 := cell_new w (.int .i64 0) 3
  rw [hw1] at h1
  obtain ⟨w2, hw2⟩ : ∃ w2, w1.alloc (.cells #[.slice p m c] 22) = w2 := ⟨_, rfl⟩
  have hz2 : w2.heap.size = w.heap.size + 2 := by rw [← hw2]; simp [hz1]
  have hb2 : Below w1.heap.size w1 w2 := by rw [← hw2]; (repeat (first | (with_reducible exact Below.refl _ _) | (with_reducible assumption) | (with_reducible apply bl_alloc) | (with_reducible apply bl_drewN) | (with_reducible apply bl_drew) | (with_reducible refine bl_set ?_ (by first | (simp; done) | (simp; omega)) _) | (with_reducible refine bl_call ?_ (by assumption))))
  have h2 := cell_new w1 (.slice p m c) 22
  have h13 := cell_alloc_on (.cells #[.slice p m c] 22) h1.1
  have h14 := frozen_alloc_on (.cells #[.slice p m c] 22) h1.1 h1.2
  rw [hw2] at h13 h14 h2
  rw [hz1] at h2
  have hb : Below w.heap.size w w2 := hb1.trans (hb2.mono (by omega))
  rw [hw1, hw2]
  refine wpIn_rangeFunc_ownG rfl (by omega) (gf := 26) (lb := #[.pointer (some ⟨w.heap.size + 1, 0, none⟩)]) rfl trivial (enters_of Tryz.func26 (by kernel_rfl) rfl)
    (stmts_stops Fence.wide rfl trivial trivial rfl _ (w.heap.size + 1) w.heap.size w2.heap.size w (Nat.le_refl _) sl p m c w2 h2.1 HH.out HS.out hb (Nat.le_refl _)) (fun h k => h.trans k) (Kp.put (by omega)) (Below.refl _ _) (fun _ => rfl)
    (fun ps W => (W.cell? ⟨w.heap.size, 0, none⟩ = some (.int .i64 (ps.length : Nat)) ∧ W.frozen? ⟨w.heap.size, 0, none⟩ = false) ∧ Below w.heap.size w W)
    (fun _ _ _ => False)
    (OwnFrom.and (Own.from (fun s A B row hs hg hr => ⟨cell_kept hs.1 hg hr, (frozen_kept hs.1 hg hr).trans hs.2⟩) _) (ownFrom_below (Nat.le_refl _) (by omega)))
    (fun _ _ _ _ _ hs _ _ => hs)
    ⟨⟨h13, h14⟩, hb⟩
    (fun x => { tmps := #[.slice p m c, undef, .int .i64 0, .pointer (some ⟨w.heap.size, 0, none⟩), .slice p m c, .func (.func 26) #[] #[.pointer (some ⟨w.heap.size + 1, 0, none⟩)], .agg (cs x.x x.P), undef, undef, undef], defers := [] }) ?assign ?body ?done ?stop
  case assign =>
    intro l x W K hK
    simp only [encN]
    gi_wp2
    simp [go_sem]
    exact hK
  case body =>
    rintro l ps x W ⟨⟨hc, hf⟩, hB⟩ hlt
    have hlt2 : (ps.length : Int) ≤ 4000000 := by have := HC.out; omega
    gi_wp2
    refine ⟨(KeepsOthers.setCell _ _ _).from _, Kp.set (by omega) (by omega) _, ⟨?_, by rw [World.frozen?_setCell]; exact hf⟩, below_set hB (by omega) _⟩
    rw [World.cell?_setCell_same' _ _ _ (by rw [hc]; rfl), List.length_append]
    congr 2
  case done =>
    rintro D ys W hD hys ⟨⟨hc, _⟩, hB⟩ hK
    have hl := map_len hys
    rw [hl] at hc
    gi_wp2
    refine ⟨by simp, .inl ⟨_, _, rfl, run_takeDeferred hK, ?_⟩⟩
    exact ⟨_, results_tmp rfl _ _ _, rfl, hB.trans (belowK_b (w := w) (Nat.le_refl _) W D _ _ (by omega) hK rfl rfl)⟩
  case stop =>
    rintro D c ps W _ _ h _
    exact h.elim
set_option maxRecDepth 100000 in
theorem more_any (sl : List St) (p : Option Addr) (m c : Nat) (w : World) (h : LIn w sl p m) (hs : SzL sl) : Calls Tryz.prog 17 #[.slice p m c, .int .i64 200] w (Gives (.bool (decide (200 < cnL sl))) w) := by
  have HH := Lib.hid h
  have HS := Lib.hid hs
  clear h hs
  refine (callsIn_wide (n := 3)).1 ?_
  refine callsIn_of_wp_marks Tryz.func17 rfl trivial ?_ rfl
  simp only [Tryz.ntmps17, List.size_toArray, List.length_cons, List.length_nil, Nat.reduceAdd, Nat.reduceSub, Array.replicate_succ, Array.replicate_zero, List.push_toArray, List.append_toArray, List.nil_append, List.cons_append]
  gi_wp2_with (refine ⟨trivial, ?_⟩; gi_at_call 18; refine (statements_in Fence.wide _ trivial rfl _ _ _ _).mono ?_; rintro e w' ⟨rfl, rfl⟩)
  obtain ⟨w2, hw2⟩ : ∃ w2, w.alloc (.cells #[.int .i64 200] 3) = w2 := ⟨_, rfl⟩
  have hz2 : w2.heap.size = w.heap.size + 1 := by rw [← hw2]; simp
  have hb2 : Below w.heap.size w w2 := by rw [← hw2]; (repeat (first | (with_reducible exact Below.refl _ _) | (with_reducible assumption) | (with_reducible apply bl_alloc) | (with_reducible apply bl_drewN) | (with_reducible apply bl_drew) | (with_reducible refine bl_set ?_ (by first | (simp; done) | (simp; omega)) _) | (with_reducible refine bl_call ?_ (by assumption))))
  have h2 := cell_new w (.int .i64 200) 3
  rw [hw2] at h2
  obtain ⟨w3, hw3⟩ : ∃ w3, w2.alloc (.cells #[.bool false] 4) = w3 := ⟨_, rfl⟩
  have hz3 : w3.heap.size = w.heap.size + 2 := by rw [← hw3]; simp [hz2]
  have hb3 : Below w2.heap.size w2 w3 := by rw [← hw3]; (repeat (first | (with_reducible exact Below.refl _ _) | (with_reducible assumption) | (with_reducible apply bl_alloc) | (with_reducible apply bl_drewN) | (with_reducible apply bl_drew) | (with_reducible refine bl_set ?_ (by first | (simp; done) | (simp; omega)) _) | (with_reducible refine bl_call ?_ (by assumption))))
  have h3 := cell_new w2 (.bool false) 4
  rw [hw3] at h3
  obtain ⟨w4, hw4⟩ : ∃ w4, w3.alloc (.cells #[.int .i64 0] 3) = w4 := ⟨_, rfl⟩
  have hz4 : w4.heap.size = w.heap.size + 3 := by rw [← hw4]; simp [hz3]
  have hb4 : Below w3.heap.size w3 w4 := by rw [← hw4]; (repeat (first | (with_reducible exact Below.refl _ _) | (with_reducible assumption) | (with_reducible apply bl_alloc) | (with_reducible apply bl_drewN) | (with_reducible apply bl_drew) | (with_reducible refine bl_set ?_ (by first | (simp; done) | (simp; omega)) _) | (with_reducible refine bl_call ?_ (by assumption))))
  have h4 := cell_new w3 (.int .i64 0) 3
  rw [hw4] at h4
  obtain ⟨w5, hw5⟩ : ∃ w5, w4.alloc (.cells #[.slice p m c] 22) = w5 := ⟨_, rfl⟩
  have hz5 : w5.heap.size = w.heap.size + 4 := by rw [← hw5]; simp [hz4]
  have hb5 : Below w4.heap.size w4 w5 := by rw [← hw5]; (repeat (first | (with_reducible exact Below.refl _ _) | (with_reducible assumption) | (with_reducible apply bl_alloc) | (with_reducible apply bl_drewN) | (with_reducible apply bl_drew) | (with_reducible refine bl_set ?_ (by first | (simp; done) | (simp; omega)) _) | (with_reducible refine bl_call ?_ (by assumption))))
  have h5 := cell_new w4 (.slice p m c) 22
  rw [hw5] at h5
  have g2 : w5.cell? ⟨w.heap.size, 0, none⟩ = some (.int .i64 200) := (hb5.cell (by simp; omega)).trans ((hb4.cell (by simp; omega)).trans ((hb3.cell (by simp; omega)).trans h2.1))
  have g3 : w5.cell? ⟨w2.heap.size, 0, none⟩ = some (.bool false) := (hb5.cell (by simp; omega)).trans ((hb4.cell (by simp; omega)).trans h3.1)
  have g3f : w5.frozen? ⟨w2.heap.size, 0, none⟩ = false := (hb5.frozen (by simp; omega)).trans ((hb4.frozen (by simp; omega)).trans h3.2)
  have g4 : w5.cell? ⟨w3.heap.size, 0, none⟩ = some (.int .i64 0) := (hb5.cell (by simp; omega)).trans h4.1
  have g4f : w5.frozen? ⟨w3.heap.size, 0, none⟩ = false := (hb5.frozen (by simp; omega)).trans h4.2
  have hb : Below w.heap.size w w5 := hb2.trans ((hb3.mono (by omega)).trans ((hb4.mono (by omega)).trans (hb5.mono (by omega))))
  have g5 := h5.1
  rw [hz2] at g3 g3f
  rw [hz3] at g4 g4f
  rw [hz4] at g5
  rw [hw2, hw3, hw4, hw5]
  clear hw2 hw3 hw4 hw5 hb2 hb3 hb4 hb5 h2 h3 h4 h5 hz2 hz3 hz4
  refine wpIn_rangeFunc_ownG rfl (by omega) (gf := 26) (lb := #[.pointer (some ⟨w.heap.size + 1 + 1 + 1, 0, none⟩)]) rfl trivial (enters_of Tryz.func26 (by kernel_rfl) rfl)
    (stmts_stops Fence.wide rfl trivial trivial rfl _ (w.heap.size + 1 + 1 + 1) w.heap.size w5.heap.size w (Nat.le_refl _) sl p m c w5 g5 HH.out HS.out hb (Nat.le_refl _)) (fun h k => h.trans k) (Kp.put (by omega)) (Below.refl _ _) (fun _ => rfl)
    (fun ps W => ((W.cell? ⟨w.heap.size + 1 + 1, 0, none⟩ = some (.int .i64 (ps.length : Nat)) ∧ W.frozen? ⟨w.heap.size + 1 + 1, 0, none⟩ = false) ∧ W.cell? ⟨w.heap.size, 0, none⟩ = some (.int .i64 200) ∧ W.cell? ⟨w.heap.size + 1, 0, none⟩ = some (.bool false) ∧ W.frozen? ⟨w.heap.size + 1, 0, none⟩ = false ∧ ps.length ≤ 200) ∧ Below w.heap.size w W)
    (fun c ps W => (c = .ret ∧ 200 < ps.length ∧ W.cell? ⟨w.heap.size + 1, 0, none⟩ = some (.bool true)) ∧ Below w.heap.size w W)
    (OwnFrom.and (Own.from (fun s A B row hs hg hr => ⟨⟨cell_kept hs.1.1 hg hr, (frozen_kept hs.1.1 hg hr).trans hs.1.2⟩, cell_kept hs.2.1 hg hr, cell_kept hs.2.2.1 hg hr, (frozen_kept hs.2.2.1 hg hr).trans hs.2.2.2.1, hs.2.2.2.2⟩) _) (ownFrom_below (Nat.le_refl _) (by omega)))
    (fun c => OwnFrom.and (Own.from (fun s A B row hs hg hr => ⟨hs.1, hs.2.1, cell_kept hs.2.2 hg hr⟩) _) (ownFrom_below (Nat.le_refl _) (by omega)))
    ⟨⟨⟨g4, g4f⟩, g2, g3, g3f, by simp⟩, hb⟩
    (fun x => { tmps := #[.slice p m c, .int .i64 200, undef, .pointer (some ⟨w.heap.size, 0, none⟩), .pointer (some ⟨w.heap.size + 1, 0, none⟩), .pointer (some ⟨w.heap.size + 1 + 1, 0, none⟩), .slice p m c, .func (.func 26) #[] #[.pointer (some ⟨w.heap.size + 1 + 1 + 1, 0, none⟩)], .agg (cs x.x x.P), undef, undef, undef, undef, undef], defers := [] }) ?assign ?body ?done ?stop
  case assign =>
    intro l x W K hK
    simp only [encN]
    gi_wp2
    simp [go_sem]
    exact hK
  case body =>
    rintro l ps x W ⟨⟨⟨hc, hf⟩, h60, hr, hrf, hle⟩, hB⟩ hlt
    have hlt2 : (ps.length : Int) ≤ 200 := by omega
    by_cases h6 : ps.length = 200
    · have e6 : (ps.length : Int) = 200 := by omega
      rw [e6] at hc
      clear hlt2 e6
      gi_wp2
      refine ⟨((KeepsOthers.setCell _ _ _).trans (KeepsOthers.setCell _ _ _)).from _, ⟨rfl, by rw [List.length_append, h6]; simp, ?_⟩, below_set (below_set hB (by omega) _) (by omega) _⟩
      exact World.cell?_setCell_same' _ _ _ (by rw [set_other hr (by omega)]; rfl)
    · have l6 : (ps.length : Int) + 1 ≤ 200 := by omega
      gi_wp2
      refine ⟨(KeepsOthers.setCell _ _ _).from _, Kp.set (by omega) (by omega) _, ⟨⟨?_, by rw [World.frozen?_setCell]; exact hf⟩, ?_, ?_, by rw [World.frozen?_setCell]; exact hrf, by rw [List.length_append]; simp; omega⟩, below_set hB (by omega) _⟩
      · rw [World.cell?_setCell_same' _ _ _ (by rw [hc]; rfl), List.length_append]
        congr 2
      · exact set_other h60 (by omega) _
      · exact set_other hr (by omega) _
  case done =>
    rintro D ys W hD hys ⟨⟨⟨hc, hf⟩, h60, hr, hrf, hle⟩, hB⟩ hK
    have hl := map_len hys
    have hv : decide (200 < cnL sl) = false := decide_eq_false (by omega)
    have HV := Lib.hid hv
    gi_wp2
    have hK' := (KeepsOthers.setCell W ⟨w.heap.size + 1, 0, none⟩ (.bool false)).same D _ hK rfl
    refine ⟨by simp, .inl ⟨_, _, rfl, run_takeDeferred hK', ?_⟩⟩
    have hc5 := cell_kept (World.cell?_setCell_same' W ⟨w.heap.size + 1, 0, none⟩ (.bool false) (by rw [hr]; rfl)) (grownBy_putObj' _ D (.deferred none)) (fun r e => by cases e; exact ⟨_, hK', rfl⟩)
    refine ⟨.bool false, ?_, by rw [HV.out], (below_set hB (by omega) _).trans (belowK_b (w := w) (Nat.le_refl _) _ D _ _ (by omega) hK' rfl rfl)⟩
    simp [results, Tryz.f17, go_sem, hc5]
  case stop =>
    rintro D c ps W hD hps ⟨⟨rfl, h6, hr⟩, hB⟩ hK
    have hl := prefix_len hps
    have hv : decide (200 < cnL sl) = true := decide_eq_true (by omega)
    have HV := Lib.hid hv
    gi_wp2
    refine ⟨by simp, .inl ⟨_, _, rfl, run_takeDeferred hK, ?_⟩⟩
    have hc5 := cell_kept hr (grownBy_putObj' _ D (.deferred none)) (fun r e => by cases e; exact ⟨_, hK, rfl⟩)
    refine ⟨.bool true, ?_, by rw [HV.out], hB.trans (belowK_b (w := w) (Nat.le_refl _) W D _ _ (by omega) hK rfl rfl)⟩
    simp [results, Tryz.f17, go_sem, hc5]
end Go.Proofs.YtonlmnlpofgccaaGreat.Sm
