/-
  Where an event belongs in a list, and the contract of slices.BinarySearchFunc.
-/
import Derived.Test.YtmijjpecgcgkgaaGCheck
namespace Go.Proofs.Ytmijjpecgcgkgaa.Ag
open Go.RowKit
set_option maxHeartbeats 4000000
/-- Behind the last event that comes before x. -/
def cnt (E : Nat → Ev) (x : Ev) : Nat → Nat
  | 0 => 0
  | k + 1 => if ltB (E k) x = true then k + 1 else cnt E x k
/-- Whether an event has x's four numbers. -/
def fnd (E : Nat → Ev) (x : Ev) : Nat → Bool
  | 0 => false
  | k + 1 => fnd E x k || (cmpI (E k) x == 0)
theorem cnt_le {E : Nat → Ev} {x : Ev} {n : Nat} : cnt E x n ≤ n := by
  induction n with
  | zero => exact Nat.le_refl _
  | succ m ih =>
    show (if ltB (E m) x = true then m + 1 else cnt E x m) ≤ _
    by_cases h : ltB (E m) x = true
    · rw [if_pos h]; exact Nat.le_refl _
    · rw [if_neg h]; omega
theorem cnt_eq {E : Nat → Ev} {x : Ev} {n i : Nat} (hi : i ≤ n) (h1 : ∀ q, q < i → ltB (E q) x = true) (h2 : ∀ q, i ≤ q → q < n → ltB (E q) x = false) : cnt E x n = i := by
  induction n with
  | zero => obtain rfl : i = 0 := by omega
            rfl
  | succ m ih =>
    show (if ltB (E m) x = true then m + 1 else cnt E x m) = i
    by_cases e : i = m + 1
    · rw [if_pos (h1 m (by omega)), e]
    · rw [if_neg (by rw [h2 m (by omega) (by omega)]; decide)]
      exact ih (by omega) (fun q hq hq2 => h2 q hq (by omega))
theorem fnd_iff {E : Nat → Ev} {x : Ev} {n : Nat} : fnd E x n = true ↔ ∃ i, i < n ∧ Tie (E i) x := by
  induction n with
  | zero => exact ⟨fun h => (by cases h), fun ⟨i, hi, _⟩ => absurd hi (Nat.not_lt_zero _)⟩
  | succ m ih =>
    show (fnd E x m || (cmpI (E m) x == 0)) = true ↔ _
    rw [Bool.or_eq_true, ih, beq_iff_eq, cmpI_zero]
    constructor
    · rintro (⟨i, hi, h⟩ | h)
      · exact ⟨i, by omega, h⟩
      · exact ⟨m, by omega, h⟩
    · rintro ⟨i, hi, h⟩
      by_cases e : i = m
      · subst e; exact .inr h
      · exact .inl ⟨i, by omega, h⟩
theorem Tie.lt {x y z : Ev} (h : Lt x y) (g : Tie y z) : Lt x z := by unfold Lt Tie at *; omega
theorem fnd_eq {E : Nat → Ev} {x : Ev} {n i : Nat} (hG : Good E n) (h1 : ∀ q, q < i → ltB (E q) x = true) (h2 : ∀ q, i ≤ q → q < n → ltB (E q) x = false) : fnd E x n = (decide (i < n) && (cmpI (E i) x == 0)) := by
  rw [Bool.eq_iff_iff, fnd_iff, Bool.and_eq_true, decide_eq_true_eq, beq_iff_eq, cmpI_zero]
  constructor
  · rintro ⟨q, hq, ht⟩
    have hiq : i ≤ q := by
      rcases Nat.lt_or_ge q i with h | h
      · have := ltB_iff.1 (h1 q h)
        unfold Lt Tie at *; omega
      · exact h
    by_cases e : i = q
    · subst e; exact ⟨hq, ht⟩
    · have h3 := Tie.lt (hG.lt (by omega : i < q) hq) ht
      have h4 := h2 i (Nat.le_refl _) (by omega)
      rw [ltB_false] at h4
      exact absurd h3 h4
  · rintro ⟨h, ht⟩
    exact ⟨i, h, ht⟩
theorem keep18 {w' : World} {b o g : Nat} {y x : Ev} (h : cell9 w' b o y) (h2 : nine w' g x) : w'.cell? ⟨b, o, none⟩ = some (.int .i64 y.t) ∧ w'.cell? ⟨b, o + 1, none⟩ = some (.int .i64 y.p) ∧ w'.cell? ⟨b, o + 2, none⟩ = some (.int .i64 y.f) ∧ w'.cell? ⟨b, o + 3, none⟩ = some (.int .i64 y.s) ∧ w'.cell? ⟨b, o + 4, none⟩ = some (.int .i64 y.st) ∧ w'.cell? ⟨b, o + 5, none⟩ = some (.int .i64 y.k) ∧ w'.cell? ⟨b, o + 6, none⟩ = some (.int .i64 y.a) ∧ w'.cell? ⟨b, o + 7, none⟩ = some (.int .i64 y.b) ∧ w'.cell? ⟨b, o + 8, none⟩ = some (.slice y.ap y.al y.ac) ∧ w'.cell? ⟨g, 0, none⟩ = some (.int .i64 x.t) ∧ w'.cell? ⟨g, 1, none⟩ = some (.int .i64 x.p) ∧ w'.cell? ⟨g, 2, none⟩ = some (.int .i64 x.f) ∧ w'.cell? ⟨g, 3, none⟩ = some (.int .i64 x.s) ∧ w'.cell? ⟨g, 4, none⟩ = some (.int .i64 x.st) ∧ w'.cell? ⟨g, 5, none⟩ = some (.int .i64 x.k) ∧ w'.cell? ⟨g, 6, none⟩ = some (.int .i64 x.a) ∧ w'.cell? ⟨g, 7, none⟩ = some (.int .i64 x.b) ∧ w'.cell? ⟨g, 8, none⟩ = some (.slice x.ap x.al x.ac) := by
  obtain ⟨a0, a1, a2, a3, a4, a5, a6, a7, a8⟩ := h
  obtain ⟨b0, b1, b2, b3, b4, b5, b6, b7, b8, -⟩ := h2
  exact ⟨a0, a1, a2, a3, a4, a5, a6, a7, a8, b0, b1, b2, b3, b4, b5, b6, b7, b8⟩
theorem search_any (p : Option Addr) (n c : Nat) (E : Nat → Ev) (x : Ev) (w : World) (hE : Evs w p n E) (hG : Good E n) :
    Calls Try.prog 35 #[.slice p n c, .agg #[.int .i64 x.t, .int .i64 x.p, .int .i64 x.f, .int .i64 x.s, .int .i64 x.st, .int .i64 x.k, .int .i64 x.a, .int .i64 x.b, .slice x.ap x.al x.ac], .func (.func 28) #[] #[]] w (Gives (.tuple #[.int .i64 (cnt E x n), .bool (fnd E x n)]) w) := by
  have hn := hG.1
  have HG := Lib.hid hG
  have X0 : nine (w.alloc (.cells #[.int .i64 x.t, .int .i64 x.p, .int .i64 x.f, .int .i64 x.s, .int .i64 x.st, .int .i64 x.k, .int .i64 x.a, .int .i64 x.b, .slice x.ap x.al x.ac] 25)) w.heap.size x := nine.new
  go_enter Try.func35, Try.ntmps35
  go_wp2_with fail
  go_loopw [9, 10] (fun a z wr => ∃ i j : Nat, i ≤ j ∧ j ≤ n ∧ a = .int .i64 i ∧ z = .int .i64 j ∧ Below w.heap.size w wr ∧ nine wr w.heap.size x ∧ Hid (∀ q, q < i → ltB (E q) x = true) ∧ Hid (∀ q, j ≤ q → q < n → ltB (E q) x = false)) (fun a z _ => (intOf z).toNat - (intOf a).toNat)
  case atStart => exact ⟨0, n, Nat.zero_le _, Nat.le_refl _, rfl, rfl, by (repeat (first | (with_reducible exact Below.refl _ _) | (with_reducible assumption) | (with_reducible apply bl_alloc) | (with_reducible apply bl_drewN) | (with_reducible apply bl_drew) | (with_reducible refine bl_set ?_ (by first | (simp; done) | (simp; omega)) _) | (with_reducible refine bl_call ?_ (by assumption)))), X0, Lib.hid fun q hq => absurd hq (Nat.not_lt_zero _), Lib.hid fun q hq hq2 => by omega⟩
  case round =>
    obtain ⟨i, j, hij, hjn, rfl, rfl, hb0, XR, H1, H2⟩ := hrel
    rcases Nat.lt_or_ge i j with h | h
    · obtain ⟨m, HM⟩ : ∃ m, Hid (m = (i + j) / 2) := ⟨_, Lib.hid rfl⟩
      have s0 : (0 : Int) ≤ (i : Int) + (j : Int) := by omega
      have s1 : (i : Int) + (j : Int) ≤ 10000 := by omega
      have s2 : (i : Int) < (j : Int) := by omega
      have hm : m < n := by have := HM.out; omega
      have s3 : ((i : Int) + (j : Int)) / 2 = (m : Int) := by have := HM.out; omega
      have m0 : (0 : Int) ≤ (m : Int) := by omega
      have m1 : (m : Int) < (n : Int) := by omega
      obtain ⟨hl, h0 | ⟨b, o, rfl, hb, hc⟩⟩ := hE
      · omega
      have CM := cell9.on hb0 hb (hc.out m hm).1
      obtain ⟨e0, e1, e2, e3, e4, e5, e6, e7, e8⟩ := CM
      obtain ⟨x0, x1, x2, x3, x4, x5, x6, x7, x8, x9⟩ := XR
      have XR : nine _ _ _ := ⟨x0, x1, x2, x3, x4, x5, x6, x7, x8, x9⟩
      go_wp2_with fail
      refine region_still_tail 6 (by kernel_rfl) (by kernel_rfl) ?_
      simp only [List.take_succ_cons, List.take_zero, List.drop_succ_cons, List.drop_zero]
      iterate 6 still_step
      refine wpStill_nil ?_
      go_wp2_with fail
      refine (compareE_any (E m) x _).mono ?_
      rintro e w1 ⟨rfl, hb1⟩
      have BB : Below w.heap.size w w1 := by (repeat (first | (with_reducible exact Below.refl _ _) | (with_reducible assumption) | (with_reducible apply bl_alloc) | (with_reducible apply bl_drewN) | (with_reducible apply bl_drew) | (with_reducible refine bl_set ?_ (by first | (simp; done) | (simp; omega)) _) | (with_reducible refine bl_call ?_ (by assumption))))
      have X1 := nine.on hb1 XR
      clear e0 e1 e2 e3 e4 e5 e6 e7 e8 x0 x1 x2 x3 x4 x5 x6 x7 x8 x9
      cases hlt : ltB (E m) x
      · have hd : decide (cmpI (E m) x < 0) = false := hlt
        have H := Lib.hid hlt
        clear hlt
        go_wp2_with fail
        go_roundw
        case rel => exact ⟨i, m, by have := HM.out; omega, by omega, rfl, by go_num, BB, X1, H1, Lib.hid fun q hq hq2 => by
          rcases Nat.lt_or_ge q j with g | g
          · by_cases e : q = m
            · subst e; exact H.out
            · have h3 := (HG.out.lt (by omega : m < q) hq2)
              have h4 := ltB_false.1 H.out
              rw [ltB_false]
              exact fun h5 => h4 (h3.trans h5)
          · exact H2.out q g hq2⟩
        case measure => have := HM.out; simp [intOf]; omega
      · have hd : decide (cmpI (E m) x < 0) = true := hlt
        have H := Lib.hid hlt
        clear hlt
        go_wp2_with fail
        go_roundw
        case rel => exact ⟨m + 1, j, by have := HM.out; omega, by omega, by go_num, rfl, BB, X1, Lib.hid fun q hq => by
          by_cases e : q = m
          · subst e; exact H.out
          · have h3 := (HG.out.lt (by omega : q < m) hm)
            rw [ltB_iff]
            exact h3.trans (ltB_iff.1 H.out), H2⟩
        case measure => have := HM.out; simp [intOf]; omega
    · obtain rfl : i = j := by omega
      have HC := Lib.hid (cnt_eq hjn H1.out H2.out)
      have HF := Lib.hid (fnd_eq hG H1.out H2.out)
      clear hij h
      rcases Nat.lt_or_ge i n with h | h
      · have i0 : (0 : Int) ≤ (i : Int) := by omega
        have i1 : (i : Int) < (n : Int) := by omega
        have hd : decide (i < n) = true := by simp; exact h
        obtain ⟨hl, h0 | ⟨b, o, rfl, hb, hc⟩⟩ := hE
        · omega
        have CM := cell9.on hb0 hb (hc.out i h).1
        have hbr : b < wr.heap.size := Nat.lt_of_lt_of_le hb hb0.size
        have CMd : cell9 wr.drew b (o + i * 9) (E i) := CM
        have XRd : nine wr.drew w.heap.size x := XR
        go_wp2_with fail
        go_region_held3 (fun w' => w'.cell? ⟨b, o + i * 9, none⟩ = some (.int .i64 (E i).t) ∧ w'.cell? ⟨b, o + i * 9 + 1, none⟩ = some (.int .i64 (E i).p) ∧ w'.cell? ⟨b, o + i * 9 + 2, none⟩ = some (.int .i64 (E i).f) ∧ w'.cell? ⟨b, o + i * 9 + 3, none⟩ = some (.int .i64 (E i).s) ∧ w'.cell? ⟨b, o + i * 9 + 4, none⟩ = some (.int .i64 (E i).st) ∧ w'.cell? ⟨b, o + i * 9 + 5, none⟩ = some (.int .i64 (E i).k) ∧ w'.cell? ⟨b, o + i * 9 + 6, none⟩ = some (.int .i64 (E i).a) ∧ w'.cell? ⟨b, o + i * 9 + 7, none⟩ = some (.int .i64 (E i).b) ∧ w'.cell? ⟨b, o + i * 9 + 8, none⟩ = some (.slice (E i).ap (E i).al (E i).ac) ∧ w'.cell? ⟨w.heap.size, 0, none⟩ = some (.int .i64 x.t) ∧ w'.cell? ⟨w.heap.size, 1, none⟩ = some (.int .i64 x.p) ∧ w'.cell? ⟨w.heap.size, 2, none⟩ = some (.int .i64 x.f) ∧ w'.cell? ⟨w.heap.size, 3, none⟩ = some (.int .i64 x.s) ∧ w'.cell? ⟨w.heap.size, 4, none⟩ = some (.int .i64 x.st) ∧ w'.cell? ⟨w.heap.size, 5, none⟩ = some (.int .i64 x.k) ∧ w'.cell? ⟨w.heap.size, 6, none⟩ = some (.int .i64 x.a) ∧ w'.cell? ⟨w.heap.size, 7, none⟩ = some (.int .i64 x.b) ∧ w'.cell? ⟨w.heap.size, 8, none⟩ = some (.slice x.ap x.al x.ac)) (first | (with_reducible exact keep18 C1 X1) | (with_reducible exact keep18 CMd XRd) | (go_keep; done))
          ((go_at_call 28; refine (compareE_any (E i) x _).mono ?_; rintro e w1 ⟨rfl, hb1⟩; have X1 := nine.on hb1 XRd; have C1 := cell9.on hb1 hbr CMd))
        all_goals
          go_wp2_with fail
          go_ret2
          exact ⟨by rw [HC.out, HF.out, hd]; rfl, by (repeat (first | (with_reducible exact Below.refl _ _) | (with_reducible assumption) | (with_reducible apply bl_alloc) | (with_reducible apply bl_drewN) | (with_reducible apply bl_drew) | (with_reducible refine bl_set ?_ (by first | (simp; done) | (simp; omega)) _) | (with_reducible refine bl_call ?_ (by assumption))))⟩
      · have i1 : (n : Int) ≤ (i : Int) := by omega
        have hd : decide (i < n) = false := by simp; omega
        have h' : ¬ i < n := by omega
        go_wp2_with fail
        go_quiet (fail)
        go_wp2_with fail
        go_ret2
        exact ⟨by rw [HC.out, HF.out, hd]; rfl, by (repeat (first | (with_reducible exact Below.refl _ _) | (with_reducible assumption) | (with_reducible apply bl_alloc) | (with_reducible apply bl_drewN) | (with_reducible apply bl_drew) | (with_reducible refine bl_set ?_ (by first | (simp; done) | (simp; omega)) _) | (with_reducible refine bl_call ?_ (by assumption))))⟩
end Go.Proofs.Ytmijjpecgcgkgaa.Ag
