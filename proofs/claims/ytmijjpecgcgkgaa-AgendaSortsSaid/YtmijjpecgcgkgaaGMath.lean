/-
  Lists of events: equal ones are accepted alike, and a list stays in order when an event is put in its place.
-/
import Derived.Test.YtmijjpecgcgkgaaGDrop2
import Derived.Test.YtmijjpecgcgkgaaGPut2
namespace Go.Proofs.Ytmijjpecgcgkgaa.Ag
open Go.RowKit
set_option maxHeartbeats 1000000
theorem allI_congr {V W : Nat → Int} {n : Nat} (h : ∀ i, i < n → V i = W i) : allI V n = allI W n := by
  induction n with
  | zero => rfl
  | succ m ih =>
    show (allI V m && inI (V m)) = (allI W m && inI (W m))
    rw [ih (fun i hi => h i (by omega)), h m (by omega)]
theorem Eqv.ev {x y : Ev} (h : Eqv x y) : evE x = evE y := by
  obtain ⟨h0, h1, h2, h3, h4, h5, h6, h7, h8, h9⟩ := h
  unfold evE rngB
  rw [h0, h1, h2, h3, h4, h5, h6, h7, h8, allI_congr (fun i hi => h9 i (by omega))]
theorem Good.congr {E F : Nat → Ev} {n : Nat} (h : Good E n) (he : ∀ i, i < n → Eqv (F i) (E i)) : Good F n :=
  ⟨h.1, fun i hi => by rw [(he i hi).ev]; exact h.2.1 i hi, fun i hi => ((he i (by omega)).lt (he (i + 1) hi)).2 (h.2.2 i hi)⟩
theorem cnt_false {E : Nat → Ev} {x : Ev} {n q : Nat} (h1 : cnt E x n ≤ q) (h2 : q < n) : ltB (E q) x = false := by
  induction n with
  | zero => omega
  | succ m ih =>
    have e : cnt E x (m + 1) = if ltB (E m) x = true then m + 1 else cnt E x m := rfl
    rw [e] at h1
    cases h : ltB (E m) x
    · rw [h, if_neg (by decide)] at h1
      by_cases g : q = m
      · subst g; exact h
      · exact ih h1 (by omega)
    · rw [h, if_pos rfl] at h1; omega
theorem cnt_last {E : Nat → Ev} {x : Ev} {n : Nat} (h : 0 < cnt E x n) : ltB (E (cnt E x n - 1)) x = true := by
  induction n with
  | zero => exact absurd h (Nat.not_lt_zero _)
  | succ m ih =>
    have e : cnt E x (m + 1) = if ltB (E m) x = true then m + 1 else cnt E x m := rfl
    rw [e] at h ⊢
    cases g : ltB (E m) x
    · rw [g, if_neg (by decide)] at h
      rw [if_neg (by decide)]
      exact ih h
    · rw [if_pos rfl]; exact g
theorem cnt_true {E : Nat → Ev} {x : Ev} {n q : Nat} (hG : Good E n) (h : q < cnt E x n) : ltB (E q) x = true := by
  have hl := cnt_last (E := E) (x := x) (n := n) (by omega)
  by_cases e : q = cnt E x n - 1
  · rw [e]; exact hl
  · have hle := cnt_le (E := E) (x := x) (n := n)
    rw [ltB_iff]
    exact (hG.lt (by omega : q < cnt E x n - 1) (by omega)).trans (ltB_iff.1 hl)
theorem fnd_false {E : Nat → Ev} {x : Ev} {n q : Nat} (h : fnd E x n = false) (hq : q < n) : ¬ Tie (E q) x := by
  intro ht
  have : fnd E x n = true := fnd_iff.2 ⟨q, hq, ht⟩
  rw [h] at this
  cases this
theorem ins_good {E : Nat → Ev} {x : Ev} {n : Nat} (hG : Good E n) (he : evE x = 0) (hf : fnd E x n = false) (hn : n ≠ 5000) : Good (insE E (cnt E x n) x) (n + 1) := by
  have hle := cnt_le (E := E) (x := x) (n := n)
  have hlo := fun q hq => ltB_iff.1 (cnt_true (q := q) (x := x) hG hq)
  have hhi : ∀ q, cnt E x n ≤ q → q < n → Lt x (E q) := fun q h1 h2 => Lt.total (ltB_false.1 (cnt_false h1 h2)) (fnd_false hf h2)
  generalize cnt E x n = a at *
  have h5 := hG.1
  refine ⟨by omega, fun i hi => insE_all (P := fun y => evE y = 0) hle hG.2.1 he i hi, fun i hi => ?_⟩
  unfold insE
  rcases Nat.lt_trichotomy (i + 1) a with h | h | h
  · rw [if_pos (by omega), if_pos h]; exact hG.2.2 i (by omega)
  · rw [if_pos (by omega), if_neg (by omega), if_pos h]; exact hlo i (by omega)
  · rw [if_neg (by omega : ¬ i + 1 < a), if_neg (by omega : ¬ i + 1 = a), Nat.add_sub_cancel]
    by_cases e : i = a
    · rw [if_neg (by omega), if_pos e]; exact hhi i (by omega) (by omega)
    · rw [if_neg (by omega), if_neg e]
      have := hG.2.2 (i - 1) (by omega)
      rwa [show i - 1 + 1 = i by omega] at this
theorem upn_congr {E F : Nat → Ev} {t : Int} {n : Nat} (h : ∀ i, i < n → (F i).t = (E i).t) : upn F t n = upn E t n := by
  induction n with
  | zero => rfl
  | succ m ih =>
    show (if upn F t m = m then (if (F m).t ≤ t then m + 1 else m) else upn F t m) = (if upn E t m = m then (if (E m).t ≤ t then m + 1 else m) else upn E t m)
    rw [ih (fun i hi => h i (by omega)), h m (by omega)]
theorem idx_congr {E F : Nat → Ev} {v : Int} {n : Nat} (h : ∀ i, i < n → Eqv (F i) (E i)) : idx F v n = idx E v n := by
  induction n with
  | zero => rfl
  | succ m ih =>
    have hm := h m (by omega)
    show (match idx F v m with | some i => some i | none => if resB (F m) v = true then some m else none) = (match idx E v m with | some i => some i | none => if resB (E m) v = true then some m else none)
    rw [ih (fun i hi => h i (by omega))]
    unfold resB
    rw [hm.2.2.2.2.2.1, hm.2.2.2.2.2.2.1]
/-- The law's event at a time, with a number, for a process. -/
def atEv (t s a : Int) : Ev := ⟨t, 1, 0, s, 0, 2, a, 0, none, 0, 0, fun _ => 0⟩
theorem at_any (t s a : Int) (w : World) : Calls Try.prog 27 #[.int .i64 t, .int .i64 s, .int .i64 a] w (Gives (.agg #[.int .i64 t, .int .i64 1, .int .i64 0, .int .i64 s, .int .i64 0, .int .i64 2, .int .i64 a, .int .i64 0, .slice none 0 0]) w) := by
  go_enter Try.func27, Try.ntmps27
  go_wp2_with fail
  exact bodyPost_ret (v := .agg #[.int .i64 t, .int .i64 1, .int .i64 0, .int .i64 s, .int .i64 0, .int .i64 2, .int .i64 a, .int .i64 0, .slice none 0 0]) (by simp [results, Try.results27, go_sem]) rfl ⟨rfl, by (repeat (first | (with_reducible exact Below.refl _ _) | (with_reducible assumption) | (with_reducible apply bl_alloc) | (with_reducible apply bl_drewN) | (with_reducible apply bl_drew) | (with_reducible refine bl_set ?_ (by first | (simp; done) | (simp; omega)) _) | (with_reducible refine bl_call ?_ (by assumption))))⟩
end Go.Proofs.Ytmijjpecgcgkgaa.Ag
