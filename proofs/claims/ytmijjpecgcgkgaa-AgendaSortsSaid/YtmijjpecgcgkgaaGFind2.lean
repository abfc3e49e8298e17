/-
  The contracts of the closures of Drop and Upto, of slices.IndexFunc and of sort.Search at them.
-/
import Derived.Test.YtmijjpecgcgkgaaGFind
namespace Go.Proofs.Ytmijjpecgcgkgaa.Ag
open Go.RowKit
set_option maxHeartbeats 4000000
/-- The event lets the process go on. -/
def resB (x : Ev) (a : Int) : Bool := (x.k == 2) && (x.a == a)
theorem drop1_any (x : Ev) (a : Int) (B : Nat) (w : World) (hB : w.cell? ⟨B, 0, none⟩ = some (.int .i64 a)) (hl : B < w.heap.size) : Calls Try.prog 41 #[.agg #[.int .i64 x.t, .int .i64 x.p, .int .i64 x.f, .int .i64 x.s, .int .i64 x.st, .int .i64 x.k, .int .i64 x.a, .int .i64 x.b, .slice x.ap x.al x.ac], .pointer (some ⟨B, 0, none⟩)] w (Gives (.bool (resB x a)) w) := by
  unfold resB
  have hne : B ≠ w.heap.size := by omega
  cases h1 : (x.k == 2) <;> cases h2 : (x.a == a)
  all_goals
    go_enter Try.func41, Try.ntmps41
    go_wp2_with fail
    go_ret
    exact ⟨rfl, by (repeat (first | (with_reducible exact Below.refl _ _) | (with_reducible assumption) | (with_reducible apply bl_alloc) | (with_reducible apply bl_drewN) | (with_reducible apply bl_drew) | (with_reducible refine bl_set ?_ (by first | (simp; done) | (simp; omega)) _) | (with_reducible refine bl_call ?_ (by assumption))))⟩
/-- The first event from the left that lets the process go on, or none: n. -/
def idx (E : Nat → Ev) (a : Int) : Nat → Option Nat
  | 0 => none
  | k + 1 => match idx E a k with
    | some i => some i
    | none => if resB (E k) a = true then some k else none
theorem idx_stay {E : Nat → Ev} {a : Int} {k n i : Nat} (h : idx E a k = some i) (hk : k ≤ n) : idx E a n = some i := by
  induction n with
  | zero => obtain rfl : k = 0 := by omega
            exact h
  | succ m ih =>
    by_cases e : k = m + 1
    · subst e; exact h
    · have := ih (by omega)
      unfold idx
      rw [this]
theorem idx_next {E : Nat → Ev} {a : Int} {k : Nat} (h : idx E a k = none) : idx E a (k + 1) = if resB (E k) a = true then some k else none := by
  show (match idx E a k with | some i => some i | none => if resB (E k) a = true then some k else none) = _
  rw [h]
theorem idx_hit {E : Nat → Ev} {a : Int} {k n : Nat} (h : idx E a k = none) (h2 : resB (E k) a = true) (hk : k < n) : idx E a n = some k := idx_stay (by rw [idx_next h, if_pos h2]) hk
theorem idx_miss {E : Nat → Ev} {a : Int} {k : Nat} (h : idx E a k = none) (h2 : resB (E k) a = false) : idx E a (k + 1) = none := by rw [idx_next h, if_neg (by rw [h2]; decide)]
theorem idx_lt {E : Nat → Ev} {a : Int} {n i : Nat} (h : idx E a n = some i) : i < n := by
  induction n with
  | zero => cases h
  | succ m ih =>
    rcases e : idx E a m with - | j
    · rw [idx_next e] at h
      split at h
      · cases h; omega
      · cases h
    · rw [idx_stay e (Nat.le_succ m)] at h
      cases h
      have := ih e
      omega
def iI (o : Option Nat) : Int := match o with
  | some i => (i : Int)
  | none => -1
theorem index_any (p : Option Addr) (n c : Nat) (E : Nat → Ev) (a : Int) (B : Nat) (w : World) (hE : Evs w p n E) (hn : n ≤ 5000) (hB : w.cell? ⟨B, 0, none⟩ = some (.int .i64 a)) (hl : B < w.heap.size) :
    Calls Try.prog 40 #[.slice p n c, .func (.func 41) #[] #[.pointer (some ⟨B, 0, none⟩)]] w (Gives (.int .i64 (iI (idx E a n))) w) := by
  have HB := Lib.hid hB
  clear hB
  go_enter Try.func40, Try.ntmps40
  go_wp2_with fail
  go_loopw [8] (fun i wr => ∃ k : Nat, k ≤ n ∧ i = .int .i64 k ∧ Below w.heap.size w wr ∧ Hid (idx E a k = none)) (fun i _ => n - (intOf i).toNat)
  case atStart => exact ⟨0, Nat.zero_le _, rfl, Below.refl _ _, Lib.hid rfl⟩
  case round =>
    obtain ⟨k, hk, rfl, hb0, HA⟩ := hrel
    have c1 : (0 : Int) ≤ (k : Int) := by omega
    have n2 : (n : Int) ≤ 5000 := by omega
    rcases Nat.lt_or_ge k n with h | h
    · have c2 : (k : Int) < (n : Int) := by omega
      obtain ⟨hln, h0 | ⟨b, o, rfl, hb, hc⟩⟩ := hE
      · omega
      have CM := cell9.on hb0 hb (hc.out k h).1
      obtain ⟨e0, e1, e2, e3, e4, e5, e6, e7, e8⟩ := CM
      go_wp2_with fail
      refine (drop1_any (E k) a B _ ((hb0.cell (p := ⟨B, 0, none⟩) hl).trans HB.out) (Nat.lt_of_lt_of_le hl hb0.size)).mono ?_
      rintro e w1 ⟨rfl, hb1⟩
      clear e0 e1 e2 e3 e4 e5 e6 e7 e8
      cases hr : resB (E k) a
      · have H := Lib.hid (idx_miss HA.out hr)
        clear hr
        go_wp2_with fail
        go_roundw
        case rel => exact ⟨k + 1, by omega, by go_num, by (repeat (first | (with_reducible exact Below.refl _ _) | (with_reducible assumption) | (with_reducible apply bl_alloc) | (with_reducible apply bl_drewN) | (with_reducible apply bl_drew) | (with_reducible refine bl_set ?_ (by first | (simp; done) | (simp; omega)) _) | (with_reducible refine bl_call ?_ (by assumption)))), H⟩
        case measure => simp [intOf]; omega
      · have H := Lib.hid (idx_hit HA.out hr h)
        clear hr
        go_wp2_with fail
        go_ret
        exact ⟨ret_int (by rw [H.out]; rfl), by (repeat (first | (with_reducible exact Below.refl _ _) | (with_reducible assumption) | (with_reducible apply bl_alloc) | (with_reducible apply bl_drewN) | (with_reducible apply bl_drew) | (with_reducible refine bl_set ?_ (by first | (simp; done) | (simp; omega)) _) | (with_reducible refine bl_call ?_ (by assumption))))⟩
    · obtain rfl : n = k := by omega
      have c2 : (n : Int) ≤ (n : Int) := by omega
      go_wp2_with fail
      go_ret
      exact ⟨ret_int (by rw [HA.out]; rfl), by (repeat (first | (with_reducible exact Below.refl _ _) | (with_reducible assumption) | (with_reducible apply bl_alloc) | (with_reducible apply bl_drewN) | (with_reducible apply bl_drew) | (with_reducible refine bl_set ?_ (by first | (simp; done) | (simp; omega)) _) | (with_reducible refine bl_call ?_ (by assumption))))⟩
theorem upto1_any (b o n c i B C : Nat) (E : Nat → Ev) (t : Int) (w : World) (hb : w.cell? ⟨B, 0, none⟩ = some (.slice (some ⟨b, o, none⟩) n c)) (ht : w.cell? ⟨C, 0, none⟩ = some (.int .i64 t)) (hi : i < n) (hc : cell9 w b (o + i * 9) (E i)) :
    Calls Try.prog 39 #[.int .i64 i, .pointer (some ⟨B, 0, none⟩), .pointer (some ⟨C, 0, none⟩)] w (Quiet (.bool (decide (t < (E i).t))) w) := by
  have c1 : (0 : Int) ≤ (i : Int) := by omega
  have c2 : (i : Int) < (n : Int) := by omega
  obtain ⟨e0, e1, e2, e3, e4, e5, e6, e7, e8⟩ := hc
  go_enter Try.func39, Try.ntmps39
  go_wp2_with fail
  go_quiet (fail)
  go_wp2_with fail
  go_ret
  exact ⟨rfl, _, rfl⟩
/-- How many events from the left are not later than t. -/
def upn (E : Nat → Ev) (t : Int) : Nat → Nat
  | 0 => 0
  | k + 1 => if upn E t k = k then (if (E k).t ≤ t then k + 1 else k) else upn E t k
theorem upn_le {E : Nat → Ev} {t : Int} {n : Nat} : upn E t n ≤ n := by
  induction n with
  | zero => exact Nat.le_refl _
  | succ m ih =>
    show (if upn E t m = m then (if (E m).t ≤ t then m + 1 else m) else upn E t m) ≤ _
    by_cases h : upn E t m = m
    · rw [if_pos h]; by_cases g : (E m).t ≤ t
      · rw [if_pos g]; exact Nat.le_refl _
      · rw [if_neg g]; omega
    · rw [if_neg h]; omega
theorem upn_eq {E : Nat → Ev} {t : Int} {n i : Nat} (hi : i ≤ n) (h1 : ∀ q, q < i → (E q).t ≤ t) (h2 : i < n → t < (E i).t) : upn E t n = i := by
  induction n with
  | zero => obtain rfl : i = 0 := by omega
            rfl
  | succ m ih =>
    show (if upn E t m = m then (if (E m).t ≤ t then m + 1 else m) else upn E t m) = _
    by_cases e : i = m + 1
    · have hm : upn E t m = m := by
        subst e
        clear ih h2
        have : ∀ k, k ≤ m → upn E t k = k := by
          intro k
          induction k with
          | zero => intro _; rfl
          | succ r ihr =>
            intro hr
            show (if upn E t r = r then (if (E r).t ≤ t then r + 1 else r) else upn E t r) = _
            rw [if_pos (ihr (by omega)), if_pos (h1 r (by omega))]
        exact this m (Nat.le_refl _)
      rw [if_pos hm, if_pos (h1 m (by omega)), e]
    · have hm := ih (by omega) (fun h => h2 (by omega))
      rw [hm]
      by_cases g : i = m
      · subst g; rw [if_pos rfl, if_neg (by have := h2 (by omega); omega)]
      · rw [if_neg g]
theorem Good.le {E : Nat → Ev} {n : Nat} (h : Good E n) {i j : Nat} (hij : i ≤ j) (hj : j < n) : (E i).t ≤ (E j).t := by
  rcases Nat.lt_or_ge i j with g | g
  · have := h.lt g hj; unfold Lt at this; omega
  · obtain rfl : i = j := by omega
    exact Int.le_refl _
theorem ssearch_any (p : Option Addr) (n c B C : Nat) (E : Nat → Ev) (t : Int) (w : World) (hE : Evs w p n E) (hG : Good E n) (hB : w.cell? ⟨B, 0, none⟩ = some (.slice p n c)) (hC : w.cell? ⟨C, 0, none⟩ = some (.int .i64 t)) :
    Calls Try.prog 38 #[.int .i64 n, .func (.func 39) #[] #[.pointer (some ⟨B, 0, none⟩), .pointer (some ⟨C, 0, none⟩)]] w (Quiet (.int .i64 (upn E t n)) w) := by
  have hn := hG.1
  have HG := Lib.hid hG
  have HB := Lib.hid hB
  have HC := Lib.hid hC
  clear hB hC
  go_enter Try.func38, Try.ntmps38
  go_wp2_with fail
  go_loopw [5, 6] (fun a z wr => ∃ i j q : Nat, i ≤ j ∧ j ≤ n ∧ a = .int .i64 i ∧ z = .int .i64 j ∧ wr = w.drewN q ∧ Hid (∀ q, q < i → (E q).t ≤ t) ∧ Hid (∀ q, j ≤ q → q < n → t < (E q).t)) (fun a z _ => (intOf z).toNat - (intOf a).toNat)
  case atStart => exact ⟨0, n, 0, Nat.zero_le _, Nat.le_refl _, rfl, rfl, rfl, Lib.hid fun q hq => absurd hq (Nat.not_lt_zero _), Lib.hid fun q hq hq2 => by omega⟩
  case round =>
    obtain ⟨i, j, r, hij, hjn, rfl, rfl, rfl, H1, H2⟩ := hrel
    rcases Nat.lt_or_ge i j with h | h
    · obtain ⟨m, HM⟩ : ∃ m, Hid (m = (i + j) / 2) := ⟨_, Lib.hid rfl⟩
      have s0 : (0 : Int) ≤ (i : Int) + (j : Int) := by omega
      have s1 : (i : Int) + (j : Int) ≤ 10000 := by omega
      have s2 : (i : Int) < (j : Int) := by omega
      have hm : m < n := by have := HM.out; omega
      have s3 : ((i : Int) + (j : Int)) / 2 = (m : Int) := by have := HM.out; omega
      have m0 : (0 : Int) ≤ (m : Int) := by omega
      have m1 : (m : Int) < (n : Int) := by omega
      obtain ⟨hl, h0 | ⟨b, o, rfl, hb, hc⟩⟩ := hE
      · omega
      go_wp2_with fail
      refine (upto1_any b o n c m B C E t (w.drewN r) HB.out HC.out hm (show cell9 (w.drewN r) b (o + m * 9) (E m) from (hc.out m hm).1)).mono ?_
      rintro e w1 ⟨rfl, r1, rfl⟩
      by_cases ht : t < (E m).t
      · have H := Lib.hid ht
        have hd : decide (t < (E m).t) = true := decide_eq_true ht
        clear ht
        go_wp2_with fail
        go_roundw
        case rel => exact ⟨i, m, _, by have := HM.out; omega, by omega, rfl, by go_num, (by first | rfl | exact World.drewN_drewN _ _ _), H1, Lib.hid fun q hq hq2 => by
          have h3 := HG.out.le hq hq2
          have h4 := H.out
          omega⟩
        case measure => have := HM.out; simp [intOf]; omega
      · have H := Lib.hid ht
        have hd : decide (t < (E m).t) = false := decide_eq_false ht
        clear ht
        go_wp2_with fail
        go_roundw
        case rel => exact ⟨m + 1, j, _, by have := HM.out; omega, by omega, by go_num, rfl, (by first | rfl | exact World.drewN_drewN _ _ _), Lib.hid fun q hq => by
          have h3 := HG.out.le (by omega : q ≤ m) hm
          have h4 := H.out
          omega, H2⟩
        case measure => have := HM.out; simp [intOf]; omega
    · obtain rfl : i = j := by omega
      have HC := Lib.hid (upn_eq hjn H1.out (fun h => H2.out i (Nat.le_refl _) h))
      have c2 : (i : Int) ≤ (i : Int) := by omega
      go_wp2_with fail
      go_ret
      exact ⟨ret_int (by rw [HC.out]), _, rfl⟩
end Go.Proofs.Ytmijjpecgcgkgaa.Ag
