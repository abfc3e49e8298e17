/-
  How a text is walked rune by rune, and the contracts of span and of the four tests that it is handed.
-/
import Derived.Test.YtilnojcbebchdaaDoorLxBase
namespace Go.Proofs.YtilnojcbebchdaaDoor.Lx
open Go.RowKit
set_option maxHeartbeats 1000000
set_option linter.unusedVariables false
theorem get_bang (s : ByteArray) (p : Nat) (h : p < s.size) : s.get! p = s[p]'h := by
  simp [ByteArray.get!, getElem!_pos, h]
  rfl
/-- What a rune takes beyond its first byte are no bytes of ASCII. -/
theorem dec_more (s : ByteArray) (pos : Nat) (h : pos < s.size) : 1 ≤ (Utf8.decode s pos).2 ∧ pos + (Utf8.decode s pos).2 ≤ s.size ∧ ∀ j, 1 ≤ j → j < (Utf8.decode s pos).2 → (g : pos + j < s.size) → 128 ≤ (s[pos + j]'g).toNat := by
  have key : ∀ k, (decide (pos + k < s.size) && (s.get! (pos + k)).toNat / 64 == 2) = true → pos + k < s.size ∧ ((g : pos + k < s.size) → 128 ≤ (s[pos + k]'g).toNat) := by
    intro k hk
    simp only [Bool.and_eq_true, decide_eq_true_eq, beq_iff_eq] at hk
    refine ⟨hk.1, fun g => ?_⟩
    have := hk.2
    rw [get_bang s _ g] at this
    omega
  unfold Utf8.decode
  simp only
  split
  · exact ⟨Nat.le_refl _, h, fun j h1 h2 => by omega⟩
  split
  · rename_i h2
    have h2' := (Bool.and_eq_true _ _ ▸ h2 : _ ∧ _).2
    obtain ⟨a1, b1⟩ := key 1 h2'
    split
    · refine ⟨by omega, a1, fun j hj1 hj2 g => ?_⟩
      have hj2 : j < 2 := hj2
      obtain rfl : j = 1 := by omega
      exact b1 g
    · exact ⟨Nat.le_refl _, h, fun j h1 h2 => by omega⟩
  split
  · rename_i h2
    simp only [Bool.and_eq_true] at h2
    obtain ⟨a1, b1⟩ := key 1 (by simpa using h2.1.2)
    obtain ⟨a2, b2⟩ := key 2 (by simpa using h2.2)
    split
    · refine ⟨by omega, a2, fun j hj1 hj2 g => ?_⟩
      have hj2 : j < 3 := hj2
      rcases (by omega : j = 1 ∨ j = 2) with rfl | rfl
      · exact b1 g
      · exact b2 g
    · exact ⟨Nat.le_refl _, h, fun j h1 h2 => by omega⟩
  split
  · rename_i h2
    simp only [Bool.and_eq_true] at h2
    obtain ⟨a1, b1⟩ := key 1 (by simpa using h2.1.1.2)
    obtain ⟨a2, b2⟩ := key 2 (by simpa using h2.1.2)
    obtain ⟨a3, b3⟩ := key 3 (by simpa using h2.2)
    split
    · refine ⟨by omega, a3, fun j hj1 hj2 g => ?_⟩
      have hj2 : j < 4 := hj2
      rcases (by omega : j = 1 ∨ j = 2 ∨ j = 3) with rfl | rfl | rfl
      · exact b1 g
      · exact b2 g
      · exact b3 g
    · exact ⟨Nat.le_refl _, h, fun j h1 h2 => by omega⟩
  · exact ⟨Nat.le_refl _, h, fun j h1 h2 => by omega⟩
/-- A test of runes, as a test of bytes: all that is no ASCII fares alike. -/
structure Fair (P : Int → Bool) (p : UInt8 → Bool) : Prop where
  low : ∀ c : UInt8, p c = P (c.toNat : Int)
  high : ∀ x : Int, 128 ≤ x → P x = P 128
theorem fair_ltr : Fair ltrI ltrC := ⟨fun _ => rfl, fun x hx => by unfold ltrI; rw [decide_eq_false (by omega : ¬ x ≤ 122), Bool.and_false]; decide⟩
theorem fair_dig : Fair digI digC := ⟨fun _ => rfl, fun x hx => by unfold digI; rw [decide_eq_false (by omega : ¬ x ≤ 57), Bool.and_false]; decide⟩
theorem fair_wrd : Fair wrdI wrdC := ⟨fun _ => rfl, fun x hx => by unfold wrdI; rw [fair_ltr.high x hx, fair_dig.high x hx, decide_eq_false (by omega : ¬ x = 95)]; decide⟩
theorem fair_inl : Fair inlI inlC := ⟨fun _ => rfl, fun x hx => by unfold inlI; rw [decide_eq_false (by omega : ¬ x = 10)]; decide⟩
/-- The first k bytes belong to it. -/
def All (p : UInt8 → Bool) (l : List UInt8) (k : Nat) : Prop := ∀ j, j < k → (h : j < l.length) → p l[j] = true
theorem fair_yes {P : Int → Bool} {p : UInt8 → Bool} (F : Fair P p) {s : ByteArray} {pos : Nat} (h : pos < s.size) (hA : All p (bs s) pos) (e : P ((Utf8.decode s pos).1 : Int) = true) : All p (bs s) (pos + (Utf8.decode s pos).2) := by
  intro j hj hl
  rcases Nat.lt_or_ge j pos with h1 | h1
  · exact hA j h1 hl
  rw [bs_len] at hl
  by_cases ha : (s[pos]'h).toNat < 128
  · rw [decode_ascii s pos h ha] at e hj
    have hj : j < pos + 1 := hj
    obtain rfl : j = pos := by omega
    rw [F.low]; exact e
  · have e1 := decode_high s pos h (by omega)
    rw [F.high _ (by have := e1.1; omega)] at e
    have hb : 128 ≤ (s[j]'hl).toNat := by
      obtain ⟨i, rfl⟩ : ∃ i, j = pos + i := ⟨j - pos, by omega⟩
      by_cases hi : i = 0
      · subst hi; simp only [Nat.add_zero]; omega
      · exact (dec_more s pos h).2.2 i (by omega) (by omega) hl
    rw [F.low]
    show P (((s[j]'hl).toNat : Nat) : Int) = true
    rw [F.high _ (by omega)]
    exact e
theorem fair_no {P : Int → Bool} {p : UInt8 → Bool} (F : Fair P p) {s : ByteArray} {pos : Nat} (h : pos < s.size) (hA : All p (bs s) pos) (e : P ((Utf8.decode s pos).1 : Int) = false) : spn p (bs s) = pos := by
  refine spn_hit (by rw [bs_len]; exact h) hA ?_
  rw [F.low]
  show P (((s[pos]'h).toNat : Nat) : Int) = false
  by_cases ha : (s[pos]'h).toNat < 128
  · rw [decode_ascii s pos h ha] at e
    exact e
  · have e1 := decode_high s pos h (by omega)
    rw [F.high _ (by have := e1.1; omega)] at e
    rw [F.high _ (by omega)]
    exact e
theorem fair_end {p : UInt8 → Bool} {s : ByteArray} {pos : Nat} (h : s.size ≤ pos) (hA : All p (bs s) pos) : spn p (bs s) = s.size := by
  rw [spn_all fun j hj => hA j (by rw [bs_len] at hj; omega) hj, bs_len]
theorem letter_any (x : Int) (w : World) : Calls Tryd.prog 66 #[.int .i32 x] w fun e w' => e = .returned (.bool (ltrI x)) ∧ w' = w := by
  unfold ltrI
  by_cases h1 : 97 ≤ x
  · have t1 : decide (97 ≤ x) = true := decide_eq_true h1
    by_cases h2 : x ≤ 122
    · have t2 : decide (x ≤ 122) = true := decide_eq_true h2
      rw [t1, t2]
      go_enter Tryd.func66, Tryd.ntmps66
      go_wp2_with fail
      go_ret
      exact ⟨rfl, rfl⟩
    · have t2 : decide (x ≤ 122) = false := decide_eq_false h2
      rw [t1, t2]
      go_enter Tryd.func66, Tryd.ntmps66
      go_wp2_with fail
      go_ret
      exact ⟨rfl, rfl⟩
  · have t1 : decide (97 ≤ x) = false := decide_eq_false h1
    rw [t1, Bool.false_and]
    go_enter Tryd.func66, Tryd.ntmps66
    go_wp2_with fail
    go_ret
    exact ⟨rfl, rfl⟩
theorem digit_any (x : Int) (w : World) : Calls Tryd.prog 55 #[.int .i32 x] w fun e w' => e = .returned (.bool (digI x)) ∧ w' = w := by
  unfold digI
  by_cases h1 : 48 ≤ x
  · have t1 : decide (48 ≤ x) = true := decide_eq_true h1
    by_cases h2 : x ≤ 57
    · have t2 : decide (x ≤ 57) = true := decide_eq_true h2
      rw [t1, t2]
      go_enter Tryd.func55, Tryd.ntmps55
      go_wp2_with fail
      go_ret
      exact ⟨rfl, rfl⟩
    · have t2 : decide (x ≤ 57) = false := decide_eq_false h2
      rw [t1, t2]
      go_enter Tryd.func55, Tryd.ntmps55
      go_wp2_with fail
      go_ret
      exact ⟨rfl, rfl⟩
  · have t1 : decide (48 ≤ x) = false := decide_eq_false h1
    rw [t1, Bool.false_and]
    go_enter Tryd.func55, Tryd.ntmps55
    go_wp2_with fail
    go_ret
    exact ⟨rfl, rfl⟩
theorem letter_at {x : Int} {b : Bool} (h : ltrI x = b) (w : World) : Calls Tryd.prog 66 #[.int .i32 x] w fun e w' => e = .returned (.bool b) ∧ w' = w := by rw [← h]; exact letter_any x w
theorem digit_at {x : Int} {b : Bool} (h : digI x = b) (w : World) : Calls Tryd.prog 55 #[.int .i32 x] w fun e w' => e = .returned (.bool b) ∧ w' = w := by rw [← h]; exact digit_any x w
theorem inword_any (x : Int) (w : World) : Calls Tryd.prog 67 #[.int .i32 x] w fun e w' => e = .returned (.bool (wrdI x)) ∧ w' = w := by
  unfold wrdI
  cases h1 : ltrI x with
  | true =>
    have I1 := letter_at h1 w
    go_enter Tryd.func67, Tryd.ntmps67
    go_wp2_with (go_at_call 66; refine I1.mono ?_; rintro e w1 ⟨rfl, rfl⟩)
    go_ret
    exact ⟨rfl, rfl⟩
  | false =>
    have I1 := letter_at h1 w
    cases h2 : digI x with
    | true =>
      have I2 := digit_at h2 w
      go_enter Tryd.func67, Tryd.ntmps67
      go_wp2_with (first | (go_at_call 66; refine I1.mono ?_; rintro e w1 ⟨rfl, rfl⟩) | (go_at_call 55; refine I2.mono ?_; rintro e w1 ⟨rfl, rfl⟩))
      go_ret
      exact ⟨rfl, rfl⟩
    | false =>
      have I2 := digit_at h2 w
      go_enter Tryd.func67, Tryd.ntmps67
      go_wp2_with (first | (go_at_call 66; refine I1.mono ?_; rintro e w1 ⟨rfl, rfl⟩) | (go_at_call 55; refine I2.mono ?_; rintro e w1 ⟨rfl, rfl⟩))
      go_ret
      exact ⟨ret_bool (by by_cases h : x = 95 <;> simp [h]), rfl⟩
theorem inline_any (x : Int) (w : World) : Calls Tryd.prog 40 #[.int .i32 x] w fun e w' => e = .returned (.bool (inlI x)) ∧ w' = w := by
  have HD : Hid (inlI x = !decide (x = 10)) := Lib.hid rfl
  go_enter Tryd.func40, Tryd.ntmps40
  go_wp2_with fail
  go_ret
  exact ⟨ret_bool (by rw [HD.out]; by_cases h : x = 10 <;> simp [h]), rfl⟩
theorem span_ltr (s : ByteArray) (w : World) (hs : s.size ≤ 9223372036854775807) : Calls Tryd.prog 39 #[.string s, .func (.func 66) #[] #[]] w (Gives (.int .i64 ((spn ltrC (bs s) : Nat) : Int)) w) := by
  have hs' : (s.size : Int) ≤ 9223372036854775807 := by omega
  go_enter Tryd.func39, Tryd.ntmps39
  go_wp2_with fail
  go_loopw [] (fun wr => ∃ pos : Nat, pos ≤ s.size ∧ wr = w.iter s pos ∧ Hid (All ltrC (bs s) pos)) (fun wr => s.size - wr.iterPos w.heap.size)
  case atStart => exact ⟨0, Nat.zero_le _, rfl, Lib.hid fun j hj => absurd hj (Nat.not_lt_zero _)⟩
  case round =>
    obtain ⟨pos, hp, rfl, HA⟩ := hrel
    have hbl : Below w.heap.size w (w.iter s pos) := bl_alloc (Below.refl _ _)
    by_cases h : pos < s.size
    · have hnx := fun ty => run_next_any (P := Tryd.prog) w s pos ty h
      have hd := decode_le s pos
      obtain ⟨m1, m2, -⟩ := dec_more s pos h
      have HY := Lib.hid (fun e => fair_yes fair_ltr h HA.out e)
      have HN := Lib.hid (fun e => fair_no fair_ltr h HA.out e)
      obtain ⟨R, hR⟩ : ∃ R, (Utf8.decode s pos).1 = R := ⟨_, rfl⟩
      obtain ⟨M, hM⟩ : ∃ M, (Utf8.decode s pos).2 = M := ⟨_, rfl⟩
      rw [hR] at hd HY HN
      rw [hM] at m1 m2 HY
      simp only [hR, hM] at hnx
      clear hR hM
      have hbl2 : Below w.heap.size w (w.iter s (pos + M)) := bl_alloc (Below.refl _ _)
      cases hv : ltrI (R : Int) with
      | true =>
        have HY2 := Lib.hid (HY.out hv)
        have I1 := letter_any (R : Int) (w.iter s (pos + M))
        rw [hv] at I1
        clear HY HN hv
        go_wp2_with fail
        refine I1.mono ?_
        rintro e w1 ⟨rfl, rfl⟩
        go_wp2_with fail
        go_roundw
        case rel => exact ⟨pos + M, m2, rfl, HY2⟩
        case measure => simp only [World.iterPos_iter]; omega
      | false =>
        have HR := Lib.hid (HN.out hv)
        have I1 := letter_any (R : Int) (w.iter s (pos + M))
        rw [hv] at I1
        clear HY HN hv
        go_wp2_with fail
        refine I1.mono ?_
        rintro e w1 ⟨rfl, rfl⟩
        go_wp2_with fail
        go_ret
        exact ⟨ret_int (by rw [HR.out]), hbl2⟩
    · have hnx := fun ty => run_next_end (P := Tryd.prog) w s pos ty h
      have HR := Lib.hid (fair_end (by omega) HA.out)
      go_wp2_with fail
      go_ret
      exact ⟨ret_int (by rw [HR.out]), hbl⟩
theorem span_dig (s : ByteArray) (w : World) (hs : s.size ≤ 9223372036854775807) : Calls Tryd.prog 39 #[.string s, .func (.func 55) #[] #[]] w (Gives (.int .i64 ((spn digC (bs s) : Nat) : Int)) w) := by
  have hs' : (s.size : Int) ≤ 9223372036854775807 := by omega
  go_enter Tryd.func39, Tryd.ntmps39
  go_wp2_with fail
  go_loopw [] (fun wr => ∃ pos : Nat, pos ≤ s.size ∧ wr = w.iter s pos ∧ Hid (All digC (bs s) pos)) (fun wr => s.size - wr.iterPos w.heap.size)
  case atStart => exact ⟨0, Nat.zero_le _, rfl, Lib.hid fun j hj => absurd hj (Nat.not_lt_zero _)⟩
  case round =>
    obtain ⟨pos, hp, rfl, HA⟩ := hrel
    have hbl : Below w.heap.size w (w.iter s pos) := bl_alloc (Below.refl _ _)
    by_cases h : pos < s.size
    · have hnx := fun ty => run_next_any (P := Tryd.prog) w s pos ty h
      have hd := decode_le s pos
      obtain ⟨m1, m2, -⟩ := dec_more s pos h
      have HY := Lib.hid (fun e => fair_yes fair_dig h HA.out e)
      have HN := Lib.hid (fun e => fair_no fair_dig h HA.out e)
      obtain ⟨R, hR⟩ : ∃ R, (Utf8.decode s pos).1 = R := ⟨_, rfl⟩
      obtain ⟨M, hM⟩ : ∃ M, (Utf8.decode s pos).2 = M := ⟨_, rfl⟩
      rw [hR] at hd HY HN
      rw [hM] at m1 m2 HY
      simp only [hR, hM] at hnx
      clear hR hM
      have hbl2 : Below w.heap.size w (w.iter s (pos + M)) := bl_alloc (Below.refl _ _)
      cases hv : digI (R : Int) with
      | true =>
        have HY2 := Lib.hid (HY.out hv)
        have I1 := digit_any (R : Int) (w.iter s (pos + M))
        rw [hv] at I1
        clear HY HN hv
        go_wp2_with fail
        refine I1.mono ?_
        rintro e w1 ⟨rfl, rfl⟩
        go_wp2_with fail
        go_roundw
        case rel => exact ⟨pos + M, m2, rfl, HY2⟩
        case measure => simp only [World.iterPos_iter]; omega
      | false =>
        have HR := Lib.hid (HN.out hv)
        have I1 := digit_any (R : Int) (w.iter s (pos + M))
        rw [hv] at I1
        clear HY HN hv
        go_wp2_with fail
        refine I1.mono ?_
        rintro e w1 ⟨rfl, rfl⟩
        go_wp2_with fail
        go_ret
        exact ⟨ret_int (by rw [HR.out]), hbl2⟩
    · have hnx := fun ty => run_next_end (P := Tryd.prog) w s pos ty h
      have HR := Lib.hid (fair_end (by omega) HA.out)
      go_wp2_with fail
      go_ret
      exact ⟨ret_int (by rw [HR.out]), hbl⟩
theorem span_wrd (s : ByteArray) (w : World) (hs : s.size ≤ 9223372036854775807) : Calls Tryd.prog 39 #[.string s, .func (.func 67) #[] #[]] w (Gives (.int .i64 ((spn wrdC (bs s) : Nat) : Int)) w) := by
  have hs' : (s.size : Int) ≤ 9223372036854775807 := by omega
  go_enter Tryd.func39, Tryd.ntmps39
  go_wp2_with fail
  go_loopw [] (fun wr => ∃ pos : Nat, pos ≤ s.size ∧ wr = w.iter s pos ∧ Hid (All wrdC (bs s) pos)) (fun wr => s.size - wr.iterPos w.heap.size)
  case atStart => exact ⟨0, Nat.zero_le _, rfl, Lib.hid fun j hj => absurd hj (Nat.not_lt_zero _)⟩
  case round =>
    obtain ⟨pos, hp, rfl, HA⟩ := hrel
    have hbl : Below w.heap.size w (w.iter s pos) := bl_alloc (Below.refl _ _)
    by_cases h : pos < s.size
    · have hnx := fun ty => run_next_any (P := Tryd.prog) w s pos ty h
      have hd := decode_le s pos
      obtain ⟨m1, m2, -⟩ := dec_more s pos h
      have HY := Lib.hid (fun e => fair_yes fair_wrd h HA.out e)
      have HN := Lib.hid (fun e => fair_no fair_wrd h HA.out e)
      obtain ⟨R, hR⟩ : ∃ R, (Utf8.decode s pos).1 = R := ⟨_, rfl⟩
      obtain ⟨M, hM⟩ : ∃ M, (Utf8.decode s pos).2 = M := ⟨_, rfl⟩
      rw [hR] at hd HY HN
      rw [hM] at m1 m2 HY
      simp only [hR, hM] at hnx
      clear hR hM
      have hbl2 : Below w.heap.size w (w.iter s (pos + M)) := bl_alloc (Below.refl _ _)
      cases hv : wrdI (R : Int) with
      | true =>
        have HY2 := Lib.hid (HY.out hv)
        have I1 := inword_any (R : Int) (w.iter s (pos + M))
        rw [hv] at I1
        clear HY HN hv
        go_wp2_with fail
        refine I1.mono ?_
        rintro e w1 ⟨rfl, rfl⟩
        go_wp2_with fail
        go_roundw
        case rel => exact ⟨pos + M, m2, rfl, HY2⟩
        case measure => simp only [World.iterPos_iter]; omega
      | false =>
        have HR := Lib.hid (HN.out hv)
        have I1 := inword_any (R : Int) (w.iter s (pos + M))
        rw [hv] at I1
        clear HY HN hv
        go_wp2_with fail
        refine I1.mono ?_
        rintro e w1 ⟨rfl, rfl⟩
        go_wp2_with fail
        go_ret
        exact ⟨ret_int (by rw [HR.out]), hbl2⟩
    · have hnx := fun ty => run_next_end (P := Tryd.prog) w s pos ty h
      have HR := Lib.hid (fair_end (by omega) HA.out)
      go_wp2_with fail
      go_ret
      exact ⟨ret_int (by rw [HR.out]), hbl⟩
theorem span_inl (s : ByteArray) (w : World) (hs : s.size ≤ 9223372036854775807) : Calls Tryd.prog 39 #[.string s, .func (.func 40) #[] #[]] w (Gives (.int .i64 ((spn inlC (bs s) : Nat) : Int)) w) := by
  have hs' : (s.size : Int) ≤ 9223372036854775807 := by omega
  go_enter Tryd.func39, Tryd.ntmps39
  go_wp2_with fail
  go_loopw [] (fun wr => ∃ pos : Nat, pos ≤ s.size ∧ wr = w.iter s pos ∧ Hid (All inlC (bs s) pos)) (fun wr => s.size - wr.iterPos w.heap.size)
  case atStart => exact ⟨0, Nat.zero_le _, rfl, Lib.hid fun j hj => absurd hj (Nat.not_lt_zero _)⟩
  case round =>
    obtain ⟨pos, hp, rfl, HA⟩ := hrel
    have hbl : Below w.heap.size w (w.iter s pos) := bl_alloc (Below.refl _ _)
    by_cases h : pos < s.size
    · have hnx := fun ty => run_next_any (P := Tryd.prog) w s pos ty h
      have hd := decode_le s pos
      obtain ⟨m1, m2, -⟩ := dec_more s pos h
      have HY := Lib.hid (fun e => fair_yes fair_inl h HA.out e)
      have HN := Lib.hid (fun e => fair_no fair_inl h HA.out e)
      obtain ⟨R, hR⟩ : ∃ R, (Utf8.decode s pos).1 = R := ⟨_, rfl⟩
      obtain ⟨M, hM⟩ : ∃ M, (Utf8.decode s pos).2 = M := ⟨_, rfl⟩
      rw [hR] at hd HY HN
      rw [hM] at m1 m2 HY
      simp only [hR, hM] at hnx
      clear hR hM
      have hbl2 : Below w.heap.size w (w.iter s (pos + M)) := bl_alloc (Below.refl _ _)
      cases hv : inlI (R : Int) with
      | true =>
        have HY2 := Lib.hid (HY.out hv)
        have I1 := inline_any (R : Int) (w.iter s (pos + M))
        rw [hv] at I1
        clear HY HN hv
        go_wp2_with fail
        refine I1.mono ?_
        rintro e w1 ⟨rfl, rfl⟩
        go_wp2_with fail
        go_roundw
        case rel => exact ⟨pos + M, m2, rfl, HY2⟩
        case measure => simp only [World.iterPos_iter]; omega
      | false =>
        have HR := Lib.hid (HN.out hv)
        have I1 := inline_any (R : Int) (w.iter s (pos + M))
        rw [hv] at I1
        clear HY HN hv
        go_wp2_with fail
        refine I1.mono ?_
        rintro e w1 ⟨rfl, rfl⟩
        go_wp2_with fail
        go_ret
        exact ⟨ret_int (by rw [HR.out]), hbl2⟩
    · have hnx := fun ty => run_next_end (P := Tryd.prog) w s pos ty h
      have HR := Lib.hid (fair_end (by omega) HA.out)
      go_wp2_with fail
      go_ret
      exact ⟨ret_int (by rw [HR.out]), hbl⟩
end Go.Proofs.YtilnojcbebchdaaDoor.Lx
