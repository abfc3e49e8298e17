/-
  The contract of the reference's longest.
-/
import Derived.Test.YtilnojcbebchdaaDoorLxRef2
namespace Go.Proofs.YtilnojcbebchdaaDoor.Lx
open Go.RowKit
set_option maxHeartbeats 2000000
set_option linter.unusedVariables false
def lgB (l : List UInt8) : Bool := isWd l || isDg l || isSg l
def bst (l : List UInt8) : Nat → Nat
  | 0 => 0
  | n + 1 => if lgB (l.take (n + 1)) = true then n + 1 else bst l n
/-- The size of the word, the digits or the sign at the beginning. -/
def tkN (l : List UInt8) : Nat := if wdN l ≠ 0 then wdN l else if spn digC l ≠ 0 then spn digC l else sgN l
theorem bst_le (l : List UInt8) : ∀ n, bst l n ≤ n
  | 0 => Nat.le_refl _
  | n + 1 => by
    show (if lgB (l.take (n + 1)) = true then n + 1 else bst l n) ≤ _
    split
    · exact Nat.le_refl _
    · have := bst_le l n; omega
theorem bst_yes {l : List UInt8} {n : Nat} (h : lgB (l.take (n + 1)) = true) : bst l (n + 1) = n + 1 := if_pos h
theorem bst_no {l : List UInt8} {n : Nat} (h : lgB (l.take (n + 1)) = false) : bst l (n + 1) = bst l n := if_neg (by simp [h])
theorem spn_cut {p : UInt8 → Bool} : ∀ (l : List UInt8) (n : Nat), spn p (l.take n) = min n (spn p l)
  | [], n => by simp [spn_nil]
  | c :: t, 0 => by simp [spn_nil]
  | c :: t, n + 1 => by
    rw [List.take_succ_cons]
    cases hc : p c with
    | false => rw [spn_no hc, spn_no hc]; omega
    | true => rw [spn_yes hc, spn_yes hc, spn_cut t n]; omega
theorem sg_start {l : List UInt8} (h : isSg l = true) : spn ltrC l = 0 ∧ spn digC l = 0 := by
  unfold isSg sgl at h
  simp only [List.contains_eq_mem, List.mem_cons, List.not_mem_nil, or_false, decide_eq_true_eq] at h
  rcases h with rfl | rfl | rfl | rfl | rfl | rfl | rfl | rfl | rfl | rfl | rfl | rfl | rfl | rfl | rfl | rfl <;> decide
theorem dg_iff {l : List UInt8} : isDg l = true ↔ l.length ≠ 0 ∧ spn digC l = l.length := by
  constructor
  · intro h
    unfold isDg at h
    simp only [Bool.and_eq_true, decide_eq_true_eq] at h
    exact ⟨fun e => h.1 (List.length_eq_zero_iff.1 e), spn_all fun j hj => List.all_eq_true.1 h.2 _ (List.getElem_mem hj)⟩
  · rintro ⟨h1, h2⟩
    rw [dg_all fun j hj hl => spn_in (by omega) hl, decide_eq_true_eq]
    omega
theorem wd_iff {l : List UInt8} : isWd l = true ↔ spn ltrC l ≠ 0 ∧ spn wrdC l = l.length := by
  unfold isWd
  simp only [Bool.and_eq_true, decide_eq_true_eq]
theorem lg_iff {l : List UInt8} : lgB l = true ↔ (spn ltrC l ≠ 0 ∧ spn wrdC l = l.length) ∨ (l.length ≠ 0 ∧ spn digC l = l.length) ∨ isSg l = true := by
  unfold lgB
  rw [Bool.or_eq_true, Bool.or_eq_true, wd_iff, dg_iff, or_assoc]
theorem ltr_nodig {l : List UInt8} (h : spn ltrC l ≠ 0) : spn digC l = 0 := by
  obtain ⟨c, t, rfl, hc⟩ := spn_pos h
  refine spn_no ?_
  rw [← Bool.not_eq_true]
  intro g
  have := dig_nat g
  unfold ltrC ltrI at hc
  simp only [Bool.and_eq_true, decide_eq_true_eq] at hc
  omega
theorem bst_down {l : List UInt8} {K : Nat} (h : ∀ n, n ≤ l.length → (lgB (l.take n) = true ↔ 1 ≤ n ∧ n ≤ K)) : ∀ n, n ≤ l.length → bst l n = min n K
  | 0, _ => by show 0 = _; omega
  | n + 1, hn => by
    have ih := bst_down h n (by omega)
    by_cases g : lgB (l.take (n + 1)) = true
    · rw [bst_yes g]; have := (h (n + 1) hn).1 g; omega
    · rw [bst_no (by simpa using g), ih]
      have : ¬ (n + 1 ≤ K) := fun e => g ((h (n + 1) hn).2 ⟨by omega, e⟩)
      omega
theorem take_len {l : List UInt8} {n : Nat} (h : n ≤ l.length) : (l.take n).length = n := by rw [List.length_take]; omega
theorem lg_word {l : List UInt8} (h : spn ltrC l ≠ 0) (n : Nat) (hn : n ≤ l.length) : lgB (l.take n) = true ↔ 1 ≤ n ∧ n ≤ spn wrdC l := by
  rw [lg_iff, spn_cut, spn_cut, spn_cut, take_len hn, ltr_nodig h]
  constructor
  · rintro (⟨g1, g2⟩ | ⟨g1, g2⟩ | g)
    · omega
    · omega
    · have := (sg_start g).1
      have e := isSg_len g
      rw [take_len hn] at e
      rw [spn_cut] at this
      omega
  · rintro ⟨g1, g2⟩
    exact .inl ⟨by omega, by omega⟩
theorem lg_dig {l : List UInt8} (h : spn ltrC l = 0) (h2 : spn digC l ≠ 0) (n : Nat) (hn : n ≤ l.length) : lgB (l.take n) = true ↔ 1 ≤ n ∧ n ≤ spn digC l := by
  rw [lg_iff, spn_cut, spn_cut, spn_cut, take_len hn, h]
  constructor
  · rintro (⟨g1, g2⟩ | ⟨g1, g2⟩ | g)
    · omega
    · omega
    · have := (sg_start g).2
      have e := isSg_len g
      rw [take_len hn] at e
      rw [spn_cut] at this
      omega
  · rintro ⟨g1, g2⟩
    exact .inr (.inl ⟨by omega, by omega⟩)
theorem lg_sign {l : List UInt8} (h : spn ltrC l = 0) (h2 : spn digC l = 0) (n : Nat) (hn : n ≤ l.length) : lgB (l.take n) = isSg (l.take n) := by
  rw [Bool.eq_iff_iff, lg_iff, spn_cut, spn_cut, spn_cut, take_len hn, h, h2]
  constructor
  · rintro (⟨g1, g2⟩ | ⟨g1, g2⟩ | g)
    · omega
    · omega
    · exact g
  · exact fun g => .inr (.inr g)
theorem bst_sign {l : List UInt8} (h : spn ltrC l = 0) (h2 : spn digC l = 0) : ∀ n, n ≤ l.length → (l.length ≤ n ∨ 2 ≤ n) → bst l n = sgN l
  | 0, hn, hm => by
    have : l = [] := List.length_eq_zero_iff.1 (by omega)
    subst this
    decide
  | 1, hn, hm => by
    have hl : l.length = 1 := by omega
    show (if lgB (l.take 1) = true then 1 else 0) = _
    rw [lg_sign h h2 1 hn]
    unfold sgN
    rw [if_neg (c := 2 ≤ l.length ∧ _) (by omega)]
  | 2, hn, hm => by
    show (if lgB (l.take 2) = true then 2 else if lgB (l.take 1) = true then 1 else 0) = _
    rw [lg_sign h h2 2 hn, lg_sign h h2 1 (by omega)]
    unfold sgN
    by_cases g : isSg (l.take 2) = true
    · rw [if_pos g, if_pos ⟨hn, g⟩]
    · rw [if_neg g, if_neg (c := 2 ≤ l.length ∧ _) (fun e => g e.2)]
  | n + 3, hn, hm => by
    have g : lgB (l.take (n + 3)) = false := by
      rw [lg_sign h h2 _ hn, ← Bool.not_eq_true]
      intro e
      have := isSg_len e
      rw [take_len hn] at this
      omega
    rw [bst_no g]
    exact bst_sign h h2 (n + 2) (by omega) (.inr (by omega))
theorem wdN_eq {l : List UInt8} (h : spn ltrC l ≠ 0) : wdN l = spn wrdC l ∧ spn wrdC l ≠ 0 := by
  obtain ⟨c, t, rfl, hc⟩ := spn_pos h
  unfold wdN
  rw [if_neg h]
  have := spn_one (p := wrdC) (c := c) (t := t) (wrd_ltr hc)
  exact ⟨rfl, by omega⟩
theorem tkN_eq {l : List UInt8} {n : Nat} (hn : n ≤ l.length) (hm : l.length ≤ n ∨ (3 ≤ n ∧ lgB (l.take n) = false)) : bst l n = tkN l := by
  unfold tkN
  by_cases h : spn ltrC l = 0
  · have hw : wdN l = 0 := by unfold wdN; rw [if_pos h]
    rw [if_neg (by omega)]
    by_cases h2 : spn digC l = 0
    · rw [if_neg (by omega)]
      exact bst_sign h h2 n hn (by omega)
    · rw [if_pos h2, bst_down (lg_dig h h2) n hn]
      have hK := spn_le digC l
      rcases hm with g | ⟨g1, g2⟩
      · omega
      · have : ¬ n ≤ spn digC l := fun e => by
          have := (lg_dig h h2 n hn).2 ⟨by omega, e⟩
          rw [g2] at this; cases this
        omega
  · obtain ⟨e1, e2⟩ := wdN_eq h
    rw [e1, if_pos e2, bst_down (lg_word h) n hn]
    have hK := spn_le wrdC l
    rcases hm with g | ⟨g1, g2⟩
    · omega
    · have : ¬ n ≤ spn wrdC l := fun e => by
        have := (lg_word h n hn).2 ⟨by omega, e⟩
        rw [g2] at this; cases this
      omega
set_option maxRecDepth 100000 in
theorem rlongest_any (s : ByteArray) (w : World) (hs : s.size ≤ 140737488355328) : Calls Tryd.prog 25 #[.string s] w fun e w' => e = .returned (.int .i64 ((tkN (bs s) : Nat) : Int)) ∧ w' = w := by
  have hs' : (s.size : Int) ≤ 140737488355328 := by omega
  have HL := Lib.hid (bs_len s)
  go_enter Tryd.func25, Tryd.ntmps25
  go_wp2_with fail
  go_loop [3, 4] (fun b i => ∃ k : Nat, k ≤ s.size ∧ i = .int .i64 ((k : Int) + 1) ∧ b = .int .i64 ((bst (bs s) k : Nat) : Int)) (fun b i => s.size + 1 - (intOf i).toNat)
  case atStart => exact ⟨0, Nat.zero_le _, rfl, rfl⟩
  case round =>
    obtain ⟨k, hk, rfl, rfl⟩ := hrel
    obtain ⟨B, hB⟩ : ∃ B, bst (bs s) k = B := ⟨_, rfl⟩
    have hBk : B ≤ k := by rw [← hB]; exact bst_le _ _
    have HB := Lib.hid hB
    rw [hB]
    clear hB
    rcases Nat.lt_or_ge k s.size with h | h
    · obtain ⟨N, hN⟩ : ∃ N : Nat, N = k + 1 := ⟨_, rfl⟩
      have hN2 : (k : Int) + 1 = (N : Int) := by omega
      rw [hN2]
      have d1 : (0 : Int) ≤ (N : Int) := by omega
      have d2 : (N : Int) ≤ (s.size : Int) := by omega
      have hx : bs (s.extract 0 N) = (bs s).take N := by rw [head_mk, bs_mk]
      have hxs : (s.extract 0 N).size ≤ 9223372036854775807 := by rw [ByteArray.size_extract]; omega
      have I1 := fun w1 => rword_any (s.extract 0 N) w1 hxs
      have I2 := fun w1 => rdigits_any (s.extract 0 N) w1 hxs
      have I3 := fun w1 => rsign_any (s.extract 0 N) w1
      simp only [hx] at I1 I2 I3
      have HY : Hid (lgB ((bs s).take N) = true → bst (bs s) N = N) := Lib.hid fun e => by subst hN; exact bst_yes e
      have HN : Hid (lgB ((bs s).take N) = false → bst (bs s) N = B) := Lib.hid fun e => by subst hN; rw [bst_no e, HB.out]
      have HR : Hid (lgB ((bs s).take N) = false → 3 ≤ N → bst (bs s) N = tkN (bs s)) := Lib.hid fun e g => tkN_eq (by rw [HL.out]; omega) (.inr ⟨g, e⟩)
      have HG : Hid (lgB ((bs s).take N) = (isWd ((bs s).take N) || isDg ((bs s).take N) || isSg ((bs s).take N))) := Lib.hid rfl
      generalize isWd ((bs s).take N) = bw at *
      generalize isDg ((bs s).take N) = bd at *
      generalize isSg ((bs s).take N) = bg at *
      rw [HG.out] at HY HN HR
      have HNk := Lib.hid hN
      have d3 : decide ((N : Int) ≤ (s.size : Int)) = true := decide_eq_true d2
      have d4 : N ≤ s.size := by omega
      have d5 : B < N := by omega
      clear HG hx hxs HB hN hN2 hBk
      cases bw with
      | true =>
        have E := Lib.hid (HY.out rfl)
        clear HY HN HR
        go_wp2_with fail
        refine (I1 w).mono ?_
        rintro e w3 ⟨rfl, rfl⟩
        go_wp2_with fail
        go_round
        case rel => exact ⟨N, by omega, by go_num, by rw [E.out]⟩
        case measure => have hk' := HNk.out; simp [intOf]; omega
      | false =>
        cases bd with
        | true =>
          have E := Lib.hid (HY.out rfl)
          clear HY HN HR
          go_wp2_with fail
          refine (I1 w).mono ?_
          rintro e w3 ⟨rfl, rfl⟩
          go_wp2_with fail
          refine (I2 w3).mono ?_
          rintro e w4 ⟨rfl, rfl⟩
          go_wp2_with fail
          go_round
          case rel => exact ⟨N, by omega, by go_num, by rw [E.out]⟩
          case measure => have hk' := HNk.out; simp [intOf]; omega
        | false =>
          cases bg with
          | true =>
            have E := Lib.hid (HY.out rfl)
            clear HY HN HR
            go_wp2_with fail
            refine (I1 w).mono ?_
            rintro e w3 ⟨rfl, rfl⟩
            go_wp2_with fail
            refine (I2 w3).mono ?_
            rintro e w4 ⟨rfl, rfl⟩
            go_wp2_with fail
            refine (I3 w4).mono ?_
            rintro e w5 ⟨rfl, rfl⟩
            go_wp2_with fail
            go_round
            case rel => exact ⟨N, by omega, by go_num, by rw [E.out]⟩
            case measure => have hk' := HNk.out; simp [intOf]; omega
          | false =>
            have E := Lib.hid (HN.out rfl)
            have c4 : decide ((B : Int) < (N : Int)) = true := decide_eq_true (by omega)
            by_cases g : 2 < N
            · have c5 : decide ((2 : Int) < (N : Int)) = true := decide_eq_true (by omega)
              have R := Lib.hid ((HR.out rfl g).symm.trans E.out)
              clear HY HN HR E
              go_wp2_with fail
              refine (I1 w).mono ?_
              rintro e w3 ⟨rfl, rfl⟩
              go_wp2_with fail
              refine (I2 w3).mono ?_
              rintro e w4 ⟨rfl, rfl⟩
              go_wp2_with fail
              refine (I3 w4).mono ?_
              rintro e w5 ⟨rfl, rfl⟩
              go_wp2_with fail
              go_ret
              exact ⟨by rw [R.out]; rfl, rfl⟩
            · have c5 : decide ((2 : Int) < (N : Int)) = false := decide_eq_false (by omega)
              clear HY HN HR
              go_wp2_with fail
              refine (I1 w).mono ?_
              rintro e w3 ⟨rfl, rfl⟩
              go_wp2_with fail
              refine (I2 w3).mono ?_
              rintro e w4 ⟨rfl, rfl⟩
              go_wp2_with fail
              refine (I3 w4).mono ?_
              rintro e w5 ⟨rfl, rfl⟩
              go_wp2_with fail
              go_round
              case rel => exact ⟨N, by omega, by go_num, by rw [E.out]⟩
              case measure => have hk' := HNk.out; simp [intOf]; omega
    · obtain rfl : k = s.size := by omega
      have R := Lib.hid ((tkN_eq (l := bs s) (n := s.size) (by rw [HL.out]; exact Nat.le_refl _) (.inl (by rw [HL.out]; exact Nat.le_refl _))).symm.trans HB.out)
      have c6 : ¬ (s.size : Int) + 1 ≤ (s.size : Int) := by omega
      have c7 : decide ((s.size : Int) + 1 ≤ (s.size : Int)) = false := decide_eq_false c6
      go_wp2_with fail
      go_ret
      exact ⟨by rw [R.out]; rfl, rfl⟩
end Go.Proofs.YtilnojcbebchdaaDoor.Lx
