/-
  The contract of the reference's Parse: the number in bounds that has the text, if there is one.
-/
import Derived.Test.YtcbjkdbclimbeaaDoorRef
import Derived.LoopTactic
namespace Go.Proofs.YtcbjkdbclimbeaaDoor
open Go.RowKit
set_option maxHeartbeats 400000
theorem take_snoc (s : ByteArray) (k : Nat) (h : k < s.size) : s.data.toList.take (k + 1) = s.data.toList.take k ++ [s[k]] := by
  rw [List.take_succ_eq_append_getElem (by simpa using h)]; rfl
/-- What the text spells: its digits, and a minus sign ahead. -/
def spells (l : List UInt8) : Int := if l.head?.map (·.toNat) = some 45 then -foldD l else foldD l
theorem head_get (s : ByteArray) (hz : 0 < s.size) : s.data.toList.head? = some s[0] := by
  rw [List.head?_eq_getElem?, Array.getElem?_toList, Array.getElem?_eq_getElem hz]; rfl
theorem spells_nil (s : ByteArray) (hz : s.size = 0) : spells s.data.toList = foldD s.data.toList := by
  have : s.data.toList = [] := List.length_eq_zero_iff.1 (by simpa using hz)
  rw [this]; rfl
theorem spells_neg (s : ByteArray) (hz : 0 < s.size) (h : s[0].toNat = 45) : spells s.data.toList = -foldD s.data.toList := by
  unfold spells
  rw [if_pos (by rw [head_get s hz, Option.map_some, h])]
theorem spells_pos (s : ByteArray) (hz : 0 < s.size) (h : s[0].toNat ≠ 45) : spells s.data.toList = foldD s.data.toList := by
  unfold spells
  rw [if_neg (by rw [head_get s hz, Option.map_some]; simpa using h)]
def Parsed (s : ByteArray) (w : World) (e : Ending) (w' : World) : Prop :=
  (inB (spells s.data.toList) = true ∧ num (spells s.data.toList) = s → e = .returned (.tuple #[.int .i64 (spells s.data.toList), .bool true])) ∧
  (¬ (inB (spells s.data.toList) = true ∧ num (spells s.data.toList) = s) → e = .returned (.tuple #[.int .i64 0, .bool false])) ∧ w = w'
theorem rparse_long (s : ByteArray) (hs : 14 < s.size) (hm : s.size ≤ 140737488355328) (w : World) :
    Calls Tryd.prog 30 #[.string s] w fun e w' => e = .returned (.tuple #[.int .i64 0, .bool false]) ∧ w = w' := by
  go_enter Tryd.func30, Tryd.ntmps30
  go_wp2_with fail
  go_ret2
  exact ⟨rfl, rfl⟩
theorem rparse_short (s : ByteArray) (hs : s.size ≤ 14) (w : World) : Calls Tryd.prog 30 #[.string s] w (Parsed s w) := by
  go_enter Tryd.func30, Tryd.ntmps30
  go_wp2_with fail
  go_loop [4, 5] (fun n i => ∃ k : Nat, k ≤ s.size ∧ i = .int .i64 k ∧ n = .int .i64 (foldD (s.data.toList.take k))) (fun _ i => s.size - (intOf i).toNat)
  case atStart => exact ⟨0, Nat.zero_le _, rfl, rfl⟩
  case round =>
    obtain ⟨k, hk, rfl, rfl⟩ := hrel
    have hb := foldD_bd 14 (s.data.toList.take k) (by rw [List.length_take]; omega)
    have hb0 := hb.1
    have hb1 : foldD (s.data.toList.take k) < 100000000000000 := hb.2
    clear hb
    by_cases hlt : k < s.size
    · have hsn := foldD_snoc (s.data.toList.take k) s[k]
      rw [← take_snoc s k hlt] at hsn
      have HS := Lib.hid hsn
      clear hsn
      by_cases hd : 48 ≤ (s[k].toNat : Int) ∧ (s[k].toNat : Int) ≤ 57
      · obtain ⟨d1, d2⟩ := hd
        go_wp2_with fail
        go_round
        case rel => exact ⟨k + 1, by omega, by go_num, by rw [HS.out, fold1, if_pos (by omega)]⟩
        case measure => simp [intOf]; omega
      · go_wp2_with fail
        all_goals
          go_round
          case rel => exact ⟨k + 1, by omega, by go_num, by rw [HS.out, fold1, if_neg (by omega)]⟩
          case measure => simp [intOf]; omega
    · obtain rfl : k = s.size := by omega
      have hw : s.data.toList.take s.size = s.data.toList := List.take_of_length_le (by simp)
      rw [hw] at hb0 hb1 ⊢
      clear hk hlt hw
      by_cases hz : s.size = 0
      · have hv := spells_nil s hz
        have hz : s.size < 1 := by omega
        have HV := Lib.hid hv
        clear hv
        cases hi : inB (foldD s.data.toList)
        · have Hi := Lib.hid hi
          clear hi
          go_wp2_with (go_at_call 13; refine (rin_any _ _).mono ?_; rintro e w' ⟨rfl, rfl⟩; rw [Hi.out])
          go_ret2
          exact ⟨fun h => absurd h.1 (by rw [HV.out, Hi.out]; decide), fun _ => rfl, rfl⟩
        · obtain ⟨i0, i1⟩ := inB_true hi
          have Hi := Lib.hid hi
          clear hi
          by_cases hn : num (foldD s.data.toList) = s
          · have hne : ((num (foldD s.data.toList)).toList == s.toList) = true := by rw [hn]; exact beq_self_eq_true _
            have HN := Lib.hid hn
            clear hn
            go_wp2_with (first | (go_at_call 13; refine (rin_any _ _).mono ?_; rintro e w' ⟨rfl, rfl⟩; rw [Hi.out]) | (go_at_call 29; refine (rtext_any _ (by omega) (by omega) _).mono ?_; rintro e w' ⟨rfl, rfl⟩))
            go_ret2
            exact ⟨fun _ => by rw [HV.out]; rfl, fun h => absurd (by rw [HV.out]; exact ⟨Hi.out, HN.out⟩) h, rfl⟩
          · have hne : ((num (foldD s.data.toList)).toList == s.toList) = false := toList_ne hn
            have HN := Lib.hid hn
            clear hn
            go_wp2_with (first | (go_at_call 13; refine (rin_any _ _).mono ?_; rintro e w' ⟨rfl, rfl⟩; rw [Hi.out]) | (go_at_call 29; refine (rtext_any _ (by omega) (by omega) _).mono ?_; rintro e w' ⟨rfl, rfl⟩))
            go_ret2
            exact ⟨fun h => absurd h.2 (by rw [HV.out]; exact HN.out), fun _ => rfl, rfl⟩
      · have hz : 0 < s.size := by omega
        by_cases hm : (s[0].toNat : Int) = 45
        · have hv := spells_neg s hz (by omega)
          have hm : ((s[0].toNat : Int) == 45) = true := beq_iff_eq.2 hm
          have HV := Lib.hid hv
          clear hv
          cases hi : inB (-foldD s.data.toList)
          · have Hi := Lib.hid hi
            clear hi
            go_wp2_with (go_at_call 13; refine (rin_any _ _).mono ?_; rintro e w' ⟨rfl, rfl⟩; rw [Hi.out])
            go_ret2
            exact ⟨fun h => absurd h.1 (by rw [HV.out, Hi.out]; decide), fun _ => rfl, rfl⟩
          · obtain ⟨i0, i1⟩ := inB_true hi
            have Hi := Lib.hid hi
            clear hi
            by_cases hn : num (-foldD s.data.toList) = s
            · have hne : ((num (-foldD s.data.toList)).toList == s.toList) = true := by rw [hn]; exact beq_self_eq_true _
              have HN := Lib.hid hn
              clear hn
              go_wp2_with (first | (go_at_call 13; refine (rin_any _ _).mono ?_; rintro e w' ⟨rfl, rfl⟩; rw [Hi.out]) | (go_at_call 29; refine (rtext_any _ (by omega) (by omega) _).mono ?_; rintro e w' ⟨rfl, rfl⟩))
              go_ret2
              exact ⟨fun _ => by rw [HV.out]; rfl, fun h => absurd (by rw [HV.out]; exact ⟨Hi.out, HN.out⟩) h, rfl⟩
            · have hne : ((num (-foldD s.data.toList)).toList == s.toList) = false := toList_ne hn
              have HN := Lib.hid hn
              clear hn
              go_wp2_with (first | (go_at_call 13; refine (rin_any _ _).mono ?_; rintro e w' ⟨rfl, rfl⟩; rw [Hi.out]) | (go_at_call 29; refine (rtext_any _ (by omega) (by omega) _).mono ?_; rintro e w' ⟨rfl, rfl⟩))
              go_ret2
              exact ⟨fun h => absurd h.2 (by rw [HV.out]; exact HN.out), fun _ => rfl, rfl⟩
        · have hv := spells_pos s hz (by omega)
          have hm : ((s[0].toNat : Int) == 45) = false := beq_eq_false_iff_ne.2 hm
          have HV := Lib.hid hv
          clear hv
          cases hi : inB (foldD s.data.toList)
          · have Hi := Lib.hid hi
            clear hi
            go_wp2_with (go_at_call 13; refine (rin_any _ _).mono ?_; rintro e w' ⟨rfl, rfl⟩; rw [Hi.out])
            go_ret2
            exact ⟨fun h => absurd h.1 (by rw [HV.out, Hi.out]; decide), fun _ => rfl, rfl⟩
          · obtain ⟨i0, i1⟩ := inB_true hi
            have Hi := Lib.hid hi
            clear hi
            by_cases hn : num (foldD s.data.toList) = s
            · have hne : ((num (foldD s.data.toList)).toList == s.toList) = true := by rw [hn]; exact beq_self_eq_true _
              have HN := Lib.hid hn
              clear hn
              go_wp2_with (first | (go_at_call 13; refine (rin_any _ _).mono ?_; rintro e w' ⟨rfl, rfl⟩; rw [Hi.out]) | (go_at_call 29; refine (rtext_any _ (by omega) (by omega) _).mono ?_; rintro e w' ⟨rfl, rfl⟩))
              go_ret2
              exact ⟨fun _ => by rw [HV.out]; rfl, fun h => absurd (by rw [HV.out]; exact ⟨Hi.out, HN.out⟩) h, rfl⟩
            · have hne : ((num (foldD s.data.toList)).toList == s.toList) = false := toList_ne hn
              have HN := Lib.hid hn
              clear hn
              go_wp2_with (first | (go_at_call 13; refine (rin_any _ _).mono ?_; rintro e w' ⟨rfl, rfl⟩; rw [Hi.out]) | (go_at_call 29; refine (rtext_any _ (by omega) (by omega) _).mono ?_; rintro e w' ⟨rfl, rfl⟩))
              go_ret2
              exact ⟨fun h => absurd h.2 (by rw [HV.out]; exact HN.out), fun _ => rfl, rfl⟩
theorem spells_itoa (v : Int) : spells (Lib.itoa v) = v := by
  unfold spells
  rcases Int.lt_or_le v 0 with h | h
  · rw [if_pos (by rw [itoa_neg v h]; rfl), fold_itoa, absZ_neg h]; omega
  · have e : Lib.itoa v = Lib.decDigits v.toNat := by unfold Lib.itoa; rw [if_neg (by omega)]
    obtain ⟨c, r, e1, e2, _⟩ := dec_cons v.toNat
    rw [if_neg (by rw [e, e1, List.head?_cons, Option.map_some]; intro hc; injection hc with hc; omega), fold_itoa, absZ_pos h]
theorem rparse_yes (v : Int) (h0 : -1000000000000 ≤ v) (h1 : v ≤ 1000000000000) (w : World) :
    Calls Tryd.prog 30 #[.string (num v)] w fun e w' => e = .returned (.tuple #[.int .i64 v, .bool true]) ∧ w = w' := by
  refine (rparse_short (num v) (num_size v h0 h1) w).mono fun e w' ⟨hy, _, hw⟩ => ?_
  have hs : spells (num v).data.toList = v := spells_itoa v
  rw [hs] at hy
  exact ⟨hy ⟨inB_yes h0 h1, rfl⟩, hw⟩
theorem rparse_no (s : ByteArray) (hs : s.size ≤ 140737488355328) (h : ∀ v, inB v = true → num v ≠ s) (w : World) :
    Calls Tryd.prog 30 #[.string s] w fun e w' => e = .returned (.tuple #[.int .i64 0, .bool false]) ∧ w = w' := by
  by_cases hl : 14 < s.size
  · exact rparse_long s hl hs w
  · refine (rparse_short s (by omega) w).mono fun e w' ⟨_, hn, hw⟩ => ?_
    exact ⟨hn fun hc => h _ hc.1 hc.2, hw⟩
end Go.Proofs.YtcbjkdbclimbeaaDoor
