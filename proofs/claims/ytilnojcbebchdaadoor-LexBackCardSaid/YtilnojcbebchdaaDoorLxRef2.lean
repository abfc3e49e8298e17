/-
  The contracts of the reference's Number and longest.
-/
import Derived.Test.YtilnojcbebchdaaDoorLxRef
namespace Go.Proofs.YtilnojcbebchdaaDoor.Lx
open Go.RowKit
set_option maxHeartbeats 2000000
set_option linter.unusedVariables false
def numV (o : Option Int) : Value := match o with | some v => .tuple #[.int .i64 v, .bool true] | none => .tuple #[.int .i64 0, .bool false]
theorem no_empty {l : List UInt8} (h : l.length = 0) : numO l = none := by unfold numO; rw [if_pos (.inl h)]
theorem no_long {l : List UInt8} (h : 13 < l.length) : numO l = none := by unfold numO; rw [if_pos (.inr (.inl h))]
theorem no_zero {l : List UInt8} (h : 1 < l.length) (g : l[0] = 48) : numO l = none := by
  have e : l.headD 0 = 48 := by
    cases l with
    | nil => simp at h
    | cons c t => exact g
  unfold numO
  rw [if_pos (.inr (.inr (.inl ⟨h, e⟩)))]
theorem no_digit {l : List UInt8} {k : Nat} (hk : k < l.length) (h : digC l[k] = false) : numO l = none := by
  have e : l.all digC = false := by
    rw [← Bool.not_eq_true, List.all_eq_true]
    intro g
    have := g _ (List.getElem_mem hk)
    rw [h] at this; cases this
  unfold numO
  rw [if_pos (.inr (.inr (.inr (.inl e))))]
theorem no_great {l : List UInt8} (h : 1000000000000 < foldD l) : numO l = none := by unfold numO; rw [if_pos (.inr (.inr (.inr (.inr h))))]
theorem yes_num {l : List UInt8} (h0 : l.length ≠ 0) (h1 : l.length ≤ 13) (h2 : ¬ (1 < l.length ∧ l.headD 0 = 48)) (h3 : All digC l l.length) (h4 : foldD l ≤ 1000000000000) : numO l = some (foldD l) := by
  unfold numO
  rw [if_neg]
  simp only [not_or, Bool.not_eq_false]
  refine ⟨h0, by omega, h2, ?_, by omega⟩
  rw [List.all_eq_true]
  intro c hc
  obtain ⟨j, hj, rfl⟩ := List.getElem_of_mem hc
  exact h3 j hj hj
theorem head_at {l : List UInt8} (h : 0 < l.length) : l.headD 0 = l[0] := by
  cases l with
  | nil => simp at h
  | cons c t => rfl
theorem byte_is {c : UInt8} {n : Nat} (hn : n < 256) : (c = UInt8.ofNat n) ↔ ((c.toNat : Int) = (n : Int)) := by
  constructor
  · rintro rfl
    rw [UInt8.toNat_ofNat']
    omega
  · intro h
    apply UInt8.toNat_inj.1
    rw [UInt8.toNat_ofNat']
    omega
theorem fold_step {l : List UInt8} {k : Nat} (hk : k < l.length) (h : digC l[k] = true) : foldD (l.take (k + 1)) = 10 * foldD (l.take k) + ((l[k].toNat : Int) - 48) := by
  rw [List.take_succ_eq_append_getElem hk, foldD_snoc, fold1, if_pos (dig_nat h)]
set_option maxRecDepth 100000 in
theorem rnumber_any (s : ByteArray) (w : World) (hs : s.size ≤ 9223372036854775807) : Calls Tryd.prog 21 #[.string s] w fun e w' => e = .returned (numV (numO (bs s))) ∧ w' = w := by
  have hs' : (s.size : Int) ≤ 9223372036854775807 := by omega
  have hl := bs_len s
  by_cases h0 : s.size = 0
  · have z : ((s.size : Int) == 0) = true := by rw [beq_iff_eq]; omega
    rw [no_empty (by omega)]
    clear hl
    go_enter Tryd.func21, Tryd.ntmps21
    go_wp2_with fail
    go_ret2
    exact ⟨rfl, rfl⟩
  have z : ((s.size : Int) == 0) = false := by rw [beq_eq_false_iff_ne]; omega
  by_cases h1 : 13 < s.size
  · have t1 : decide ((13 : Int) < (s.size : Int)) = true := decide_eq_true (by omega)
    rw [no_long (by omega)]
    clear hl
    go_enter Tryd.func21, Tryd.ntmps21
    go_wp2_with fail
    go_ret2
    exact ⟨rfl, rfl⟩
  have t1 : decide ((13 : Int) < (s.size : Int)) = false := decide_eq_false (by omega)
  have hs0 : 0 < s.size := by omega
  have c0 : (0 : Int) < (s.size : Int) := by omega
  by_cases h2 : 1 < s.size ∧ (((s[0]).toNat : Nat) : Int) = 48
  · obtain ⟨h2, h3⟩ := h2
    have t2 : decide ((1 : Int) < (s.size : Int)) = true := decide_eq_true (by omega)
    have q3 : (((s[0]).toNat : Int) == 48) = true := by rw [beq_iff_eq]; exact h3
    rw [no_zero (l := bs s) (by omega) ((byte_is (n := 48) (by decide)).2 h3)]
    clear hl
    go_enter Tryd.func21, Tryd.ntmps21
    go_wp2_with fail
    go_ret2
    exact ⟨rfl, rfl⟩
  · have HL := Lib.hid hl
    have HH : Hid (¬ (1 < (bs s).length ∧ (bs s).headD 0 = 48)) := Lib.hid fun ⟨g1, g2⟩ => h2 ⟨by omega, (byte_is (n := 48) (by decide)).1 (by rw [head_at (by omega)] at g2; exact g2)⟩
    have HB := Lib.hid (fun k => foldD_bd 13 ((bs s).take k) (by rw [List.length_take]; omega))
    have hs13 : (s.size : Int) ≤ 13 := by omega
    have main : ∀ (b : Bool), (b = decide ((1 : Int) < (s.size : Int))) → (b = true → (((s[0]).toNat : Int) == 48) = false) → Calls Tryd.prog 21 #[.string s] w fun e w' => e = .returned (numV (numO (bs s))) ∧ w' = w := by
      intro b hb hq
      clear h2 hl
      cases b with
      | true =>
        have t2 := hb.symm
        have q3 := hq rfl
        clear hb hq
        go_enter Tryd.func21, Tryd.ntmps21
        go_wp2_with fail
        go_loop [4, 5] (fun n i => ∃ k : Nat, ∃ F : Int, k ≤ s.size ∧ i = .int .i64 (k : Nat) ∧ n = .int .i64 F ∧ 0 ≤ F ∧ F < 10000000000000 ∧ Hid (F = foldD ((bs s).take k) ∧ All digC (bs s) k)) (fun n i => s.size - (intOf i).toNat)
        case atStart => exact ⟨0, 0, Nat.zero_le _, rfl, rfl, by omega, by omega, Lib.hid ⟨rfl, all_zero⟩⟩
        case round =>
          obtain ⟨k, F, hk, rfl, rfl, f0, f1, HG⟩ := hrel
          have d1 : (0 : Int) ≤ (k : Int) := by omega
          rcases Nat.lt_or_ge k s.size with h | h
          · have hkl : k < (bs s).length := by rw [HL.out]; exact h
            have d2 : (k : Int) < (s.size : Int) := by omega
            have HD : Hid (digC (bs s)[k] = digI ((s[k]).toNat : Int)) := Lib.hid rfl
            by_cases g1 : digI ((s[k]).toNat : Int) = true
            · have hd : digC (bs s)[k] = true := by rw [HD.out]; exact g1
              have hdn := dig_nat hd
              have g2 : (48 : Int) ≤ ((s[k]).toNat : Int) := by have : 48 ≤ ((bs s)[k]).toNat := hdn.1; have e : ((bs s)[k]).toNat = (s[k]).toNat := rfl; omega
              have g3 : ((s[k]).toNat : Int) ≤ 57 := by have : ((bs s)[k]).toNat ≤ 57 := hdn.2; have e : ((bs s)[k]).toNat = (s[k]).toNat := rfl; omega
              have hst := fold_step hkl hd
              rw [← HG.out.1] at hst
              have hbd := HB.out (k + 1)
              have f2 : 0 ≤ 10 * F + (((s[k]).toNat : Int) - 48) := by have := hbd.1; rw [hst] at this; exact this
              have f3 : 10 * F + (((s[k]).toNat : Int) - 48) < 10000000000000 := by have := hbd.2; rw [hst] at this; exact this
              have HY2 : Hid (10 * F + (((s[k]).toNat : Int) - 48) = foldD ((bs s).take (k + 1)) ∧ All digC (bs s) (k + 1)) := Lib.hid ⟨hst.symm, all_step hkl HG.out.2 hd⟩
              clear hst hbd hd hdn HG HD
              go_wp2_with fail
              refine (rdigit_at g1 w).mono ?_
              rintro e w3 ⟨rfl, rfl⟩
              clear g1
              go_wp2_with fail
              go_round
              case rel => exact ⟨k + 1, 10 * F + (((s[k]).toNat : Int) - 48), by omega, by go_num, by go_num, f2, f3, HY2⟩
              case measure => simp [intOf]; omega
            · have g1' : digI ((s[k]).toNat : Int) = false := by simpa using g1
              have HR := Lib.hid (no_digit hkl (by rw [HD.out]; exact g1'))
              clear g1 HG HD
              go_wp2_with fail
              refine (rdigit_at g1' w).mono ?_
              rintro e w3 ⟨rfl, rfl⟩
              go_wp2_with fail
              go_ret2
              exact ⟨by rw [HR.out]; rfl, rfl⟩
          · obtain rfl : k = s.size := by omega
            have ht : (bs s).take s.size = bs s := List.take_of_length_le (by rw [HL.out]; exact Nat.le_refl _)
            have HF : Hid (F = foldD (bs s)) := Lib.hid (by have := HG.out.1; rw [ht] at this; exact this)
            have HA : Hid (All digC (bs s) (bs s).length) := Lib.hid (by rw [HL.out]; exact HG.out.2)
            clear HG ht
            by_cases g : 1000000000000 < F
            · have HR := Lib.hid (no_great (l := bs s) (by rw [← HF.out]; exact g))
              have q : decide ((1000000000000 : Int) < F) = true := decide_eq_true g
              go_wp2_with fail
              go_ret2
              exact ⟨by rw [HR.out]; rfl, rfl⟩
            · have HR := Lib.hid (yes_num (l := bs s) (by rw [HL.out]; omega) (by rw [HL.out]; omega) HH.out HA.out (by rw [← HF.out]; omega))
              have q : decide ((1000000000000 : Int) < F) = false := decide_eq_false g
              go_wp2_with fail
              go_ret2
              exact ⟨by rw [HR.out, ← HF.out]; rfl, rfl⟩
      | false =>
        have t2 := hb.symm
        clear hb hq
        go_enter Tryd.func21, Tryd.ntmps21
        go_wp2_with fail
        go_loop [4, 5] (fun n i => ∃ k : Nat, ∃ F : Int, k ≤ s.size ∧ i = .int .i64 (k : Nat) ∧ n = .int .i64 F ∧ 0 ≤ F ∧ F < 10000000000000 ∧ Hid (F = foldD ((bs s).take k) ∧ All digC (bs s) k)) (fun n i => s.size - (intOf i).toNat)
        case atStart => exact ⟨0, 0, Nat.zero_le _, rfl, rfl, by omega, by omega, Lib.hid ⟨rfl, all_zero⟩⟩
        case round =>
          obtain ⟨k, F, hk, rfl, rfl, f0, f1, HG⟩ := hrel
          have d1 : (0 : Int) ≤ (k : Int) := by omega
          rcases Nat.lt_or_ge k s.size with h | h
          · have hkl : k < (bs s).length := by rw [HL.out]; exact h
            have d2 : (k : Int) < (s.size : Int) := by omega
            have HD : Hid (digC (bs s)[k] = digI ((s[k]).toNat : Int)) := Lib.hid rfl
            by_cases g1 : digI ((s[k]).toNat : Int) = true
            · have hd : digC (bs s)[k] = true := by rw [HD.out]; exact g1
              have hdn := dig_nat hd
              have g2 : (48 : Int) ≤ ((s[k]).toNat : Int) := by have : 48 ≤ ((bs s)[k]).toNat := hdn.1; have e : ((bs s)[k]).toNat = (s[k]).toNat := rfl; omega
              have g3 : ((s[k]).toNat : Int) ≤ 57 := by have : ((bs s)[k]).toNat ≤ 57 := hdn.2; have e : ((bs s)[k]).toNat = (s[k]).toNat := rfl; omega
              have hst := fold_step hkl hd
              rw [← HG.out.1] at hst
              have hbd := HB.out (k + 1)
              have f2 : 0 ≤ 10 * F + (((s[k]).toNat : Int) - 48) := by have := hbd.1; rw [hst] at this; exact this
              have f3 : 10 * F + (((s[k]).toNat : Int) - 48) < 10000000000000 := by have := hbd.2; rw [hst] at this; exact this
              have HY2 : Hid (10 * F + (((s[k]).toNat : Int) - 48) = foldD ((bs s).take (k + 1)) ∧ All digC (bs s) (k + 1)) := Lib.hid ⟨hst.symm, all_step hkl HG.out.2 hd⟩
              clear hst hbd hd hdn HG HD
              go_wp2_with fail
              refine (rdigit_at g1 w).mono ?_
              rintro e w3 ⟨rfl, rfl⟩
              clear g1
              go_wp2_with fail
              go_round
              case rel => exact ⟨k + 1, 10 * F + (((s[k]).toNat : Int) - 48), by omega, by go_num, by go_num, f2, f3, HY2⟩
              case measure => simp [intOf]; omega
            · have g1' : digI ((s[k]).toNat : Int) = false := by simpa using g1
              have HR := Lib.hid (no_digit hkl (by rw [HD.out]; exact g1'))
              clear g1 HG HD
              go_wp2_with fail
              refine (rdigit_at g1' w).mono ?_
              rintro e w3 ⟨rfl, rfl⟩
              go_wp2_with fail
              go_ret2
              exact ⟨by rw [HR.out]; rfl, rfl⟩
          · obtain rfl : k = s.size := by omega
            have ht : (bs s).take s.size = bs s := List.take_of_length_le (by rw [HL.out]; exact Nat.le_refl _)
            have HF : Hid (F = foldD (bs s)) := Lib.hid (by have := HG.out.1; rw [ht] at this; exact this)
            have HA : Hid (All digC (bs s) (bs s).length) := Lib.hid (by rw [HL.out]; exact HG.out.2)
            clear HG ht
            by_cases g : 1000000000000 < F
            · have HR := Lib.hid (no_great (l := bs s) (by rw [← HF.out]; exact g))
              have q : decide ((1000000000000 : Int) < F) = true := decide_eq_true g
              go_wp2_with fail
              go_ret2
              exact ⟨by rw [HR.out]; rfl, rfl⟩
            · have HR := Lib.hid (yes_num (l := bs s) (by rw [HL.out]; omega) (by rw [HL.out]; omega) HH.out HA.out (by rw [← HF.out]; omega))
              have q : decide ((1000000000000 : Int) < F) = false := decide_eq_false g
              go_wp2_with fail
              go_ret2
              exact ⟨by rw [HR.out, ← HF.out]; rfl, rfl⟩
    refine main _ rfl fun hb => ?_
    rw [beq_eq_false_iff_ne]
    intro g
    exact h2 ⟨by have := of_decide_eq_true hb; omega, g⟩
end Go.Proofs.YtilnojcbebchdaaDoor.Lx
