/-
  The contract of the reference's geometric.
-/
import Derived.Test.YteapicfobammjaaDoorDGeom
namespace Go.Proofs.YteapicfobammjaaDoor.Di
open Go.RowKit
set_option maxHeartbeats 1000000
theorem geo_sub {t a' q r : Nat} (e : t = q * (a' + 1) + r) (hr : r < a' + 1) : t * a' / (a' + 1) = if r = 0 then t - q else t - (q + 1) := by
  have hq : q ≤ t := by rw [e, Nat.mul_add]; omega
  obtain ⟨X, eX⟩ : ∃ X, t = q + X := ⟨t - q, by omega⟩
  have e2 : t * a' + r = X * (a' + 1) := by
    have h1 : t * (a' + 1) = q * (a' + 1) + X * (a' + 1) := by rw [← Nat.add_mul, ← eX]
    have h2 : t * (a' + 1) = t * a' + t := by rw [Nat.mul_add, Nat.mul_one]
    omega
  have hX : t - q = X := by omega
  by_cases h0 : r = 0
  · rw [if_pos h0, hX]
    rw [show t * a' = X * (a' + 1) by omega]
    exact Nat.mul_div_cancel X (by omega)
  · rw [if_neg h0]
    have hX1 : 0 < X := by
      rcases Nat.eq_zero_or_pos X with h | h
      · rw [h, Nat.zero_mul] at e2; omega
      · exact h
    obtain ⟨Y, rfl⟩ : ∃ Y, X = Y + 1 := ⟨X - 1, by omega⟩
    rw [show t - (q + 1) = Y by omega]
    have h3 : (Y + 1) * (a' + 1) = Y * (a' + 1) + (a' + 1) := by rw [Nat.add_mul, Nat.one_mul]
    refine Nat.div_eq_of_lt_le (by omega) ?_
    rw [h3]; omega
theorem nat_bd {q t : Nat} (h : q ≤ t) (ht : is64 t) : is64 q := by unfold is64 at *; omega
theorem rgeom_any (a lim u : Nat) (a0 : 1 ≤ a) (a1 : a ≤ 1000) (l0 : 1 ≤ lim) (l1 : lim ≤ 1000) (hu : is64 u) (w : World) :
    Calls Tryd.prog 75 #[.int .i64 a, .int .i64 lim, .int .u64 u] w fun e w' => e = .returned (.int .i64 (geoV a lim u : Nat)) ∧ w = w' := by
  have NR := notU_run u hu
  unfold geoV
  obtain ⟨v, ev⟩ : ∃ v, notU u = v := ⟨_, rfl⟩
  rw [ev] at NR ⊢
  have hv : is64 v := by rw [← ev]; unfold notU is64; omega
  obtain ⟨a', ea⟩ : ∃ a', a = a' + 1 := ⟨a - 1, by omega⟩
  have wa1 : IntKind.u64.wrap (a : Int) = (a : Int) := wrap_nat (by omega)
  have az : ((a : Int) == 0) = false := by rw [beq_eq_false_iff_ne]; omega
  have EA := Lib.hid ea
  clear ev hu ea
  go_enter Tryd.func75, Tryd.ntmps75
  go_wp2_with fail
  go_loop [8, 10] (fun x y => ∃ t k : Nat, is64 t ∧ 1 ≤ k ∧ k ≤ lim ∧ x = .int .u64 (t : Nat) ∧ y = .int .i64 (k : Nat) ∧ Hid (geoR a v (lim - 1) 18446744073709551615 1 = geoR a v (lim - k) t k)) (fun _ y => lim - (intOf y).toNat)
  case atStart => exact ⟨18446744073709551615, 1, by unfold is64; omega, by omega, l0, rfl, rfl, Lib.hid rfl⟩
  case round =>
    obtain ⟨t, k, ht, k0, k1, rfl, rfl, HG⟩ := hrel
    rcases Nat.lt_or_ge k lim with h | h
    · have hs := geo_sub (t := t) (a' := a') (q := t / a) (r := t % a) (by rw [← EA.out, Nat.mul_comm]; exact (Nat.div_add_mod t a).symm) (by rw [← EA.out]; exact Nat.mod_lt _ (by omega))
      have h2 := geo_lt (a := a) (by omega) ht
      have ha1 : a - 1 = a' := by have := EA.out; omega
      rw [ha1] at h2
      have hq : t / a ≤ t := Nat.div_le_self _ _
      have e1 : (t : Int) / (a : Int) = ((t / a : Nat) : Int) := (Int.natCast_ediv _ _).symm
      have e2 : (t : Int) % (a : Int) = ((t % a : Nat) : Int) := (Int.natCast_emod _ _).symm
      have hT : t * a' / a = t * (a - 1) / a := by rw [ha1]
      rw [← EA.out] at hs
      have hm : t % a ≤ t := Nat.mod_le _ _
      have hmq : t % a ≠ 0 → t / a + 1 ≤ t := fun h => by
        have := Nat.div_add_mod t a
        have h5 : t / a ≤ a * (t / a) := Nat.le_mul_of_pos_left _ (by omega)
        omega
      obtain ⟨q, eq⟩ : ∃ q, t / a = q := ⟨_, rfl⟩
      obtain ⟨r, er⟩ : ∃ r, t % a = r := ⟨_, rfl⟩
      rw [eq] at hs hq e1 hmq
      rw [er] at hs e2 hm hmq
      obtain ⟨T, eT⟩ : ∃ T, t * a' / a = T := ⟨_, rfl⟩
      have ET : Hid (t * (a - 1) / a = T) := Lib.hid (by rw [← hT, eT])
      rw [eT] at hs h2
      have wq : IntKind.u64.wrap (q : Int) = (q : Int) := wrap_nat (nat_bd hq ht)
      obtain ⟨m, em⟩ : ∃ m, lim - k = m + 1 := ⟨lim - k - 1, by omega⟩
      have em2 : lim - (k + 1) = m := by omega
      have EM := Lib.hid em
      have EM2 := Lib.hid em2
      have c2 : (k : Int) < (lim : Int) := by omega
      clear eq er eT em em2 hT ha1
      rcases Nat.lt_or_ge v T with hx | hx
      · have HR := Lib.hid (geo_round (a := a) (v := v) (m := m) (t := t) (k := k) (by rw [ET.out]; omega))
        have c1 : decide ((T : Int) ≤ (v : Int)) = false := decide_eq_false (by omega)
        by_cases hr : r = 0
        · have hs1 : T = t - q := by rw [hs, if_pos hr]
          have w1 : IntKind.u64.wrap ((t : Int) - (q : Int)) = (T : Int) := wrap_of (by omega) h2
          have rz : ((r : Int) != 0) = false := by rw [bne_eq_false_iff_eq]; omega
          clear hs hs1 hr hmq
          go_wp2_with fail
          go_round
          case rel => (first | exact ⟨T, k + 1, h2, by omega, by omega, rfl, by go_num, Lib.hid (by rw [HG.out, EM.out, HR.out, EM2.out, ET.out])⟩ | ((repeat apply Exists.intro); exact ⟨⟨T, k + 1, h2, by omega, by omega, rfl, by go_num, Lib.hid (by rw [HG.out, EM.out, HR.out, EM2.out, ET.out])⟩, rfl⟩))
          case measure => simp [intOf]; omega
        · have hq1 := hmq hr
          have hs1 : T = t - (q + 1) := by rw [hs, if_neg hr]
          have wq1 : IntKind.u64.wrap ((q : Int) + 1) = (q : Int) + 1 := wrap_of (n := q + 1) (by omega) (nat_bd hq1 ht)
          have w1 : IntKind.u64.wrap ((t : Int) - ((q : Int) + 1)) = (T : Int) := wrap_of (by omega) h2
          have rz : ((r : Int) != 0) = true := by rw [bne_iff_ne]; omega
          clear hs hs1 hr hmq
          go_wp2_with fail
          go_round
          case rel => (first | exact ⟨T, k + 1, h2, by omega, by omega, rfl, by go_num, Lib.hid (by rw [HG.out, EM.out, HR.out, EM2.out, ET.out])⟩ | ((repeat apply Exists.intro); exact ⟨⟨T, k + 1, h2, by omega, by omega, rfl, by go_num, Lib.hid (by rw [HG.out, EM.out, HR.out, EM2.out, ET.out])⟩, rfl⟩))
          case measure => simp [intOf]; omega
      · have HR := Lib.hid (geo_stop (a := a) (v := v) (m := m) (t := t) (k := k) (by rw [ET.out]; omega))
        have c1 : decide ((T : Int) ≤ (v : Int)) = true := decide_eq_true (by omega)
        by_cases hr : r = 0
        · have hs1 : T = t - q := by rw [hs, if_pos hr]
          have w1 : IntKind.u64.wrap ((t : Int) - (q : Int)) = (T : Int) := wrap_of (by omega) h2
          have rz : ((r : Int) != 0) = false := by rw [bne_eq_false_iff_eq]; omega
          clear hs hs1 hr hmq
          go_wp2_with fail
          go_ret
          exact ⟨ret_int (by rw [HG.out, EM.out, HR.out]), rfl⟩
        · have hq1 := hmq hr
          have hs1 : T = t - (q + 1) := by rw [hs, if_neg hr]
          have wq1 : IntKind.u64.wrap ((q : Int) + 1) = (q : Int) + 1 := wrap_of (n := q + 1) (by omega) (nat_bd hq1 ht)
          have w1 : IntKind.u64.wrap ((t : Int) - ((q : Int) + 1)) = (T : Int) := wrap_of (by omega) h2
          have rz : ((r : Int) != 0) = true := by rw [bne_iff_ne]; omega
          clear hs hs1 hr hmq
          go_wp2_with fail
          go_ret
          exact ⟨ret_int (by rw [HG.out, EM.out, HR.out]), rfl⟩
    · obtain rfl : lim = k := by omega
      go_wp2_with fail
      go_ret
      exact ⟨ret_int (by rw [HG.out, Nat.sub_self]; rfl), rfl⟩
end Go.Proofs.YteapicfobammjaaDoor.Di
