/-
  The contracts of geomValue and of the reference's geometric.
-/
import Derived.Test.YtnfddeoddjmpkabDoorDUpper
namespace Go.Proofs.YtnfddeoddjmpkabDoor.Di
open Go.RowKit
set_option maxHeartbeats 1000000
/-- The value of DGeom: m rounds are left, the last bound was t, k trials are next. -/
def geoR (a v : Nat) : Nat → Nat → Nat → Nat
  | 0, _, k => k
  | m + 1, t, k => if t * (a - 1) / a ≤ v then k else geoR a v m (t * (a - 1) / a) (k + 1)
def notU (u : Nat) : Nat := 18446744073709551615 - u
def geoV (a lim u : Nat) : Nat := geoR a (notU u) (lim - 1) 18446744073709551615 1
def is64 (u : Nat) : Prop := u < 18446744073709551616
theorem notU_run (u : Nat) (h : is64 u) : Op.unary .xor (.int .u64 (u : Int)) = pure (.int .u64 ((notU u : Nat) : Int)) := by
  show pure (Value.int .u64 (bits .xor .u64 (if IntKind.u64.signed = true then -1 else IntKind.u64.max) (u : Int))) = _
  have e2 : IntKind.u64.max = ((18446744073709551615 : Nat) : Int) := by decide
  unfold notU
  rw [if_neg (by decide), ← St.not_u64 u h, e2, bits_xor_u64_nat 18446744073709551615 u (by decide) h]
theorem geo_lt {a t : Nat} (ha : 0 < a) (ht : is64 t) : is64 (t * (a - 1) / a) := by
  unfold is64 at *
  have h1 : t * (a - 1) ≤ t * a := Nat.mul_le_mul_left t (by omega)
  have h2 : t * (a - 1) / a ≤ t := by
    calc t * (a - 1) / a ≤ t * a / a := Nat.div_le_div_right h1
      _ = t := Nat.mul_div_cancel t ha
  omega
theorem geo_round {a v m t k : Nat} (h : ¬ t * (a - 1) / a ≤ v) : geoR a v (m + 1) t k = geoR a v m (t * (a - 1) / a) (k + 1) := by
  show (if _ then _ else _) = _
  rw [if_neg h]
theorem geo_stop {a v m t k : Nat} (h : t * (a - 1) / a ≤ v) : geoR a v (m + 1) t k = k := by
  show (if _ then _ else _) = _
  rw [if_pos h]
theorem geo_hi {a t : Nat} (ha : 0 < a) (ht : is64 t) : t * (a - 1) / 18446744073709551616 < a := by
  unfold is64 at ht
  rw [Nat.div_lt_iff_lt_mul (by decide)]
  have h1 : t * (a - 1) ≤ t * a := Nat.mul_le_mul_left t (by omega)
  have h2 : t * a < 18446744073709551616 * a := Nat.mul_lt_mul_of_pos_right ht ha
  omega
theorem geo_back (p : Nat) : p / 18446744073709551616 * 18446744073709551616 + p % 18446744073709551616 = p := by omega
theorem i64_of {n m : Nat} (h : n = m + 1) (hm : m < 9223372036854775807) : IntKind.i64.wrap ((n : Int) - 1) = (m : Int) := by rw [IntKind.wrap_i64]; omega
theorem geom_any (a lim u : Nat) (a0 : 1 ≤ a) (a1 : a ≤ 1000) (l0 : 1 ≤ lim) (l1 : lim ≤ 1000) (hu : is64 u) (w : World) :
    Calls Tryd.prog 62 #[.int .i64 a, .int .i64 lim, .int .u64 u] w (Quiet (.int .i64 (geoV a lim u : Nat)) w) := by
  have NR := notU_run u hu
  unfold geoV
  obtain ⟨v, ev⟩ : ∃ v, notU u = v := ⟨_, rfl⟩
  rw [ev] at NR ⊢
  have hv : is64 v := by rw [← ev]; unfold notU is64; omega
  obtain ⟨a', rfl⟩ : ∃ a', a = a' + 1 := ⟨a - 1, by omega⟩
  have ea : ((a' + 1 : Nat) : Int) - 1 = (a' : Int) := by omega
  have wa : IntKind.u64.wrap (a' : Int) = (a' : Int) := wrap_nat (by omega)
  have wa1 : IntKind.u64.wrap ((a' + 1 : Nat) : Int) = ((a' + 1 : Nat) : Int) := wrap_nat (by omega)
  clear ev hu
  go_enter Tryd.func62, Tryd.ntmps62
  go_wp2_with fail
  go_loopw [8, 9] (fun x y wr => ∃ t k n : Nat, is64 t ∧ 1 ≤ k ∧ k ≤ lim ∧ x = .int .u64 (t : Nat) ∧ y = .int .i64 (k : Nat) ∧ wr = w.drewN n ∧ Hid (geoR (a' + 1) v (lim - 1) 18446744073709551615 1 = geoR (a' + 1) v (lim - k) t k)) (fun _ y _ => lim - (intOf y).toNat)
  case atStart => exact ⟨18446744073709551615, 1, 0, by unfold is64; omega, by omega, l0, rfl, rfl, rfl, Lib.hid rfl⟩
  case round =>
    obtain ⟨t, k, n, ht, k0, k1, rfl, rfl, rfl, HG⟩ := hrel
    rcases Nat.lt_or_ge k lim with h | h
    · have M := Lib.hid (fun w => mul64_any t a' _ _ ht (by omega) rfl rfl w)
      have hh := geo_hi (a := a' + 1) (by omega) ht
      rw [Nat.add_sub_cancel] at hh
      have D := Lib.hid (fun w => div64_any (t * a' / 18446744073709551616) (t * a' % 18446744073709551616) (a' + 1) _ _ hh (Nat.mod_lt _ (by decide)) (by omega) rfl rfl w)
      rw [geo_back] at D
      have h2 := geo_lt (a := a' + 1) (by omega) ht
      rw [Nat.add_sub_cancel] at h2
      obtain ⟨m, em⟩ : ∃ m, lim - k = m + 1 := ⟨lim - k - 1, by omega⟩
      have em2 : lim - (k + 1) = m := by omega
      rcases Nat.lt_or_ge v (t * a' / (a' + 1)) with hx | hx
      · have HR := Lib.hid (geo_round (a := a' + 1) (v := v) (m := m) (t := t) (k := k) (by rw [Nat.add_sub_cancel]; omega))
        obtain ⟨T, eT⟩ : ∃ T, t * a' / (a' + 1) = T := ⟨_, rfl⟩
        have ET := Lib.hid eT
        rw [eT] at D h2 hx
        have EM := Lib.hid em
        have EM2 := Lib.hid em2
        obtain ⟨P, eP⟩ : ∃ P, t * a' / 18446744073709551616 = P := ⟨_, rfl⟩
        obtain ⟨Q, eQ⟩ : ∃ Q, t * a' % 18446744073709551616 = Q := ⟨_, rfl⟩
        rw [eP, eQ] at M D
        clear eT em em2 eP eQ hh
        have c1 : decide ((T : Int) ≤ (v : Int)) = false := decide_eq_false (by omega)
        have c2 : (k : Int) < (lim : Int) := by omega
        go_wp2_with fail
        refine (M.out _).mono ?_
        rintro e w1 ⟨rfl, rfl⟩
        go_wp2_with fail
        refine (D.out _).mono ?_
        rintro e w1 ⟨rfl, n2, rfl⟩
        go_wp2_with fail
        go_roundw
        case rel => (repeat apply Exists.intro); exact ⟨⟨T, k + 1, _, h2, by omega, by omega, rfl, by go_num, (by first | rfl | exact World.drewN_drewN _ _ _), Lib.hid (by rw [HG.out, EM.out, HR.out, EM2.out, Nat.add_sub_cancel, ET.out])⟩, rfl⟩
        case measure => simp [intOf]; omega
      · have HR := Lib.hid (geo_stop (a := a' + 1) (v := v) (m := m) (t := t) (k := k) (by rw [Nat.add_sub_cancel]; omega))
        obtain ⟨T, eT⟩ : ∃ T, t * a' / (a' + 1) = T := ⟨_, rfl⟩
        rw [eT] at D h2 hx
        have EM := Lib.hid em
        obtain ⟨P, eP⟩ : ∃ P, t * a' / 18446744073709551616 = P := ⟨_, rfl⟩
        obtain ⟨Q, eQ⟩ : ∃ Q, t * a' % 18446744073709551616 = Q := ⟨_, rfl⟩
        rw [eP, eQ] at M D
        clear eT em em2 eP eQ hh
        have c1 : decide ((T : Int) ≤ (v : Int)) = true := decide_eq_true (by omega)
        have c2 : (k : Int) < (lim : Int) := by omega
        go_wp2_with fail
        refine (M.out _).mono ?_
        rintro e w1 ⟨rfl, rfl⟩
        go_wp2_with fail
        refine (D.out _).mono ?_
        rintro e w1 ⟨rfl, n2, rfl⟩
        go_wp2_with fail
        go_ret
        exact ⟨ret_int (by rw [HG.out, EM.out, HR.out]), _, rfl⟩
    · obtain rfl : lim = k := by omega
      go_wp2_with fail
      go_ret
      exact ⟨ret_int (by rw [HG.out, Nat.sub_self]; rfl), _, rfl⟩
end Go.Proofs.YtnfddeoddjmpkabDoor.Di
