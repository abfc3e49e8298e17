/-
  The contracts of cmp.Compare and cmp.Or, and of the comparison of integers of 128 bits.
-/
import Derived.Test.YtnfddeoddjmpkabDoorWide
import Derived.Deep.RegionHeld3
namespace Go.Proofs.YtnfddeoddjmpkabDoor
open Go.RowKit
set_option maxHeartbeats 400000
theorem compare_i64 (x y : Int) (w : World) : Calls Tryd.prog 66 #[.int .i64 x, .int .i64 y] w fun e w' => e = .returned (.int .i64 (cmpZ x y)) ∧ w = w' := by
  unfold cmpZ
  have h : x < y ∨ (¬ x < y ∧ y < x) ∨ ¬ x < y ∧ ¬ y < x := by omega
  rcases h with h | ⟨h, g⟩ | ⟨h, g⟩
  · rw [if_pos h]
    go_enter Tryd.func66, Tryd.ntmps66
    go_wp2
    go_ret
    exact ⟨rfl, rfl⟩
  · rw [if_neg h, if_pos g]
    go_enter Tryd.func66, Tryd.ntmps66
    go_wp2
    go_ret
    exact ⟨rfl, rfl⟩
  · rw [if_neg h, if_neg g]
    go_enter Tryd.func66, Tryd.ntmps66
    go_wp2
    go_ret
    exact ⟨rfl, rfl⟩
theorem compare_u64 (x y : Int) (w : World) : Calls Tryd.prog 67 #[.int .u64 x, .int .u64 y] w fun e w' => e = .returned (.int .i64 (cmpZ x y)) ∧ w = w' := by
  unfold cmpZ
  have h : x < y ∨ (¬ x < y ∧ y < x) ∨ ¬ x < y ∧ ¬ y < x := by omega
  rcases h with h | ⟨h, g⟩ | ⟨h, g⟩
  · rw [if_pos h]
    go_enter Tryd.func67, Tryd.ntmps67
    go_wp2
    go_ret
    exact ⟨rfl, rfl⟩
  · rw [if_neg h, if_pos g]
    go_enter Tryd.func67, Tryd.ntmps67
    go_wp2
    go_ret
    exact ⟨rfl, rfl⟩
  · rw [if_neg h, if_neg g]
    go_enter Tryd.func67, Tryd.ntmps67
    go_wp2
    go_ret
    exact ⟨rfl, rfl⟩
def orZ (x y : Int) : Int := if x = 0 then y else x
theorem or_any (b : Nat) (x y : Int) (w : World) (h0 : w.cell? ⟨b, 0, none⟩ = some (.int .i64 x)) (h1 : w.cell? ⟨b, 1, none⟩ = some (.int .i64 y)) :
    Calls Tryd.prog 65 #[.slice (some ⟨b, 0, none⟩) 2 2] w fun e w' => e = .returned (.int .i64 (orZ x y)) ∧ w = w' := by
  unfold orZ
  by_cases hx : x = 0
  · subst hx
    rw [if_pos rfl]
    go_enter Tryd.func65, Tryd.ntmps65
    go_wp2
    go_loop [8] (fun i => ∃ k : Nat, i = .int .i64 k ∧ (k = 0 ∨ k = 1 ∨ k = 2 ∧ y = 0)) (fun i => (2 - intOf i).toNat)
    case atStart => exact ⟨0, rfl, Or.inl rfl⟩
    case round =>
      obtain ⟨k, rfl, hk⟩ := hrel
      rcases hk with rfl | rfl | ⟨rfl, rfl⟩
      · go_wp2
        go_round
        case rel => exact ⟨1, rfl, Or.inr (Or.inl rfl)⟩
        case measure => simp [intOf]
      · by_cases hy : y = 0
        · subst hy
          go_wp2
          go_round
          case rel => exact ⟨2, rfl, Or.inr (Or.inr (by simp))⟩
          case measure => simp [intOf]
        · have hy1 : (y != 0) = true := by rw [bne_iff_ne]; exact hy
          go_wp2
          go_ret
          exact ⟨rfl, rfl⟩
      · go_wp2
        go_ret
        exact ⟨rfl, rfl⟩
  · rw [if_neg hx]
    have hx1 : (x != 0) = true := by rw [bne_iff_ne]; exact hx
    go_enter Tryd.func65, Tryd.ntmps65
    go_wp2
    go_loop [8] (fun i => i = .int .i64 0) (fun i => (2 - intOf i).toNat)
    case atStart => rfl
    case round =>
      obtain rfl := hrel
      go_wp2
      go_ret
      exact ⟨rfl, rfl⟩
theorem cmp_wide (x y : Int) : orZ (cmpZ (x / 18446744073709551616) (y / 18446744073709551616)) (cmpZ (x % 18446744073709551616) (y % 18446744073709551616)) = cmpZ x y := by
  unfold orZ cmpZ
  repeat' split
  all_goals omega
theorem wcmp_any (x y : Int) (w : World) :
    Calls Tryd.prog 43 #[.agg #[.int .i64 (x / 18446744073709551616), .int .u64 (x % 18446744073709551616)], .agg #[.int .i64 (y / 18446744073709551616), .int .u64 (y % 18446744073709551616)]] w (Gives (.int .i64 (cmpZ x y)) w) := by
  rw [← cmp_wide x y]
  obtain ⟨a, ea⟩ : ∃ a, x / 18446744073709551616 = a := ⟨_, rfl⟩
  obtain ⟨b, eb⟩ : ∃ b, x % 18446744073709551616 = b := ⟨_, rfl⟩
  obtain ⟨c, ec⟩ : ∃ c, y / 18446744073709551616 = c := ⟨_, rfl⟩
  obtain ⟨d, ed⟩ : ∃ d, y % 18446744073709551616 = d := ⟨_, rfl⟩
  rw [ea, eb, ec, ed]
  clear ea eb ec ed
  go_enter Tryd.func43, Tryd.ntmps43
  go_wp2_with fail
  go_region_held3 (fun w' => w'.cell? ⟨w.heap.size, 0, none⟩ = some (.int .i64 a) ∧ w'.cell? ⟨w.heap.size, 1, none⟩ = some (.int .u64 b) ∧ w'.cell? ⟨w.heap.size + 1, 0, none⟩ = some (.int .i64 c) ∧ w'.cell? ⟨w.heap.size + 1, 1, none⟩ = some (.int .u64 d)) (go_keep)
    (first
      | (go_at_call 66; refine (compare_i64 _ _ _).mono ?_; rintro e w' ⟨rfl, rfl⟩)
      | (go_at_call 67; refine (compare_u64 _ _ _).mono ?_; rintro e w' ⟨rfl, rfl⟩)
      | (go_at_call 65; refine (or_any _ (cmpZ a c) (cmpZ b d) _ (by go_simp) (by go_simp)).mono ?_; rintro e w' ⟨rfl, rfl⟩))
  go_wp2_with fail
  go_ret
  exact ⟨rfl, by repeat (first | exact Below.refl _ _ | assumption | apply bl_alloc | apply bl_drewN | apply bl_drew | (refine bl_set ?_ (by first | (simp; done) | (simp; omega)) _) | (refine bl_call ?_ (by assumption)))⟩
end Go.Proofs.YtnfddeoddjmpkabDoor
