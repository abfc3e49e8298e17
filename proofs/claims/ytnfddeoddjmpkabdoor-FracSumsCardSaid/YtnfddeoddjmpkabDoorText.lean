/-
  The contracts of package num's Text and of package frac's Text.
-/
import Derived.Test.YtnfddeoddjmpkabDoorWide
import Derived.Test.YtnfddeoddjmpkabDoorNum
namespace Go.Proofs.YtnfddeoddjmpkabDoor
open Go.RowKit
set_option maxHeartbeats 2000000
/-- What the library's table of powers of ten holds. -/
structure Env (w : World) : Prop where
  zTab : 2 < w.heap.size
  tab : Lib.TabIs Tryd.prog w "internal/strconv.uint64pow10" .u64 Lib.pow10Tab
theorem Env.below {w w' : World} (h : Env w) (hb : Below w.heap.size w w') : Env w' :=
  ⟨Nat.lt_of_lt_of_le h.zTab hb.size, var?_below hb (by kernel_rfl) h.zTab h.tab⟩
theorem Env.alloc {w : World} {o : Obj} (h : Env w) : Env (w.alloc o) := h.below ((Below.refl _ _).alloc (Nat.le_refl _) o)
theorem Env.drew {w : World} (h : Env w) : Env w.drew := h.below (Below.refl _ _).drew
theorem Env.drewN {w : World} (h : Env w) (n : Nat) : Env (w.drewN n) := h.below (below_drewN (Below.refl _ _) n)
theorem Env.set {w : World} (h : Env w) {p : Addr} {u : Value} (hp : 2 < p.block) : Env (w.setCell p u) := by
  refine ⟨by simpa [World.setCell] using h.zTab, ?_⟩
  exact var?_below (B := p.block) ((Below.refl _ _).setCell (Nat.le_refl _) u) (by kernel_rfl) hp h.tab
theorem grow_below (w : World) (k : Nat) (os : Array Obj) : Below w.heap.size w (Sort.grow (w.drewN k) os) :=
  ⟨rfl, rfl, rfl, by rw [Sort.size_grow]; exact Nat.le_add_right _ _, fun j hj => Sort.heap_grow_old (w.drewN k) os hj⟩
theorem itoa_any (n : Int) (h0 : -9223372036854775808 ≤ n) (h1 : n ≤ 9223372036854775807) (w : World) (hE : Env w) :
    Calls Tryd.prog 64 #[.int .i64 n] w fun e w' => e = .returned (.string (num n)) ∧ Below w.heap.size w w' :=
  (show Calls Tryd.prog 64 #[.int .i64 n] w fun e w' => e = .returned (.string (num n)) ∧ ∃ k os, w' = Sort.grow (w.drewN k) os from Any.strconv_Itoa Tryd.laysM171 n h0 h1 w hE.tab).mono
    fun _ _ ⟨he, k, os, hw⟩ => ⟨he, by rw [hw]; exact grow_below w k os⟩
theorem ntext_any (n : Int) (h0 : -9223372036854775808 ≤ n) (h1 : n ≤ 9223372036854775807) (w : World) (hE : Env w) :
    Calls Tryd.prog 41 #[.int .i64 n] w (Gives (.string (num n)) w) := by
  go_enter Tryd.func41, Tryd.ntmps41
  go_wp2_with (go_at_call 64; refine (itoa_any n h0 h1 _ hE).mono ?_; rintro e w' ⟨rfl, hb⟩)
  go_ret
  exact ⟨rfl, hb⟩
theorem text_any (a b : Int) (n0 : -9223372036854775808 ≤ a) (n1 : a ≤ 9223372036854775807) (d0 : -9223372036854775808 ≤ b) (d1 : b ≤ 9223372036854775807) (w : World) (hE : Env w) : Calls Tryd.prog 17 #[.agg #[.int .i64 a, .int .i64 b]] w (Gives (.string (txt a b)) w) := by
  unfold txt
  cases h1 : okF a b
  · have H1 := Lib.hid h1
    rw [if_neg (by simp)]
    clear h1
    go_enter Tryd.func17, Tryd.ntmps17
    go_wp2_with fail
    refine (valid_any a b (by omega) (by omega) (by omega) (by omega) _).mono ?_
    rintro e w1 ⟨rfl, hb1⟩
    rw [H1.out]
    go_wp2_with fail
    go_ret
    exact ⟨rfl, by repeat (first | exact Below.refl _ _ | assumption | apply bl_alloc | apply bl_drewN | apply bl_drew | (refine bl_set ?_ (by first | (simp; done) | (simp; omega)) _) | (refine bl_call ?_ (by assumption)))⟩
  · have H1 := Lib.hid h1
    rw [if_pos rfl]
    by_cases hd : b = 1
    · subst hd
      rw [if_pos rfl]
      clear h1
      go_enter Tryd.func17, Tryd.ntmps17
      go_wp2_with fail
      refine (valid_any a 1 (by omega) (by omega) (by omega) (by omega) _).mono ?_
      rintro e w1 ⟨rfl, hb1⟩
      rw [H1.out]
      have A1 : two w1 (w.heap.size) (.int .i64 a) (.int .i64 1) := two.call (by refine ⟨?_, ?_, ?_, ?_, ?_⟩ <;> first | (go_simp; done) | (simp; done) | (simp; omega)) hb1
      have hE1 := (hE.alloc).below hb1
      obtain ⟨a0, a1, a2, a3, a4⟩ := A1
      have A1 : two _ _ _ _ := ⟨a0, a1, a2, a3, a4⟩
      go_wp2_with fail
      refine (ntext_any a n0 n1 _ hE1).mono ?_
      rintro e w2 ⟨rfl, hb2⟩
      go_wp2_with fail
      go_ret
      exact ⟨rfl, by repeat (first | exact Below.refl _ _ | assumption | apply bl_alloc | apply bl_drewN | apply bl_drew | (refine bl_set ?_ (by first | (simp; done) | (simp; omega)) _) | (refine bl_call ?_ (by assumption)))⟩
    · rw [if_neg hd]
      have hd1 : (b == 1) = false := by rw [beq_eq_false_iff_ne]; exact hd
      have s1 := num_size20 a n0 n1
      have s2 := num_size20 b d0 d1
      have q1 : ¬ 9223372036854775807 < (num a).size + 1 := by omega
      have q2 : ¬ 9223372036854775807 < (num a).size + 1 + (num b).size := by omega
      clear h1 hd
      go_enter Tryd.func17, Tryd.ntmps17
      go_wp2_with fail
      refine (valid_any a b (by omega) (by omega) (by omega) (by omega) _).mono ?_
      rintro e w1 ⟨rfl, hb1⟩
      rw [H1.out]
      have A1 : two w1 (w.heap.size) (.int .i64 a) (.int .i64 b) := two.call (by refine ⟨?_, ?_, ?_, ?_, ?_⟩ <;> first | (go_simp; done) | (simp; done) | (simp; omega)) hb1
      have hE1 := (hE.alloc).below hb1
      obtain ⟨a0, a1, a2, a3, a4⟩ := A1
      have A1 : two _ _ _ _ := ⟨a0, a1, a2, a3, a4⟩
      go_wp2_with fail
      go_region_held3 (fun w' => w'.cell? ⟨w.heap.size, 0, none⟩ = some (.int .i64 a) ∧ w'.cell? ⟨w.heap.size, 1, none⟩ = some (.int .i64 b)) (first | (go_keep; done) | exact ⟨A3.1, A3.2.1⟩ | exact ⟨A2.1, A2.2.1⟩)
        (first
          | (go_at_call_of 41 (Value.int .i64 a); refine (ntext_any a n0 n1 _ hE1.drew).mono ?_; rintro e w2 ⟨rfl, hb2⟩; have A2 := two.on hb2 A1; have hE2 := hE1.drew.below hb2)
          | (go_at_call_of 41 (Value.int .i64 b); refine (ntext_any b d0 d1 _ hE2).mono ?_; rintro e w3 ⟨rfl, hb3⟩; have A3 := two.on hb3 A2))
      all_goals (go_wp2_with fail; go_ret; exact ⟨rfl, by repeat (first | exact Below.refl _ _ | assumption | apply bl_alloc | apply bl_drewN | apply bl_drew | (refine bl_set ?_ (by first | (simp; done) | (simp; omega)) _) | (refine bl_call ?_ (by assumption)))⟩)
end Go.Proofs.YtnfddeoddjmpkabDoor
