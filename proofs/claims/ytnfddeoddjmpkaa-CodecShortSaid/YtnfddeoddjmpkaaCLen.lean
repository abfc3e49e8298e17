/-
  The contracts of length, and of the reference's many.
-/
import Derived.Test.YtnfddeoddjmpkaaCIntR
namespace Go.Proofs.Ytnfddeoddjmpkaa.Co
open Go.RowKit
set_option maxHeartbeats 2000000
def Dec.c : Dec → Nat
  | .bad _ => 0
  | .good v _ => v
theorem dec_cases (l : List UInt8) : dec l 0 0 = .bad 7 ∨ dec l 0 0 = .bad 8 ∨ ∃ v k, dec l 0 0 = .good v k := by
  cases h : dec l 0 0 with
  | bad e => rcases dec_e l 0 0 e h with rfl | rfl <;> simp
  | good v k => exact .inr (.inr ⟨v, k, rfl⟩)
theorem decL_cases (l : List UInt8) (most : Int) : decL l most = .bad 6 ∨ decL l most = .bad 7 ∨ decL l most = .bad 8 ∨ ∃ n k, decL l most = .good n k ∧ n ≤ 9223372036854775807 ∧ 1 ≤ k ∧ k ≤ l.length ∧ k ≤ 10 := by
  rcases dec_cases l with h | h | ⟨v, k, h⟩
  · exact .inr (.inl (decL_bad h))
  · exact .inr (.inr (.inl (decL_bad h)))
  · by_cases h2 : intZ v < 0
    · exact .inr (.inr (.inl (decL_neg h h2)))
    · by_cases h3 : most < intZ v
      · exact .inl (decL_long h h2 h3)
      · have hg := dec_good0 h
        have := intZ_bd hg.2.2.2.2
        exact .inr (.inr (.inr ⟨_, _, decL_good h h2 h3, by omega, hg.1, hg.2.1, hg.2.2.1⟩))
theorem len_ret {z : Int} {k : Nat} (h : 0 ≤ z) : Ending.returned (.tuple #[.int .i64 z, .int .i64 (k : Nat), .int .i64 0]) = .returned (.tuple #[.int .i64 ((Dec.good z.toNat k).c : Nat), .int .i64 ((Dec.good z.toNat k).k : Nat), .int .i64 ((Dec.good z.toNat k).e : Nat)]) := by
  show _ = Ending.returned (.tuple #[.int .i64 ((z.toNat : Nat) : Int), .int .i64 (k : Nat), .int .i64 0])
  rw [Int.toNat_of_nonneg h]
theorem length_any (p : Option Addr) (n c : Nat) (l : List UInt8) (most : Int) (w : World) (hb : Byt w p n l) : Calls Try.prog 32 #[.slice p n c, .int .i64 most] w (Gives (.tuple #[.int .i64 ((decL l most).c : Nat), .int .i64 ((decL l most).k : Nat), .int .i64 ((decL l most).e : Nat)]) w) := by
  rcases dec_cases l with hx | hx | ⟨v, k, hx⟩
  · have I : Calls Try.prog 18 #[.slice p n c] w (Gives (.tuple #[.int .i64 0, .int .i64 0, .int .i64 7]) w) := int_any p n c l (.bad 7) w hb (Lib.hid hx)
    have HR := Lib.hid (decL_bad (most := most) hx)
    clear hx hb
    go_enter Try.func32, Try.ntmps32
    go_wp2_with fail
    refine I.mono ?_
    rintro e w1 ⟨rfl, hb1⟩
    go_wp2_with fail
    go_ret3
    exact ⟨by rw [HR.out]; rfl, by (repeat (first | (with_reducible exact Below.refl _ _) | (with_reducible assumption) | (with_reducible apply bl_alloc) | (with_reducible apply bl_drewN) | (with_reducible apply bl_drew) | (with_reducible refine bl_set ?_ (by first | (simp; done) | (simp; omega)) _) | (with_reducible refine bl_call ?_ (by assumption))))⟩
  · have I : Calls Try.prog 18 #[.slice p n c] w (Gives (.tuple #[.int .i64 0, .int .i64 0, .int .i64 8]) w) := int_any p n c l (.bad 8) w hb (Lib.hid hx)
    have HR := Lib.hid (decL_bad (most := most) hx)
    clear hx hb
    go_enter Try.func32, Try.ntmps32
    go_wp2_with fail
    refine I.mono ?_
    rintro e w1 ⟨rfl, hb1⟩
    go_wp2_with fail
    go_ret3
    exact ⟨by rw [HR.out]; rfl, by (repeat (first | (with_reducible exact Below.refl _ _) | (with_reducible assumption) | (with_reducible apply bl_alloc) | (with_reducible apply bl_drewN) | (with_reducible apply bl_drew) | (with_reducible refine bl_set ?_ (by first | (simp; done) | (simp; omega)) _) | (with_reducible refine bl_call ?_ (by assumption))))⟩
  · obtain ⟨z, hz⟩ : ∃ z, intZ v = z := ⟨_, rfl⟩
    have I : Calls Try.prog 18 #[.slice p n c] w (Gives (.tuple #[.int .i64 z, .int .i64 (k : Nat), .int .i64 0]) w) := by rw [← hz]; exact int_any p n c l (.good v k) w hb (Lib.hid hx)
    by_cases h2 : z < 0
    · have HR := Lib.hid (decL_neg (most := most) hx (by rw [hz]; exact h2))
      clear hx hz hb
      go_enter Try.func32, Try.ntmps32
      go_wp2_with fail
      refine I.mono ?_
      rintro e w1 ⟨rfl, hb1⟩
      go_wp2_with fail
      go_ret3
      exact ⟨by rw [HR.out]; rfl, by (repeat (first | (with_reducible exact Below.refl _ _) | (with_reducible assumption) | (with_reducible apply bl_alloc) | (with_reducible apply bl_drewN) | (with_reducible apply bl_drew) | (with_reducible refine bl_set ?_ (by first | (simp; done) | (simp; omega)) _) | (with_reducible refine bl_call ?_ (by assumption))))⟩
    · have h2' : 0 ≤ z := by omega
      have t1 : decide (z < 0) = false := decide_eq_false h2
      by_cases h3 : most < z
      · have HR := Lib.hid (decL_long hx (by rw [hz]; exact h2) (by rw [hz]; exact h3))
        clear hx hz hb h2
        go_enter Try.func32, Try.ntmps32
        go_wp2_with fail
        refine I.mono ?_
        rintro e w1 ⟨rfl, hb1⟩
        go_wp2_with fail
        go_ret3
        exact ⟨by rw [HR.out]; rfl, by (repeat (first | (with_reducible exact Below.refl _ _) | (with_reducible assumption) | (with_reducible apply bl_alloc) | (with_reducible apply bl_drewN) | (with_reducible apply bl_drew) | (with_reducible refine bl_set ?_ (by first | (simp; done) | (simp; omega)) _) | (with_reducible refine bl_call ?_ (by assumption))))⟩
      · have HR := Lib.hid (decL_good hx (by rw [hz]; exact h2) (by rw [hz]; exact h3))
        have t2 : decide (most < z) = false := decide_eq_false h3
        have HZ := Lib.hid hz
        have HN := Lib.hid h2'
        clear hx hz hb h2 h3
        go_enter Try.func32, Try.ntmps32
        go_wp2_with fail
        refine I.mono ?_
        rintro e w1 ⟨rfl, hb1⟩
        go_wp2_with fail
        go_ret3
        exact ⟨by rw [HR.out, HZ.out]; exact len_ret HN.out, by (repeat (first | (with_reducible exact Below.refl _ _) | (with_reducible assumption) | (with_reducible apply bl_alloc) | (with_reducible apply bl_drewN) | (with_reducible apply bl_drew) | (with_reducible refine bl_set ?_ (by first | (simp; done) | (simp; omega)) _) | (with_reducible refine bl_call ?_ (by assumption))))⟩
theorem many_any (p : Option Addr) (n c : Nat) (l : List UInt8) (most : Int) (w : World) (hb : Byt w p n l) : Calls Try.prog 33 #[.slice p n c, .int .i64 most] w (Gives (.tuple #[.int .i64 ((decL l most).c : Nat), .int .i64 ((decL l most).k : Nat), .int .i64 ((decL l most).e : Nat)]) w) := by
  rcases dec_cases l with hx | hx | ⟨v, k, hx⟩
  · have I : Calls Try.prog 19 #[.slice p n c] w (Gives (.tuple #[.int .i64 0, .int .i64 0, .int .i64 7]) w) := rint_any p n c l (.bad 7) w hb (Lib.hid hx)
    have HR := Lib.hid (decL_bad (most := most) hx)
    clear hx hb
    go_enter Try.func33, Try.ntmps33
    go_wp2_with fail
    refine I.mono ?_
    rintro e w1 ⟨rfl, hb1⟩
    go_wp2_with fail
    go_ret3
    exact ⟨by rw [HR.out]; rfl, by (repeat (first | (with_reducible exact Below.refl _ _) | (with_reducible assumption) | (with_reducible apply bl_alloc) | (with_reducible apply bl_drewN) | (with_reducible apply bl_drew) | (with_reducible refine bl_set ?_ (by first | (simp; done) | (simp; omega)) _) | (with_reducible refine bl_call ?_ (by assumption))))⟩
  · have I : Calls Try.prog 19 #[.slice p n c] w (Gives (.tuple #[.int .i64 0, .int .i64 0, .int .i64 8]) w) := rint_any p n c l (.bad 8) w hb (Lib.hid hx)
    have HR := Lib.hid (decL_bad (most := most) hx)
    clear hx hb
    go_enter Try.func33, Try.ntmps33
    go_wp2_with fail
    refine I.mono ?_
    rintro e w1 ⟨rfl, hb1⟩
    go_wp2_with fail
    go_ret3
    exact ⟨by rw [HR.out]; rfl, by (repeat (first | (with_reducible exact Below.refl _ _) | (with_reducible assumption) | (with_reducible apply bl_alloc) | (with_reducible apply bl_drewN) | (with_reducible apply bl_drew) | (with_reducible refine bl_set ?_ (by first | (simp; done) | (simp; omega)) _) | (with_reducible refine bl_call ?_ (by assumption))))⟩
  · obtain ⟨z, hz⟩ : ∃ z, intZ v = z := ⟨_, rfl⟩
    have I : Calls Try.prog 19 #[.slice p n c] w (Gives (.tuple #[.int .i64 z, .int .i64 (k : Nat), .int .i64 0]) w) := by rw [← hz]; exact rint_any p n c l (.good v k) w hb (Lib.hid hx)
    by_cases h2 : z < 0
    · have HR := Lib.hid (decL_neg (most := most) hx (by rw [hz]; exact h2))
      clear hx hz hb
      go_enter Try.func33, Try.ntmps33
      go_wp2_with fail
      refine I.mono ?_
      rintro e w1 ⟨rfl, hb1⟩
      go_wp2_with fail
      go_ret3
      exact ⟨by rw [HR.out]; rfl, by (repeat (first | (with_reducible exact Below.refl _ _) | (with_reducible assumption) | (with_reducible apply bl_alloc) | (with_reducible apply bl_drewN) | (with_reducible apply bl_drew) | (with_reducible refine bl_set ?_ (by first | (simp; done) | (simp; omega)) _) | (with_reducible refine bl_call ?_ (by assumption))))⟩
    · have h2' : 0 ≤ z := by omega
      have t1 : decide (z < 0) = false := decide_eq_false h2
      by_cases h3 : most < z
      · have HR := Lib.hid (decL_long hx (by rw [hz]; exact h2) (by rw [hz]; exact h3))
        clear hx hz hb h2
        go_enter Try.func33, Try.ntmps33
        go_wp2_with fail
        refine I.mono ?_
        rintro e w1 ⟨rfl, hb1⟩
        go_wp2_with fail
        go_ret3
        exact ⟨by rw [HR.out]; rfl, by (repeat (first | (with_reducible exact Below.refl _ _) | (with_reducible assumption) | (with_reducible apply bl_alloc) | (with_reducible apply bl_drewN) | (with_reducible apply bl_drew) | (with_reducible refine bl_set ?_ (by first | (simp; done) | (simp; omega)) _) | (with_reducible refine bl_call ?_ (by assumption))))⟩
      · have HR := Lib.hid (decL_good hx (by rw [hz]; exact h2) (by rw [hz]; exact h3))
        have t2 : decide (most < z) = false := decide_eq_false h3
        have HZ := Lib.hid hz
        have HN := Lib.hid h2'
        clear hx hz hb h2 h3
        go_enter Try.func33, Try.ntmps33
        go_wp2_with fail
        refine I.mono ?_
        rintro e w1 ⟨rfl, hb1⟩
        go_wp2_with fail
        go_ret3
        exact ⟨by rw [HR.out, HZ.out]; exact len_ret HN.out, by (repeat (first | (with_reducible exact Below.refl _ _) | (with_reducible assumption) | (with_reducible apply bl_alloc) | (with_reducible apply bl_drewN) | (with_reducible apply bl_drew) | (with_reducible refine bl_set ?_ (by first | (simp; done) | (simp; omega)) _) | (with_reducible refine bl_call ?_ (by assumption))))⟩
end Go.Proofs.Ytnfddeoddjmpkaa.Co
