/-
  The contract of the reference's SameAll.
-/
import Derived.Test.YtmijjpecgcgkgaaGSame2
import Derived.Test.YtmijjpecgcgkgaaGMath
namespace Go.Proofs.Ytmijjpecgcgkgaa.Ag
open Go.RowKit
set_option maxHeartbeats 4000000
def eqE (E F : Nat → Ev) : Nat → Bool
  | 0 => true
  | k + 1 => eqE E F k && sameB (E k) (F k)
theorem eqE_false {E F : Nat → Ev} {k n : Nat} (h : eqE E F k = false) (hk : k ≤ n) : eqE E F n = false := by
  induction n with
  | zero => obtain rfl : k = 0 := by omega
            exact h
  | succ m ih =>
    by_cases e : k = m + 1
    · subst e; exact h
    · show (eqE E F m && _) = false
      rw [ih (by omega)]; rfl
theorem eqE_end {E F : Nat → Ev} {k n : Nat} (h : k < n) (h2 : sameB (E k) (F k) = false) : eqE E F n = false :=
  eqE_false (k := k + 1) (by show (_ && _) = false; rw [h2, Bool.and_false]) h
theorem eqE_next {E F : Nat → Ev} {k : Nat} (h1 : eqE E F k = true) (h2 : sameB (E k) (F k) = true) : eqE E F (k + 1) = true := by
  show (_ && _) = true; rw [h1, h2]; rfl
theorem eqE_iff {E F : Nat → Ev} {n : Nat} : eqE E F n = true ↔ ∀ i, i < n → Eqv (E i) (F i) := by
  induction n with
  | zero => exact ⟨fun _ i hi => absurd hi (Nat.not_lt_zero _), fun _ => rfl⟩
  | succ m ih =>
    show (eqE E F m && sameB (E m) (F m)) = true ↔ _
    rw [Bool.and_eq_true, ih, sameB_iff]
    constructor
    · rintro ⟨h1, h2⟩ i hi
      by_cases e : i = m
      · subst e; exact h2
      · exact h1 i (by omega)
    · intro h
      exact ⟨fun i hi => h i (by omega), h m (by omega)⟩
theorem all_same (p q : Option Addr) (n c d : Nat) (E F : Nat → Ev) (w : World) (hE : Evs w p n E) (hF : Evs w q n F) (hn : n ≤ 20000) (hQ : ∀ i, i < n → Eqv (E i) (F i)) : Calls Try.prog 20 #[.slice p n c, .slice q n d] w (Gives (.bool true) w) := by
  have HQ := Lib.hid hQ
  clear hQ
  have n2 : (n : Int) ≤ 20000 := by omega
  go_enter Try.func20, Try.ntmps20
  go_wp2_with fail
  go_loopw [5] (fun i wr => ∃ k : Nat, k ≤ n ∧ i = .int .i64 k ∧ Below w.heap.size w wr) (fun i _ => n - (intOf i).toNat)
  case atStart => exact ⟨0, Nat.zero_le _, rfl, Below.refl _ _⟩
  case round =>
    obtain ⟨k, hk, rfl, hb0⟩ := hrel
    have c1 : (0 : Int) ≤ (k : Int) := by omega
    rcases Nat.lt_or_ge k n with h | h
    · have c2 : (k : Int) < (n : Int) := by omega
      obtain ⟨hl, h0 | ⟨b, o, rfl, hb, hc⟩⟩ := hE.on hb0
      · omega
      obtain ⟨hl2, h0 | ⟨b2, o2, rfl, hb2, hc2⟩⟩ := hF.on hb0
      · omega
      have CE := (hc.out k h).1
      have CF := (hc2.out k h).1
      have RE := (hc.out k h).2
      have RF := (hc2.out k h).2
      have hs := sameB_iff.2 (HQ.out k h)
      have HS := Lib.hid hs
      clear hs
      obtain ⟨e0, e1, e2, e3, e4, e5, e6, e7, e8⟩ := CE
      obtain ⟨f0, f1, f2, f3, f4, f5, f6, f7, f8⟩ := CF
      go_wp2_with fail
      refine region_still_tail 8 (by kernel_rfl) (by kernel_rfl) ?_
      simp only [List.take_succ_cons, List.take_zero, List.drop_succ_cons, List.drop_zero]
      iterate 8 still_step
      refine wpStill_nil ?_
      go_wp2_with fail
      refine (rsame_any (E k) (F k) wr.drew RE RF).mono ?_
      rintro e w1 ⟨rfl, hb1⟩
      rw [HS.out]
      go_wp2_with fail
      go_roundw
      case rel => exact ⟨k + 1, by omega, by go_num, by (repeat (first | (with_reducible exact Below.refl _ _) | (with_reducible assumption) | (with_reducible apply bl_alloc) | (with_reducible apply bl_drewN) | (with_reducible apply bl_drew) | (with_reducible refine bl_set ?_ (by first | (simp; done) | (simp; omega)) _) | (with_reducible refine bl_call ?_ (by assumption))))⟩
      case measure => simp [intOf]; omega
    · obtain rfl : n = k := by omega
      have c2 : (n : Int) ≤ (n : Int) := by omega
      go_wp2_with fail
      go_ret
      exact ⟨rfl, by (repeat (first | (with_reducible exact Below.refl _ _) | (with_reducible assumption) | (with_reducible apply bl_alloc) | (with_reducible apply bl_drewN) | (with_reducible apply bl_drew) | (with_reducible refine bl_set ?_ (by first | (simp; done) | (simp; omega)) _) | (with_reducible refine bl_call ?_ (by assumption))))⟩
end Go.Proofs.Ytmijjpecgcgkgaa.Ag
