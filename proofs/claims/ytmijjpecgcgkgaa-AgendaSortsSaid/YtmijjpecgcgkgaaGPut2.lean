/-
  The contract of Put at whatever list and event.
-/
import Derived.Test.YtmijjpecgcgkgaaGPut
namespace Go.Proofs.Ytmijjpecgcgkgaa.Ag
open Go.RowKit
set_option maxHeartbeats 4000000
theorem put_e1 (p : Option Addr) (n c : Nat) (E : Nat → Ev) (x : Ev) (w : World) (hE : Evs w p n E) (hz : chkE E n ≠ 0) : Calls Try.prog 18 #[.slice p n c, .agg #[.int .i64 x.t, .int .i64 x.p, .int .i64 x.f, .int .i64 x.s, .int .i64 x.st, .int .i64 x.k, .int .i64 x.a, .int .i64 x.b, .slice x.ap x.al x.ac]] w (ListsZ w 0 (chkE E n) E) := by
  have hz2 : (chkE E n != 0) = true := by rw [bne_iff_ne]; exact hz
  clear hz
  go_enter Try.func18, Try.ntmps18
  go_wp2_with fail
  refine (check_any p n c E _ hE.alloc).mono ?_
  rintro e w1 ⟨rfl, hb1⟩
  go_wp2_with fail
  go_ret2
  exact ListsZ.none rfl (by (repeat (first | (with_reducible exact Below.refl _ _) | (with_reducible assumption) | (with_reducible apply bl_alloc) | (with_reducible apply bl_drewN) | (with_reducible apply bl_drew) | (with_reducible refine bl_set ?_ (by first | (simp; done) | (simp; omega)) _) | (with_reducible refine bl_call ?_ (by assumption)))))
theorem put_e2 (p : Option Addr) (n c : Nat) (E : Nat → Ev) (x : Ev) (w : World) (hE : Evs w p n E) (hx : ok w x) (hk : chkE E n = 0) (hz : evE x ≠ 0) : Calls Try.prog 18 #[.slice p n c, .agg #[.int .i64 x.t, .int .i64 x.p, .int .i64 x.f, .int .i64 x.s, .int .i64 x.st, .int .i64 x.k, .int .i64 x.a, .int .i64 x.b, .slice x.ap x.al x.ac]] w (ListsZ w 0 (evE x) E) := by
  have hz2 : (evE x != 0) = true := by rw [bne_iff_ne]; exact hz
  have CK := Lib.hid hk
  have X0 : nine (w.alloc (.cells #[.int .i64 x.t, .int .i64 x.p, .int .i64 x.f, .int .i64 x.s, .int .i64 x.st, .int .i64 x.k, .int .i64 x.a, .int .i64 x.b, .slice x.ap x.al x.ac] 25)) w.heap.size x := nine.new
  clear hz hk
  go_enter Try.func18, Try.ntmps18
  go_wp2_with fail
  refine (check_any p n c E _ hE.alloc).mono ?_
  rintro e w1 ⟨rfl, hb1⟩
  rw [CK.out]
  have X1 := nine.on hb1 X0
  obtain ⟨x0, x1, x2, x3, x4, x5, x6, x7, x8, x9⟩ := X1
  have X1 : nine _ _ _ := ⟨x0, x1, x2, x3, x4, x5, x6, x7, x8, x9⟩
  go_wp2_with fail
  refine (event_any x _ (Row.on hb1 hx.alloc)).mono ?_
  rintro e w2 ⟨rfl, hb2⟩
  go_wp2_with fail
  go_ret2
  exact ListsZ.none rfl (by (repeat (first | (with_reducible exact Below.refl _ _) | (with_reducible assumption) | (with_reducible apply bl_alloc) | (with_reducible apply bl_drewN) | (with_reducible apply bl_drew) | (with_reducible refine bl_set ?_ (by first | (simp; done) | (simp; omega)) _) | (with_reducible refine bl_call ?_ (by assumption)))))
theorem put_e3 (p : Option Addr) (n c : Nat) (E : Nat → Ev) (x : Ev) (w : World) (hE : Evs w p n E) (hx : ok w x) (hG : Good E n) (he : evE x = 0) (z : Int) (hz : fnd E x n = true ∧ z = 4 ∨ fnd E x n = false ∧ n = 5000 ∧ z = 13) : Calls Try.prog 18 #[.slice p n c, .agg #[.int .i64 x.t, .int .i64 x.p, .int .i64 x.f, .int .i64 x.s, .int .i64 x.st, .int .i64 x.k, .int .i64 x.a, .int .i64 x.b, .slice x.ap x.al x.ac]] w (ListsZ w 0 z E) := by
  have CK := Lib.hid (chkE_zero.2 hG)
  have HE := Lib.hid he
  have HG := Lib.hid hG
  have X0 : nine (w.alloc (.cells #[.int .i64 x.t, .int .i64 x.p, .int .i64 x.f, .int .i64 x.s, .int .i64 x.st, .int .i64 x.k, .int .i64 x.a, .int .i64 x.b, .slice x.ap x.al x.ac] 25)) w.heap.size x := nine.new
  clear he hG
  generalize cnt E x n = a0
  have HZ := Lib.hid hz
  clear hz
  go_enter Try.func18, Try.ntmps18
  go_wp2_with fail
  refine (check_any p n c E _ hE.alloc).mono ?_
  rintro e w1 ⟨rfl, hb1⟩
  rw [CK.out]
  have X1 := nine.on hb1 X0
  obtain ⟨x0, x1, x2, x3, x4, x5, x6, x7, x8, x9⟩ := X1
  have X1 : nine _ _ _ := ⟨x0, x1, x2, x3, x4, x5, x6, x7, x8, x9⟩
  go_wp2_with fail
  refine (event_any x _ (Row.on hb1 hx.alloc)).mono ?_
  rintro e w2 ⟨rfl, hb2⟩
  rw [HE.out]
  have X2 := nine.on hb2 X1
  clear x0 x1 x2 x3 x4 x5 x6 x7 x8 x9
  obtain ⟨x0, x1, x2, x3, x4, x5, x6, x7, x8, x9⟩ := X2
  have X2 : nine _ _ _ := ⟨x0, x1, x2, x3, x4, x5, x6, x7, x8, x9⟩
  go_wp2_with fail
  refine (search_any _ n c E x _ ((hE.alloc.on hb1).on hb2) HG.out).mono ?_
  rintro e w3 ⟨rfl, hb3⟩
  rcases HZ.out with ⟨h1, h2⟩ | ⟨h1, h2, h3⟩
  · rw [h1]
    subst h2
    go_wp2_with fail
    go_ret2
    exact ListsZ.none rfl (by (repeat (first | (with_reducible exact Below.refl _ _) | (with_reducible assumption) | (with_reducible apply bl_alloc) | (with_reducible apply bl_drewN) | (with_reducible apply bl_drew) | (with_reducible refine bl_set ?_ (by first | (simp; done) | (simp; omega)) _) | (with_reducible refine bl_call ?_ (by assumption)))))
  · rw [h1]
    subst h3
    have h5 : ((n : Int) == 5000) = true := by rw [beq_iff_eq]; omega
    clear h2
    go_wp2_with fail
    go_ret2
    exact ListsZ.none rfl (by (repeat (first | (with_reducible exact Below.refl _ _) | (with_reducible assumption) | (with_reducible apply bl_alloc) | (with_reducible apply bl_drewN) | (with_reducible apply bl_drew) | (with_reducible refine bl_set ?_ (by first | (simp; done) | (simp; omega)) _) | (with_reducible refine bl_call ?_ (by assumption)))))
def putN (E : Nat → Ev) (n : Nat) (x : Ev) : Nat := if putE E n x = 0 then n + 1 else 0
theorem putE_cases (E : Nat → Ev) (n : Nat) (x : Ev) : chkE E n ≠ 0 ∧ putE E n x = chkE E n ∨ chkE E n = 0 ∧ evE x ≠ 0 ∧ putE E n x = evE x ∨ chkE E n = 0 ∧ evE x = 0 ∧ (fnd E x n = true ∧ putE E n x = 4 ∨ fnd E x n = false ∧ n = 5000 ∧ putE E n x = 13) ∨ chkE E n = 0 ∧ evE x = 0 ∧ fnd E x n = false ∧ n ≠ 5000 ∧ putE E n x = 0 := by
  unfold putE
  by_cases h1 : chkE E n = 0
  · rw [if_pos h1]
    by_cases h2 : evE x = 0
    · rw [if_pos h2]
      cases h3 : fnd E x n
      · rw [if_neg (by decide)]
        by_cases h4 : n = 5000
        · rw [if_pos h4]; exact .inr (.inr (.inl ⟨h1, h2, .inr ⟨rfl, h4, rfl⟩⟩))
        · rw [if_neg h4]; exact .inr (.inr (.inr ⟨h1, h2, rfl, h4, rfl⟩))
      · rw [if_pos rfl]; exact .inr (.inr (.inl ⟨h1, h2, .inl ⟨rfl, rfl⟩⟩))
    · rw [if_neg h2]; exact .inr (.inl ⟨h1, h2, rfl⟩)
  · rw [if_neg h1]; exact .inl ⟨h1, rfl⟩
theorem put_any (p : Option Addr) (n c : Nat) (E : Nat → Ev) (x : Ev) (w : World) (hE : Evs w p n E) (hW : WL p n c) (hx : ok w x) : Calls Try.prog 18 #[.slice p n c, .agg #[.int .i64 x.t, .int .i64 x.p, .int .i64 x.f, .int .i64 x.s, .int .i64 x.st, .int .i64 x.k, .int .i64 x.a, .int .i64 x.b, .slice x.ap x.al x.ac]] w (ListsZ w (putN E n x) (putE E n x) (insE E (cnt E x n) x)) := by
  unfold putN
  have n0 : ∀ {z : Int} {e : Ending} {w' : World}, ListsZ w 0 z E e w' → ListsZ w 0 z (insE E (cnt E x n) x) e w' := fun {z e w'} ⟨p, c, F, h1, h2, h3, _, h5⟩ => ⟨p, c, F, h1, h2, h3, fun i hi => absurd hi (Nat.not_lt_zero _), h5⟩
  rcases putE_cases E n x with ⟨h1, h2⟩ | ⟨h1, h2, h3⟩ | ⟨h1, h2, h3⟩ | ⟨h1, h2, h3, h4, h5⟩
  · rw [h2, if_neg h1]
    exact (put_e1 p n c E x w hE h1).mono fun _ _ h => n0 h
  · rw [h3, if_neg h2]
    exact (put_e2 p n c E x w hE hx h1 h2).mono fun _ _ h => n0 h
  · have hz : putE E n x ≠ 0 := by rcases h3 with ⟨-, h⟩ | ⟨-, -, h⟩ <;> (rw [h]; decide)
    rw [if_neg hz]
    exact (put_e3 p n c E x w hE hx (chkE_zero.1 h1) h2 (putE E n x) h3).mono fun _ _ h => n0 h
  · rw [h5, if_pos rfl]
    obtain ⟨hc, hW⟩ := hW
    rcases hW with rfl | ⟨b, o, rfl⟩
    · obtain rfl : n = 0 := by omega
      exact put_zero p E x w hx h2
    · exact put_some b o n c E x w hE hc hx (chkE_zero.1 h1) h2 h3 h4
end Go.Proofs.Ytmijjpecgcgkgaa.Ag
