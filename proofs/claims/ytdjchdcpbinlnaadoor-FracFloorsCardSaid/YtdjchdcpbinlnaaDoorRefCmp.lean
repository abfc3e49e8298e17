/-
  The contracts of the reference's operations: usual; what the sign of a difference says.
-/
import Derived.Test.YtdjchdcpbinlnaaDoorRefOps2
namespace Go.Proofs.YtdjchdcpbinlnaaDoor
open Go.RowKit
set_option maxHeartbeats 8000000
theorem rusual_any (a b : Int) (n0 : -9223372036854775808 ≤ a) (n1 : a ≤ 9223372036854775807) (d0 : -9223372036854775808 ≤ b) (d1 : b ≤ 9223372036854775807) (w : World) : Calls Tryd.prog 55 #[.agg #[.int .i64 a, .int .i64 b]] w (Gives (.agg #[.int .i64 (uN a b), .int .i64 (uD a b)]) w) := by
  cases h1 : okF a b
  · obtain ⟨e1, e2⟩ := use_no h1
    rw [e1, e2]
    have H1 := Lib.hid h1
    clear h1 e1 e2
    go_enter Tryd.func55, Tryd.ntmps55
    go_wp2_with fail
    refine (rvalid_any a b n0 n1 d0 d1 _).mono ?_
    rintro e w1 ⟨rfl, hb1⟩
    rw [H1.out]
    have C1 : two w1 (w.heap.size + 1) (.int .i64 0) (.int .i64 0) := two.call (by refine ⟨?_, ?_, ?_, ?_, ?_⟩ <;> first | (go_simp; done) | (simp; done) | (simp; omega)) hb1
    obtain ⟨c0, c1, c2, c3, c4⟩ := C1
    have C1 : two _ _ _ _ := ⟨c0, c1, c2, c3, c4⟩
    go_wp2_with fail
    exact bodyPost_ret (v := .agg #[.int .i64 0, .int .i64 1]) (by simp [results, Tryd.results55, go_sem, *]) rfl ⟨rfl, by repeat (first | exact Below.refl _ _ | assumption | apply bl_alloc | apply bl_drewN | apply bl_drew | (refine bl_set ?_ (by first | (simp; done) | (simp; omega)) _) | (refine bl_call ?_ (by assumption)))⟩
  · obtain ⟨e1, e2⟩ := use_ok h1
    rw [e1, e2]
    have H1 := Lib.hid h1
    clear h1 e1 e2
    go_enter Tryd.func55, Tryd.ntmps55
    go_wp2_with fail
    refine (rvalid_any a b n0 n1 d0 d1 _).mono ?_
    rintro e w1 ⟨rfl, hb1⟩
    rw [H1.out]
    have A1 : two w1 (w.heap.size) (.int .i64 a) (.int .i64 b) := two.call (by refine ⟨?_, ?_, ?_, ?_, ?_⟩ <;> first | (go_simp; done) | (simp; done) | (simp; omega)) hb1
    have C1 : two w1 (w.heap.size + 1) (.int .i64 0) (.int .i64 0) := two.call (by refine ⟨?_, ?_, ?_, ?_, ?_⟩ <;> first | (go_simp; done) | (simp; done) | (simp; omega)) hb1
    obtain ⟨a0, a1, a2, a3, a4⟩ := A1
    have A1 : two _ _ _ _ := ⟨a0, a1, a2, a3, a4⟩
    obtain ⟨c0, c1, c2, c3, c4⟩ := C1
    have C1 : two _ _ _ _ := ⟨c0, c1, c2, c3, c4⟩
    go_wp2_with fail
    exact bodyPost_ret (v := .agg #[.int .i64 a, .int .i64 b]) (by simp [results, Tryd.results55, go_sem, *]) rfl ⟨rfl, by repeat (first | exact Below.refl _ _ | assumption | apply bl_alloc | apply bl_drewN | apply bl_drew | (refine bl_set ?_ (by first | (simp; done) | (simp; omega)) _) | (refine bl_call ?_ (by assumption)))⟩
theorem triW.new {w : World} {x y z : Value} {t : TypeId} : triW (w.alloc (.cells #[x, y, z] t)) w.heap.size x y z := (by first | (refine ⟨⟨?_, ?_, ?_, ?_⟩, ?_, ?_, ?_⟩ <;> first | (go_simp; done) | (simp; done) | (simp; omega)))
theorem triW.set3 {w : World} {g : Nat} {x y z x2 y2 z2 : Value} (h : triW w g x y z) : triW (((w.setCell ⟨g, 0, none⟩ x2).setCell ⟨g, 1, none⟩ y2).setCell ⟨g, 2, none⟩ z2) g x2 y2 z2 := by
  obtain ⟨⟨h0, h1, h2, h3⟩, h4, h5, h6⟩ := h
  refine ⟨⟨?_, ?_, ?_, by simp [World.setCell]; exact h3⟩, ?_, ?_, ?_⟩ <;> go_simp
theorem cmp_signs {P Q : Int} {m : Bool} {z : Nat} (h : sg m z = P - Q) : (z = 0 → cmpZ P Q = 0) ∧ (z ≠ 0 → m = true → cmpZ P Q = -1) ∧ (z ≠ 0 → m = false → cmpZ P Q = 1) := by
  unfold sg at h
  unfold cmpZ
  refine ⟨fun hz => ?_, fun hz hm => ?_, fun hz hm => ?_⟩
  · subst hz
    have : P - Q = 0 := by rw [← h]; split <;> simp
    split <;> first | omega | (split <;> omega)
  · subst hm
    simp at h
    split <;> first | omega | (split <;> omega)
  · subst hm
    simp at h
    split <;> first | omega | (split <;> omega)
end Go.Proofs.YtdjchdcpbinlnaaDoor
