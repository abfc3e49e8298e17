/-
  The contracts of the reference's Of, Product, Both, Opposite and usual.
-/
import Derived.Test.YtnfddeoddjmpkabDoorRefMade
import Derived.Test.YtnfddeoddjmpkabDoorSub
namespace Go.Proofs.YtnfddeoddjmpkabDoor
open Go.RowKit
set_option maxHeartbeats 4000000
theorem sg_of (n d : Int) : (if d < 0 then -n else n) = sg (negB n d) (absN n) := by
  unfold sg negB absN
  by_cases h1 : n < 0 <;> by_cases h2 : d < 0 <;> simp [h1, h2] <;> omega
theorem rproduct_any (a b : Int) {h l : Nat} (n0 : -9223372036854775808 ≤ a) (n1 : a ≤ 9223372036854775807) (d0 : -9223372036854775808 ≤ b) (d1 : b ≤ 9223372036854775807) (hz : WV h l (absN a * absN b)) (w : World) :
    Calls Tryd.prog 47 #[.int .i64 a, .int .i64 b] w (Gives (.agg #[.bool (negB a b), .int .u64 (h : Nat), .int .u64 (l : Nat)]) w) := by
  have k1 := absN_le n0 n1
  have k2 := absN_le d0 d1
  have T := Lib.hid (rtimes_any (absN a) (absN b) (by omega) (by omega) hz)
  obtain ⟨s, es⟩ : ∃ s, negB a b = s := ⟨_, rfl⟩
  have cs : (decide (a < 0) == decide (b < 0)) = !s := by rw [← es]; unfold negB; cases decide (a < 0) <;> cases decide (b < 0) <;> rfl
  rw [es]
  clear hz es
  go_enter Tryd.func47, Tryd.ntmps47
  go_wp2_with (first | (go_at_call 49; refine (size_any _ (by omega) (by omega) _).mono ?_; rintro e w' ⟨rfl, rfl⟩))
  refine (T.out _).mono ?_
  rintro e w1 ⟨rfl, hb1⟩
  obtain ⟨hc, hf⟩ := bcell hb1
  go_wp2_with fail
  exact bodyPost_ret (v := .agg #[.bool s, .int .u64 (h : Nat), .int .u64 (l : Nat)]) (by simp [results, Tryd.results47, go_sem, hc]) rfl ⟨rfl, by repeat (first | exact Below.refl _ _ | assumption | apply bl_alloc | apply bl_drewN | apply bl_drew | (refine bl_set ?_ (by first | (simp; done) | (simp; omega)) _) | (refine bl_call ?_ (by assumption)))⟩
def bothM (m1 : Bool) (x : Nat) (m2 : Bool) (y : Nat) : Bool := if m1 = m2 then m1 else if x < y then m2 else m1
def bothT (m1 : Bool) (x : Nat) (m2 : Bool) (y : Nat) : Nat := if m1 = m2 then x + y else if x < y then y - x else x - y
theorem sg_both (m1 : Bool) (x : Nat) (m2 : Bool) (y : Nat) : sg (bothM m1 x m2 y) (bothT m1 x m2 y) = sg m1 x + sg m2 y := by
  unfold bothM bothT sg
  by_cases h : x < y <;> cases m1 <;> cases m2 <;> simp [h] <;> omega
/-- A block of three cells that may be written. -/
def triW (w : World) (b : Nat) (x y z : Value) : Prop := tri w b x y z ∧ w.frozen? ⟨b, 0, none⟩ = false ∧ w.frozen? ⟨b, 1, none⟩ = false ∧ w.frozen? ⟨b, 2, none⟩ = false
theorem triW.on {w w2 : World} {b : Nat} {x y z : Value} (hb : Below w.heap.size w w2) (h : triW w b x y z) : triW w2 b x y z :=
  ⟨tri.on hb h.1, (hb.frozen (p := ⟨b, 0, none⟩) h.1.2.2.2).trans h.2.1, (hb.frozen (p := ⟨b, 1, none⟩) h.1.2.2.2).trans h.2.2.1, (hb.frozen (p := ⟨b, 2, none⟩) h.1.2.2.2).trans h.2.2.2⟩
theorem far3 {w : World} {g b o : Nat} {x y z v : Value} (h : w.cell? ⟨b, o, none⟩ = some v) (hne : b ≠ g) : (((w.setCell ⟨g, 0, none⟩ x).setCell ⟨g, 1, none⟩ y).setCell ⟨g, 2, none⟩ z).cell? ⟨b, o, none⟩ = some v := by
  rw [World.cell?_setCell_other _ _ _ _ (fun e => hne (by injection e with e; first | exact e | exact e.symm))]
  exact far2 h hne
theorem rboth_any {m1 m2 : Bool} {xh xl x yh yl y zh zl : Nat} (hx : WV xh xl x) (hy : WV yh yl y) (hz : WV zh zl (bothT m1 x m2 y)) (hb : x + y < 340282366920938463463374607431768211456) (w : World) :
    Calls Tryd.prog 46 #[.agg #[.bool m1, .int .u64 (xh : Nat), .int .u64 (xl : Nat)], .agg #[.bool m2, .int .u64 (yh : Nat), .int .u64 (yl : Nat)]] w
      (Gives (.agg #[.bool (bothM m1 x m2 y), .int .u64 (zh : Nat), .int .u64 (zl : Nat)]) w) := by
  unfold bothT at hz
  unfold bothM
  by_cases he : m1 = m2
  · subst he
    rw [if_pos rfl] at hz ⊢
    have P := Lib.hid (rplus_any hx hy hz hb)
    clear hx hy hz hb
    have hm : (m1 == m1) = true := by simp
    go_enter Tryd.func46, Tryd.ntmps46
    go_wp2_with fail
    go_region_held3 (fun w' => (w'.cell? ⟨w.heap.size, 0, none⟩ = some (.bool m1) ∧ w'.cell? ⟨w.heap.size, 1, none⟩ = some (.int .u64 (xh : Nat)) ∧ w'.cell? ⟨w.heap.size, 2, none⟩ = some (.int .u64 (xl : Nat))) ∧ w'.cell? ⟨w.heap.size + 1, 1, none⟩ = some (.int .u64 (yh : Nat)) ∧ w'.cell? ⟨w.heap.size + 1, 2, none⟩ = some (.int .u64 (yl : Nat)))
      (first | (go_keep; done) | (refine ⟨⟨?_, ?_, ?_⟩, ?_, ?_⟩ <;> first | assumption | exact far3 (by assumption) (by omega)))
      ((go_at_call 70; refine (P.out _).mono ?_; rintro e w2 ⟨rfl, hb2⟩; have X2 : triW w2 w.heap.size (.bool m1) (.int .u64 (xh : Nat)) (.int .u64 (xl : Nat)) := triW.on hb2 (by first | (refine ⟨⟨?_, ?_, ?_, ?_⟩, ?_, ?_, ?_⟩ <;> first | (go_simp; done) | (simp; done) | (simp; omega))); have Y2 : triW w2 (w.heap.size + 1) (.bool m1) (.int .u64 (yh : Nat)) (.int .u64 (yl : Nat)) := triW.on hb2 (by first | (refine ⟨⟨?_, ?_, ?_, ?_⟩, ?_, ?_, ?_⟩ <;> first | (go_simp; done) | (simp; done) | (simp; omega))); have Z2 : triW w2 (w.heap.size + 1 + 1) (.bool false) (.int .u64 0) (.int .u64 0) := triW.on hb2 (by first | (refine ⟨⟨?_, ?_, ?_, ?_⟩, ?_, ?_, ?_⟩ <;> first | (go_simp; done) | (simp; done) | (simp; omega))); obtain ⟨⟨x0, x1, x2, x3⟩, x4, x5, x6⟩ := X2; obtain ⟨⟨y0, y1, y2, y3⟩, y4, y5, y6⟩ := Y2; obtain ⟨⟨z0, z1, z2, z3⟩, z4, z5, z6⟩ := Z2))
    go_wp2_with fail
    exact bodyPost_ret (v := .agg #[.bool m1, .int .u64 (zh : Nat), .int .u64 (zl : Nat)]) (by simp [results, Tryd.results46, go_sem, *]) rfl ⟨rfl, by repeat (first | exact Below.refl _ _ | assumption | apply bl_alloc | apply bl_drewN | apply bl_drew | (refine bl_set ?_ (by first | (simp; done) | (simp; omega)) _) | (refine bl_call ?_ (by assumption)))⟩
  · have hm : (m1 == m2) = false := by simpa using he
    rw [if_neg he] at hz ⊢
    have L := Lib.hid (less_any hx hy)
    by_cases hl : x < y
    · rw [if_pos hl] at hz ⊢
      have P := Lib.hid (rminus_any hy hx (by omega) hz (by omega))
      have HL : Hid (ltB x y = true) := by unfold ltB; exact decide_eq_true hl
      clear hx hy hz hb hl he
      go_enter Tryd.func46, Tryd.ntmps46
      go_wp2_with fail
      refine (L.out _).mono ?_
      rintro e w1 ⟨rfl, hb1⟩
      rw [HL.out]
      have X1 : triW w1 w.heap.size (.bool m1) (.int .u64 (xh : Nat)) (.int .u64 (xl : Nat)) := triW.on hb1 (by first | (refine ⟨⟨?_, ?_, ?_, ?_⟩, ?_, ?_, ?_⟩ <;> first | (go_simp; done) | (simp; done) | (simp; omega)))
      have Y1 : triW w1 (w.heap.size + 1) (.bool m2) (.int .u64 (yh : Nat)) (.int .u64 (yl : Nat)) := triW.on hb1 (by first | (refine ⟨⟨?_, ?_, ?_, ?_⟩, ?_, ?_, ?_⟩ <;> first | (go_simp; done) | (simp; done) | (simp; omega)))
      have Z1 : triW w1 (w.heap.size + 1 + 1) (.bool false) (.int .u64 0) (.int .u64 0) := triW.on hb1 (by first | (refine ⟨⟨?_, ?_, ?_, ?_⟩, ?_, ?_, ?_⟩ <;> first | (go_simp; done) | (simp; done) | (simp; omega)))
      obtain ⟨⟨x0, x1, x2, x3⟩, x4, x5, x6⟩ := X1
      obtain ⟨⟨y0, y1, y2, y3⟩, y4, y5, y6⟩ := Y1
      obtain ⟨⟨z0, z1, z2, z3⟩, z4, z5, z6⟩ := Z1
      go_wp2_with fail
      go_region_held3 (fun w' => (w'.cell? ⟨w.heap.size, 0, none⟩ = some (.bool m1) ∧ w'.cell? ⟨w.heap.size, 1, none⟩ = some (.int .u64 (xh : Nat)) ∧ w'.cell? ⟨w.heap.size, 2, none⟩ = some (.int .u64 (xl : Nat))) ∧ w'.cell? ⟨w.heap.size + 1, 0, none⟩ = some (.bool m2) ∧ w'.cell? ⟨w.heap.size + 1, 1, none⟩ = some (.int .u64 (yh : Nat)) ∧ w'.cell? ⟨w.heap.size + 1, 2, none⟩ = some (.int .u64 (yl : Nat)))
        (first | (go_keep; done) | (refine ⟨⟨?_, ?_, ?_⟩, ?_, ?_, ?_⟩ <;> first | assumption | exact far3 (by assumption) (by omega)))
        ((go_at_call 72; refine (P.out _).mono ?_; rintro e w2 ⟨rfl, hb2⟩; have X2 : triW w2 w.heap.size (.bool m1) (.int .u64 (xh : Nat)) (.int .u64 (xl : Nat)) := triW.on hb2 ⟨⟨x0, x1, x2, x3⟩, x4, x5, x6⟩; have Y2 : triW w2 (w.heap.size + 1) (.bool m2) (.int .u64 (yh : Nat)) (.int .u64 (yl : Nat)) := triW.on hb2 ⟨⟨y0, y1, y2, y3⟩, y4, y5, y6⟩; have Z2 : triW w2 (w.heap.size + 1 + 1) (.bool false) (.int .u64 0) (.int .u64 0) := triW.on hb2 ⟨⟨z0, z1, z2, z3⟩, z4, z5, z6⟩; clear x0 x1 x2 x3 x4 x5 x6 y0 y1 y2 y3 y4 y5 y6 z0 z1 z2 z3 z4 z5 z6; obtain ⟨⟨x0, x1, x2, x3⟩, x4, x5, x6⟩ := X2; obtain ⟨⟨y0, y1, y2, y3⟩, y4, y5, y6⟩ := Y2; obtain ⟨⟨z0, z1, z2, z3⟩, z4, z5, z6⟩ := Z2))
      go_wp2_with fail
      exact bodyPost_ret (v := .agg #[.bool m2, .int .u64 (zh : Nat), .int .u64 (zl : Nat)]) (by simp [results, Tryd.results46, go_sem, *]) rfl ⟨rfl, by repeat (first | exact Below.refl _ _ | assumption | apply bl_alloc | apply bl_drewN | apply bl_drew | (refine bl_set ?_ (by first | (simp; done) | (simp; omega)) _) | (refine bl_call ?_ (by assumption)))⟩
    · rw [if_neg hl] at hz ⊢
      have P := Lib.hid (rminus_any hx hy (by omega) hz (by omega))
      have HL : Hid (ltB x y = false) := by unfold ltB; exact decide_eq_false hl
      clear hx hy hz hb hl he
      go_enter Tryd.func46, Tryd.ntmps46
      go_wp2_with fail
      refine (L.out _).mono ?_
      rintro e w1 ⟨rfl, hb1⟩
      rw [HL.out]
      have X1 : triW w1 w.heap.size (.bool m1) (.int .u64 (xh : Nat)) (.int .u64 (xl : Nat)) := triW.on hb1 (by first | (refine ⟨⟨?_, ?_, ?_, ?_⟩, ?_, ?_, ?_⟩ <;> first | (go_simp; done) | (simp; done) | (simp; omega)))
      have Y1 : triW w1 (w.heap.size + 1) (.bool m2) (.int .u64 (yh : Nat)) (.int .u64 (yl : Nat)) := triW.on hb1 (by first | (refine ⟨⟨?_, ?_, ?_, ?_⟩, ?_, ?_, ?_⟩ <;> first | (go_simp; done) | (simp; done) | (simp; omega)))
      have Z1 : triW w1 (w.heap.size + 1 + 1) (.bool false) (.int .u64 0) (.int .u64 0) := triW.on hb1 (by first | (refine ⟨⟨?_, ?_, ?_, ?_⟩, ?_, ?_, ?_⟩ <;> first | (go_simp; done) | (simp; done) | (simp; omega)))
      obtain ⟨⟨x0, x1, x2, x3⟩, x4, x5, x6⟩ := X1
      obtain ⟨⟨y0, y1, y2, y3⟩, y4, y5, y6⟩ := Y1
      obtain ⟨⟨z0, z1, z2, z3⟩, z4, z5, z6⟩ := Z1
      go_wp2_with fail
      go_region_held3 (fun w' => (w'.cell? ⟨w.heap.size, 0, none⟩ = some (.bool m1) ∧ w'.cell? ⟨w.heap.size, 1, none⟩ = some (.int .u64 (xh : Nat)) ∧ w'.cell? ⟨w.heap.size, 2, none⟩ = some (.int .u64 (xl : Nat))) ∧ w'.cell? ⟨w.heap.size + 1, 0, none⟩ = some (.bool m2) ∧ w'.cell? ⟨w.heap.size + 1, 1, none⟩ = some (.int .u64 (yh : Nat)) ∧ w'.cell? ⟨w.heap.size + 1, 2, none⟩ = some (.int .u64 (yl : Nat)))
        (first | (go_keep; done) | (refine ⟨⟨?_, ?_, ?_⟩, ?_, ?_, ?_⟩ <;> first | assumption | exact far3 (by assumption) (by omega)))
        ((go_at_call 72; refine (P.out _).mono ?_; rintro e w2 ⟨rfl, hb2⟩; have X2 : triW w2 w.heap.size (.bool m1) (.int .u64 (xh : Nat)) (.int .u64 (xl : Nat)) := triW.on hb2 ⟨⟨x0, x1, x2, x3⟩, x4, x5, x6⟩; have Y2 : triW w2 (w.heap.size + 1) (.bool m2) (.int .u64 (yh : Nat)) (.int .u64 (yl : Nat)) := triW.on hb2 ⟨⟨y0, y1, y2, y3⟩, y4, y5, y6⟩; have Z2 : triW w2 (w.heap.size + 1 + 1) (.bool false) (.int .u64 0) (.int .u64 0) := triW.on hb2 ⟨⟨z0, z1, z2, z3⟩, z4, z5, z6⟩; clear x0 x1 x2 x3 x4 x5 x6 y0 y1 y2 y3 y4 y5 y6 z0 z1 z2 z3 z4 z5 z6; obtain ⟨⟨x0, x1, x2, x3⟩, x4, x5, x6⟩ := X2; obtain ⟨⟨y0, y1, y2, y3⟩, y4, y5, y6⟩ := Y2; obtain ⟨⟨z0, z1, z2, z3⟩, z4, z5, z6⟩ := Z2))
      go_wp2_with fail
      exact bodyPost_ret (v := .agg #[.bool m1, .int .u64 (zh : Nat), .int .u64 (zl : Nat)]) (by simp [results, Tryd.results46, go_sem, *]) rfl ⟨rfl, by repeat (first | exact Below.refl _ _ | assumption | apply bl_alloc | apply bl_drewN | apply bl_drew | (refine bl_set ?_ (by first | (simp; done) | (simp; omega)) _) | (refine bl_call ?_ (by assumption)))⟩
end Go.Proofs.YtnfddeoddjmpkabDoor
