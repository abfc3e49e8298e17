/-
  The chapter's examples: awake answers yes.
-/
import Derived.Test.YtnfddeoddjmpkabDoorDMean
import Derived.Test.YtnfddeoddjmpkabDoorDTextA
import Derived.Test.YtnfddeoddjmpkabDoorDSingle
namespace Go.Proofs.YtnfddeoddjmpkabDoor.Di
open Go.RowKit
set_option maxHeartbeats 8000000
def VT (i : Nat) : Int := if i = 0 then 9 else 2
def WT (i : Nat) : Int := if i = 0 then 1 else 3
def TR (H : Nat) (w : World) : Prop := Row w (some ⟨H + 1, 0, none⟩) 2 VT ∧ Row w (some ⟨H + 1 + 1, 0, none⟩) 2 WT ∧ Env w
theorem TR.on {H : Nat} {w w2 : World} (hb : Below w.heap.size w w2) (h : TR H w) : TR H w2 := ⟨h.1.on hb, h.2.1.on hb, h.2.2.below hb⟩
theorem TR.alloc {H : Nat} {w : World} {o : Obj} (h : TR H w) : TR H (w.alloc o) := h.on ((Below.refl _ _).alloc (Nat.le_refl _) o)
/-- What the walk carries: the three distributions, and the table's lists. -/
def Aw (H : Nat) (w : World) : Prop :=
  six w H (.int .i64 2) (.int .i64 1) (.int .i64 6) (.int .i64 0) (.slice none 0 0) (.slice none 0 0) ∧
  six w (H + 1 + 1 + 1) (.int .i64 3) (.int .i64 0) (.int .i64 0) (.int .i64 0) (.slice (some ⟨H + 1, 0, none⟩) 2 2) (.slice (some ⟨H + 1 + 1, 0, none⟩) 2 2) ∧
  six w (H + 1 + 1 + 1 + 1) (.int .i64 5) (.int .i64 2) (.int .i64 5) (.int .i64 0) (.slice none 0 0) (.slice none 0 0) ∧ TR H w
theorem Aw.on {H : Nat} {w w2 : World} (hb : Below w.heap.size w w2) (h : Aw H w) : Aw H w2 := ⟨h.1.on hb, h.2.1.on hb, h.2.2.1.on hb, h.2.2.2.on hb⟩
theorem Aw.alloc {H : Nat} {w : World} {o : Obj} (h : Aw H w) : Aw H (w.alloc o) := h.on ((Below.refl _ _).alloc (Nat.le_refl _) o)
def aw0 (w : World) (t t2 : TypeId) : World :=
  ((((w.alloc (.cells #[.int .i64 2, .int .i64 1, .int .i64 6, .int .i64 0, .slice none 0 0, .slice none 0 0] t)).alloc (.cells #[.int .i64 9, .int .i64 2] t2)).alloc (.cells #[.int .i64 1, .int .i64 3] t2)).alloc
    (.cells #[.int .i64 3, .int .i64 0, .int .i64 0, .int .i64 0, .slice (some ⟨w.heap.size + 1, 0, none⟩) 2 2, .slice (some ⟨w.heap.size + 1 + 1, 0, none⟩) 2 2] t)).alloc (.cells #[.int .i64 5, .int .i64 2, .int .i64 5, .int .i64 0, .slice none 0 0, .slice none 0 0] t)
theorem row2 (w : World) (x y : Int) (N : Nat → Int) (t : TypeId) (h0 : N 0 = x) (h1 : N 1 = y) : Row (w.alloc (.cells #[.int .i64 x, .int .i64 y] t)) (some ⟨w.heap.size, 0, none⟩) 2 N := by
  refine ⟨by omega, .inr ⟨w.heap.size, 0, rfl, by simp, Lib.hid fun i hi => ?_⟩⟩
  have h : i = 0 ∨ i = 1 := by omega
  rcases h with rfl | rfl
  · rw [h0]; simp
  · rw [h1]; simp
theorem aw_start (w : World) (t t2 : TypeId) (hE : Env w) : Aw w.heap.size (aw0 w t t2) := by
  unfold aw0
  have z1 : ∀ (w : World) (o : Obj), (w.alloc o).heap.size = w.heap.size + 1 := fun w o => by simp
  refine ⟨six.new.alloc.alloc.alloc.alloc, ?_, ?_, ?_, ?_, ?_⟩
  · have := (six.new (w := (((w.alloc (.cells #[.int .i64 2, .int .i64 1, .int .i64 6, .int .i64 0, .slice none 0 0, .slice none 0 0] t)).alloc (.cells #[.int .i64 9, .int .i64 2] t2)).alloc (.cells #[.int .i64 1, .int .i64 3] t2))) (x0 := .int .i64 3) (x1 := .int .i64 0) (x2 := .int .i64 0) (x3 := .int .i64 0) (x4 := .slice (some ⟨w.heap.size + 1, 0, none⟩) 2 2) (x5 := .slice (some ⟨w.heap.size + 1 + 1, 0, none⟩) 2 2) (t := t)).alloc (o := .cells #[.int .i64 5, .int .i64 2, .int .i64 5, .int .i64 0, .slice none 0 0, .slice none 0 0] t)
    simp only [z1] at this
    exact this
  · have := six.new (w := ((((w.alloc (.cells #[.int .i64 2, .int .i64 1, .int .i64 6, .int .i64 0, .slice none 0 0, .slice none 0 0] t)).alloc (.cells #[.int .i64 9, .int .i64 2] t2)).alloc (.cells #[.int .i64 1, .int .i64 3] t2)).alloc
      (.cells #[.int .i64 3, .int .i64 0, .int .i64 0, .int .i64 0, .slice (some ⟨w.heap.size + 1, 0, none⟩) 2 2, .slice (some ⟨w.heap.size + 1 + 1, 0, none⟩) 2 2] t))) (x0 := .int .i64 5) (x1 := .int .i64 2) (x2 := .int .i64 5) (x3 := .int .i64 0) (x4 := .slice none 0 0) (x5 := .slice none 0 0) (t := t)
    simp only [z1] at this
    exact this
  · have := ((row2 (w.alloc (.cells #[.int .i64 2, .int .i64 1, .int .i64 6, .int .i64 0, .slice none 0 0, .slice none 0 0] t)) 9 2 VT t2 rfl rfl).alloc (o := .cells #[.int .i64 1, .int .i64 3] t2))
    rw [z1] at this
    exact this.alloc.alloc
  · have := row2 ((w.alloc (.cells #[.int .i64 2, .int .i64 1, .int .i64 6, .int .i64 0, .slice none 0 0, .slice none 0 0] t)).alloc (.cells #[.int .i64 9, .int .i64 2] t2)) 1 3 WT t2 rfl rfl
    rw [z1, z1] at this
    exact this.alloc.alloc
  · exact hE.alloc.alloc.alloc.alloc.alloc
def tabText : ByteArray := ⟨#[116, 97, 98, 108, 101, 32, 57, 58, 49, 32, 50, 58, 51]⟩
set_option maxRecDepth 100000 in
theorem awake_walk (w : World) (hE : Env w) (H : Nat) (hH : H = w.heap.size)
    (A1 : Hid (∀ w2, TR H w2 → Calls Tryd.prog 12 #[.agg #[.int .i64 2, .int .i64 1, .int .i64 6, .int .i64 0, .slice none 0 0, .slice none 0 0], .int .u64 0] w2 (Gives (.tuple #[.int .i64 1, .bool true]) w2))) (A2 : Hid (∀ w2, TR H w2 → Calls Tryd.prog 12 #[.agg #[.int .i64 2, .int .i64 1, .int .i64 6, .int .i64 0, .slice none 0 0, .slice none 0 0], .int .u64 9223372036854775808] w2 (Gives (.tuple #[.int .i64 4, .bool true]) w2)))
    (A3 : Hid (∀ w2, TR H w2 → Calls Tryd.prog 12 #[.agg #[.int .i64 2, .int .i64 1, .int .i64 6, .int .i64 0, .slice none 0 0, .slice none 0 0], .int .u64 18446744073709551615] w2 (Gives (.tuple #[.int .i64 6, .bool true]) w2))) (A4 : Hid (∀ w2, TR H w2 → Calls Tryd.prog 12 #[.agg #[.int .i64 3, .int .i64 0, .int .i64 0, .int .i64 0, .slice (some ⟨H + 1, 0, none⟩) 2 2, .slice (some ⟨H + 1 + 1, 0, none⟩) 2 2], .int .u64 9223372036854775808] w2 (Gives (.tuple #[.int .i64 2, .bool true]) w2)))
    (A5 : Hid (∀ w2, TR H w2 → Calls Tryd.prog 12 #[.agg #[.int .i64 3, .int .i64 0, .int .i64 0, .int .i64 0, .slice (some ⟨H + 1, 0, none⟩) 2 2, .slice (some ⟨H + 1 + 1, 0, none⟩) 2 2], .int .u64 18446744073709551615] w2 (Gives (.tuple #[.int .i64 9, .bool true]) w2))) (A6 : Hid (∀ w2, TR H w2 → Calls Tryd.prog 12 #[.agg #[.int .i64 5, .int .i64 2, .int .i64 5, .int .i64 0, .slice none 0 0, .slice none 0 0], .int .u64 0] w2 (Gives (.tuple #[.int .i64 1, .bool true]) w2)))
    (A7 : Hid (∀ w2, TR H w2 → Calls Tryd.prog 12 #[.agg #[.int .i64 5, .int .i64 2, .int .i64 5, .int .i64 0, .slice none 0 0, .slice none 0 0], .int .u64 9223372036854775809] w2 (Gives (.tuple #[.int .i64 2, .bool true]) w2))) (A8 : Hid (∀ w2, TR H w2 → Calls Tryd.prog 12 #[.agg #[.int .i64 5, .int .i64 2, .int .i64 5, .int .i64 0, .slice none 0 0, .slice none 0 0], .int .u64 18446744073709551615] w2 (Gives (.tuple #[.int .i64 5, .bool true]) w2)))
    (ME : Hid (∀ w2, TR H w2 → Calls Tryd.prog 34 #[.agg #[.int .i64 3, .int .i64 0, .int .i64 0, .int .i64 0, .slice (some ⟨H + 1, 0, none⟩) 2 2, .slice (some ⟨H + 1 + 1, 0, none⟩) 2 2]] w2 (Gives (.tuple #[.agg #[.int .i64 15, .int .i64 4], .bool true]) w2))) (TX : Hid (∀ w2, TR H w2 → Calls Tryd.prog 35 #[.agg #[.int .i64 3, .int .i64 0, .int .i64 0, .int .i64 0, .slice (some ⟨H + 1, 0, none⟩) 2 2, .slice (some ⟨H + 1 + 1, 0, none⟩) 2 2]] w2 (Gives (.string ⟨#[116, 97, 98, 108, 101, 32, 57, 58, 49, 32, 50, 58, 51]⟩) w2)))
    (C1 : Hid (∀ w2, TR H w2 → Calls Tryd.prog 10 #[.agg #[.int .i64 2, .int .i64 3, .int .i64 2, .int .i64 0, .slice none 0 0, .slice none 0 0]] w2 (Gives (.int .i64 2) w2))) (C2 : Hid (∀ w2, TR H w2 → Calls Tryd.prog 10 #[.agg #[.int .i64 1, .int .i64 0, .int .i64 1, .int .i64 0, .slice none 0 0, .slice none 0 0]] w2 (Gives (.int .i64 1) w2)))
    (LE : Hid (∀ w2, TR H w2 → Calls Tryd.prog 36 #[.agg #[.int .i64 2, .int .i64 1, .int .i64 6, .int .i64 0, .slice none 0 0, .slice none 0 0]] w2 (Gives (.int .i64 1) w2))) (MO : Hid (∀ w2, TR H w2 → Calls Tryd.prog 37 #[.agg #[.int .i64 2, .int .i64 1, .int .i64 6, .int .i64 0, .slice none 0 0, .slice none 0 0]] w2 (Gives (.int .i64 6) w2))) (SA : Hid (∀ w2, TR H w2 → Calls Tryd.prog 30 #[.agg #[.int .i64 2, .int .i64 1, .int .i64 6, .int .i64 0, .slice none 0 0, .slice none 0 0], .agg #[.int .i64 2, .int .i64 1, .int .i64 6, .int .i64 0, .slice none 0 0, .slice none 0 0]] w2 (Gives (.bool true) w2))) :
    Calls Tryd.prog 11 #[] w (Gives (.bool true) w) := by
  subst hH
  have I0 := aw_start w 33 3 hE
  unfold aw0 at I0
  obtain ⟨d0, d1, d2, d3, d4, d5, d6⟩ := I0.1
  go_enter Tryd.func11, Tryd.ntmps11
  go_wp2_with fail
  refine (A1.out _ I0.2.2.2).mono ?_
  rintro e w1 ⟨rfl, hb1⟩
  have I1 := Aw.on hb1 I0
  clear d0 d1 d2 d3 d4 d5 d6
  obtain ⟨d0, d1, d2, d3, d4, d5, d6⟩ := I1.1
  go_wp2_with fail
  refine (A2.out _ I1.2.2.2).mono ?_
  rintro e w2 ⟨rfl, hb2⟩
  have I2 := Aw.on hb2 I1
  clear d0 d1 d2 d3 d4 d5 d6
  obtain ⟨d0, d1, d2, d3, d4, d5, d6⟩ := I2.1
  go_wp2_with fail
  refine (A3.out _ I2.2.2.2).mono ?_
  rintro e w3 ⟨rfl, hb3⟩
  have I3 := Aw.on hb3 I2
  clear d0 d1 d2 d3 d4 d5 d6
  obtain ⟨d0, d1, d2, d3, d4, d5, d6⟩ := I3.2.1
  go_wp2_with fail
  refine (A4.out _ I3.2.2.2).mono ?_
  rintro e w4 ⟨rfl, hb4⟩
  have I4 := Aw.on hb4 I3
  clear d0 d1 d2 d3 d4 d5 d6
  obtain ⟨d0, d1, d2, d3, d4, d5, d6⟩ := I4.2.1
  go_wp2_with fail
  refine (A5.out _ I4.2.2.2).mono ?_
  rintro e w5 ⟨rfl, hb5⟩
  have I5 := Aw.on hb5 I4
  clear d0 d1 d2 d3 d4 d5 d6
  obtain ⟨d0, d1, d2, d3, d4, d5, d6⟩ := I5.2.2.1
  go_wp2_with fail
  refine (A6.out _ I5.2.2.2).mono ?_
  rintro e w6 ⟨rfl, hb6⟩
  have I6 := Aw.on hb6 I5
  clear d0 d1 d2 d3 d4 d5 d6
  obtain ⟨d0, d1, d2, d3, d4, d5, d6⟩ := I6.2.2.1
  go_wp2_with fail
  refine (A7.out _ I6.2.2.2).mono ?_
  rintro e w7 ⟨rfl, hb7⟩
  have I7 := Aw.on hb7 I6
  clear d0 d1 d2 d3 d4 d5 d6
  obtain ⟨d0, d1, d2, d3, d4, d5, d6⟩ := I7.2.2.1
  go_wp2_with fail
  refine (A8.out _ I7.2.2.2).mono ?_
  rintro e w8 ⟨rfl, hb8⟩
  have I8 := Aw.on hb8 I7
  clear d0 d1 d2 d3 d4 d5 d6
  obtain ⟨d0, d1, d2, d3, d4, d5, d6⟩ := I8.2.1
  go_wp2_with fail
  refine (ME.out _ I8.2.2.2).mono ?_
  rintro e w9 ⟨rfl, hb9⟩
  have I9 := Aw.alloc (o := .cells #[.int .i64 15, .int .i64 4] 24) (Aw.on hb9 I8)
  clear d0 d1 d2 d3 d4 d5 d6
  obtain ⟨d0, d1, d2, d3, d4, d5, d6⟩ := I9.2.1
  go_wp2_with fail
  refine (TX.out _ I9.2.2.2).mono ?_
  rintro e w10 ⟨rfl, hb10⟩
  have I10 := Aw.on hb10 I9
  clear d0 d1 d2 d3 d4 d5 d6
  obtain ⟨d0, d1, d2, d3, d4, d5, d6⟩ := I10.1
  go_wp2_with fail
  refine (C1.out _ I10.2.2.2).mono ?_
  rintro e w11 ⟨rfl, hb11⟩
  have I11 := Aw.on hb11 I10
  go_wp2_with fail
  refine (C2.out _ I11.2.2.2).mono ?_
  rintro e w12 ⟨rfl, hb12⟩
  have I12 := Aw.on hb12 I11
  clear d0 d1 d2 d3 d4 d5 d6
  obtain ⟨d0, d1, d2, d3, d4, d5, d6⟩ := I12.1
  go_wp2_with fail
  refine (LE.out _ I12.2.2.2).mono ?_
  rintro e w13 ⟨rfl, hb13⟩
  have I13 := Aw.on hb13 I12
  clear d0 d1 d2 d3 d4 d5 d6
  obtain ⟨d0, d1, d2, d3, d4, d5, d6⟩ := I13.1
  go_wp2_with fail
  refine (MO.out _ I13.2.2.2).mono ?_
  rintro e w14 ⟨rfl, hb14⟩
  have I14 := Aw.on hb14 I13
  clear d0 d1 d2 d3 d4 d5 d6
  obtain ⟨d0, d1, d2, d3, d4, d5, d6⟩ := I14.1
  go_wp2_with fail
  refine (SA.out _ I14.2.2.2).mono ?_
  rintro e w15 ⟨rfl, hb15⟩
  go_wp2_with fail
  go_ret
  exact ⟨rfl, by (repeat (first | (with_reducible exact Below.refl _ _) | (with_reducible assumption) | (with_reducible apply bl_alloc) | (with_reducible apply bl_drewN) | (with_reducible apply bl_drew) | (with_reducible refine bl_set ?_ (by first | (simp; done) | (simp; omega)) _) | (with_reducible refine bl_call ?_ (by assumption))))⟩
end Go.Proofs.YtnfddeoddjmpkabDoor.Di
