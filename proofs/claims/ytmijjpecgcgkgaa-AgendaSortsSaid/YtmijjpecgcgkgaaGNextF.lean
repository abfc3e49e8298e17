/-
  The contract of Next once more: the list lies in new memory.
-/
import Derived.Test.YtmijjpecgcgkgaaGMath
namespace Go.Proofs.Ytmijjpecgcgkgaa.Ag
open Go.RowKit
set_option maxHeartbeats 4000000
def EvListsF (w : World) (m : Nat) (z : Bool) (x : Ev) (E : Nat → Ev) (e : Ending) (w' : World) : Prop :=
  ∃ y p c F, e = .returned (.tuple #[.agg #[.int .i64 y.t, .int .i64 y.p, .int .i64 y.f, .int .i64 y.s, .int .i64 y.st, .int .i64 y.k, .int .i64 y.a, .int .i64 y.b, .slice y.ap y.al y.ac], .slice p m c, .bool z]) ∧ Eqv y x ∧ ok w' y ∧ WL p m c ∧ Evs w' p m F ∧ (∀ i, i < m → Eqv (F i) (E i)) ∧ Below w.heap.size w w' ∧ Fresh w.heap.size p m F
theorem nextF_one (b o : Nat) (E : Nat → Ev) (w : World) (hE : Evs w (some ⟨b, o, none⟩) 1 E) (hG : Good E 1) : Calls Try.prog 21 #[.slice (some ⟨b, o, none⟩) 1 1] w (EvListsF w 0 true (E 0) (fun i => E (1 + i))) := by
  have CK := Lib.hid (chkE_zero.2 hG)
  have HG := Lib.hid hG
  have Z0 : zblk (w.alloc (.cells #[.int .i64 0, .int .i64 0, .int .i64 0, .int .i64 0, .int .i64 0, .int .i64 0, .int .i64 0, .int .i64 0, .slice none 0 0] 25)) w.heap.size := zero_new
  have hbw : b < w.heap.size := by
    obtain ⟨-, h0 | ⟨b', o', he, hb, -⟩⟩ := hE
    · omega
    · cases he; exact hb
  clear hG
  go_enter Try.func21, Try.ntmps21
  go_wp2_with fail
  refine (check_any _ 1 1 E _ hE.alloc).mono ?_
  rintro e w1 ⟨rfl, hb1⟩
  rw [CK.out]
  have Z1 := zblk.on hb1 Z0
  have hE1 := hE.alloc.on hb1
  have B1 : Below w.heap.size w w1 := by (repeat (first | (with_reducible exact Below.refl _ _) | (with_reducible assumption) | (with_reducible apply bl_alloc) | (with_reducible apply bl_drewN) | (with_reducible apply bl_drew) | (with_reducible refine bl_set ?_ (by first | (simp; done) | (simp; omega)) _) | (with_reducible refine bl_call ?_ (by assumption))))
  obtain ⟨hl, h0 | ⟨b', o', he, hb, hcell⟩⟩ := hE1
  · omega
  cases he
  have C1 : cell9 w1 b o (E 0) := by have := (hcell.out 0 (by omega)).1; rwa [Nat.zero_mul, Nat.add_zero] at this
  go_wp2_with fail
  have C1d : cell9 w1.drew b o (E 0) := C1
  have Z1d : zblk w1.drew w.heap.size := Z1
  have R1d : Row w1.drew (E 0).ap (E 0).al (E 0).V := (hcell.out 0 (by omega)).2
  have hb1d : b < w1.drew.heap.size := hb
  have hne : b ≠ w.heap.size := by omega
  have hal := evE_al (HG.out.2.1 0 (by omega))
  have hE1d : Evs w1.drew (some ⟨b, o, none⟩) 1 E := ⟨hl, .inr ⟨b, o, rfl, hb, hcell⟩⟩
  have HD : Hid (Evs w1.drew (some ⟨b, o, none⟩) 0 (fun i => E (1 + i))) := Lib.hid Evs.nil
  have HR := Lib.hid fun (i : Nat) (hi : i < 0) => evE_al (HG.out.2.1 (1 + i) (by omega))
  have hm : 0 ≤ 5000 := by omega
  have C1a : cell9 ((w1.alloc (.cells #[.slice (some ⟨b, o, none⟩) 0 0] 29)).drew) b o (E 0) := C1.al hb
  have Z1a : zblk ((w1.alloc (.cells #[.slice (some ⟨b, o, none⟩) 0 0] 29)).drew) w.heap.size := Z1.alloc
  have R1a : Row ((w1.alloc (.cells #[.slice (some ⟨b, o, none⟩) 0 0] 29)).drew) (E 0).ap (E 0).al (E 0).V := Row.alloc (hcell.out 0 (by omega)).2
  have hb1a : b < ((w1.alloc (.cells #[.slice (some ⟨b, o, none⟩) 0 0] 29)).drew).heap.size := by show b < (w1.alloc _).heap.size; simp; omega
  have HDa : Hid (Evs ((w1.alloc (.cells #[.slice (some ⟨b, o, none⟩) 0 0] 29)).drew) _ _ _) := Lib.hid (Evs.alloc HD.out)
  have z1a : w1.heap.size < ((w1.alloc (.cells #[.slice (some ⟨b, o, none⟩) 0 0] 29)).drew).heap.size := by show w1.heap.size < (w1.alloc _).heap.size; simp
  have G1a : Hid (((w1.alloc (.cells #[.slice (some ⟨b, o, none⟩) 0 0] 29)).drew).cell? ⟨w1.heap.size, 0, none⟩ = some (.slice (some ⟨b, o, none⟩) 0 0)) := Lib.hid (by show (w1.alloc _).cell? _ = _; simp)
  go_region_held3 (fun w' => w'.cell? ⟨b, o, none⟩ = some (.int .i64 (E 0).t) ∧ w'.cell? ⟨b, o + 1, none⟩ = some (.int .i64 (E 0).p) ∧ w'.cell? ⟨b, o + 2, none⟩ = some (.int .i64 (E 0).f) ∧ w'.cell? ⟨b, o + 3, none⟩ = some (.int .i64 (E 0).s) ∧ w'.cell? ⟨b, o + 4, none⟩ = some (.int .i64 (E 0).st) ∧ w'.cell? ⟨b, o + 5, none⟩ = some (.int .i64 (E 0).k) ∧ w'.cell? ⟨b, o + 6, none⟩ = some (.int .i64 (E 0).a) ∧ w'.cell? ⟨b, o + 7, none⟩ = some (.int .i64 (E 0).b) ∧ w'.cell? ⟨b, o + 8, none⟩ = some (.slice (E 0).ap (E 0).al (E 0).ac)) (first | (with_reducible exact keepC9 (cell9.far C3 hne)) | (with_reducible exact keepC9 C3) | (with_reducible exact keepC9 (C2.al hb2d)) | (with_reducible exact keepC9 C2) | (with_reducible exact keepC9 C2b) | (with_reducible exact keepC9 C1a) | (with_reducible exact keepC9 C1d) | (go_keep; done))
    (first
      | (go_at_call 37; (with_reducible refine (copied_any (E 0) _ R1d hal).mono ?_); rintro e w2 ⟨y, rfl, hy, hyr, hb2⟩; have HY := Lib.hid hy; have HYR := Lib.hid hyr; clear hy hyr; have Z2 := zblk.on hb2 Z1d; have C2 := cell9.on hb2 hb1d C1d; have hb2d := Nat.lt_of_lt_of_le hb1d hb2.size; have HD2 := Lib.hid (Evs.on hb2 HD.out))
      | (go_at_call 37; (with_reducible refine (copied_any (E 0) _ R1a hal).mono ?_); rintro e w2 ⟨y, rfl, hy, hyr, hb2⟩; have HY := Lib.hid hy; have HYR := Lib.hid hyr; clear hy hyr; have Z2b := zblk.on hb2 Z1a; have C2b := cell9.on hb2 hb1a C1a; have hb2b := Nat.lt_of_lt_of_le hb1a hb2.size; have HD2b := Lib.hid (Evs.on hb2 HDa.out); have z2b := Nat.lt_of_lt_of_le z1a hb2.size; have G2b := Lib.hid ((hb2.cell (p := ⟨w1.heap.size, 0, none⟩) z1a).trans G1a.out))
      | (go_at_call 36; refine (join1 _ w2.heap.size _ 0 0 (fun i => E (1 + i)) (by simp) (by simp) (Evs.alloc HD2.out) hm HR.out).mono ?_; rintro e w3 ⟨q, d, F, rfl, hW, hF, hq, hb3, hfr⟩; have Z3 := zblk.on hb3 Z2.alloc; have C3 := cell9.on hb3 (by simp; omega) (C2.al hb2d); have HQ := Lib.hid hq; have HF := Lib.hid hF; have HW := Lib.hid hW; have Y3 : Hid (RowNe w.heap.size _ _ _ _) := Lib.hid (RowNe.on hb3 (RowNe.on ((Below.refl _ _).alloc (Nat.le_refl _) _) (RowF.ne HYR.out (by first | exact Z1d.1.2.2.2.2.2.2.2.2.2 | exact Z1a.1.2.2.2.2.2.2.2.2.2)))); have hRlo : w.heap.size < (w2.alloc (Obj.cells #[.slice (some ⟨b, o, none⟩) 0 0] 29)).heap.size := Z2.alloc.1.2.2.2.2.2.2.2.2.2; have HFR := Lib.hid hfr; clear hq hF hW hfr; obtain ⟨ZN, f3⟩ := Z3; obtain ⟨z0, z1, z2, z3, z4, z5, z6, z7, z8, z9⟩ := ZN)
      | (go_at_call 36; refine (join1 _ w1.heap.size _ 0 0 (fun i => E (1 + i)) z2b G2b.out HD2b.out hm HR.out).mono ?_; rintro e w3 ⟨q, d, F, rfl, hW, hF, hq, hb3, hfr⟩; have Z3 := zblk.on hb3 Z2b; have C3 := cell9.on hb3 hb2b C2b; have HQ := Lib.hid hq; have HF := Lib.hid hF; have HW := Lib.hid hW; have Y3 : Hid (RowNe w.heap.size _ _ _ _) := Lib.hid (RowNe.on hb3 (RowF.ne HYR.out Z1a.1.2.2.2.2.2.2.2.2.2)); have hRlo : w.heap.size < w2.heap.size := Z2b.1.2.2.2.2.2.2.2.2.2; have HFR := Lib.hid hfr; clear hq hF hW hfr; obtain ⟨ZN, f3⟩ := Z3; obtain ⟨z0, z1, z2, z3, z4, z5, z6, z7, z8, z9⟩ := ZN))
  all_goals
    go_wp2_with fail
    exact bodyPost_ret (v := .tuple #[.agg #[.int .i64 y.t, .int .i64 y.p, .int .i64 y.f, .int .i64 y.s, .int .i64 y.st, .int .i64 y.k, .int .i64 y.a, .int .i64 y.b, .slice y.ap y.al y.ac], .slice q 0 d, .bool true]) (by simp [results, Try.results21, go_sem, *]) rfl ⟨y, q, d, F, rfl, HY.out, RowNe.row (RowNe.set (RowNe.set (RowNe.set (RowNe.set (RowNe.set (RowNe.set (RowNe.set (RowNe.set (RowNe.set Y3.out))))))))), HW.out,
      Evs.set (Evs.set (Evs.set (Evs.set (Evs.set (Evs.set (Evs.set (Evs.set (Evs.set HF.out HFR.out hRlo) HFR.out hRlo) HFR.out hRlo) HFR.out hRlo) HFR.out hRlo) HFR.out hRlo) HFR.out hRlo) HFR.out hRlo) HFR.out hRlo, HQ.out, by (repeat (first | (with_reducible exact Below.refl _ _) | (with_reducible assumption) | (with_reducible apply bl_alloc) | (with_reducible apply bl_drewN) | (with_reducible apply bl_drew) | (with_reducible refine bl_set ?_ (by first | (simp; done) | (simp; omega)) _) | (with_reducible refine bl_call ?_ (by assumption)))), FromLo.mono HFR.out.1 (Nat.le_of_lt hRlo), fun i hi => FromLo.mono (HFR.out.2 i hi) (Nat.le_of_lt hRlo)⟩
theorem nextF_many (b o n c : Nat) (E : Nat → Ev) (w : World) (hE : Evs w (some ⟨b, o, none⟩) n E) (nn : 0 < n) (hc : n ≤ c) (hc1 : c ≠ 1) (hG : Good E n) : Calls Try.prog 21 #[.slice (some ⟨b, o, none⟩) n c] w (EvListsF w (n - 1) true (E 0) (fun i => E (1 + i))) := by
  have CK := Lib.hid (chkE_zero.2 hG)
  have HG := Lib.hid hG
  have hz : ((n : Int) == 0) = false := by rw [beq_eq_false_iff_ne]; omega
  have n1 : (1 : Int) ≤ (n : Int) := by omega
  have n2 : (1 : Int) ≤ (c : Int) := by omega
  have n3 : (n : Int) ≤ (c : Int) := by omega
  have Z0 : zblk (w.alloc (.cells #[.int .i64 0, .int .i64 0, .int .i64 0, .int .i64 0, .int .i64 0, .int .i64 0, .int .i64 0, .int .i64 0, .slice none 0 0] 25)) w.heap.size := zero_new
  have hbw : b < w.heap.size := by
    obtain ⟨-, h0 | ⟨b', o', he, hb, -⟩⟩ := hE
    · omega
    · cases he; exact hb
  clear hG
  go_enter Try.func21, Try.ntmps21
  go_wp2_with fail
  refine (check_any _ n c E _ hE.alloc).mono ?_
  rintro e w1 ⟨rfl, hb1⟩
  rw [CK.out]
  have Z1 := zblk.on hb1 Z0
  have hE1 := hE.alloc.on hb1
  have B1 : Below w.heap.size w w1 := by (repeat (first | (with_reducible exact Below.refl _ _) | (with_reducible assumption) | (with_reducible apply bl_alloc) | (with_reducible apply bl_drewN) | (with_reducible apply bl_drew) | (with_reducible refine bl_set ?_ (by first | (simp; done) | (simp; omega)) _) | (with_reducible refine bl_call ?_ (by assumption))))
  obtain ⟨hl, h0 | ⟨b', o', he, hb, hcell⟩⟩ := hE1
  · omega
  cases he
  have C1 : cell9 w1 b o (E 0) := by have := (hcell.out 0 (by omega)).1; rwa [Nat.zero_mul, Nat.add_zero] at this
  go_wp2_with fail
  have C1d : cell9 w1.drew b o (E 0) := C1
  have Z1d : zblk w1.drew w.heap.size := Z1
  have R1d : Row w1.drew (E 0).ap (E 0).al (E 0).V := (hcell.out 0 (by omega)).2
  have hb1d : b < w1.drew.heap.size := hb
  have hne : b ≠ w.heap.size := by omega
  have hal := evE_al (HG.out.2.1 0 (by omega))
  have hE1d : Evs w1.drew (some ⟨b, o, none⟩) n E := ⟨hl, .inr ⟨b, o, rfl, hb, hcell⟩⟩
  have HD : Hid (Evs w1.drew (some ⟨b, o + 9, none⟩) (n - 1) (fun i => E (1 + i))) := Lib.hid (by have := hE1d.drop (k := 1) (by omega); rwa [Nat.one_mul] at this)
  have HR := Lib.hid fun (i : Nat) (hi : i < n - 1) => evE_al (HG.out.2.1 (1 + i) (by omega))
  have hm : n - 1 ≤ 5000 := by have := HG.out.1; omega
  have C1a : cell9 ((w1.alloc (.cells #[.slice (some ⟨b, o + 9, none⟩) (n - 1) (c - 1)] 29)).drew) b o (E 0) := C1.al hb
  have Z1a : zblk ((w1.alloc (.cells #[.slice (some ⟨b, o + 9, none⟩) (n - 1) (c - 1)] 29)).drew) w.heap.size := Z1.alloc
  have R1a : Row ((w1.alloc (.cells #[.slice (some ⟨b, o + 9, none⟩) (n - 1) (c - 1)] 29)).drew) (E 0).ap (E 0).al (E 0).V := Row.alloc (hcell.out 0 (by omega)).2
  have hb1a : b < ((w1.alloc (.cells #[.slice (some ⟨b, o + 9, none⟩) (n - 1) (c - 1)] 29)).drew).heap.size := by show b < (w1.alloc _).heap.size; simp; omega
  have HDa : Hid (Evs ((w1.alloc (.cells #[.slice (some ⟨b, o + 9, none⟩) (n - 1) (c - 1)] 29)).drew) _ _ _) := Lib.hid (Evs.alloc HD.out)
  have z1a : w1.heap.size < ((w1.alloc (.cells #[.slice (some ⟨b, o + 9, none⟩) (n - 1) (c - 1)] 29)).drew).heap.size := by show w1.heap.size < (w1.alloc _).heap.size; simp
  have G1a : Hid (((w1.alloc (.cells #[.slice (some ⟨b, o + 9, none⟩) (n - 1) (c - 1)] 29)).drew).cell? ⟨w1.heap.size, 0, none⟩ = some (.slice (some ⟨b, o + 9, none⟩) (n - 1) (c - 1))) := Lib.hid (by show (w1.alloc _).cell? _ = _; simp)
  go_region_held3 (fun w' => w'.cell? ⟨b, o, none⟩ = some (.int .i64 (E 0).t) ∧ w'.cell? ⟨b, o + 1, none⟩ = some (.int .i64 (E 0).p) ∧ w'.cell? ⟨b, o + 2, none⟩ = some (.int .i64 (E 0).f) ∧ w'.cell? ⟨b, o + 3, none⟩ = some (.int .i64 (E 0).s) ∧ w'.cell? ⟨b, o + 4, none⟩ = some (.int .i64 (E 0).st) ∧ w'.cell? ⟨b, o + 5, none⟩ = some (.int .i64 (E 0).k) ∧ w'.cell? ⟨b, o + 6, none⟩ = some (.int .i64 (E 0).a) ∧ w'.cell? ⟨b, o + 7, none⟩ = some (.int .i64 (E 0).b) ∧ w'.cell? ⟨b, o + 8, none⟩ = some (.slice (E 0).ap (E 0).al (E 0).ac)) (first | (with_reducible exact keepC9 (cell9.far C3 hne)) | (with_reducible exact keepC9 C3) | (with_reducible exact keepC9 (C2.al hb2d)) | (with_reducible exact keepC9 C2) | (with_reducible exact keepC9 C2b) | (with_reducible exact keepC9 C1a) | (with_reducible exact keepC9 C1d) | (go_keep; done))
    (first
      | (go_at_call 37; (with_reducible refine (copied_any (E 0) _ R1d hal).mono ?_); rintro e w2 ⟨y, rfl, hy, hyr, hb2⟩; have HY := Lib.hid hy; have HYR := Lib.hid hyr; clear hy hyr; have Z2 := zblk.on hb2 Z1d; have C2 := cell9.on hb2 hb1d C1d; have hb2d := Nat.lt_of_lt_of_le hb1d hb2.size; have HD2 := Lib.hid (Evs.on hb2 HD.out))
      | (go_at_call 37; (with_reducible refine (copied_any (E 0) _ R1a hal).mono ?_); rintro e w2 ⟨y, rfl, hy, hyr, hb2⟩; have HY := Lib.hid hy; have HYR := Lib.hid hyr; clear hy hyr; have Z2b := zblk.on hb2 Z1a; have C2b := cell9.on hb2 hb1a C1a; have hb2b := Nat.lt_of_lt_of_le hb1a hb2.size; have HD2b := Lib.hid (Evs.on hb2 HDa.out); have z2b := Nat.lt_of_lt_of_le z1a hb2.size; have G2b := Lib.hid ((hb2.cell (p := ⟨w1.heap.size, 0, none⟩) z1a).trans G1a.out))
      | (go_at_call 36; refine (join1 _ w2.heap.size _ (n - 1) (c - 1) (fun i => E (1 + i)) (by simp) (by simp) (Evs.alloc HD2.out) hm HR.out).mono ?_; rintro e w3 ⟨q, d, F, rfl, hW, hF, hq, hb3, hfr⟩; have Z3 := zblk.on hb3 Z2.alloc; have C3 := cell9.on hb3 (by simp; omega) (C2.al hb2d); have HQ := Lib.hid hq; have HF := Lib.hid hF; have HW := Lib.hid hW; have Y3 : Hid (RowNe w.heap.size _ _ _ _) := Lib.hid (RowNe.on hb3 (RowNe.on ((Below.refl _ _).alloc (Nat.le_refl _) _) (RowF.ne HYR.out (by first | exact Z1d.1.2.2.2.2.2.2.2.2.2 | exact Z1a.1.2.2.2.2.2.2.2.2.2)))); have hRlo : w.heap.size < (w2.alloc (Obj.cells #[.slice (some ⟨b, o + 9, none⟩) (n - 1) (c - 1)] 29)).heap.size := Z2.alloc.1.2.2.2.2.2.2.2.2.2; have HFR := Lib.hid hfr; clear hq hF hW hfr; obtain ⟨ZN, f3⟩ := Z3; obtain ⟨z0, z1, z2, z3, z4, z5, z6, z7, z8, z9⟩ := ZN)
      | (go_at_call 36; refine (join1 _ w1.heap.size _ (n - 1) (c - 1) (fun i => E (1 + i)) z2b G2b.out HD2b.out hm HR.out).mono ?_; rintro e w3 ⟨q, d, F, rfl, hW, hF, hq, hb3, hfr⟩; have Z3 := zblk.on hb3 Z2b; have C3 := cell9.on hb3 hb2b C2b; have HQ := Lib.hid hq; have HF := Lib.hid hF; have HW := Lib.hid hW; have Y3 : Hid (RowNe w.heap.size _ _ _ _) := Lib.hid (RowNe.on hb3 (RowF.ne HYR.out Z1a.1.2.2.2.2.2.2.2.2.2)); have hRlo : w.heap.size < w2.heap.size := Z2b.1.2.2.2.2.2.2.2.2.2; have HFR := Lib.hid hfr; clear hq hF hW hfr; obtain ⟨ZN, f3⟩ := Z3; obtain ⟨z0, z1, z2, z3, z4, z5, z6, z7, z8, z9⟩ := ZN))
  all_goals
    go_wp2_with fail
    exact bodyPost_ret (v := .tuple #[.agg #[.int .i64 y.t, .int .i64 y.p, .int .i64 y.f, .int .i64 y.s, .int .i64 y.st, .int .i64 y.k, .int .i64 y.a, .int .i64 y.b, .slice y.ap y.al y.ac], .slice q (n - 1) d, .bool true]) (by simp [results, Try.results21, go_sem, *]) rfl ⟨y, q, d, F, rfl, HY.out, RowNe.row (RowNe.set (RowNe.set (RowNe.set (RowNe.set (RowNe.set (RowNe.set (RowNe.set (RowNe.set (RowNe.set Y3.out))))))))), HW.out,
      Evs.set (Evs.set (Evs.set (Evs.set (Evs.set (Evs.set (Evs.set (Evs.set (Evs.set HF.out HFR.out hRlo) HFR.out hRlo) HFR.out hRlo) HFR.out hRlo) HFR.out hRlo) HFR.out hRlo) HFR.out hRlo) HFR.out hRlo) HFR.out hRlo, HQ.out, by (repeat (first | (with_reducible exact Below.refl _ _) | (with_reducible assumption) | (with_reducible apply bl_alloc) | (with_reducible apply bl_drewN) | (with_reducible apply bl_drew) | (with_reducible refine bl_set ?_ (by first | (simp; done) | (simp; omega)) _) | (with_reducible refine bl_call ?_ (by assumption)))), FromLo.mono HFR.out.1 (Nat.le_of_lt hRlo), fun i hi => FromLo.mono (HFR.out.2 i hi) (Nat.le_of_lt hRlo)⟩
theorem nextF_good (p : Option Addr) (n c : Nat) (E : Nat → Ev) (w : World) (hE : Evs w p n E) (hW : WL p n c) (hn : n ≠ 0) (hG : Good E n) : Calls Try.prog 21 #[.slice p n c] w (EvListsF w (n - 1) true (E 0) (fun i => E (1 + i))) := by
  obtain ⟨hc, hW⟩ := hW
  rcases hW with h | ⟨b, o, rfl⟩
  · omega
  · by_cases h1 : c = 1
    · subst h1
      obtain rfl : n = 1 := by omega
      exact nextF_one b o E w hE hG
    · exact nextF_many b o n c E w hE (by omega) hc h1 hG
end Go.Proofs.Ytmijjpecgcgkgaa.Ag
