/-
  The contract of Next.
-/
import Derived.Test.YtmijjpecgcgkgaaGPut
namespace Go.Proofs.Ytmijjpecgcgkgaa.Ag
open Go.RowKit
set_option maxHeartbeats 4000000
theorem join1 (w : World) (g : Nat) (p0 : Option Addr) (m c0 : Nat) (E : Nat → Ev) (hg : g < w.heap.size) (hc : w.cell? ⟨g, 0, none⟩ = some (.slice p0 m c0)) (h0 : Evs w p0 m E) (hm : m ≤ 5000) (hR : ∀ i, i < m → (E i).al ≤ 6) :
    Calls Try.prog 36 #[.slice (some ⟨g, 0, none⟩) 1 1] w (Lists w m E) := by
  refine (joined_any g 0 1 1 (fun _ => p0) (fun _ => m) (fun _ => c0) (fun _ => E) w (by omega) hg (Lib.hid fun j hj => ?_) (Lib.hid fun j hj => h0) m (catE (fun _ => m) (fun _ => E) 1) (by show 0 + m = m; omega) rfl (by omega) (fun i hi => ?_)).mono fun e w' h => ?_
  · obtain rfl : j = 0 := by omega
    exact hc
  · show ok w (glue (fun _ => zeroEv) 0 E i) ∧ (glue (fun _ => zeroEv) 0 E i).al ≤ 6
    rw [glue_r (Nat.zero_le _)]
    exact ⟨h0.get _ (by omega), hR _ (by omega)⟩
  · obtain ⟨p, c, F, h1, h2, h3, h4, h5⟩ := h
    refine ⟨p, c, F, h1, h2, h3, fun i hi => ?_, h5⟩
    have h6 : Eqv (F i) (glue (fun _ => zeroEv) 0 E i) := h4 i hi
    rwa [glue_r (Nat.zero_le _)] at h6
/-- An event, a list, and a yes or no. -/
def EvLists (w : World) (m : Nat) (z : Bool) (x : Ev) (E : Nat → Ev) (e : Ending) (w' : World) : Prop :=
  ∃ y p c F, e = .returned (.tuple #[.agg #[.int .i64 y.t, .int .i64 y.p, .int .i64 y.f, .int .i64 y.s, .int .i64 y.st, .int .i64 y.k, .int .i64 y.a, .int .i64 y.b, .slice y.ap y.al y.ac], .slice p m c, .bool z]) ∧ Eqv y x ∧ ok w' y ∧ WL p m c ∧ Evs w' p m F ∧ (∀ i, i < m → Eqv (F i) (E i)) ∧ Below w.heap.size w w'
theorem EvLists.none {w w' : World} {E : Nat → Ev} {e : Ending} (he : e = .returned (.tuple #[.agg #[.int .i64 0, .int .i64 0, .int .i64 0, .int .i64 0, .int .i64 0, .int .i64 0, .int .i64 0, .int .i64 0, .slice none 0 0], .slice none 0 0, .bool false])) (hb : Below w.heap.size w w') : EvLists w 0 false zeroEv E e w' :=
  ⟨zeroEv, Option.none, 0, fun _ => zeroEv, he, Eqv.refl _, ⟨by show 0 ≤ _; omega, .inl rfl⟩, ⟨Nat.le_refl _, .inl rfl⟩, Evs.nil, fun i hi => absurd hi (Nat.not_lt_zero _), hb⟩
theorem zero_new {w : World} : nine (w.alloc (.cells #[.int .i64 0, .int .i64 0, .int .i64 0, .int .i64 0, .int .i64 0, .int .i64 0, .int .i64 0, .int .i64 0, .slice none 0 0] 25)) w.heap.size zeroEv ∧ ∀ o, (w.alloc (.cells #[.int .i64 0, .int .i64 0, .int .i64 0, .int .i64 0, .int .i64 0, .int .i64 0, .int .i64 0, .int .i64 0, .slice none 0 0] 25)).frozen? ⟨w.heap.size, o, none⟩ = false := ⟨nine.new (x := zeroEv), fun o => Blk.frozen Blk.new o⟩
/-- The block of an event that is still zero, and may be written. -/
def zblk (w : World) (g : Nat) : Prop := nine w g zeroEv ∧ ∀ o, w.frozen? ⟨g, o, none⟩ = false
theorem zblk.on {w w2 : World} {g : Nat} (hb : Below w.heap.size w w2) (h : zblk w g) : zblk w2 g := ⟨nine.on hb h.1, fun o => (hb.frozen (p := ⟨g, o, none⟩) h.1.2.2.2.2.2.2.2.2.2).trans (h.2 o)⟩
theorem zblk.alloc {w : World} {o : Obj} {g : Nat} (h : zblk w g) : zblk (w.alloc o) g := h.on ((Below.refl _ _).alloc (Nat.le_refl _) o)
theorem keepC9 {w : World} {g o : Nat} {x : Ev} (h : cell9 w g o x) : w.cell? ⟨g, o, none⟩ = some (.int .i64 x.t) ∧ w.cell? ⟨g, o + 1, none⟩ = some (.int .i64 x.p) ∧ w.cell? ⟨g, o + 2, none⟩ = some (.int .i64 x.f) ∧ w.cell? ⟨g, o + 3, none⟩ = some (.int .i64 x.s) ∧ w.cell? ⟨g, o + 4, none⟩ = some (.int .i64 x.st) ∧ w.cell? ⟨g, o + 5, none⟩ = some (.int .i64 x.k) ∧ w.cell? ⟨g, o + 6, none⟩ = some (.int .i64 x.a) ∧ w.cell? ⟨g, o + 7, none⟩ = some (.int .i64 x.b) ∧ w.cell? ⟨g, o + 8, none⟩ = some (.slice x.ap x.al x.ac) := h
theorem cell9.al {w : World} {g o : Nat} {x : Ev} {u : Obj} (h : cell9 w g o x) (hg : g < w.heap.size) : cell9 (w.alloc u) g o x := h.on ((Below.refl _ _).alloc (Nat.le_refl _) u) hg
theorem cell9.far {w : World} {g R o : Nat} {x : Ev} {u0 u1 u2 u3 u4 u5 u6 u7 u8 : Value} (h : cell9 w g o x) (hne : g ≠ R) : cell9 (((((((((w.setCell ⟨R, 0, none⟩ u0).setCell ⟨R, 1, none⟩ u1).setCell ⟨R, 2, none⟩ u2).setCell ⟨R, 3, none⟩ u3).setCell ⟨R, 4, none⟩ u4).setCell ⟨R, 5, none⟩ u5).setCell ⟨R, 6, none⟩ u6).setCell ⟨R, 7, none⟩ u7).setCell ⟨R, 8, none⟩ u8) g o x := by
  obtain ⟨h0, h1, h2, h3, h4, h5, h6, h7, h8⟩ := h
  have far : ∀ q, (((((((((w.setCell ⟨R, 0, none⟩ u0).setCell ⟨R, 1, none⟩ u1).setCell ⟨R, 2, none⟩ u2).setCell ⟨R, 3, none⟩ u3).setCell ⟨R, 4, none⟩ u4).setCell ⟨R, 5, none⟩ u5).setCell ⟨R, 6, none⟩ u6).setCell ⟨R, 7, none⟩ u7).setCell ⟨R, 8, none⟩ u8).cell? ⟨g, q, none⟩ = w.cell? ⟨g, q, none⟩ := fun q => by rw [cell_far hne, cell_far hne, cell_far hne, cell_far hne, cell_far hne, cell_far hne, cell_far hne, cell_far hne, cell_far hne]
  exact ⟨(far _).trans h0, (far _).trans h1, (far _).trans h2, (far _).trans h3, (far _).trans h4, (far _).trans h5, (far _).trans h6, (far _).trans h7, (far _).trans h8⟩
theorem far9 {w : World} {g R o : Nat} {u0 u1 u2 u3 u4 u5 u6 u7 u8 : Value} (hne : g ≠ R) : (((((((((w.setCell ⟨R, 0, none⟩ u0).setCell ⟨R, 1, none⟩ u1).setCell ⟨R, 2, none⟩ u2).setCell ⟨R, 3, none⟩ u3).setCell ⟨R, 4, none⟩ u4).setCell ⟨R, 5, none⟩ u5).setCell ⟨R, 6, none⟩ u6).setCell ⟨R, 7, none⟩ u7).setCell ⟨R, 8, none⟩ u8).cell? ⟨g, o, none⟩ = w.cell? ⟨g, o, none⟩ := by rw [cell_far hne, cell_far hne, cell_far hne, cell_far hne, cell_far hne, cell_far hne, cell_far hne, cell_far hne, cell_far hne]
theorem size9 {w : World} {R : Nat} {u0 u1 u2 u3 u4 u5 u6 u7 u8 : Value} : (((((((((w.setCell ⟨R, 0, none⟩ u0).setCell ⟨R, 1, none⟩ u1).setCell ⟨R, 2, none⟩ u2).setCell ⟨R, 3, none⟩ u3).setCell ⟨R, 4, none⟩ u4).setCell ⟨R, 5, none⟩ u5).setCell ⟨R, 6, none⟩ u6).setCell ⟨R, 7, none⟩ u7).setCell ⟨R, 8, none⟩ u8).heap.size = w.heap.size := by simp [World.setCell]
theorem Evs.set {w : World} {R j lo : Nat} {u : Value} {p : Option Addr} {n : Nat} {F : Nat → Ev} (h : Evs w p n F) (hf : Fresh lo p n F) (hR : R < lo) : Evs (w.setCell ⟨R, j, none⟩ u) p n F := by
  obtain ⟨hl, h | ⟨b, o, rfl, h1, h2⟩⟩ := h
  · exact ⟨hl, .inl h⟩
  · rcases hf.1 with h0 | h0
    · exact ⟨hl, .inl h0⟩
    · have hb : b ≠ R := by have : lo ≤ b := h0 _ rfl; omega
      refine ⟨hl, .inr ⟨b, o, rfl, by simpa [World.setCell] using h1, Lib.hid fun i hi => ⟨?_, ?_⟩⟩⟩
      · obtain ⟨g0, g1, g2, g3, g4, g5, g6, g7, g8⟩ := (h2.out i hi).1
        exact ⟨(cell_far hb).trans g0, (cell_far hb).trans g1, (cell_far hb).trans g2, (cell_far hb).trans g3, (cell_far hb).trans g4, (cell_far hb).trans g5, (cell_far hb).trans g6, (cell_far hb).trans g7, (cell_far hb).trans g8⟩
      · obtain ⟨hl2, g | ⟨b2, o2, e2, g1, g2⟩⟩ := (h2.out i hi).2
        · exact ⟨hl2, .inl g⟩
        · rcases hf.2 i hi with g0 | g0
          · exact ⟨hl2, .inl g0⟩
          · have hb2 : b2 ≠ R := by have : lo ≤ b2 := g0 _ e2; omega
            exact ⟨hl2, .inr ⟨b2, o2, e2, by simpa [World.setCell] using g1, Lib.hid fun i hi => (cell_far hb2).trans (g2.out i hi)⟩⟩
theorem next_no (p : Option Addr) (n c : Nat) (E : Nat → Ev) (w : World) (hE : Evs w p n E) (h : n = 0 ∨ n ≠ 0 ∧ chkE E n ≠ 0) : Calls Try.prog 21 #[.slice p n c] w (EvLists w 0 false zeroEv (fun i => E (1 + i))) := by
  rcases h with h | ⟨h, h2⟩
  · have hz : ((n : Int) == 0) = true := by rw [beq_iff_eq]; omega
    clear hE h
    go_enter Try.func21, Try.ntmps21
    go_wp2_with fail
    exact bodyPost_ret (v := .tuple #[.agg #[.int .i64 0, .int .i64 0, .int .i64 0, .int .i64 0, .int .i64 0, .int .i64 0, .int .i64 0, .int .i64 0, .slice none 0 0], .slice none 0 0, .bool false]) (by simp [results, Try.results21, go_sem, *]) rfl (EvLists.none rfl (by (repeat (first | (with_reducible exact Below.refl _ _) | (with_reducible assumption) | (with_reducible apply bl_alloc) | (with_reducible apply bl_drewN) | (with_reducible apply bl_drew) | (with_reducible refine bl_set ?_ (by first | (simp; done) | (simp; omega)) _) | (with_reducible refine bl_call ?_ (by assumption))))))
  · have hz : ((n : Int) == 0) = false := by rw [beq_eq_false_iff_ne]; omega
    have hz2 : (chkE E n != 0) = true := by rw [bne_iff_ne]; exact h2
    clear h h2
    have Z0 : zblk (w.alloc (.cells #[.int .i64 0, .int .i64 0, .int .i64 0, .int .i64 0, .int .i64 0, .int .i64 0, .int .i64 0, .int .i64 0, .slice none 0 0] 25)) w.heap.size := zero_new
    go_enter Try.func21, Try.ntmps21
    go_wp2_with fail
    refine (check_any p n c E _ hE.alloc).mono ?_
    rintro e w1 ⟨rfl, hb1⟩
    obtain ⟨ZN, f1⟩ := zblk.on hb1 Z0
    obtain ⟨z0, z1, z2, z3, z4, z5, z6, z7, z8, z9⟩ := ZN
    have ZN : nine _ _ _ := ⟨z0, z1, z2, z3, z4, z5, z6, z7, z8, z9⟩
    go_wp2_with fail
    exact bodyPost_ret (v := .tuple #[.agg #[.int .i64 0, .int .i64 0, .int .i64 0, .int .i64 0, .int .i64 0, .int .i64 0, .int .i64 0, .int .i64 0, .slice none 0 0], .slice none 0 0, .bool false]) (by simp [results, Try.results21, go_sem, *]) rfl (EvLists.none rfl (by (repeat (first | (with_reducible exact Below.refl _ _) | (with_reducible assumption) | (with_reducible apply bl_alloc) | (with_reducible apply bl_drewN) | (with_reducible apply bl_drew) | (with_reducible refine bl_set ?_ (by first | (simp; done) | (simp; omega)) _) | (with_reducible refine bl_call ?_ (by assumption))))))
theorem next_one (b o : Nat) (E : Nat → Ev) (w : World) (hE : Evs w (some ⟨b, o, none⟩) 1 E) (hG : Good E 1) : Calls Try.prog 21 #[.slice (some ⟨b, o, none⟩) 1 1] w (EvLists w 0 true (E 0) (fun i => E (1 + i))) := by
  have CK := Lib.hid (chkE_zero.2 hG)
  have HG := Lib.hid hG
  have Z0 : zblk (w.alloc (.cells #[.int .i64 0, .int .i64 0, .int .i64 0, .int .i64 0, .int .i64 0, .int .i64 0, .int .i64 0, .int .i64 0, .slice none 0 0] 25)) w.heap.size := zero_new
  have hbw : b < w.heap.size := by
    obtain ⟨-, h0 | ⟨b', o', he, hb, -⟩⟩ := hE
    · omega
    · cases he; exact hb
  clear hG
  go_enter Try.func21, Try.ntmps21
  go_wp2_with fail
  refine (check_any _ 1 1 E _ hE.alloc).mono ?_
  rintro e w1 ⟨rfl, hb1⟩
  rw [CK.out]
  have Z1 := zblk.on hb1 Z0
  have hE1 := hE.alloc.on hb1
  have B1 : Below w.heap.size w w1 := by (repeat (first | (with_reducible exact Below.refl _ _) | (with_reducible assumption) | (with_reducible apply bl_alloc) | (with_reducible apply bl_drewN) | (with_reducible apply bl_drew) | (with_reducible refine bl_set ?_ (by first | (simp; done) | (simp; omega)) _) | (with_reducible refine bl_call ?_ (by assumption))))
  obtain ⟨hl, h0 | ⟨b', o', he, hb, hcell⟩⟩ := hE1
  · omega
  cases he
  have C1 : cell9 w1 b o (E 0) := by have := (hcell.out 0 (by omega)).1; rwa [Nat.zero_mul, Nat.add_zero] at this
  go_wp2_with fail
  have C1d : cell9 w1.drew b o (E 0) := C1
  have Z1d : zblk w1.drew w.heap.size := Z1
  have R1d : Row w1.drew (E 0).ap (E 0).al (E 0).V := (hcell.out 0 (by omega)).2
  have hb1d : b < w1.drew.heap.size := hb
  have hne : b ≠ w.heap.size := by omega
  have hal := evE_al (HG.out.2.1 0 (by omega))
  have hE1d : Evs w1.drew (some ⟨b, o, none⟩) 1 E := ⟨hl, .inr ⟨b, o, rfl, hb, hcell⟩⟩
  have HD : Hid (Evs w1.drew (some ⟨b, o, none⟩) 0 (fun i => E (1 + i))) := Lib.hid Evs.nil
  have HR := Lib.hid fun (i : Nat) (hi : i < 0) => evE_al (HG.out.2.1 (1 + i) (by omega))
  have hm : 0 ≤ 5000 := by omega
  have C1a : cell9 ((w1.alloc (.cells #[.slice (some ⟨b, o, none⟩) 0 0] 29)).drew) b o (E 0) := C1.al hb
  have Z1a : zblk ((w1.alloc (.cells #[.slice (some ⟨b, o, none⟩) 0 0] 29)).drew) w.heap.size := Z1.alloc
  have R1a : Row ((w1.alloc (.cells #[.slice (some ⟨b, o, none⟩) 0 0] 29)).drew) (E 0).ap (E 0).al (E 0).V := Row.alloc (hcell.out 0 (by omega)).2
  have hb1a : b < ((w1.alloc (.cells #[.slice (some ⟨b, o, none⟩) 0 0] 29)).drew).heap.size := by show b < (w1.alloc _).heap.size; simp; omega
  have HDa : Hid (Evs ((w1.alloc (.cells #[.slice (some ⟨b, o, none⟩) 0 0] 29)).drew) _ _ _) := Lib.hid (Evs.alloc HD.out)
  have z1a : w1.heap.size < ((w1.alloc (.cells #[.slice (some ⟨b, o, none⟩) 0 0] 29)).drew).heap.size := by show w1.heap.size < (w1.alloc _).heap.size; simp
  have G1a : Hid (((w1.alloc (.cells #[.slice (some ⟨b, o, none⟩) 0 0] 29)).drew).cell? ⟨w1.heap.size, 0, none⟩ = some (.slice (some ⟨b, o, none⟩) 0 0)) := Lib.hid (by show (w1.alloc _).cell? _ = _; simp)
  go_region_held3 (fun w' => w'.cell? ⟨b, o, none⟩ = some (.int .i64 (E 0).t) ∧ w'.cell? ⟨b, o + 1, none⟩ = some (.int .i64 (E 0).p) ∧ w'.cell? ⟨b, o + 2, none⟩ = some (.int .i64 (E 0).f) ∧ w'.cell? ⟨b, o + 3, none⟩ = some (.int .i64 (E 0).s) ∧ w'.cell? ⟨b, o + 4, none⟩ = some (.int .i64 (E 0).st) ∧ w'.cell? ⟨b, o + 5, none⟩ = some (.int .i64 (E 0).k) ∧ w'.cell? ⟨b, o + 6, none⟩ = some (.int .i64 (E 0).a) ∧ w'.cell? ⟨b, o + 7, none⟩ = some (.int .i64 (E 0).b) ∧ w'.cell? ⟨b, o + 8, none⟩ = some (.slice (E 0).ap (E 0).al (E 0).ac)) (first | (with_reducible exact keepC9 (cell9.far C3 hne)) | (with_reducible exact keepC9 C3) | (with_reducible exact keepC9 (C2.al hb2d)) | (with_reducible exact keepC9 C2) | (with_reducible exact keepC9 C2b) | (with_reducible exact keepC9 C1a) | (with_reducible exact keepC9 C1d) | (go_keep; done))
    (first
      | (go_at_call 37; (with_reducible refine (copied_any (E 0) _ R1d hal).mono ?_); rintro e w2 ⟨y, rfl, hy, hyr, hb2⟩; have HY := Lib.hid hy; have HYR := Lib.hid hyr; clear hy hyr; have Z2 := zblk.on hb2 Z1d; have C2 := cell9.on hb2 hb1d C1d; have hb2d := Nat.lt_of_lt_of_le hb1d hb2.size; have HD2 := Lib.hid (Evs.on hb2 HD.out))
      | (go_at_call 37; (with_reducible refine (copied_any (E 0) _ R1a hal).mono ?_); rintro e w2 ⟨y, rfl, hy, hyr, hb2⟩; have HY := Lib.hid hy; have HYR := Lib.hid hyr; clear hy hyr; have Z2b := zblk.on hb2 Z1a; have C2b := cell9.on hb2 hb1a C1a; have hb2b := Nat.lt_of_lt_of_le hb1a hb2.size; have HD2b := Lib.hid (Evs.on hb2 HDa.out); have z2b := Nat.lt_of_lt_of_le z1a hb2.size; have G2b := Lib.hid ((hb2.cell (p := ⟨w1.heap.size, 0, none⟩) z1a).trans G1a.out))
      | (go_at_call 36; refine (join1 _ w2.heap.size _ 0 0 (fun i => E (1 + i)) (by simp) (by simp) (Evs.alloc HD2.out) hm HR.out).mono ?_; rintro e w3 ⟨q, d, F, rfl, hW, hF, hq, hb3, hfr⟩; have Z3 := zblk.on hb3 Z2.alloc; have C3 := cell9.on hb3 (by simp; omega) (C2.al hb2d); have HQ := Lib.hid hq; have HF := Lib.hid hF; have HW := Lib.hid hW; have Y3 : Hid (RowNe w.heap.size _ _ _ _) := Lib.hid (RowNe.on hb3 (RowNe.on ((Below.refl _ _).alloc (Nat.le_refl _) _) (RowF.ne HYR.out (by first | exact Z1d.1.2.2.2.2.2.2.2.2.2 | exact Z1a.1.2.2.2.2.2.2.2.2.2)))); have hRlo : w.heap.size < (w2.alloc (Obj.cells #[.slice (some ⟨b, o, none⟩) 0 0] 29)).heap.size := Z2.alloc.1.2.2.2.2.2.2.2.2.2; have HFR := Lib.hid hfr; clear hq hF hW hfr; obtain ⟨ZN, f3⟩ := Z3; obtain ⟨z0, z1, z2, z3, z4, z5, z6, z7, z8, z9⟩ := ZN)
      | (go_at_call 36; refine (join1 _ w1.heap.size _ 0 0 (fun i => E (1 + i)) z2b G2b.out HD2b.out hm HR.out).mono ?_; rintro e w3 ⟨q, d, F, rfl, hW, hF, hq, hb3, hfr⟩; have Z3 := zblk.on hb3 Z2b; have C3 := cell9.on hb3 hb2b C2b; have HQ := Lib.hid hq; have HF := Lib.hid hF; have HW := Lib.hid hW; have Y3 : Hid (RowNe w.heap.size _ _ _ _) := Lib.hid (RowNe.on hb3 (RowF.ne HYR.out Z1a.1.2.2.2.2.2.2.2.2.2)); have hRlo : w.heap.size < w2.heap.size := Z2b.1.2.2.2.2.2.2.2.2.2; have HFR := Lib.hid hfr; clear hq hF hW hfr; obtain ⟨ZN, f3⟩ := Z3; obtain ⟨z0, z1, z2, z3, z4, z5, z6, z7, z8, z9⟩ := ZN))
  all_goals
    go_wp2_with fail
    exact bodyPost_ret (v := .tuple #[.agg #[.int .i64 y.t, .int .i64 y.p, .int .i64 y.f, .int .i64 y.s, .int .i64 y.st, .int .i64 y.k, .int .i64 y.a, .int .i64 y.b, .slice y.ap y.al y.ac], .slice q 0 d, .bool true]) (by simp [results, Try.results21, go_sem, *]) rfl ⟨y, q, d, F, rfl, HY.out, RowNe.row (RowNe.set (RowNe.set (RowNe.set (RowNe.set (RowNe.set (RowNe.set (RowNe.set (RowNe.set (RowNe.set Y3.out))))))))), HW.out,
      Evs.set (Evs.set (Evs.set (Evs.set (Evs.set (Evs.set (Evs.set (Evs.set (Evs.set HF.out HFR.out hRlo) HFR.out hRlo) HFR.out hRlo) HFR.out hRlo) HFR.out hRlo) HFR.out hRlo) HFR.out hRlo) HFR.out hRlo) HFR.out hRlo, HQ.out, by (repeat (first | (with_reducible exact Below.refl _ _) | (with_reducible assumption) | (with_reducible apply bl_alloc) | (with_reducible apply bl_drewN) | (with_reducible apply bl_drew) | (with_reducible refine bl_set ?_ (by first | (simp; done) | (simp; omega)) _) | (with_reducible refine bl_call ?_ (by assumption))))⟩
theorem next_many (b o n c : Nat) (E : Nat → Ev) (w : World) (hE : Evs w (some ⟨b, o, none⟩) n E) (nn : 0 < n) (hc : n ≤ c) (hc1 : c ≠ 1) (hG : Good E n) : Calls Try.prog 21 #[.slice (some ⟨b, o, none⟩) n c] w (EvLists w (n - 1) true (E 0) (fun i => E (1 + i))) := by
  have CK := Lib.hid (chkE_zero.2 hG)
  have HG := Lib.hid hG
  have hz : ((n : Int) == 0) = false := by rw [beq_eq_false_iff_ne]; omega
  have n1 : (1 : Int) ≤ (n : Int) := by omega
  have n2 : (1 : Int) ≤ (c : Int) := by omega
  have n3 : (n : Int) ≤ (c : Int) := by omega
  have Z0 : zblk (w.alloc (.cells #[.int .i64 0, .int .i64 0, .int .i64 0, .int .i64 0, .int .i64 0, .int .i64 0, .int .i64 0, .int .i64 0, .slice none 0 0] 25)) w.heap.size := zero_new
  have hbw : b < w.heap.size := by
    obtain ⟨-, h0 | ⟨b', o', he, hb, -⟩⟩ := hE
    · omega
    · cases he; exact hb
  clear hG
  go_enter Try.func21, Try.ntmps21
  go_wp2_with fail
  refine (check_any _ n c E _ hE.alloc).mono ?_
  rintro e w1 ⟨rfl, hb1⟩
  rw [CK.out]
  have Z1 := zblk.on hb1 Z0
  have hE1 := hE.alloc.on hb1
  have B1 : Below w.heap.size w w1 := by (repeat (first | (with_reducible exact Below.refl _ _) | (with_reducible assumption) | (with_reducible apply bl_alloc) | (with_reducible apply bl_drewN) | (with_reducible apply bl_drew) | (with_reducible refine bl_set ?_ (by first | (simp; done) | (simp; omega)) _) | (with_reducible refine bl_call ?_ (by assumption))))
  obtain ⟨hl, h0 | ⟨b', o', he, hb, hcell⟩⟩ := hE1
  · omega
  cases he
  have C1 : cell9 w1 b o (E 0) := by have := (hcell.out 0 (by omega)).1; rwa [Nat.zero_mul, Nat.add_zero] at this
  go_wp2_with fail
  have C1d : cell9 w1.drew b o (E 0) := C1
  have Z1d : zblk w1.drew w.heap.size := Z1
  have R1d : Row w1.drew (E 0).ap (E 0).al (E 0).V := (hcell.out 0 (by omega)).2
  have hb1d : b < w1.drew.heap.size := hb
  have hne : b ≠ w.heap.size := by omega
  have hal := evE_al (HG.out.2.1 0 (by omega))
  have hE1d : Evs w1.drew (some ⟨b, o, none⟩) n E := ⟨hl, .inr ⟨b, o, rfl, hb, hcell⟩⟩
  have HD : Hid (Evs w1.drew (some ⟨b, o + 9, none⟩) (n - 1) (fun i => E (1 + i))) := Lib.hid (by have := hE1d.drop (k := 1) (by omega); rwa [Nat.one_mul] at this)
  have HR := Lib.hid fun (i : Nat) (hi : i < n - 1) => evE_al (HG.out.2.1 (1 + i) (by omega))
  have hm : n - 1 ≤ 5000 := by have := HG.out.1; omega
  have C1a : cell9 ((w1.alloc (.cells #[.slice (some ⟨b, o + 9, none⟩) (n - 1) (c - 1)] 29)).drew) b o (E 0) := C1.al hb
  have Z1a : zblk ((w1.alloc (.cells #[.slice (some ⟨b, o + 9, none⟩) (n - 1) (c - 1)] 29)).drew) w.heap.size := Z1.alloc
  have R1a : Row ((w1.alloc (.cells #[.slice (some ⟨b, o + 9, none⟩) (n - 1) (c - 1)] 29)).drew) (E 0).ap (E 0).al (E 0).V := Row.alloc (hcell.out 0 (by omega)).2
  have hb1a : b < ((w1.alloc (.cells #[.slice (some ⟨b, o + 9, none⟩) (n - 1) (c - 1)] 29)).drew).heap.size := by show b < (w1.alloc _).heap.size; simp; omega
  have HDa : Hid (Evs ((w1.alloc (.cells #[.slice (some ⟨b, o + 9, none⟩) (n - 1) (c - 1)] 29)).drew) _ _ _) := Lib.hid (Evs.alloc HD.out)
  have z1a : w1.heap.size < ((w1.alloc (.cells #[.slice (some ⟨b, o + 9, none⟩) (n - 1) (c - 1)] 29)).drew).heap.size := by show w1.heap.size < (w1.alloc _).heap.size; simp
  have G1a : Hid (((w1.alloc (.cells #[.slice (some ⟨b, o + 9, none⟩) (n - 1) (c - 1)] 29)).drew).cell? ⟨w1.heap.size, 0, none⟩ = some (.slice (some ⟨b, o + 9, none⟩) (n - 1) (c - 1))) := Lib.hid (by show (w1.alloc _).cell? _ = _; simp)
  go_region_held3 (fun w' => w'.cell? ⟨b, o, none⟩ = some (.int .i64 (E 0).t) ∧ w'.cell? ⟨b, o + 1, none⟩ = some (.int .i64 (E 0).p) ∧ w'.cell? ⟨b, o + 2, none⟩ = some (.int .i64 (E 0).f) ∧ w'.cell? ⟨b, o + 3, none⟩ = some (.int .i64 (E 0).s) ∧ w'.cell? ⟨b, o + 4, none⟩ = some (.int .i64 (E 0).st) ∧ w'.cell? ⟨b, o + 5, none⟩ = some (.int .i64 (E 0).k) ∧ w'.cell? ⟨b, o + 6, none⟩ = some (.int .i64 (E 0).a) ∧ w'.cell? ⟨b, o + 7, none⟩ = some (.int .i64 (E 0).b) ∧ w'.cell? ⟨b, o + 8, none⟩ = some (.slice (E 0).ap (E 0).al (E 0).ac)) (first | (with_reducible exact keepC9 (cell9.far C3 hne)) | (with_reducible exact keepC9 C3) | (with_reducible exact keepC9 (C2.al hb2d)) | (with_reducible exact keepC9 C2) | (with_reducible exact keepC9 C2b) | (with_reducible exact keepC9 C1a) | (with_reducible exact keepC9 C1d) | (go_keep; done))
    (first
      | (go_at_call 37; (with_reducible refine (copied_any (E 0) _ R1d hal).mono ?_); rintro e w2 ⟨y, rfl, hy, hyr, hb2⟩; have HY := Lib.hid hy; have HYR := Lib.hid hyr; clear hy hyr; have Z2 := zblk.on hb2 Z1d; have C2 := cell9.on hb2 hb1d C1d; have hb2d := Nat.lt_of_lt_of_le hb1d hb2.size; have HD2 := Lib.hid (Evs.on hb2 HD.out))
      | (go_at_call 37; (with_reducible refine (copied_any (E 0) _ R1a hal).mono ?_); rintro e w2 ⟨y, rfl, hy, hyr, hb2⟩; have HY := Lib.hid hy; have HYR := Lib.hid hyr; clear hy hyr; have Z2b := zblk.on hb2 Z1a; have C2b := cell9.on hb2 hb1a C1a; have hb2b := Nat.lt_of_lt_of_le hb1a hb2.size; have HD2b := Lib.hid (Evs.on hb2 HDa.out); have z2b := Nat.lt_of_lt_of_le z1a hb2.size; have G2b := Lib.hid ((hb2.cell (p := ⟨w1.heap.size, 0, none⟩) z1a).trans G1a.out))
      | (go_at_call 36; refine (join1 _ w2.heap.size _ (n - 1) (c - 1) (fun i => E (1 + i)) (by simp) (by simp) (Evs.alloc HD2.out) hm HR.out).mono ?_; rintro e w3 ⟨q, d, F, rfl, hW, hF, hq, hb3, hfr⟩; have Z3 := zblk.on hb3 Z2.alloc; have C3 := cell9.on hb3 (by simp; omega) (C2.al hb2d); have HQ := Lib.hid hq; have HF := Lib.hid hF; have HW := Lib.hid hW; have Y3 : Hid (RowNe w.heap.size _ _ _ _) := Lib.hid (RowNe.on hb3 (RowNe.on ((Below.refl _ _).alloc (Nat.le_refl _) _) (RowF.ne HYR.out (by first | exact Z1d.1.2.2.2.2.2.2.2.2.2 | exact Z1a.1.2.2.2.2.2.2.2.2.2)))); have hRlo : w.heap.size < (w2.alloc (Obj.cells #[.slice (some ⟨b, o + 9, none⟩) (n - 1) (c - 1)] 29)).heap.size := Z2.alloc.1.2.2.2.2.2.2.2.2.2; have HFR := Lib.hid hfr; clear hq hF hW hfr; obtain ⟨ZN, f3⟩ := Z3; obtain ⟨z0, z1, z2, z3, z4, z5, z6, z7, z8, z9⟩ := ZN)
      | (go_at_call 36; refine (join1 _ w1.heap.size _ (n - 1) (c - 1) (fun i => E (1 + i)) z2b G2b.out HD2b.out hm HR.out).mono ?_; rintro e w3 ⟨q, d, F, rfl, hW, hF, hq, hb3, hfr⟩; have Z3 := zblk.on hb3 Z2b; have C3 := cell9.on hb3 hb2b C2b; have HQ := Lib.hid hq; have HF := Lib.hid hF; have HW := Lib.hid hW; have Y3 : Hid (RowNe w.heap.size _ _ _ _) := Lib.hid (RowNe.on hb3 (RowF.ne HYR.out Z1a.1.2.2.2.2.2.2.2.2.2)); have hRlo : w.heap.size < w2.heap.size := Z2b.1.2.2.2.2.2.2.2.2.2; have HFR := Lib.hid hfr; clear hq hF hW hfr; obtain ⟨ZN, f3⟩ := Z3; obtain ⟨z0, z1, z2, z3, z4, z5, z6, z7, z8, z9⟩ := ZN))
  all_goals
    go_wp2_with fail
    exact bodyPost_ret (v := .tuple #[.agg #[.int .i64 y.t, .int .i64 y.p, .int .i64 y.f, .int .i64 y.s, .int .i64 y.st, .int .i64 y.k, .int .i64 y.a, .int .i64 y.b, .slice y.ap y.al y.ac], .slice q (n - 1) d, .bool true]) (by simp [results, Try.results21, go_sem, *]) rfl ⟨y, q, d, F, rfl, HY.out, RowNe.row (RowNe.set (RowNe.set (RowNe.set (RowNe.set (RowNe.set (RowNe.set (RowNe.set (RowNe.set (RowNe.set Y3.out))))))))), HW.out,
      Evs.set (Evs.set (Evs.set (Evs.set (Evs.set (Evs.set (Evs.set (Evs.set (Evs.set HF.out HFR.out hRlo) HFR.out hRlo) HFR.out hRlo) HFR.out hRlo) HFR.out hRlo) HFR.out hRlo) HFR.out hRlo) HFR.out hRlo) HFR.out hRlo, HQ.out, by (repeat (first | (with_reducible exact Below.refl _ _) | (with_reducible assumption) | (with_reducible apply bl_alloc) | (with_reducible apply bl_drewN) | (with_reducible apply bl_drew) | (with_reducible refine bl_set ?_ (by first | (simp; done) | (simp; omega)) _) | (with_reducible refine bl_call ?_ (by assumption))))⟩
end Go.Proofs.Ytmijjpecgcgkgaa.Ag
