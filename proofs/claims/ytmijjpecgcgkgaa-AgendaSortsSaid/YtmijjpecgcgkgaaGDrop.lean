/-
  The contract of Drop.
-/
import Derived.Test.YtmijjpecgcgkgaaGUpto
namespace Go.Proofs.Ytmijjpecgcgkgaa.Ag
open Go.RowKit
set_option maxHeartbeats 4000000
/-- A list, an event, and a yes or no. -/
def ListEv (w : World) (m : Nat) (z : Bool) (x : Ev) (E : Nat → Ev) (e : Ending) (w' : World) : Prop :=
  ∃ y p c F, e = .returned (.tuple #[.slice p m c, .agg #[.int .i64 y.t, .int .i64 y.p, .int .i64 y.f, .int .i64 y.s, .int .i64 y.st, .int .i64 y.k, .int .i64 y.a, .int .i64 y.b, .slice y.ap y.al y.ac], .bool z]) ∧ Eqv y x ∧ ok w' y ∧ WL p m c ∧ Evs w' p m F ∧ (∀ i, i < m → Eqv (F i) (E i)) ∧ Below w.heap.size w w'
theorem ListEv.none {w w' : World} {E : Nat → Ev} {e : Ending} (he : e = .returned (.tuple #[.slice none 0 0, .agg #[.int .i64 0, .int .i64 0, .int .i64 0, .int .i64 0, .int .i64 0, .int .i64 0, .int .i64 0, .int .i64 0, .slice none 0 0], .bool false])) (hb : Below w.heap.size w w') : ListEv w 0 false zeroEv E e w' :=
  ⟨zeroEv, Option.none, 0, fun _ => zeroEv, he, Eqv.refl _, ⟨by show 0 ≤ _; omega, .inl rfl⟩, ⟨Nat.le_refl _, .inl rfl⟩, Evs.nil, fun _ hi => absurd hi (Nat.not_lt_zero _), hb⟩
/-- The list without the event at a place. -/
def delE (E : Nat → Ev) (a i : Nat) : Ev := if i < a then E i else E (i + 1)
theorem box_zero {w : World} {v : Int} : ((w.alloc (.cells #[.int .i64 v] 3)).alloc (.cells #[.int .i64 0, .int .i64 0, .int .i64 0, .int .i64 0, .int .i64 0, .int .i64 0, .int .i64 0, .int .i64 0, .slice none 0 0] 25)).cell? ⟨w.heap.size, 0, none⟩ = some (.int .i64 v) ∧ zblk ((w.alloc (.cells #[.int .i64 v] 3)).alloc (.cells #[.int .i64 0, .int .i64 0, .int .i64 0, .int .i64 0, .int .i64 0, .int .i64 0, .int .i64 0, .int .i64 0, .slice none 0 0] 25)) (w.heap.size + 1) := by
  refine ⟨by go_simp, ?_⟩
  have h := zero_new (w := w.alloc (.cells #[.int .i64 v] 3))
  rwa [show (w.alloc (.cells #[.int .i64 v] 3)).heap.size = w.heap.size + 1 from by simp] at h
theorem drop_no (p : Option Addr) (n c : Nat) (E : Nat → Ev) (a : Int) (w : World) (hE : Evs w p n E) (h : chkE E n ≠ 0 ∨ Good E n ∧ idx E a n = none) : Calls Try.prog 25 #[.slice p n c, .int .i64 a] w (ListEv w 0 false zeroEv E) := by
  obtain ⟨V0, Z0⟩ := box_zero (w := w) (v := a)
  rcases h with h | ⟨hG, h⟩
  · have hz2 : (chkE E n != 0) = true := by rw [bne_iff_ne]; exact h
    clear h
    go_enter Try.func25, Try.ntmps25
    go_wp2_with fail
    refine (check_any p n c E _ hE.alloc.alloc).mono ?_
    rintro e w1 ⟨rfl, hb1⟩
    obtain ⟨ZN, f1⟩ := zblk.on hb1 Z0
    obtain ⟨z0, z1, z2, z3, z4, z5, z6, z7, z8, z9⟩ := ZN
    have ZN : nine _ _ _ := ⟨z0, z1, z2, z3, z4, z5, z6, z7, z8, z9⟩
    go_wp2_with fail
    exact bodyPost_ret (v := .tuple #[.slice none 0 0, .agg #[.int .i64 0, .int .i64 0, .int .i64 0, .int .i64 0, .int .i64 0, .int .i64 0, .int .i64 0, .int .i64 0, .slice none 0 0], .bool false]) (by simp [results, Try.results25, go_sem, *]) rfl (ListEv.none rfl (by (repeat (first | (with_reducible exact Below.refl _ _) | (with_reducible assumption) | (with_reducible apply bl_alloc) | (with_reducible apply bl_drewN) | (with_reducible apply bl_drew) | (with_reducible refine bl_set ?_ (by first | (simp; done) | (simp; omega)) _) | (with_reducible refine bl_call ?_ (by assumption))))))
  · have CK := Lib.hid (chkE_zero.2 hG)
    have HI := Lib.hid h
    have hn5 := hG.1
    clear h hG
    go_enter Try.func25, Try.ntmps25
    go_wp2_with fail
    refine (check_any p n c E _ hE.alloc.alloc).mono ?_
    rintro e w1 ⟨rfl, hb1⟩
    rw [CK.out]
    have Z1 := zblk.on hb1 Z0
    have V1 := (hb1.cell (p := ⟨w.heap.size, 0, none⟩) (by simp; omega)).trans V0
    have hsz : w.heap.size < w1.heap.size := by have h9 := hb1.size; simp at h9; omega
    clear V0
    go_wp2_with fail
    refine (index_any p n c E a w.heap.size w1 (hE.alloc.alloc.on hb1) hn5 V1 hsz).mono ?_
    rintro e w2 ⟨rfl, hb2⟩
    rw [HI.out]
    obtain ⟨ZN, f1⟩ := zblk.on hb2 Z1
    obtain ⟨z0, z1, z2, z3, z4, z5, z6, z7, z8, z9⟩ := ZN
    have ZN : nine _ _ _ := ⟨z0, z1, z2, z3, z4, z5, z6, z7, z8, z9⟩
    unfold iI
    go_wp2_with fail
    exact bodyPost_ret (v := .tuple #[.slice none 0 0, .agg #[.int .i64 0, .int .i64 0, .int .i64 0, .int .i64 0, .int .i64 0, .int .i64 0, .int .i64 0, .int .i64 0, .slice none 0 0], .bool false]) (by simp [results, Try.results25, go_sem, *]) rfl (ListEv.none rfl (by (repeat (first | (with_reducible exact Below.refl _ _) | (with_reducible assumption) | (with_reducible apply bl_alloc) | (with_reducible apply bl_drewN) | (with_reducible apply bl_drew) | (with_reducible refine bl_set ?_ (by first | (simp; done) | (simp; omega)) _) | (with_reducible refine bl_call ?_ (by assumption))))))
def pn2 (n a j : Nat) : Nat := match j with | 0 => a | _ => n - (a + 1)
def pE2 (E : Nat → Ev) (a j : Nat) : Nat → Ev := match j with | 0 => E | _ => fun i => E (a + 1 + i)
theorem cat2 {n a : Nat} (h : a < n) : catN (pn2 n a) 2 = n - 1 := by show 0 + a + (n - (a + 1)) = _; omega
theorem cat2E {E : Nat → Ev} {n a i : Nat} : catE (pn2 n a) (pE2 E a) 2 i = delE E a i := by
  show glue (glue (fun _ => zeroEv) 0 E) (0 + a) (fun i => E (a + 1 + i)) i = _
  unfold glue delE
  rcases Nat.lt_or_ge i a with h | h
  · rw [if_pos (by omega), if_neg (by omega), if_pos h]; rfl
  · rw [if_neg (by omega), if_neg (by omega)]
    show E (a + 1 + (i - (0 + a))) = E (i + 1)
    rw [show a + 1 + (i - (0 + a)) = i + 1 by omega]
theorem delE_all {P : Ev → Prop} {E : Nat → Ev} {n a : Nat} (ha : a < n) (h : ∀ i, i < n → P (E i)) : ∀ i, i < n - 1 → P (delE E a i) := by
  intro i hi
  unfold delE
  by_cases g : i < a
  · rw [if_pos g]; exact h i (by omega)
  · rw [if_neg g]; exact h _ (by omega)
theorem two_new {w : World} {u0 u1 : Value} {t : TypeId} : ∀ j, j < 2 → (w.alloc (.cells #[u0, u1] t)).cell? ⟨w.heap.size, 0 + j, none⟩ = some (match j with | 0 => u0 | _ => u1) := by
  intro j hj
  have h : j = 0 ∨ j = 1 := by omega
  rcases h with rfl | rfl <;> simp
theorem drop_join (w : World) (p0 p1 : Option Addr) (c0 c1 n a : Nat) (E : Nat → Ev) (h0 : Evs w p0 a E) (h1 : Evs w p1 (n - (a + 1)) (fun i => E (a + 1 + i))) (ha : a < n) (hn : n ≤ 5000) (hR : ∀ i, i < n → ok w (E i) ∧ (E i).al ≤ 6) :
    Calls Try.prog 36 #[.slice (some ⟨w.heap.size, 0, none⟩) 2 2] ((w.alloc (.cells #[.slice p0 a c0, .slice p1 (n - (a + 1)) c1] 29)).drew) (Lists ((w.alloc (.cells #[.slice p0 a c0, .slice p1 (n - (a + 1)) c1] 29)).drew) (n - 1) (delE E a)) := by
  have T := two_new (w := w) (u0 := .slice p0 a c0) (u1 := .slice p1 (n - (a + 1)) c1) (t := 29)
  have B : Below w.heap.size w ((w.alloc (.cells #[.slice p0 a c0, .slice p1 (n - (a + 1)) c1] 29)).drew) := by (repeat (first | (with_reducible exact Below.refl _ _) | (with_reducible assumption) | (with_reducible apply bl_alloc) | (with_reducible apply bl_drewN) | (with_reducible apply bl_drew) | (with_reducible refine bl_set ?_ (by first | (simp; done) | (simp; omega)) _) | (with_reducible refine bl_call ?_ (by assumption))))
  refine joined_any w.heap.size 0 2 2 (fun j => match j with | 0 => p0 | _ => p1) (pn2 n a) (fun j => match j with | 0 => c0 | _ => c1) (pE2 E a) _ (by omega) (by show w.heap.size < (w.alloc _).heap.size; simp) (Lib.hid fun j hj => ?_) (Lib.hid fun j hj => ?_) (n - 1) (delE E a) (cat2 ha) (funext fun i => cat2E) (by omega) (delE_all (P := fun y => ok _ y ∧ y.al ≤ 6) ha (fun i hi => ⟨Row.on B (hR i hi).1, (hR i hi).2⟩))
  · have h := T j hj
    have e : j = 0 ∨ j = 1 := by omega
    rcases e with rfl | rfl <;> exact h
  · have e : j = 0 ∨ j = 1 := by omega
    rcases e with rfl | rfl
    · exact h0.on B
    · exact h1.on B
theorem drop_last (b o k a : Nat) (E : Nat → Ev) (v : Int) (w : World) (hE : Evs w (some ⟨b, o, none⟩) k E) (HK : Hid (k = a + 1)) (hG : Good E k) (hi : idx E v k = some a) : Calls Try.prog 25 #[.slice (some ⟨b, o, none⟩) k k, .int .i64 v] w (ListEv w (k - 1) true (E a) (delE E a)) := by
  have CK := Lib.hid (chkE_zero.2 hG)
  have HG := Lib.hid hG
  have HI := Lib.hid hi
  have ha := idx_lt hi
  have hn5 := hG.1
  obtain ⟨V0, Z0⟩ := box_zero (w := w) (v := v)
  have hbw : b < w.heap.size := by
    obtain ⟨-, h0 | ⟨b', o', he, hb, -⟩⟩ := hE
    · omega
    · cases he; exact hb
  have hne : b ≠ w.heap.size + 1 := by omega
  have i0 : (0 : Int) ≤ (a : Int) := by omega
  have wk : IntKind.i64.wrap ((a : Int) + 1) = (k : Int) := by have := HK.out; rw [IntKind.wrap_i64]; omega
  have k0 : (0 : Int) ≤ (k : Int) := by omega
  have k2 : (a : Int) ≤ (k : Int) := by have := HK.out; omega
  have k3 : (a : Int) < (k : Int) := by have := HK.out; omega
  clear hG hi
  go_enter Try.func25, Try.ntmps25
  go_wp2_with fail
  refine (check_any _ k k E _ hE.alloc.alloc).mono ?_
  rintro e w1 ⟨rfl, hb1⟩
  rw [CK.out]
  have Z1 := zblk.on hb1 Z0
  have V1 := (hb1.cell (p := ⟨w.heap.size, 0, none⟩) (by simp; omega)).trans V0
  have hsz : w.heap.size < w1.heap.size := by have h9 := hb1.size; simp at h9; omega
  have hE1 := hE.alloc.alloc.on hb1
  clear V0
  go_wp2_with fail
  refine (index_any _ k k E v w.heap.size w1 hE1 hn5 V1 hsz).mono ?_
  rintro e w2 ⟨rfl, hb2⟩
  rw [HI.out]
  have Z2 := zblk.on hb2 Z1
  have hE2 := hE1.on hb2
  have BB : Below w.heap.size w w2 := by (repeat (first | (with_reducible exact Below.refl _ _) | (with_reducible assumption) | (with_reducible apply bl_alloc) | (with_reducible apply bl_drewN) | (with_reducible apply bl_drew) | (with_reducible refine bl_set ?_ (by first | (simp; done) | (simp; omega)) _) | (with_reducible refine bl_call ?_ (by assumption))))
  obtain ⟨hl, h0 | ⟨b', o', he, hb, hcell⟩⟩ := hE2
  · omega
  cases he
  have hE2 : Evs w2 (some ⟨b, o, none⟩) k E := ⟨hl, .inr ⟨b, o, rfl, hb, hcell⟩⟩
  have C2 := (hcell.out a ha).1
  have R2 := (hcell.out a ha).2
  have C2d : cell9 w2.drew b (o + a * 9) (E a) := C2
  have hal := evE_al (HG.out.2.1 a ha)
  have hRl : w.heap.size + 1 < w2.heap.size := Z2.1.2.2.2.2.2.2.2.2.2
  have PJ := drop_join w2 (some ⟨b, o, none⟩) (some ⟨b, o, none⟩) k 0 k a E (hE2.take (Nat.le_of_lt ha)) (by rw [show k - (a + 1) = 0 by have := HK.out; omega]; exact Evs.nil) ha hn5 (fun i hi => ⟨hE2.get i hi, evE_al (HG.out.2.1 i hi)⟩)
  rw [show k - (a + 1) = 0 by have := HK.out; omega] at PJ
  have PJ := Lib.hid PJ
  have C2a : cell9 ((w2.alloc (.cells #[.slice (some ⟨b, o, none⟩) a k, .slice (some ⟨b, o, none⟩) 0 0] 29)).drew) b (o + a * 9) (E a) := C2.al hb
  have hba : b < ((w2.alloc (.cells #[.slice (some ⟨b, o, none⟩) a k, .slice (some ⟨b, o, none⟩) 0 0] 29)).drew).heap.size := by show b < (w2.alloc _).heap.size; simp; omega
  have R2a : Row ((w2.alloc (.cells #[.slice (some ⟨b, o, none⟩) a k, .slice (some ⟨b, o, none⟩) 0 0] 29)).drew) (E a).ap (E a).al (E a).V := Row.alloc R2
  have Z2a : zblk ((w2.alloc (.cells #[.slice (some ⟨b, o, none⟩) a k, .slice (some ⟨b, o, none⟩) 0 0] 29)).drew) (w.heap.size + 1) := Z2.alloc
  unfold iI
  go_wp2_with fail
  go_region_held3 (fun w' => w'.cell? ⟨b, (o + a * 9), none⟩ = some (.int .i64 (E a).t) ∧ w'.cell? ⟨b, (o + a * 9) + 1, none⟩ = some (.int .i64 (E a).p) ∧ w'.cell? ⟨b, (o + a * 9) + 2, none⟩ = some (.int .i64 (E a).f) ∧ w'.cell? ⟨b, (o + a * 9) + 3, none⟩ = some (.int .i64 (E a).s) ∧ w'.cell? ⟨b, (o + a * 9) + 4, none⟩ = some (.int .i64 (E a).st) ∧ w'.cell? ⟨b, (o + a * 9) + 5, none⟩ = some (.int .i64 (E a).k) ∧ w'.cell? ⟨b, (o + a * 9) + 6, none⟩ = some (.int .i64 (E a).a) ∧ w'.cell? ⟨b, (o + a * 9) + 7, none⟩ = some (.int .i64 (E a).b) ∧ w'.cell? ⟨b, (o + a * 9) + 8, none⟩ = some (.slice (E a).ap (E a).al (E a).ac)) (first | (with_reducible exact keepC9 (cell9.far C4 hne)) | (with_reducible exact keepC9 C4) | (with_reducible exact keepC9 C3) | (with_reducible exact keepC9 C2a) | (with_reducible exact keepC9 C2d) | (go_keep; done))
    (first
      | (go_at_call 36; refine PJ.out.mono ?_; rintro e w3 ⟨q, d, F, rfl, hW, hF, hq, hb3, hfr⟩; have HQ := Lib.hid hq; have HF := Lib.hid hF; have HW := Lib.hid hW; have HFR := Lib.hid hfr; clear hq hF hW hfr; have C3 := cell9.on hb3 hba C2a; have R3 := Row.on hb3 R2a; have Z3 := zblk.on hb3 Z2a; have hb3d := Nat.lt_of_lt_of_le hba hb3.size)
      | (go_at_call 37; refine (copied_any (E a) _ R3 hal).mono ?_; rintro e w4 ⟨y, rfl, hy, hyr, hb4⟩; have HY := Lib.hid hy; have Y4 : Hid (RowNe (w.heap.size + 1) _ _ _ _) := Lib.hid (RowF.ne hyr Z3.1.2.2.2.2.2.2.2.2.2); clear hy hyr; have C4 := cell9.on hb4 hb3d C3; have Z4 := zblk.on hb4 Z3; have HF4 := Lib.hid (Evs.on hb4 HF.out); obtain ⟨ZN, f4⟩ := Z4; obtain ⟨z0, z1, z2, z3, z4, z5, z6, z7, z8, z9⟩ := ZN))
  all_goals
    have hRlo : w.heap.size + 1 < ((w2.alloc (.cells #[.slice (some ⟨b, o, none⟩) a k, .slice (some ⟨b, o, none⟩) 0 0] 29)).drew).heap.size := Z2a.1.2.2.2.2.2.2.2.2.2
    go_wp2_with fail
    exact bodyPost_ret (v := .tuple #[.slice q (k - 1) d, .agg #[.int .i64 y.t, .int .i64 y.p, .int .i64 y.f, .int .i64 y.s, .int .i64 y.st, .int .i64 y.k, .int .i64 y.a, .int .i64 y.b, .slice y.ap y.al y.ac], .bool true]) (by simp [results, Try.results25, go_sem, *]) rfl ⟨y, q, d, F, rfl, HY.out, RowNe.row (RowNe.set (RowNe.set (RowNe.set (RowNe.set (RowNe.set (RowNe.set (RowNe.set (RowNe.set (RowNe.set Y4.out))))))))), HW.out,
      Evs.set (Evs.set (Evs.set (Evs.set (Evs.set (Evs.set (Evs.set (Evs.set (Evs.set HF4.out HFR.out hRlo) HFR.out hRlo) HFR.out hRlo) HFR.out hRlo) HFR.out hRlo) HFR.out hRlo) HFR.out hRlo) HFR.out hRlo) HFR.out hRlo, HQ.out, by (repeat (first | (with_reducible exact Below.refl _ _) | (with_reducible assumption) | (with_reducible apply bl_alloc) | (with_reducible apply bl_drewN) | (with_reducible apply bl_drew) | (with_reducible refine bl_set ?_ (by first | (simp; done) | (simp; omega)) _) | (with_reducible refine bl_call ?_ (by assumption))))⟩
theorem drop_mid (b o n c k a : Nat) (E : Nat → Ev) (v : Int) (w : World) (hE : Evs w (some ⟨b, o, none⟩) n E) (hc : n ≤ c) (HK : Hid (k = a + 1)) (hca : c ≠ k) (hG : Good E n) (hi : idx E v n = some a) : Calls Try.prog 25 #[.slice (some ⟨b, o, none⟩) n c, .int .i64 v] w (ListEv w (n - 1) true (E a) (delE E a)) := by
  have CK := Lib.hid (chkE_zero.2 hG)
  have HG := Lib.hid hG
  have HI := Lib.hid hi
  have ha := idx_lt hi
  have hn5 := hG.1
  obtain ⟨V0, Z0⟩ := box_zero (w := w) (v := v)
  have hbw : b < w.heap.size := by
    obtain ⟨-, h0 | ⟨b', o', he, hb, -⟩⟩ := hE
    · omega
    · cases he; exact hb
  have hne : b ≠ w.heap.size + 1 := by omega
  have i0 : (0 : Int) ≤ (a : Int) := by omega
  have wk : IntKind.i64.wrap ((a : Int) + 1) = (k : Int) := by have := HK.out; rw [IntKind.wrap_i64]; omega
  have k0 : (0 : Int) ≤ (k : Int) := by omega
  have k1 : (k : Int) ≤ (c : Int) := by have := HK.out; omega
  have k2 : (a : Int) ≤ (c : Int) := by have := HK.out; omega
  have k3 : (a : Int) < (n : Int) := by have := HK.out; omega
  have k4 : (n : Int) ≤ (c : Int) := by omega
  have k5 : (k : Int) ≤ (n : Int) := by have := HK.out; omega
  clear hG hi
  go_enter Try.func25, Try.ntmps25
  go_wp2_with fail
  refine (check_any _ n c E _ hE.alloc.alloc).mono ?_
  rintro e w1 ⟨rfl, hb1⟩
  rw [CK.out]
  have Z1 := zblk.on hb1 Z0
  have V1 := (hb1.cell (p := ⟨w.heap.size, 0, none⟩) (by simp; omega)).trans V0
  have hsz : w.heap.size < w1.heap.size := by have h9 := hb1.size; simp at h9; omega
  have hE1 := hE.alloc.alloc.on hb1
  clear V0
  go_wp2_with fail
  refine (index_any _ n c E v w.heap.size w1 hE1 hn5 V1 hsz).mono ?_
  rintro e w2 ⟨rfl, hb2⟩
  rw [HI.out]
  have Z2 := zblk.on hb2 Z1
  have hE2 := hE1.on hb2
  have BB : Below w.heap.size w w2 := by (repeat (first | (with_reducible exact Below.refl _ _) | (with_reducible assumption) | (with_reducible apply bl_alloc) | (with_reducible apply bl_drewN) | (with_reducible apply bl_drew) | (with_reducible refine bl_set ?_ (by first | (simp; done) | (simp; omega)) _) | (with_reducible refine bl_call ?_ (by assumption))))
  obtain ⟨hl, h0 | ⟨b', o', he, hb, hcell⟩⟩ := hE2
  · omega
  cases he
  have hE2 : Evs w2 (some ⟨b, o, none⟩) n E := ⟨hl, .inr ⟨b, o, rfl, hb, hcell⟩⟩
  have C2 := (hcell.out a ha).1
  have R2 := (hcell.out a ha).2
  have C2d : cell9 w2.drew b (o + a * 9) (E a) := C2
  have hal := evE_al (HG.out.2.1 a ha)
  have hRl : w.heap.size + 1 < w2.heap.size := Z2.1.2.2.2.2.2.2.2.2.2
  have D1 := Evs.drop hE2 (k := k) (by have := HK.out; omega)
  have PJ := drop_join w2 (some ⟨b, o, none⟩) (some ⟨b, o + k * 9, none⟩) c (c - k) n a E (hE2.take (Nat.le_of_lt ha)) (by rw [← HK.out]; exact D1) ha hn5 (fun i hi => ⟨hE2.get i hi, evE_al (HG.out.2.1 i hi)⟩)
  rw [← HK.out] at PJ
  have PJ := Lib.hid PJ
  have C2a : cell9 ((w2.alloc (.cells #[.slice (some ⟨b, o, none⟩) a c, .slice (some ⟨b, o + k * 9, none⟩) (n - k) (c - k)] 29)).drew) b (o + a * 9) (E a) := C2.al hb
  have hba : b < ((w2.alloc (.cells #[.slice (some ⟨b, o, none⟩) a c, .slice (some ⟨b, o + k * 9, none⟩) (n - k) (c - k)] 29)).drew).heap.size := by show b < (w2.alloc _).heap.size; simp; omega
  have R2a : Row ((w2.alloc (.cells #[.slice (some ⟨b, o, none⟩) a c, .slice (some ⟨b, o + k * 9, none⟩) (n - k) (c - k)] 29)).drew) (E a).ap (E a).al (E a).V := Row.alloc R2
  have Z2a : zblk ((w2.alloc (.cells #[.slice (some ⟨b, o, none⟩) a c, .slice (some ⟨b, o + k * 9, none⟩) (n - k) (c - k)] 29)).drew) (w.heap.size + 1) := Z2.alloc
  unfold iI
  go_wp2_with fail
  go_region_held3 (fun w' => w'.cell? ⟨b, (o + a * 9), none⟩ = some (.int .i64 (E a).t) ∧ w'.cell? ⟨b, (o + a * 9) + 1, none⟩ = some (.int .i64 (E a).p) ∧ w'.cell? ⟨b, (o + a * 9) + 2, none⟩ = some (.int .i64 (E a).f) ∧ w'.cell? ⟨b, (o + a * 9) + 3, none⟩ = some (.int .i64 (E a).s) ∧ w'.cell? ⟨b, (o + a * 9) + 4, none⟩ = some (.int .i64 (E a).st) ∧ w'.cell? ⟨b, (o + a * 9) + 5, none⟩ = some (.int .i64 (E a).k) ∧ w'.cell? ⟨b, (o + a * 9) + 6, none⟩ = some (.int .i64 (E a).a) ∧ w'.cell? ⟨b, (o + a * 9) + 7, none⟩ = some (.int .i64 (E a).b) ∧ w'.cell? ⟨b, (o + a * 9) + 8, none⟩ = some (.slice (E a).ap (E a).al (E a).ac)) (first | (with_reducible exact keepC9 (cell9.far C4 hne)) | (with_reducible exact keepC9 C4) | (with_reducible exact keepC9 C3) | (with_reducible exact keepC9 C2a) | (with_reducible exact keepC9 C2d) | (go_keep; done))
    (first
      | (go_at_call 36; refine PJ.out.mono ?_; rintro e w3 ⟨q, d, F, rfl, hW, hF, hq, hb3, hfr⟩; have HQ := Lib.hid hq; have HF := Lib.hid hF; have HW := Lib.hid hW; have HFR := Lib.hid hfr; clear hq hF hW hfr; have C3 := cell9.on hb3 hba C2a; have R3 := Row.on hb3 R2a; have Z3 := zblk.on hb3 Z2a; have hb3d := Nat.lt_of_lt_of_le hba hb3.size)
      | (go_at_call 37; refine (copied_any (E a) _ R3 hal).mono ?_; rintro e w4 ⟨y, rfl, hy, hyr, hb4⟩; have HY := Lib.hid hy; have Y4 : Hid (RowNe (w.heap.size + 1) _ _ _ _) := Lib.hid (RowF.ne hyr Z3.1.2.2.2.2.2.2.2.2.2); clear hy hyr; have C4 := cell9.on hb4 hb3d C3; have Z4 := zblk.on hb4 Z3; have HF4 := Lib.hid (Evs.on hb4 HF.out); obtain ⟨ZN, f4⟩ := Z4; obtain ⟨z0, z1, z2, z3, z4, z5, z6, z7, z8, z9⟩ := ZN))
  all_goals
    have hRlo : w.heap.size + 1 < ((w2.alloc (.cells #[.slice (some ⟨b, o, none⟩) a c, .slice (some ⟨b, o + k * 9, none⟩) (n - k) (c - k)] 29)).drew).heap.size := Z2a.1.2.2.2.2.2.2.2.2.2
    go_wp2_with fail
    exact bodyPost_ret (v := .tuple #[.slice q (n - 1) d, .agg #[.int .i64 y.t, .int .i64 y.p, .int .i64 y.f, .int .i64 y.s, .int .i64 y.st, .int .i64 y.k, .int .i64 y.a, .int .i64 y.b, .slice y.ap y.al y.ac], .bool true]) (by simp [results, Try.results25, go_sem, *]) rfl ⟨y, q, d, F, rfl, HY.out, RowNe.row (RowNe.set (RowNe.set (RowNe.set (RowNe.set (RowNe.set (RowNe.set (RowNe.set (RowNe.set (RowNe.set Y4.out))))))))), HW.out,
      Evs.set (Evs.set (Evs.set (Evs.set (Evs.set (Evs.set (Evs.set (Evs.set (Evs.set HF4.out HFR.out hRlo) HFR.out hRlo) HFR.out hRlo) HFR.out hRlo) HFR.out hRlo) HFR.out hRlo) HFR.out hRlo) HFR.out hRlo) HFR.out hRlo, HQ.out, by (repeat (first | (with_reducible exact Below.refl _ _) | (with_reducible assumption) | (with_reducible apply bl_alloc) | (with_reducible apply bl_drewN) | (with_reducible apply bl_drew) | (with_reducible refine bl_set ?_ (by first | (simp; done) | (simp; omega)) _) | (with_reducible refine bl_call ?_ (by assumption))))⟩
end Go.Proofs.Ytmijjpecgcgkgaa.Ag
