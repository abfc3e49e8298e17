/-
  What Put answers, and its contract.
-/
import Derived.Test.YtmijjpecgcgkgaaGFind2
import Derived.Test.YtmijjpecgcgkgaaGJoin
namespace Go.Proofs.Ytmijjpecgcgkgaa.Ag
open Go.RowKit
set_option maxHeartbeats 4000000
def putE (E : Nat → Ev) (n : Nat) (x : Ev) : Int := if chkE E n = 0 then (if evE x = 0 then (if fnd E x n = true then 4 else if n = 5000 then 13 else 0) else evE x) else chkE E n
def insE (E : Nat → Ev) (at_ : Nat) (x : Ev) (i : Nat) : Ev := if i < at_ then E i else if i = at_ then x else E (i - 1)
/-- A list with these events, and a number. -/
def ListsZ (w : World) (n : Nat) (z : Int) (E : Nat → Ev) (e : Ending) (w' : World) : Prop := ∃ p c F, e = .returned (.tuple #[.slice p n c, .int .i64 z]) ∧ WL p n c ∧ Evs w' p n F ∧ (∀ i, i < n → Eqv (F i) (E i)) ∧ Below w.heap.size w w'
theorem ListsZ.none {w w' : World} {z : Int} {E : Nat → Ev} {e : Ending} (he : e = .returned (.tuple #[.slice none 0 0, .int .i64 z])) (hb : Below w.heap.size w w') : ListsZ w 0 z E e w' :=
  ⟨Option.none, 0, fun _ => zeroEv, he, ⟨Nat.le_refl _, .inl rfl⟩, ⟨by omega, .inl rfl⟩, fun i hi => absurd hi (Nat.not_lt_zero _), hb⟩
theorem keep9 {w : World} {g : Nat} {x : Ev} (h : nine w g x) : w.cell? ⟨g, 0, none⟩ = some (.int .i64 x.t) ∧ w.cell? ⟨g, 1, none⟩ = some (.int .i64 x.p) ∧ w.cell? ⟨g, 2, none⟩ = some (.int .i64 x.f) ∧ w.cell? ⟨g, 3, none⟩ = some (.int .i64 x.s) ∧ w.cell? ⟨g, 4, none⟩ = some (.int .i64 x.st) ∧ w.cell? ⟨g, 5, none⟩ = some (.int .i64 x.k) ∧ w.cell? ⟨g, 6, none⟩ = some (.int .i64 x.a) ∧ w.cell? ⟨g, 7, none⟩ = some (.int .i64 x.b) ∧ w.cell? ⟨g, 8, none⟩ = some (.slice x.ap x.al x.ac) := by
  obtain ⟨h0, h1, h2, h3, h4, h5, h6, h7, h8, -⟩ := h
  exact ⟨h0, h1, h2, h3, h4, h5, h6, h7, h8⟩
def pn3 (n a j : Nat) : Nat := match j with | 0 => a | 1 => 1 | _ => n - a
def pE3 (E : Nat → Ev) (a : Nat) (x : Ev) (j : Nat) : Nat → Ev := match j with | 0 => E | 1 => fun _ => x | _ => fun i => E (a + i)
theorem cat3 {n a : Nat} (h : a ≤ n) : catN (pn3 n a) 3 = n + 1 := by show 0 + a + 1 + (n - a) = _; omega
theorem cat3E {E : Nat → Ev} {n a : Nat} {x : Ev} {i : Nat} : catE (pn3 n a) (pE3 E a x) 3 i = insE E a x i := by
  show glue (glue (glue (fun _ => zeroEv) 0 E) (0 + a) (fun _ => x)) (0 + a + 1) (fun i => E (a + i)) i = _
  unfold glue insE
  rcases Nat.lt_trichotomy i a with h | h | h
  · rw [if_pos (by omega), if_pos (by omega), if_neg (by omega), if_pos h]; rfl
  · rw [if_pos (by omega), if_neg (by omega), if_neg (by omega), if_pos h]
  · rw [if_neg (by omega), if_neg (by omega), if_neg (by omega)]
    show E (a + (i - (0 + a + 1))) = E (i - 1)
    rw [show a + (i - (0 + a + 1)) = i - 1 by omega]
theorem Evs.drop {w : World} {b o n k : Nat} {E : Nat → Ev} (h : Evs w (some ⟨b, o, none⟩) n E) (hk : k ≤ n) : Evs w (some ⟨b, o + k * 9, none⟩) (n - k) (fun i => E (k + i)) := by
  obtain ⟨hl, h | ⟨b', o', e, h1, h2⟩⟩ := h
  · exact ⟨by omega, .inl (by omega)⟩
  · cases e
    refine ⟨by omega, .inr ⟨b, _, rfl, h1, Lib.hid fun i hi => ?_⟩⟩
    have := h2.out (k + i) (by omega)
    rwa [show o + (k + i) * 9 = o + k * 9 + i * 9 by omega] at this
theorem Evs.take {w : World} {p : Option Addr} {n k : Nat} {E : Nat → Ev} (h : Evs w p n E) (hk : k ≤ n) : Evs w p k E := by
  obtain ⟨hl, h | ⟨b', o', e, h1, h2⟩⟩ := h
  · exact ⟨by omega, .inl (by omega)⟩
  · exact ⟨by omega, .inr ⟨b', o', e, h1, Lib.hid fun i hi => h2.out i (by omega)⟩⟩
theorem Evs.nil {w : World} {p : Option Addr} {E : Nat → Ev} : Evs w p 0 E := ⟨by omega, .inl rfl⟩
theorem evE_al {x : Ev} (h : evE x = 0) : x.al ≤ 6 := by
  unfold evE at h
  split at h
  · split at h
    · cases h
    · split at h
      · cases h
      · split at h
        · cases h
        · omega
  · cases h
theorem insE_all {P : Ev → Prop} {E : Nat → Ev} {n a : Nat} {x : Ev} (ha : a ≤ n) (h : ∀ i, i < n → P (E i)) (hx : P x) : ∀ i, i < n + 1 → P (insE E a x i) := by
  intro i hi
  unfold insE
  split
  · exact h i (by omega)
  · split
    · exact hx
    · exact h _ (by omega)
theorem Evs.get {w : World} {p : Option Addr} {n : Nat} {E : Nat → Ev} (h : Evs w p n E) : ∀ i, i < n → ok w (E i) := by
  intro i hi
  obtain ⟨hl, h | ⟨b', o', e, h1, h2⟩⟩ := h
  · omega
  · exact (h2.out i hi).2
def pp3 (p0 p1 p2 : Option Addr) (j : Nat) : Option Addr := match j with | 0 => p0 | 1 => p1 | _ => p2
def pc3 (c0 c1 c2 : Nat) (j : Nat) : Nat := match j with | 0 => c0 | 1 => c1 | _ => c2
theorem one_ev {w : World} {x : Ev} (hx : ok w x) : Evs (w.alloc (.cells #[.int .i64 x.t, .int .i64 x.p, .int .i64 x.f, .int .i64 x.s, .int .i64 x.st, .int .i64 x.k, .int .i64 x.a, .int .i64 x.b, .slice x.ap x.al x.ac] 25)) (some ⟨w.heap.size, 0, none⟩) 1 (fun _ => x) := by
  refine ⟨by omega, .inr ⟨w.heap.size, 0, rfl, by simp, Lib.hid fun i hi => ?_⟩⟩
  obtain rfl : i = 0 := by omega
  obtain ⟨h0, h1, h2, h3, h4, h5, h6, h7, h8, -⟩ := nine.new (w := w) (x := x)
  exact ⟨⟨h0, h1, h2, h3, h4, h5, h6, h7, h8⟩, Row.alloc hx⟩
theorem three_new {w : World} {u0 u1 u2 : Value} {t : TypeId} {o : Obj} {H : Nat} (hH : H = w.heap.size + 1) : ∀ j, j < 3 → (((w.alloc o).alloc (.cells #[u0, u1, u2] t)).drew).cell? ⟨H, 0 + j, none⟩ = some (match j with | 0 => u0 | 1 => u1 | _ => u2) := by
  subst hH
  intro j hj
  have h : j = 0 ∨ j = 1 ∨ j = 2 := by omega
  have z : w.heap.size + 1 = (w.alloc o).heap.size := by simp
  rw [z]
  rcases h with rfl | rfl | rfl <;> (show ((w.alloc o).alloc _).cell? _ = _; simp)
theorem put_join (w : World) (p0 p2 : Option Addr) (c0 c2 n a : Nat) (E : Nat → Ev) (x : Ev) (h0 : Evs w p0 a E) (h2 : Evs w p2 (n - a) (fun i => E (a + i))) (hx : ok w x) (ha : a ≤ n) (hn : n ≤ 5000) (hR : ∀ i, i < n → ok w (E i) ∧ (E i).al ≤ 6) (hxl : x.al ≤ 6) :
    Calls Try.prog 36 #[.slice (some ⟨w.heap.size + 1, 0, none⟩) 3 3] (((w.alloc (.cells #[.int .i64 x.t, .int .i64 x.p, .int .i64 x.f, .int .i64 x.s, .int .i64 x.st, .int .i64 x.k, .int .i64 x.a, .int .i64 x.b, .slice x.ap x.al x.ac] 25)).alloc (.cells #[.slice p0 a c0, .slice (some ⟨w.heap.size, 0, none⟩) 1 1, .slice p2 (n - a) c2] 29)).drew) (Lists (((w.alloc (.cells #[.int .i64 x.t, .int .i64 x.p, .int .i64 x.f, .int .i64 x.s, .int .i64 x.st, .int .i64 x.k, .int .i64 x.a, .int .i64 x.b, .slice x.ap x.al x.ac] 25)).alloc (.cells #[.slice p0 a c0, .slice (some ⟨w.heap.size, 0, none⟩) 1 1, .slice p2 (n - a) c2] 29)).drew) (n + 1) (insE E a x)) := by
  have T := three_new (w := w) (u0 := .slice p0 a c0) (u1 := .slice (some ⟨w.heap.size, 0, none⟩) 1 1) (u2 := .slice p2 (n - a) c2) (t := 29) (o := .cells #[.int .i64 x.t, .int .i64 x.p, .int .i64 x.f, .int .i64 x.s, .int .i64 x.st, .int .i64 x.k, .int .i64 x.a, .int .i64 x.b, .slice x.ap x.al x.ac] 25) rfl
  have B : Below w.heap.size w (((w.alloc (.cells #[.int .i64 x.t, .int .i64 x.p, .int .i64 x.f, .int .i64 x.s, .int .i64 x.st, .int .i64 x.k, .int .i64 x.a, .int .i64 x.b, .slice x.ap x.al x.ac] 25)).alloc (.cells #[.slice p0 a c0, .slice (some ⟨w.heap.size, 0, none⟩) 1 1, .slice p2 (n - a) c2] 29)).drew) := by (repeat (first | (with_reducible exact Below.refl _ _) | (with_reducible assumption) | (with_reducible apply bl_alloc) | (with_reducible apply bl_drewN) | (with_reducible apply bl_drew) | (with_reducible refine bl_set ?_ (by first | (simp; done) | (simp; omega)) _) | (with_reducible refine bl_call ?_ (by assumption))))
  have O := one_ev hx
  refine joined_any (w.heap.size + 1) 0 3 3 (pp3 p0 (some ⟨w.heap.size, 0, none⟩) p2) (pn3 n a) (pc3 c0 1 c2) (pE3 E a x) _ (by omega) (by simp [World.drew]) (Lib.hid fun j hj => ?_) (Lib.hid fun j hj => ?_) (n + 1) (insE E a x) (cat3 ha) (funext fun i => cat3E) (by omega) (insE_all (P := fun y => ok _ y ∧ y.al ≤ 6) ha (fun i hi => ⟨Row.on B (hR i hi).1, (hR i hi).2⟩) ⟨Row.on B hx, hxl⟩)
  · have h := T j hj
    have e : j = 0 ∨ j = 1 ∨ j = 2 := by omega
    rcases e with rfl | rfl | rfl <;> exact h
  · have e : j = 0 ∨ j = 1 ∨ j = 2 := by omega
    rcases e with rfl | rfl | rfl
    · exact h0.on B
    · exact (O.alloc).drew
    · exact h2.on B
theorem put_some (b o n c : Nat) (E : Nat → Ev) (x : Ev) (w : World) (hE : Evs w (some ⟨b, o, none⟩) n E) (hc : n ≤ c) (hx : ok w x) (hG : Good E n) (he : evE x = 0) (hf : fnd E x n = false) (hm : n ≠ 5000) :
    Calls Try.prog 18 #[.slice (some ⟨b, o, none⟩) n c, .agg #[.int .i64 x.t, .int .i64 x.p, .int .i64 x.f, .int .i64 x.s, .int .i64 x.st, .int .i64 x.k, .int .i64 x.a, .int .i64 x.b, .slice x.ap x.al x.ac]] w (ListsZ w (n + 1) 0 (insE E (cnt E x n) x)) := by
  have CK := Lib.hid (chkE_zero.2 hG)
  have HE := Lib.hid he
  have HF := Lib.hid hf
  have HG := Lib.hid hG
  have hle := cnt_le (E := E) (x := x) (n := n)
  have X0 : nine (w.alloc (.cells #[.int .i64 x.t, .int .i64 x.p, .int .i64 x.f, .int .i64 x.s, .int .i64 x.st, .int .i64 x.k, .int .i64 x.a, .int .i64 x.b, .slice x.ap x.al x.ac] 25)) w.heap.size x := nine.new
  clear he hf hG
  generalize hat : cnt E x n = a at hle ⊢
  have AT := Lib.hid hat
  clear hat
  have hn5 : n ≤ 5000 := HG.out.1
  have h5 : ((n : Int) == 5000) = false := by rw [beq_eq_false_iff_ne]; omega
  have a0 : (0 : Int) ≤ (a : Int) := by omega
  have a1 : (a : Int) ≤ (c : Int) := by omega
  have a2 : (a : Int) ≤ (n : Int) := by omega
  have a3 : (n : Int) ≤ (c : Int) := by omega
  go_enter Try.func18, Try.ntmps18
  go_wp2_with fail
  refine (check_any _ n c E _ hE.alloc).mono ?_
  rintro e w1 ⟨rfl, hb1⟩
  rw [CK.out]
  have X1 := nine.on hb1 X0
  obtain ⟨x0, x1, x2, x3, x4, x5, x6, x7, x8, x9⟩ := X1
  have X1 : nine _ _ _ := ⟨x0, x1, x2, x3, x4, x5, x6, x7, x8, x9⟩
  go_wp2_with fail
  refine (event_any x _ (Row.on hb1 hx.alloc)).mono ?_
  rintro e w2 ⟨rfl, hb2⟩
  rw [HE.out]
  have X2 := nine.on hb2 X1
  clear x0 x1 x2 x3 x4 x5 x6 x7 x8 x9
  obtain ⟨x0, x1, x2, x3, x4, x5, x6, x7, x8, x9⟩ := X2
  have X2 : nine _ _ _ := ⟨x0, x1, x2, x3, x4, x5, x6, x7, x8, x9⟩
  go_wp2_with fail
  refine (search_any _ n c E x _ ((hE.alloc.on hb1).on hb2) HG.out).mono ?_
  rintro e w3 ⟨rfl, hb3⟩
  rw [HF.out, AT.out]
  have X3 := nine.on hb3 X2
  clear x0 x1 x2 x3 x4 x5 x6 x7 x8 x9
  obtain ⟨x0, x1, x2, x3, x4, x5, x6, x7, x8, x9⟩ := X3
  have X3 : nine _ _ _ := ⟨x0, x1, x2, x3, x4, x5, x6, x7, x8, x9⟩
  have X3d : nine w3.drew w.heap.size x := X3
  have BB : Below w.heap.size w w3 := by (repeat (first | (with_reducible exact Below.refl _ _) | (with_reducible assumption) | (with_reducible apply bl_alloc) | (with_reducible apply bl_drewN) | (with_reducible apply bl_drew) | (with_reducible refine bl_set ?_ (by first | (simp; done) | (simp; omega)) _) | (with_reducible refine bl_call ?_ (by assumption))))
  have hE3 := hE.on BB
  have hx3 : ok w3 x := Row.on BB hx
  have PJ := Lib.hid fun (p2 : Option Addr) (c2 : Nat) (h2 : Evs w3 p2 (n - a) (fun i => E (a + i))) => put_join w3 (some ⟨b, o, none⟩) p2 c c2 n a E x (hE3.take hle) h2 hx3 hle hn5 (fun i hi => ⟨hE3.get i hi, evE_al (HG.out.2.1 i hi)⟩) (evE_al HE.out)
  by_cases hca : c = a
  · have P2 := PJ.out (some ⟨b, o, none⟩) (c - a) (by rw [show n - a = 0 by omega]; exact Evs.nil)
    clear PJ
    subst hca
    rw [show n - c = 0 by omega, Nat.sub_self] at P2
    have P2 := Lib.hid P2
    go_wp2_with fail
    go_region_held3 (fun w' => w'.cell? ⟨w.heap.size, 0, none⟩ = some (.int .i64 x.t) ∧ w'.cell? ⟨w.heap.size, 1, none⟩ = some (.int .i64 x.p) ∧ w'.cell? ⟨w.heap.size, 2, none⟩ = some (.int .i64 x.f) ∧ w'.cell? ⟨w.heap.size, 3, none⟩ = some (.int .i64 x.s) ∧ w'.cell? ⟨w.heap.size, 4, none⟩ = some (.int .i64 x.st) ∧ w'.cell? ⟨w.heap.size, 5, none⟩ = some (.int .i64 x.k) ∧ w'.cell? ⟨w.heap.size, 6, none⟩ = some (.int .i64 x.a) ∧ w'.cell? ⟨w.heap.size, 7, none⟩ = some (.int .i64 x.b) ∧ w'.cell? ⟨w.heap.size, 8, none⟩ = some (.slice x.ap x.al x.ac)) (first | (with_reducible exact keep9 X4) | (with_reducible exact keep9 X3d) | (go_keep; done))
      ((go_at_call 36; refine P2.out.mono ?_; rintro e w4 ⟨p4, c4, F, rfl, hc4, hF, hq, hb4, -⟩; have X4 := nine.on hb4 (X3d.alloc.alloc)))
    all_goals
      go_wp2_with fail
      go_ret2
      exact ⟨p4, c4, F, rfl, hc4, hF, hq, by (repeat (first | (with_reducible exact Below.refl _ _) | (with_reducible assumption) | (with_reducible apply bl_alloc) | (with_reducible apply bl_drewN) | (with_reducible apply bl_drew) | (with_reducible refine bl_set ?_ (by first | (simp; done) | (simp; omega)) _) | (with_reducible refine bl_call ?_ (by assumption))))⟩
  · have P2 := Lib.hid (PJ.out (some ⟨b, o + a * 9, none⟩) (c - a) (hE3.drop hle))
    clear PJ
    go_wp2_with fail
    go_region_held3 (fun w' => w'.cell? ⟨w.heap.size, 0, none⟩ = some (.int .i64 x.t) ∧ w'.cell? ⟨w.heap.size, 1, none⟩ = some (.int .i64 x.p) ∧ w'.cell? ⟨w.heap.size, 2, none⟩ = some (.int .i64 x.f) ∧ w'.cell? ⟨w.heap.size, 3, none⟩ = some (.int .i64 x.s) ∧ w'.cell? ⟨w.heap.size, 4, none⟩ = some (.int .i64 x.st) ∧ w'.cell? ⟨w.heap.size, 5, none⟩ = some (.int .i64 x.k) ∧ w'.cell? ⟨w.heap.size, 6, none⟩ = some (.int .i64 x.a) ∧ w'.cell? ⟨w.heap.size, 7, none⟩ = some (.int .i64 x.b) ∧ w'.cell? ⟨w.heap.size, 8, none⟩ = some (.slice x.ap x.al x.ac)) (first | (with_reducible exact keep9 X4) | (with_reducible exact keep9 X3d) | (go_keep; done))
      ((go_at_call 36; refine P2.out.mono ?_; rintro e w4 ⟨p4, c4, F, rfl, hc4, hF, hq, hb4, -⟩; have X4 := nine.on hb4 (X3d.alloc.alloc)))
    all_goals
      go_wp2_with fail
      go_ret2
      exact ⟨p4, c4, F, rfl, hc4, hF, hq, by (repeat (first | (with_reducible exact Below.refl _ _) | (with_reducible assumption) | (with_reducible apply bl_alloc) | (with_reducible apply bl_drewN) | (with_reducible apply bl_drew) | (with_reducible refine bl_set ?_ (by first | (simp; done) | (simp; omega)) _) | (with_reducible refine bl_call ?_ (by assumption))))⟩
theorem put_zero (p : Option Addr) (E : Nat → Ev) (x : Ev) (w : World) (hx : ok w x) (he : evE x = 0) : Calls Try.prog 18 #[.slice p 0 0, .agg #[.int .i64 x.t, .int .i64 x.p, .int .i64 x.f, .int .i64 x.s, .int .i64 x.st, .int .i64 x.k, .int .i64 x.a, .int .i64 x.b, .slice x.ap x.al x.ac]] w (ListsZ w 1 0 (insE E 0 x)) := by
  have hE : Evs w p 0 E := Evs.nil
  have hG : Good E 0 := ⟨by omega, fun i hi => absurd hi (Nat.not_lt_zero _), fun i hi => absurd hi (Nat.not_lt_zero _)⟩
  have CK := Lib.hid (chkE_zero.2 hG)
  have HE := Lib.hid he
  have HG := Lib.hid hG
  have X0 : nine (w.alloc (.cells #[.int .i64 x.t, .int .i64 x.p, .int .i64 x.f, .int .i64 x.s, .int .i64 x.st, .int .i64 x.k, .int .i64 x.a, .int .i64 x.b, .slice x.ap x.al x.ac] 25)) w.heap.size x := nine.new
  clear he hG
  rcases p with - | A
  all_goals
    go_enter Try.func18, Try.ntmps18
    go_wp2_with fail
    refine (check_any _ 0 0 E _ hE.alloc).mono ?_
    rintro e w1 ⟨rfl, hb1⟩
    rw [CK.out]
    have X1 := nine.on hb1 X0
    obtain ⟨x0, x1, x2, x3, x4, x5, x6, x7, x8, x9⟩ := X1
    have X1 : nine _ _ _ := ⟨x0, x1, x2, x3, x4, x5, x6, x7, x8, x9⟩
    go_wp2_with fail
    refine (event_any x _ (Row.on hb1 hx.alloc)).mono ?_
    rintro e w2 ⟨rfl, hb2⟩
    rw [HE.out]
    have X2 := nine.on hb2 X1
    clear x0 x1 x2 x3 x4 x5 x6 x7 x8 x9
    obtain ⟨x0, x1, x2, x3, x4, x5, x6, x7, x8, x9⟩ := X2
    have X2 : nine _ _ _ := ⟨x0, x1, x2, x3, x4, x5, x6, x7, x8, x9⟩
    go_wp2_with fail
    refine (search_any _ 0 0 E x _ ((hE.alloc.on hb1).on hb2) HG.out).mono ?_
    rintro e w3 ⟨rfl, hb3⟩
    rw [show cnt E x 0 = 0 from rfl, show fnd E x 0 = false from rfl]
    have X3 := nine.on hb3 X2
    clear x0 x1 x2 x3 x4 x5 x6 x7 x8 x9
    obtain ⟨x0, x1, x2, x3, x4, x5, x6, x7, x8, x9⟩ := X3
    have X3 : nine _ _ _ := ⟨x0, x1, x2, x3, x4, x5, x6, x7, x8, x9⟩
    have X3d : nine w3.drew w.heap.size x := X3
    have BB : Below w.heap.size w w3 := by (repeat (first | (with_reducible exact Below.refl _ _) | (with_reducible assumption) | (with_reducible apply bl_alloc) | (with_reducible apply bl_drewN) | (with_reducible apply bl_drew) | (with_reducible refine bl_set ?_ (by first | (simp; done) | (simp; omega)) _) | (with_reducible refine bl_call ?_ (by assumption))))
  · have PJ := Lib.hid (put_join w3 none none 0 0 0 0 E x Evs.nil Evs.nil (Row.on BB hx) (Nat.le_refl _) (by omega) (fun i hi => absurd hi (Nat.not_lt_zero _)) (evE_al HE.out))
    go_wp2_with fail
    go_region_held3 (fun w' => w'.cell? ⟨w.heap.size, 0, none⟩ = some (.int .i64 x.t) ∧ w'.cell? ⟨w.heap.size, 1, none⟩ = some (.int .i64 x.p) ∧ w'.cell? ⟨w.heap.size, 2, none⟩ = some (.int .i64 x.f) ∧ w'.cell? ⟨w.heap.size, 3, none⟩ = some (.int .i64 x.s) ∧ w'.cell? ⟨w.heap.size, 4, none⟩ = some (.int .i64 x.st) ∧ w'.cell? ⟨w.heap.size, 5, none⟩ = some (.int .i64 x.k) ∧ w'.cell? ⟨w.heap.size, 6, none⟩ = some (.int .i64 x.a) ∧ w'.cell? ⟨w.heap.size, 7, none⟩ = some (.int .i64 x.b) ∧ w'.cell? ⟨w.heap.size, 8, none⟩ = some (.slice x.ap x.al x.ac)) (first | (with_reducible exact keep9 X4) | (with_reducible exact keep9 X3d) | (go_keep; done))
      ((go_at_call 36; refine PJ.out.mono ?_; rintro e w4 ⟨p4, c4, F, rfl, hc4, hF, hq, hb4, -⟩; have X4 := nine.on hb4 (X3d.alloc.alloc)))
    all_goals
      go_wp2_with fail
      go_ret2
      exact ⟨p4, c4, F, rfl, hc4, hF, hq, by (repeat (first | (with_reducible exact Below.refl _ _) | (with_reducible assumption) | (with_reducible apply bl_alloc) | (with_reducible apply bl_drewN) | (with_reducible apply bl_drew) | (with_reducible refine bl_set ?_ (by first | (simp; done) | (simp; omega)) _) | (with_reducible refine bl_call ?_ (by assumption))))⟩
  · have PJ := Lib.hid (put_join w3 (some A) (some A) 0 0 0 0 E x Evs.nil Evs.nil (Row.on BB hx) (Nat.le_refl _) (by omega) (fun i hi => absurd hi (Nat.not_lt_zero _)) (evE_al HE.out))
    go_wp2_with fail
    go_region_held3 (fun w' => w'.cell? ⟨w.heap.size, 0, none⟩ = some (.int .i64 x.t) ∧ w'.cell? ⟨w.heap.size, 1, none⟩ = some (.int .i64 x.p) ∧ w'.cell? ⟨w.heap.size, 2, none⟩ = some (.int .i64 x.f) ∧ w'.cell? ⟨w.heap.size, 3, none⟩ = some (.int .i64 x.s) ∧ w'.cell? ⟨w.heap.size, 4, none⟩ = some (.int .i64 x.st) ∧ w'.cell? ⟨w.heap.size, 5, none⟩ = some (.int .i64 x.k) ∧ w'.cell? ⟨w.heap.size, 6, none⟩ = some (.int .i64 x.a) ∧ w'.cell? ⟨w.heap.size, 7, none⟩ = some (.int .i64 x.b) ∧ w'.cell? ⟨w.heap.size, 8, none⟩ = some (.slice x.ap x.al x.ac)) (first | (with_reducible exact keep9 X4) | (with_reducible exact keep9 X3d) | (go_keep; done))
      ((go_at_call 36; refine PJ.out.mono ?_; rintro e w4 ⟨p4, c4, F, rfl, hc4, hF, hq, hb4, -⟩; have X4 := nine.on hb4 (X3d.alloc.alloc)))
    all_goals
      go_wp2_with fail
      go_ret2
      exact ⟨p4, c4, F, rfl, hc4, hF, hq, by (repeat (first | (with_reducible exact Below.refl _ _) | (with_reducible assumption) | (with_reducible apply bl_alloc) | (with_reducible apply bl_drewN) | (with_reducible apply bl_drew) | (with_reducible refine bl_set ?_ (by first | (simp; done) | (simp; omega)) _) | (with_reducible refine bl_call ?_ (by assumption))))⟩
end Go.Proofs.Ytmijjpecgcgkgaa.Ag
