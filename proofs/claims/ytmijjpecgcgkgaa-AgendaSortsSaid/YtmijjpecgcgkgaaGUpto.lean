/-
  The contract of Upto.
-/
import Derived.Test.YtmijjpecgcgkgaaGNext
namespace Go.Proofs.Ytmijjpecgcgkgaa.Ag
open Go.RowKit
set_option maxHeartbeats 4000000
theorem FromLo.mono {lo l2 : Nat} {p : Option Addr} {n : Nat} (h : FromLo lo p n) (hl : l2 ≤ lo) : FromLo l2 p n := h.imp id fun h a ha => Nat.le_trans hl (h a ha)
theorem new_at {w : World} {u : Value} {t : TypeId} : w.heap.size < (w.alloc (.cells #[u] t)).heap.size ∧ (w.alloc (.cells #[u] t)).cell? ⟨w.heap.size, 0, none⟩ = some u := ⟨by simp, by simp⟩
theorem lists_nil {w w' : World} {E : Nat → Ev} {e : Ending} (he : e = .returned (.slice none 0 0)) (hb : Below w.heap.size w w') : Lists w 0 E e w' :=
  ⟨none, 0, fun _ => zeroEv, he, ⟨Nat.le_refl _, .inl rfl⟩, Evs.nil, fun _ hi => absurd hi (Nat.not_lt_zero _), hb, .inl rfl, fun _ hi => absurd hi (Nat.not_lt_zero _)⟩
theorem upto_no (p : Option Addr) (n c : Nat) (E : Nat → Ev) (t : Int) (w : World) (hE : Evs w p n E) (hz : chkE E n ≠ 0) : Calls Try.prog 23 #[.slice p n c, .int .i64 t] w (Lists w 0 E) := by
  have hz2 : (chkE E n != 0) = true := by rw [bne_iff_ne]; exact hz
  clear hz
  go_enter Try.func23, Try.ntmps23
  go_wp2_with fail
  refine (check_any p n c E _ hE.alloc.alloc).mono ?_
  rintro e w1 ⟨rfl, hb1⟩
  go_wp2_with fail
  go_ret
  exact lists_nil rfl (by (repeat (first | (with_reducible exact Below.refl _ _) | (with_reducible assumption) | (with_reducible apply bl_alloc) | (with_reducible apply bl_drewN) | (with_reducible apply bl_drew) | (with_reducible refine bl_set ?_ (by first | (simp; done) | (simp; omega)) _) | (with_reducible refine bl_call ?_ (by assumption)))))
theorem up_new {w : World} {u v : Value} {t1 t2 : TypeId} : ((w.alloc (.cells #[u] t1)).alloc (.cells #[v] t2)).cell? ⟨w.heap.size, 0, none⟩ = some u ∧ ((w.alloc (.cells #[u] t1)).alloc (.cells #[v] t2)).cell? ⟨w.heap.size + 1, 0, none⟩ = some v := by
  constructor
  · go_simp
  · go_simp
theorem upto_yes (p : Option Addr) (n c : Nat) (E : Nat → Ev) (t : Int) (w : World) (hE : Evs w p n E) (hW : WL p n c) (hG : Good E n) : Calls Try.prog 23 #[.slice p n c, .int .i64 t] w (Lists w (upn E t n) E) := by
  have CK := Lib.hid (chkE_zero.2 hG)
  have HG := Lib.hid hG
  have hle := upn_le (E := E) (t := t) (n := n)
  generalize hm : upn E t n = m at hle ⊢
  have HM := Lib.hid hm
  obtain ⟨hc, hW⟩ := hW
  have HW := Lib.hid hW
  have m0 : (0 : Int) ≤ (m : Int) := by omega
  have m1 : (m : Int) ≤ (c : Int) := by omega
  obtain ⟨U0, V0⟩ := up_new (w := w) (u := .slice p n c) (v := .int .i64 t) (t1 := 29) (t2 := 3)
  have hR := Lib.hid fun (i : Nat) (hi : i < m) => evE_al (HG.out.2.1 i (by omega))
  have hm5 : m ≤ 5000 := by have := HG.out.1; omega
  clear hm hG hW
  go_enter Try.func23, Try.ntmps23
  go_wp2_with fail
  refine (check_any p n c E _ hE.alloc.alloc).mono ?_
  rintro e w1 ⟨rfl, hb1⟩
  rw [CK.out]
  have U1 := (hb1.cell (p := ⟨w.heap.size, 0, none⟩) (by simp; omega)).trans U0
  have V1 := (hb1.cell (p := ⟨w.heap.size + 1, 0, none⟩) (by simp)).trans V0
  have hE1 := hE.alloc.alloc.on hb1
  have B1 : Below w.heap.size w w1 := by (repeat (first | (with_reducible exact Below.refl _ _) | (with_reducible assumption) | (with_reducible apply bl_alloc) | (with_reducible apply bl_drewN) | (with_reducible apply bl_drew) | (with_reducible refine bl_set ?_ (by first | (simp; done) | (simp; omega)) _) | (with_reducible refine bl_call ?_ (by assumption))))
  clear U0 V0
  have SS := Lib.hid (ssearch_any p n c w.heap.size (w.heap.size + 1) E t w1.drew hE1 HG.out U1 V1)
  rw [HM.out] at SS
  have HU := Lib.hid U1
  have hsz : w.heap.size < w1.heap.size := by have h9 := hb1.size; simp at h9; omega
  go_wp2_with fail
  go_region_held3 (fun w' => w'.cell? ⟨w.heap.size, 0, none⟩ = some (.slice p n c)) (first | (with_reducible exact U3) | exact HU.out | (go_keep; done))
      (first
        | (go_at_call 38; refine SS.out.mono ?_; rintro e w2 ⟨rfl, r, rfl⟩; have hlt : w.heap.size < ((w1.drewN (1 + r)).alloc (.cells #[.slice p m c] 29)).heap.size := Nat.lt_trans hsz (new_at (w := w1.drewN (1 + r))).1; have hlo := Nat.le_of_lt hlt; have HUr : ((w1.drewN (1 + r)).alloc (.cells #[.slice p m c] 29)).cell? ⟨w.heap.size, 0, none⟩ = some (.slice p n c) := (World.cell?_alloc_lt _ _ ⟨w.heap.size, 0, none⟩ hsz).trans HU.out)
        | (go_at_call 36; refine (join1 _ w1.heap.size _ m c E (new_at (w := w1.drewN (1 + r))).1 (new_at (w := w1.drewN (1 + r))).2 (Evs.alloc (Evs.take (show Evs (w1.drewN (1 + r)) _ n E from hE1) hle)) hm5 hR.out).mono ?_; rintro e w3 ⟨q, d, F, rfl, hW3, hF, hq, hb3, hfr⟩; have U3 := (hb3.cell (p := ⟨w.heap.size, 0, none⟩) hlt).trans HUr; have BB : Below w.heap.size w w3 := (by (repeat (first | (with_reducible exact Below.refl _ _) | (with_reducible assumption) | (with_reducible apply bl_alloc) | (with_reducible apply bl_drewN) | (with_reducible apply bl_drew) | (with_reducible refine bl_set ?_ (by first | (simp; done) | (simp; omega)) _) | (with_reducible refine bl_call ?_ (by assumption))))); have HQ := Lib.hid (show Lists w m E _ _ from ⟨q, d, F, rfl, hW3, hF, hq, BB, FromLo.mono hfr.1 hlo, fun i hi => FromLo.mono (hfr.2 i hi) hlo⟩)))
  all_goals
    go_wp2_with fail
    go_ret
    exact HQ.out
end Go.Proofs.Ytmijjpecgcgkgaa.Ag
