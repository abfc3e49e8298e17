/-
  The contracts of check, Check and CheckCode.
-/
import Derived.Test.YtonlmnlpofgccaaGreatECount
import Derived.Test.YtonlmnlpofgccaaGreatEDepth
import Derived.Test.YtonlmnlpofgccaaGreatECheckN
namespace Go.Proofs.YtonlmnlpofgccaaGreat.Ex
open Go.RowKit Go.Shelf
open Go.Proofs.YtonlmnlpofgccaaGreat.Na (bs bs_inj chk)
attribute [local go_sem] Oper.semAt_some
set_option maxHeartbeats 4000000
set_option linter.unusedVariables false
theorem depth_gives {e : Ex} {x : Nat} (h : dep e = x) (p : Option Addr) (m c : Nat) (w : World) (hi : In w e p m) (hc : cnt e ≤ 1000000) : Calls Tryz.prog 70 #[.agg #[.int .i64 e.o, .string e.s, .int .i64 e.n, .slice p m c]] w (Gives (.int .i64 (x : Nat)) w) := by rw [← h]; exact depth_any e p m c w hi hc
theorem more_gives {e : Ex} {b : Bool} (h : decide (60 < cnt e) = b) (p : Option Addr) (m c : Nat) (w : World) (hi : In w e p m) (hs : Sz e) (hc : cnt e ≤ 1000000) : Calls Tryz.prog 69 #[.agg #[.int .i64 e.o, .string e.s, .int .i64 e.n, .slice p m c], .int .i64 60] w (Gives (.bool b) w) := by rw [← h]; exact more_any e p m c w hi hs hc
theorem cn_gives {c : Bool} {o n v : Int} {s : ByteArray} {m : Nat} (h : nd c o (bs s) n m = v) (p : Option Addr) (c' : Nat) (w : World) (hs : s.size ≤ 140737488355328) : Calls Tryz.prog 72 #[.agg #[.int .i64 o, .string s, .int .i64 n, .slice p m c'], .bool c] w (Gives (.int .i64 v) w) := by rw [← h]; exact cn_any c o s n p m c' w hs
theorem box4.own {β : Type} (g : Nat) (o : Int) (s : ByteArray) (n : Int) (p : Option Addr) (m c : Nat) : Own (fun (_ : β) W => box4 W g o s n p m c) := fun _ A B row hs hg hr => ⟨cell_kept hs.1 hg hr, cell_kept hs.2.1 hg hr, cell_kept hs.2.2.1 hg hr, cell_kept hs.2.2.2 hg hr⟩
theorem keeps_below {B : Nat} {W W' : World} (h : Below W.heap.size W W') : KeepsFrom B W W' := ⟨h.size, fun k o _ hk _ => (h.block k (Array.getElem?_eq_some_iff.1 hk).1).trans hk⟩
theorem bad_snoc {c : Bool} {l : List Ex} {x : Ex} (h : bad c l = 0) : bad c (l ++ [x]) = ndE c x := by
  rw [bad_app_yes h]
  by_cases g : ndE c x = 0
  · rw [bad_yes g, g]; rfl
  · rw [bad_no g]
/-- What lies in the three blocks that the call made. -/
def St (w wr : World) (cc : Bool) (o : Int) (s : ByteArray) (nn : Int) (p : Option Addr) (m c : Nat) : Prop :=
  box4 wr w.heap.size o s nn p m c ∧ wr.cell? ⟨w.heap.size + 1, 0, none⟩ = some (.bool cc) ∧ (wr.cell? ⟨w.heap.size + 1 + 1, 0, none⟩ = some (.int .i64 0) ∧ wr.frozen? ⟨w.heap.size + 1 + 1, 0, none⟩ = false) ∧ Hid (Below w.heap.size w wr) ∧ w.heap.size + 3 ≤ wr.heap.size
section
variable {w wr w2 : World} {cc : Bool} {o : Int} {s : ByteArray} {nn : Int} {p : Option Addr} {m c : Nat}
theorem St.on (h : St w wr cc o s nn p m c) (hb : Below wr.heap.size wr w2) : St w w2 cc o s nn p m c := by
  obtain ⟨h1, h2, ⟨h3, h4⟩, h5, h6⟩ := h
  exact ⟨h1.on hb, (hb.cell (p := ⟨w.heap.size + 1, 0, none⟩) (show w.heap.size + 1 < wr.heap.size by omega)).trans h2, ⟨(hb.cell (p := ⟨w.heap.size + 1 + 1, 0, none⟩) (show w.heap.size + 1 + 1 < wr.heap.size by omega)).trans h3, (hb.frozen (p := ⟨w.heap.size + 1 + 1, 0, none⟩) (show w.heap.size + 1 + 1 < wr.heap.size by omega)).trans h4⟩, Lib.hid (h5.out.trans (hb.mono (by omega))), Nat.le_trans h6 hb.size⟩
theorem St.new : St w (((w.alloc (.cells #[.int .i64 o, .string s, .int .i64 nn, .slice p m c] 32)).alloc (.cells #[.bool cc] 4)).alloc (.cells #[.int .i64 0] 25)) cc o s nn p m c := by
  obtain ⟨w1, hw1⟩ : ∃ w1, w.alloc (.cells #[.int .i64 o, .string s, .int .i64 nn, .slice p m c] 32) = w1 := ⟨_, rfl⟩
  have hz1 : w1.heap.size = w.heap.size + 1 := by rw [← hw1]; simp
  have hb1 : Below w.heap.size w w1 := by rw [← hw1]; (repeat (first | (with_reducible exact Below.refl _ _) | (with_reducible assumption) | (with_reducible apply bl_alloc) | (with_reducible apply bl_drewN) | (with_reducible apply bl_drew) | (with_reducible refine bl_set ?_ (by first | (simp; done) | (simp; omega)) _) | (with_reducible refine bl_call ?_ (by assumption))))
  have h1 := box_new (w := w) (o := o) (s := s) (n := nn) (p := p) (m := m) (c := c) (t := 32)
  obtain ⟨w2, hw2⟩ : ∃ w2, w1.alloc (.cells #[.bool cc] 4) = w2 := ⟨_, rfl⟩
  have hz2 : w2.heap.size = w.heap.size + 2 := by rw [← hw2]; simp [hz1]
  have hb2 : Below w1.heap.size w1 w2 := by rw [← hw2]; (repeat (first | (with_reducible exact Below.refl _ _) | (with_reducible assumption) | (with_reducible apply bl_alloc) | (with_reducible apply bl_drewN) | (with_reducible apply bl_drew) | (with_reducible refine bl_set ?_ (by first | (simp; done) | (simp; omega)) _) | (with_reducible refine bl_call ?_ (by assumption))))
  have h2 := cell_new w1 (.bool cc) 4
  rw [hw2] at h2
  obtain ⟨w3, hw3⟩ : ∃ w3, w2.alloc (.cells #[.int .i64 0] 25) = w3 := ⟨_, rfl⟩
  have hz3 : w3.heap.size = w.heap.size + 3 := by rw [← hw3]; simp [hz2]
  have hb3 : Below w2.heap.size w2 w3 := by rw [← hw3]; (repeat (first | (with_reducible exact Below.refl _ _) | (with_reducible assumption) | (with_reducible apply bl_alloc) | (with_reducible apply bl_drewN) | (with_reducible apply bl_drew) | (with_reducible refine bl_set ?_ (by first | (simp; done) | (simp; omega)) _) | (with_reducible refine bl_call ?_ (by assumption))))
  have h3 := cell_new w2 (.int .i64 0) 25
  rw [hw3] at h3
  rw [hw1] at h1
  rw [hw1, hw2, hw3]
  rw [hz1] at h2
  rw [hz2] at h3
  exact ⟨(h1.on hb2).on hb3, (hb3.cell (p := ⟨w.heap.size + 1, 0, none⟩) (show w.heap.size + 1 < w2.heap.size by omega)).trans h2.1, h3, Lib.hid (hb1.trans ((hb2.mono (by omega)).trans (hb3.mono (by omega)))), by omega⟩
end
set_option maxRecDepth 100000 in
theorem chkx_any (cc : Bool) (e : Ex) (p : Option Addr) (m c : Nat) (w : World) (h : In w e p m) (hs : Sz e) (hc : cnt e ≤ 1000000) : Calls Tryz.prog 48 #[.agg #[.int .i64 e.o, .string e.s, .int .i64 e.n, .slice p m c], .bool cc] w (Gives (.int .i64 (chkE cc e)) w) := by
  by_cases h6 : 60 < cnt e
  · have HM := Lib.hid (fun W hi => more_gives (decide_eq_true h6) p m c W hi hs hc)
    have HH := Lib.hid h
    rw [show chkE cc e = 6 by unfold chkE; rw [if_pos h6]]
    obtain ⟨o, s, nn, kl⟩ := e
    simp only [Ex.o, Ex.s, Ex.n] at HM ⊢
    clear h hs hc h6
    go_enter Tryz.func48, Tryz.ntmps48
    go_wp2_with fail
    refine (HM.out _ (HH.out.on (by (repeat (first | (with_reducible exact Below.refl _ _) | (with_reducible assumption) | (with_reducible apply bl_alloc) | (with_reducible apply bl_drewN) | (with_reducible apply bl_drew) | (with_reducible refine bl_set ?_ (by first | (simp; done) | (simp; omega)) _) | (with_reducible refine bl_call ?_ (by assumption))))))).mono ?_
    rintro e w1 ⟨rfl, hb1⟩
    have HST := Lib.hid (St.new.on hb1)
    have hr := HST.out.2.2.1.1
    have hf := HST.out.2.2.1.2
    clear hb1
    go_wp2_with fail
    (try simp only [Exit.inBlock, Exit.then])
    have HBB := HST.out.2.2.2.1.out
    have e1 : (w1.setCell ⟨w.heap.size + 1 + 1, 0, none⟩ (.int .i64 6)).cell? ⟨w.heap.size + 1 + 1, 0, none⟩ = some (.int .i64 6) := World.cell?_setCell_same' _ _ _ (by rw [hr]; rfl)
    exact bodyPost_ret (v := .int .i64 6) (by simp [results, Tryz.f48, go_sem, e1]) rfl ⟨rfl, below_set HBB (by omega) _⟩
  have HM := Lib.hid (fun W hi => more_gives (decide_eq_false h6) p m c W hi hs hc)
  have HD := Lib.hid (fun W hi => depth_gives (e := e) rfl p m c W hi hc)
  by_cases h12 : 12 < dep e
  · have HH := Lib.hid h
    rw [show chkE cc e = 11 by unfold chkE; rw [if_neg h6, if_pos h12]]
    obtain ⟨D, hD⟩ : ∃ D, dep e = D := ⟨_, rfl⟩
    rw [hD] at HD h12
    have d1 : (12 : Int) < (D : Int) := by omega
    have d2 : decide ((12 : Int) < (D : Int)) = true := decide_eq_true d1
    obtain ⟨o, s, nn, kl⟩ := e
    simp only [Ex.o, Ex.s, Ex.n] at HM HD ⊢
    clear h hs hc h6 hD h12
    go_enter Tryz.func48, Tryz.ntmps48
    go_wp2_with fail
    refine (HM.out _ (HH.out.on (by (repeat (first | (with_reducible exact Below.refl _ _) | (with_reducible assumption) | (with_reducible apply bl_alloc) | (with_reducible apply bl_drewN) | (with_reducible apply bl_drew) | (with_reducible refine bl_set ?_ (by first | (simp; done) | (simp; omega)) _) | (with_reducible refine bl_call ?_ (by assumption))))))).mono ?_
    rintro e w1 ⟨rfl, hb1⟩
    have HST := Lib.hid (St.new.on hb1)
    obtain ⟨x0, x1, x2, x3⟩ := HST.out.1
    clear hb1
    go_wp2_with fail
    refine (HD.out _ (HH.out.on HST.out.2.2.2.1.out)).mono ?_
    rintro e w2 ⟨rfl, hb2⟩
    have HST2 := Lib.hid (HST.out.on hb2)
    have hr := HST2.out.2.2.1.1
    have hf := HST2.out.2.2.1.2
    clear hb2
    go_wp2_with fail
    (try simp only [Exit.inBlock, Exit.then])
    have HBB := HST2.out.2.2.2.1.out
    have e1 : (w2.setCell ⟨w.heap.size + 1 + 1, 0, none⟩ (.int .i64 11)).cell? ⟨w.heap.size + 1 + 1, 0, none⟩ = some (.int .i64 11) := World.cell?_setCell_same' _ _ _ (by rw [hr]; rfl)
    exact bodyPost_ret (v := .int .i64 11) (by simp [results, Tryz.f48, go_sem, e1]) rfl ⟨rfl, below_set HBB (by omega) _⟩
  have HH := Lib.hid h
  have HS := Lib.hid hs
  have HC := Lib.hid hc
  rw [show chkE cc e = bad cc (pre e) by unfold chkE; rw [if_neg h6, if_neg h12]]
  obtain ⟨D, hD⟩ : ∃ D, dep e = D := ⟨_, rfl⟩
  rw [hD] at HD h12
  have d1 : (D : Int) ≤ 12 := by omega
  have d2 : decide ((12 : Int) < (D : Int)) = false := decide_eq_false (by omega)
  obtain ⟨o, s, nn, kl⟩ := e
  simp only [Ex.o, Ex.s, Ex.n] at HM HD ⊢
  clear h hs hc h6 hD h12
  refine (callsIn_wide (n := 3)).1 ?_
  refine callsIn_of_wp_marks Tryz.func48 rfl trivial ?_ rfl
  simp only [Tryz.ntmps48, List.size_toArray, List.length_cons, List.length_nil, Nat.reduceAdd, Nat.reduceSub, Array.replicate_succ, Array.replicate_zero, List.push_toArray, List.append_toArray, List.nil_append, List.cons_append]
  gi_wp2_with fail
  refine ⟨trivial, ?_⟩
  refine (callsIn_wide.2 (HM.out _ (HH.out.on (by (repeat (first | (with_reducible exact Below.refl _ _) | (with_reducible assumption) | (with_reducible apply bl_alloc) | (with_reducible apply bl_drewN) | (with_reducible apply bl_drew) | (with_reducible refine bl_set ?_ (by first | (simp; done) | (simp; omega)) _) | (with_reducible refine bl_call ?_ (by assumption)))))))).mono ?_
  rintro e w1 ⟨rfl, hb1⟩
  have HST := Lib.hid (St.new.on hb1)
  obtain ⟨x0, x1, x2, x3⟩ := HST.out.1
  clear hb1
  gi_wp2_with fail
  refine ⟨trivial, ?_⟩
  refine (callsIn_wide.2 (HD.out _ (HH.out.on HST.out.2.2.2.1.out))).mono ?_
  rintro e w2 ⟨rfl, hb2⟩
  have HST2 := Lib.hid (HST.out.on hb2)
  obtain ⟨y0, y1, y2, y3⟩ := HST2.out.1
  clear hb2 x0 x1 x2 x3
  gi_wp2_with fail
  refine ⟨trivial, ?_⟩
  refine (nodes_in Fence.wide _ trivial rfl _ _ _ _ _ _ _).mono ?_
  rintro e w3 ⟨rfl, hw3⟩
  have hb3 : Below w2.heap.size w2 w3 := by rw [hw3]; (repeat (first | (with_reducible exact Below.refl _ _) | (with_reducible assumption) | (with_reducible apply bl_alloc) | (with_reducible apply bl_drewN) | (with_reducible apply bl_drew) | (with_reducible refine bl_set ?_ (by first | (simp; done) | (simp; omega)) _) | (with_reducible refine bl_call ?_ (by assumption))))
  have hx3 : box4 w3 w2.heap.size o s nn p m c := by rw [hw3]; exact box_new
  have hz3 : w3.heap.size = w2.heap.size + 1 := by rw [hw3]; simp
  have HST3 := HST2.out.on hb3
  clear hw3
  gi_wp2
  have hs2 := HST2.out.2.2.2.2
  have HBB := HST3.2.2.2.1
  refine wpIn_rangeFunc_ownH rfl (by omega) (gf := 89) (lb := #[.pointer (some ⟨w2.heap.size, 0, none⟩)]) rfl trivial (enters_of Tryz.func89 (by kernel_rfl) rfl)
    (nodes_stops Fence.wide rfl trivial trivial rfl _ w2.heap.size w.heap.size w3.heap.size (.mk o s nn kl) p m c w3 hx3 (HH.out.below HBB.out) HS.out (by omega) (Nat.le_refl _)) (fun h k => h.trans k) (Kp.put (by omega)) (Below.refl _ _) (fun _ => rfl)
    (fun ps W => (W.cell? ⟨w.heap.size + 1, 0, none⟩ = some (.bool cc) ∧ W.cell? ⟨w.heap.size + 1 + 1, 0, none⟩ = some (.int .i64 0) ∧ W.frozen? ⟨w.heap.size + 1 + 1, 0, none⟩ = false ∧ bad cc (ps.map Nd.x) = 0 ∧ w3.heap.size ≤ W.heap.size) ∧ Below w.heap.size w W)
    (fun c' ps W => (c' = .ret ∧ ∃ v : Int, ¬ v = 0 ∧ bad cc (ps.map Nd.x) = v ∧ W.cell? ⟨w.heap.size + 1 + 1, 0, none⟩ = some (.int .i64 v)) ∧ Below w.heap.size w W)
    (OwnFrom.and (Own.from (fun s A B row hs hg hr => ⟨cell_kept hs.1 hg hr, cell_kept hs.2.1 hg hr, (frozen_kept hs.2.1 hg hr).trans hs.2.2.1, hs.2.2.2.1, Nat.le_trans hs.2.2.2.2 hg.size⟩) _) (ownFrom_below (Nat.le_refl _) (by omega)))
    (fun c' => OwnFrom.and (Own.from (fun s A B row hs hg hr => ⟨hs.1, let ⟨v, h1, h2, h3⟩ := hs.2; ⟨v, h1, h2, cell_kept h3 hg hr⟩⟩) _) (ownFrom_below (Nat.le_refl _) (by omega)))
    ⟨⟨HST3.2.1, HST3.2.2.1.1, HST3.2.2.1.2, rfl, Nat.le_refl _⟩, HBB.out⟩
    (fun x a' W => ∃ Bx, w3.heap.size ≤ Bx ∧ box4 W Bx x.x.o x.x.s x.x.n x.p x.m x.c ∧ a' = { tmps := #[.agg #[.int .i64 o, .string s, .int .i64 nn, .slice p m c], .bool cc, .pointer (some ⟨w.heap.size, 0, none⟩), .pointer (some ⟨w.heap.size + 1, 0, none⟩), .pointer (some ⟨w.heap.size + 1 + 1, 0, none⟩), .pointer (some ⟨Bx, 0, none⟩), undef, .agg #[.int .i64 o, .string s, .int .i64 nn, .slice p m c], .bool false, .agg #[.int .i64 o, .string s, .int .i64 nn, .slice p m c], .int .i64 (D : Nat), .bool false, .agg #[.int .i64 o, .string s, .int .i64 nn, .slice p m c], .func (.func 89) #[] #[.pointer (some ⟨w2.heap.size, 0, none⟩)], .agg #[.int .i64 x.x.o, .string x.x.s, .int .i64 x.x.n, .slice x.p x.m x.c], undef, undef, undef, undef, undef, undef], defers := [] })
    (fun x a' _ A B row hs hg hr => let ⟨Bx, h1, h2, h3⟩ := hs; ⟨Bx, h1, box4.own (β := Unit) _ _ _ _ _ _ _ () A B row h2 hg (fun r e => (hr r e).2), h3⟩) ?assign ?body ?done ?stop
  case assign =>
    intro l ps x W K hi hK
    simp only [encN]
    gi_wp2
    have hbW : Below W.heap.size W (W.alloc (.cells #[.int .i64 x.x.o, .string x.x.s, .int .i64 x.x.n, .slice x.p x.m x.c] 32)) := by (repeat (first | (with_reducible exact Below.refl _ _) | (with_reducible assumption) | (with_reducible apply bl_alloc) | (with_reducible apply bl_drewN) | (with_reducible apply bl_drew) | (with_reducible refine bl_set ?_ (by first | (simp; done) | (simp; omega)) _) | (with_reducible refine bl_call ?_ (by assumption))))
    have hle := hi.2.size
    refine hK _ _ (keeps_below hbW) (Kp.of_below hbW hle) ?_ ⟨W.heap.size, ?_, box_new, ?_⟩
    · exact ⟨⟨cell_alloc_on _ hi.1.1, cell_alloc_on _ hi.1.2.1, frozen_alloc_on _ hi.1.2.1 hi.1.2.2.1, hi.1.2.2.2.1, Nat.le_trans hi.1.2.2.2.2 hbW.size⟩, hi.2.trans (hbW.mono hle)⟩
    · exact hi.1.2.2.2.2
    · simp [go_sem]
  case body =>
    rintro l ps x a' W hl ⟨r, hr⟩ ⟨⟨h1, h2, h3, h4, h5⟩, hB⟩ ⟨Bx, hBx, ⟨b0, b1, b2, b3⟩, rfl⟩ hlt
    obtain ⟨v, hv⟩ : ∃ v, nd cc x.x.o (bs x.x.s) x.x.n x.m = v := ⟨_, rfl⟩
    have HN := Lib.hid (cn_gives hv x.p x.c W x.hs)
    have hndx : ndE cc x.x = v := by unfold ndE; rw [x.hl]; exact hv
    have HSN := Lib.hid (show bad cc ((ps ++ [x]).map Nd.x) = v by rw [List.map_append]; exact (bad_snoc h4).trans hndx)
    have H4 := Lib.hid h4
    have H5 := Lib.hid h5
    have HBW := Lib.hid hB
    clear hv hndx h4 h5 hB hlt hr
    gi_wp2_with fail
    refine ⟨trivial, ?_⟩
    refine (CallsIn.inRound l (callsIn_wide.2 HN.out)).mono ?_
    rintro e w4 ⟨rfl, hb4⟩
    have g1 := (hb4.cell (p := ⟨w.heap.size + 1, 0, none⟩) (block_lt h1)).trans h1
    have g2 := (hb4.cell (p := ⟨w.heap.size + 1 + 1, 0, none⟩) (block_lt h2)).trans h2
    have g3 := (hb4.frozen (p := ⟨w.heap.size + 1 + 1, 0, none⟩) (block_lt h2)).trans h3
    have HB4 := Lib.hid hb4
    clear hb4 h1 h2 h3 b0 b1 b2 b3
    by_cases hv0 : v = 0
    · subst hv0
      gi_wp2
      exact ⟨keeps_below HB4.out, Kp.of_below HB4.out HBW.out.size, ⟨g1, g2, g3, HSN.out, Nat.le_trans H5.out HB4.out.size⟩, HBW.out.trans (HB4.out.mono HBW.out.size)⟩
    · have t0 : (v == 0) = false := beq_eq_false_iff_ne.2 hv0
      gi_wp2
      refine ⟨(keeps_below HB4.out).trans ((KeepsOthers.setCell _ _ _).from _), ⟨rfl, v, hv0, HSN.out, ?_⟩, below_set (HBW.out.trans (HB4.out.mono HBW.out.size)) (by omega) _⟩
      exact World.cell?_setCell_same' _ _ _ (by rw [g2]; rfl)
  case done =>
    rintro D' ys W hD hys ⟨⟨h1, h2, h3, h4, h5⟩, hB⟩ hK
    have HV := Lib.hid (show bad cc (pre (.mk o s nn kl)) = 0 by rw [← hys]; exact h4)
    gi_wp2
    have hK' := (KeepsOthers.setCell W ⟨w.heap.size + 1 + 1, 0, none⟩ (.int .i64 0)).same D' _ hK rfl
    refine ⟨by simp, .inl ⟨_, _, rfl, run_takeDeferred hK', ?_⟩⟩
    have hc5 := cell_kept (World.cell?_setCell_same' W ⟨w.heap.size + 1 + 1, 0, none⟩ (.int .i64 0) (by rw [h2]; rfl)) (grownBy_putObj' _ D' (.deferred none)) (fun r e => by cases e; exact ⟨_, hK', rfl⟩)
    refine ⟨.int .i64 0, ?_, by rw [HV.out], (below_set hB (by omega) _).trans (belowK_b (w := w) (Nat.le_refl _) _ D' _ _ (by omega) hK' rfl rfl)⟩
    simp [results, Tryz.f48, go_sem, hc5]
  case stop =>
    rintro D' c' ps W hD hps ⟨⟨rfl, v, hv0, hbv, hr⟩, hB⟩ hK
    have HV := Lib.hid (show bad cc (pre (.mk o s nn kl)) = v by
      obtain ⟨r, hr⟩ := hps
      rw [← hr, bad_app_no (by rw [hbv]; exact hv0), hbv])
    gi_wp2
    refine ⟨by simp, .inl ⟨_, _, rfl, run_takeDeferred hK, ?_⟩⟩
    have hc5 := cell_kept hr (grownBy_putObj' _ D' (.deferred none)) (fun r e => by cases e; exact ⟨_, hK, rfl⟩)
    refine ⟨.int .i64 v, ?_, by rw [HV.out], hB.trans (belowK_b (w := w) (Nat.le_refl _) W D' _ _ (by omega) hK rfl rfl)⟩
    simp [results, Tryz.f48, go_sem, hc5]
theorem check_any (e : Ex) (p : Option Addr) (m c : Nat) (w : World) (h : In w e p m) (hs : Sz e) (hc : cnt e ≤ 1000000) : Calls Tryz.prog 34 #[.agg #[.int .i64 e.o, .string e.s, .int .i64 e.n, .slice p m c]] w (Gives (.int .i64 (chkE false e)) w) := by
  have H := Lib.hid (fun W hi => chkx_any false e p m c W hi hs hc)
  have HH := Lib.hid h
  obtain ⟨v, hv⟩ : ∃ v, chkE false e = v := ⟨_, rfl⟩
  rw [hv] at H ⊢
  obtain ⟨o, s, nn, kl⟩ := e
  simp only [Ex.o, Ex.s, Ex.n] at H ⊢
  clear h hs hc hv
  go_enter Tryz.func34, Tryz.ntmps34
  go_wp2_with fail
  refine (H.out _ (HH.out.on (by (repeat (first | (with_reducible exact Below.refl _ _) | (with_reducible assumption) | (with_reducible apply bl_alloc) | (with_reducible apply bl_drewN) | (with_reducible apply bl_drew) | (with_reducible refine bl_set ?_ (by first | (simp; done) | (simp; omega)) _) | (with_reducible refine bl_call ?_ (by assumption))))))).mono ?_
  rintro e w1 ⟨rfl, hb1⟩
  go_wp2_with fail
  go_ret
  exact ⟨rfl, by (repeat (first | (with_reducible exact Below.refl _ _) | (with_reducible assumption) | (with_reducible apply bl_alloc) | (with_reducible apply bl_drewN) | (with_reducible apply bl_drew) | (with_reducible refine bl_set ?_ (by first | (simp; done) | (simp; omega)) _) | (with_reducible refine bl_call ?_ (by assumption))))⟩
end Go.Proofs.YtonlmnlpofgccaaGreat.Ex
