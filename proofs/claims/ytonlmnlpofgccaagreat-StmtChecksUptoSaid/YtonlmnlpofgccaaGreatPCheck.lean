/-
  The contract of Check.
-/
import Derived.Test.YtonlmnlpofgccaaGreatPCount
import Derived.Test.YtonlmnlpofgccaaGreatPDepth
import Derived.Test.YtonlmnlpofgccaaGreatPUses
import Derived.Test.YtonlmnlpofgccaaGreatPChk1
namespace Go.Proofs.YtonlmnlpofgccaaGreat.Sm
open Go.RowKit Go.Shelf
open Go.Proofs.YtonlmnlpofgccaaGreat.Na (bs bs_inj chk)
open Go.Proofs.YtonlmnlpofgccaaGreat.Ex (Ex Nm Kin In Sz Lo Gives bl_alloc bl_drewN bl_drew bl_set bl_call block_lt cell_of_box cell_new cell_alloc_on frozen_alloc_on set_other below_set keeps_below)
attribute [local go_sem] Oper.semAt_some
attribute [local go_sem] cs0 cs1 cs2 cs3 cs4 cs5 cs6 cs7 cs8 cs9 cs10 cs11 cs12 cs13 cs14 cs15 cs16 cs17 cs18 cs19 cs20
set_option maxHeartbeats 4000000
set_option linter.unusedVariables false
theorem depth_gives {sl : List St} {D : Nat} (h : dpL sl = D) (p : Option Addr) (m c : Nat) (w : World) (hi : LIn w sl p m) (hc : cnL sl ≤ 4000000) : Calls Tryz.prog 10 #[.slice p m c] w (Gives (.int .i64 (D : Nat)) w) := by rw [← h]; exact depth_any sl p m c w hi hc
theorem more_gives {sl : List St} {b : Bool} (h : decide (200 < cnL sl) = b) (p : Option Addr) (m c : Nat) (w : World) (hi : LIn w sl p m) (hs : SzL sl) : Calls Tryz.prog 17 #[.slice p m c, .int .i64 200] w (Gives (.bool b) w) := by rw [← h]; exact more_any sl p m c w hi hs
theorem one_gives {x : St} {v : Int} (h : oneE x = v) (P : Pl) (w : World) (hx : SIn w x P) (hs : SzS x) : Calls Tryz.prog 19 #[.agg (cs x P)] w (Gives (.int .i64 v) w) := by rw [← h]; exact one_any x P w hx hs
/-- The result's block. -/
def RS (w wr : World) : Prop := (wr.cell? ⟨w.heap.size, 0, none⟩ = some (.int .i64 0) ∧ wr.frozen? ⟨w.heap.size, 0, none⟩ = false) ∧ Hid (Below w.heap.size w wr) ∧ w.heap.size + 1 ≤ wr.heap.size
theorem RS.on {w wr w2 : World} (h : RS w wr) (hb : Below wr.heap.size wr w2) : RS w w2 := by
  obtain ⟨⟨h1, h2⟩, h3, h4⟩ := h
  exact ⟨⟨(hb.cell (p := ⟨w.heap.size, 0, none⟩) (show w.heap.size < wr.heap.size by omega)).trans h1, (hb.frozen (p := ⟨w.heap.size, 0, none⟩) (show w.heap.size < wr.heap.size by omega)).trans h2⟩, Lib.hid (h3.out.trans (hb.mono (by omega))), Nat.le_trans h4 hb.size⟩
theorem RS.new {w : World} : RS w (w.alloc (.cells #[.int .i64 0] 25)) := ⟨cell_new w (.int .i64 0) 25, Lib.hid (by (repeat (first | (with_reducible exact Below.refl _ _) | (with_reducible assumption) | (with_reducible apply bl_alloc) | (with_reducible apply bl_drewN) | (with_reducible apply bl_drew) | (with_reducible refine bl_set ?_ (by first | (simp; done) | (simp; omega)) _) | (with_reducible refine bl_call ?_ (by assumption))))), by simp⟩
set_option maxRecDepth 100000 in
theorem check_any (sl : List St) (p : Option Addr) (m c : Nat) (w : World) (h : LIn w sl p m) (hs : SzL sl) : Calls Tryz.prog 6 #[.slice p m c] w (Gives (.int .i64 (chkL sl)) w) := by
  by_cases h6 : 200 < cnL sl
  · have HM := Lib.hid (fun W hi => more_gives (decide_eq_true h6) p m c W hi hs)
    have HH := Lib.hid h
    rw [show chkL sl = 6 by unfold chkL; rw [if_pos h6]]
    clear h hs h6
    go_enter Tryz.func6, Tryz.ntmps6
    go_wp2_with fail
    refine (HM.out _ (HH.out.on (by (repeat (first | (with_reducible exact Below.refl _ _) | (with_reducible assumption) | (with_reducible apply bl_alloc) | (with_reducible apply bl_drewN) | (with_reducible apply bl_drew) | (with_reducible refine bl_set ?_ (by first | (simp; done) | (simp; omega)) _) | (with_reducible refine bl_call ?_ (by assumption))))))).mono ?_
    rintro e w1 ⟨rfl, hb1⟩
    have HST := Lib.hid (RS.new.on hb1)
    have hr := HST.out.1.1
    have hf := HST.out.1.2
    clear hb1
    go_wp2_with fail
    (try simp only [Exit.inBlock, Exit.then])
    have HBB := HST.out.2.1.out
    have e1 : (w1.setCell ⟨w.heap.size, 0, none⟩ (.int .i64 6)).cell? ⟨w.heap.size, 0, none⟩ = some (.int .i64 6) := World.cell?_setCell_same' _ _ _ (by rw [hr]; rfl)
    exact bodyPost_ret (v := .int .i64 6) (by simp [results, Tryz.f6, go_sem, e1]) rfl ⟨rfl, below_set HBB (by omega) _⟩
  have HM := Lib.hid (fun W hi => more_gives (decide_eq_false h6) p m c W hi hs)
  have HD := Lib.hid (fun W hi => depth_gives (sl := sl) rfl p m c W hi (by omega))
  by_cases h12 : 12 < dpL sl
  · have HH := Lib.hid h
    rw [show chkL sl = 11 by unfold chkL; rw [if_neg h6, if_pos h12]]
    obtain ⟨D, hD⟩ : ∃ D, dpL sl = D := ⟨_, rfl⟩
    rw [hD] at HD h12
    have d1 : (12 : Int) < (D : Int) := by omega
    have d2 : decide ((12 : Int) < (D : Int)) = true := decide_eq_true d1
    clear h hs h6 hD h12
    go_enter Tryz.func6, Tryz.ntmps6
    go_wp2_with fail
    refine (HM.out _ (HH.out.on (by (repeat (first | (with_reducible exact Below.refl _ _) | (with_reducible assumption) | (with_reducible apply bl_alloc) | (with_reducible apply bl_drewN) | (with_reducible apply bl_drew) | (with_reducible refine bl_set ?_ (by first | (simp; done) | (simp; omega)) _) | (with_reducible refine bl_call ?_ (by assumption))))))).mono ?_
    rintro e w1 ⟨rfl, hb1⟩
    have HST := Lib.hid (RS.new.on hb1)
    clear hb1
    go_wp2_with fail
    refine (HD.out _ (HH.out.on HST.out.2.1.out)).mono ?_
    rintro e w2 ⟨rfl, hb2⟩
    have HST2 := Lib.hid (HST.out.on hb2)
    have hr := HST2.out.1.1
    have hf := HST2.out.1.2
    clear hb2
    go_wp2_with fail
    (try simp only [Exit.inBlock, Exit.then])
    have HBB := HST2.out.2.1.out
    have e1 : (w2.setCell ⟨w.heap.size, 0, none⟩ (.int .i64 11)).cell? ⟨w.heap.size, 0, none⟩ = some (.int .i64 11) := World.cell?_setCell_same' _ _ _ (by rw [hr]; rfl)
    exact bodyPost_ret (v := .int .i64 11) (by simp [results, Tryz.f6, go_sem, e1]) rfl ⟨rfl, below_set HBB (by omega) _⟩
  have HH := Lib.hid h
  have HS := Lib.hid hs
  rw [show chkL sl = badS (ordL sl) by unfold chkL; rw [if_neg h6, if_neg h12]]
  obtain ⟨D, hD⟩ : ∃ D, dpL sl = D := ⟨_, rfl⟩
  rw [hD] at HD h12
  have d1 : (D : Int) ≤ 12 := by omega
  have d2 : decide ((12 : Int) < (D : Int)) = false := decide_eq_false (by omega)
  clear h hs h6 hD h12
  obtain ⟨n21, hn21⟩ : ∃ n : Nat, 21 = n := ⟨_, rfl⟩
  have hsz : ∀ w, (sizeOf 39).run Tryz.prog w = .ok n21 w := fun w => by rw [Tryz.sizeOf39, hn21]
  have HN21 := Lib.hid hn21
  clear hn21
  refine (callsIn_wide (n := 3)).1 ?_
  refine callsIn_of_wp_marks Tryz.func6 rfl trivial ?_ rfl
  simp only [Tryz.ntmps6, List.size_toArray, List.length_cons, List.length_nil, Nat.reduceAdd, Nat.reduceSub, Array.replicate_succ, Array.replicate_zero, List.push_toArray, List.append_toArray, List.nil_append, List.cons_append]
  gi_wp2_with fail
  refine ⟨trivial, ?_⟩
  refine (callsIn_wide.2 (HM.out _ (HH.out.on (by (repeat (first | (with_reducible exact Below.refl _ _) | (with_reducible assumption) | (with_reducible apply bl_alloc) | (with_reducible apply bl_drewN) | (with_reducible apply bl_drew) | (with_reducible refine bl_set ?_ (by first | (simp; done) | (simp; omega)) _) | (with_reducible refine bl_call ?_ (by assumption)))))))).mono ?_
  rintro e w1 ⟨rfl, hb1⟩
  have HST := Lib.hid (RS.new.on hb1)
  clear hb1
  gi_wp2_with fail
  refine ⟨trivial, ?_⟩
  refine (callsIn_wide.2 (HD.out _ (HH.out.on HST.out.2.1.out))).mono ?_
  rintro e w2 ⟨rfl, hb2⟩
  have HST2 := Lib.hid (HST.out.on hb2)
  clear hb2
  gi_wp2_with fail
  refine ⟨trivial, ?_⟩
  refine (statements_in Fence.wide _ trivial rfl _ _ _ _).mono ?_
  rintro e w3 ⟨rfl, hw3⟩
  have hb3 : Below w2.heap.size w2 w3 := by rw [hw3]; (repeat (first | (with_reducible exact Below.refl _ _) | (with_reducible assumption) | (with_reducible apply bl_alloc) | (with_reducible apply bl_drewN) | (with_reducible apply bl_drew) | (with_reducible refine bl_set ?_ (by first | (simp; done) | (simp; omega)) _) | (with_reducible refine bl_call ?_ (by assumption))))
  have hx3 := cell_new w2 (.slice p m c) 22
  rw [← hw3] at hx3
  have hz3 : w3.heap.size = w2.heap.size + 1 := by rw [hw3]; simp
  have HST3 := HST2.out.on hb3
  clear hw3
  gi_wp2
  have hs2 := HST2.out.2.2
  have HBB := HST3.2.1
  refine wpIn_rangeFunc_ownH rfl (by omega) (gf := 26) (lb := #[.pointer (some ⟨w2.heap.size, 0, none⟩)]) rfl trivial (enters_of Tryz.func26 (by kernel_rfl) rfl)
    (stmts_stops Fence.wide rfl trivial trivial rfl _ w2.heap.size w.heap.size w3.heap.size w (Nat.le_refl _) sl p m c w3 hx3.1 HH.out HS.out HBB.out (Nat.le_refl _)) (fun h k => h.trans k) (Kp.put (by omega)) (Below.refl _ _) (fun _ => rfl)
    (fun ps W => (W.cell? ⟨w.heap.size, 0, none⟩ = some (.int .i64 0) ∧ W.frozen? ⟨w.heap.size, 0, none⟩ = false ∧ badS (ps.map Nd.x) = 0 ∧ w3.heap.size ≤ W.heap.size) ∧ Below w.heap.size w W)
    (fun c' ps W => (c' = .ret ∧ ∃ v : Int, ¬ v = 0 ∧ badS (ps.map Nd.x) = v ∧ W.cell? ⟨w.heap.size, 0, none⟩ = some (.int .i64 v)) ∧ Below w.heap.size w W)
    (OwnFrom.and (Own.from (fun s A B row hs hg hr => ⟨cell_kept hs.1 hg hr, (frozen_kept hs.1 hg hr).trans hs.2.1, hs.2.2.1, Nat.le_trans hs.2.2.2 hg.size⟩) _) (ownFrom_below (Nat.le_refl _) (by omega)))
    (fun c' => OwnFrom.and (Own.from (fun s A B row hs hg hr => ⟨hs.1, let ⟨v, h1, h2, h3⟩ := hs.2; ⟨v, h1, h2, cell_kept h3 hg hr⟩⟩) _) (ownFrom_below (Nat.le_refl _) (by omega)))
    ⟨⟨HST3.1.1, HST3.1.2, rfl, Nat.le_refl _⟩, HBB.out⟩
    (fun x a' W => ∃ Bx, w3.heap.size ≤ Bx ∧ box21 W Bx x.x x.P ∧ a' = { tmps := #[.slice p m c, undef, .pointer (some ⟨w.heap.size, 0, none⟩), .pointer (some ⟨Bx, 0, none⟩), undef, .slice p m c, .bool false, .slice p m c, .int .i64 (D : Nat), .bool false, .slice p m c, .func (.func 26) #[] #[.pointer (some ⟨w2.heap.size, 0, none⟩)], .agg (cs x.x x.P), undef, undef, undef, undef, undef], defers := [] })
    (fun x a' _ A B row hs hg hr => let ⟨Bx, h1, h2, h3⟩ := hs; ⟨Bx, h1, box21.own (β := Unit) _ _ _ () A B row h2 hg (fun r e => (hr r e).2), h3⟩) ?assign ?body ?done ?stop
  case assign =>
    intro l ps x W K hi hK
    simp only [encN]
    have hcsz : (cs x.x x.P).size = n21 := HN21.out
    have st1 := st_store x.x x.P
    have st2 := st_storeVar x.x x.P
    have st3 := st_storeAt x.x x.P
    gi_wp2
    have hbW : Below W.heap.size W (W.alloc (.cells (cs x.x x.P) 39)) := by (repeat (first | (with_reducible exact Below.refl _ _) | (with_reducible assumption) | (with_reducible apply bl_alloc) | (with_reducible apply bl_drewN) | (with_reducible apply bl_drew) | (with_reducible refine bl_set ?_ (by first | (simp; done) | (simp; omega)) _) | (with_reducible refine bl_call ?_ (by assumption))))
    have hle := hi.2.size
    refine hK _ _ (keeps_below hbW) (Kp.of_below hbW hle) ?_ ⟨W.heap.size, ?_, box_new21, ?_⟩
    · exact ⟨⟨cell_alloc_on _ hi.1.1, frozen_alloc_on _ hi.1.1 hi.1.2.1, hi.1.2.2.1, Nat.le_trans hi.1.2.2.2 hbW.size⟩, hi.2.trans (hbW.mono hle)⟩
    · exact hi.1.2.2.2
    · simp [go_sem]
  case body =>
    rintro l ps x a' W hl ⟨r, hr⟩ ⟨⟨h2, h3, h4, h5⟩, hB⟩ ⟨Bx, hBx, hbx, rfl⟩ hlt
    obtain ⟨v, hv⟩ : ∃ v, oneE x.x = v := ⟨_, rfl⟩
    have HN := Lib.hid (one_gives hv x.P W (x.hi.below hB).all x.hs)
    have HSN := Lib.hid (show badS ((ps ++ [x]).map Nd.x) = v by rw [List.map_append]; exact (badS_snoc h4).trans hv)
    have H5 := Lib.hid h5
    have HBW := Lib.hid hB
    have ld1 := hbx.cell.ldN HN21.out
    clear hv h4 h5 hB hlt hr hbx
    gi_wp2_with fail
    refine ⟨trivial, ?_⟩
    refine (CallsIn.inRound l (callsIn_wide.2 HN.out)).mono ?_
    rintro e w4 ⟨rfl, hb4⟩
    have g2 := (hb4.cell (p := ⟨w.heap.size, 0, none⟩) (block_lt h2)).trans h2
    have g3 := (hb4.frozen (p := ⟨w.heap.size, 0, none⟩) (block_lt h2)).trans h3
    have HB4 := Lib.hid hb4
    clear hb4 h2 h3 ld1
    by_cases hv0 : v = 0
    · subst hv0
      gi_wp2
      exact ⟨keeps_below HB4.out, Kp.of_below HB4.out HBW.out.size, ⟨g2, g3, HSN.out, Nat.le_trans H5.out HB4.out.size⟩, HBW.out.trans (HB4.out.mono HBW.out.size)⟩
    · have t0 : (v == 0) = false := beq_eq_false_iff_ne.2 hv0
      have t1 : (v != 0) = true := bne_iff_ne.2 hv0
      gi_wp2
      refine ⟨(keeps_below HB4.out).trans ((KeepsOthers.setCell _ _ _).from _), ⟨rfl, v, hv0, HSN.out, ?_⟩, below_set (HBW.out.trans (HB4.out.mono HBW.out.size)) (by omega) _⟩
      exact World.cell?_setCell_same' _ _ _ (by rw [g2]; rfl)
  case done =>
    rintro D' ys W hD hys ⟨⟨h2, h3, h4, h5⟩, hB⟩ hK
    have HV := Lib.hid (show badS (ordL sl) = 0 by rw [← hys]; exact h4)
    gi_wp2
    have hK' := (KeepsOthers.setCell W ⟨w.heap.size, 0, none⟩ (.int .i64 0)).same D' _ hK rfl
    refine ⟨by simp, .inl ⟨_, _, rfl, run_takeDeferred hK', ?_⟩⟩
    have hc5 := cell_kept (World.cell?_setCell_same' W ⟨w.heap.size, 0, none⟩ (.int .i64 0) (by rw [h2]; rfl)) (grownBy_putObj' _ D' (.deferred none)) (fun r e => by cases e; exact ⟨_, hK', rfl⟩)
    refine ⟨.int .i64 0, ?_, by rw [HV.out], (below_set hB (by omega) _).trans (belowK_b (w := w) (Nat.le_refl _) _ D' _ _ (by omega) hK' rfl rfl)⟩
    simp [results, Tryz.f6, go_sem, hc5]
  case stop =>
    rintro D' c' ps W hD hps ⟨⟨rfl, v, hv0, hbv, hr⟩, hB⟩ hK
    have HV := Lib.hid (show badS (ordL sl) = v by
      obtain ⟨r, hr⟩ := hps
      rw [← hr, badS_app, hbv, orE_no hv0])
    gi_wp2
    refine ⟨by simp, .inl ⟨_, _, rfl, run_takeDeferred hK, ?_⟩⟩
    have hc5 := cell_kept hr (grownBy_putObj' _ D' (.deferred none)) (fun r e => by cases e; exact ⟨_, hK, rfl⟩)
    refine ⟨.int .i64 v, ?_, by rw [HV.out], hB.trans (belowK_b (w := w) (Nat.le_refl _) W D' _ _ (by omega) hK rfl rfl)⟩
    simp [results, Tryz.f6, go_sem, hc5]
end Go.Proofs.YtonlmnlpofgccaaGreat.Sm
