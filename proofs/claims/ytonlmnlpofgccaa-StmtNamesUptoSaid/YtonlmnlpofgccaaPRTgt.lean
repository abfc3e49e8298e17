/-
  The contract of the reference's Targets.
-/
import Derived.Test.YtonlmnlpofgccaaPSmt
namespace Go.Proofs.Ytonlmnlpofgccaa.Sm
open Go.RowKit
open Go.Proofs.Ytonlmnlpofgccaa.Na (bs bs_inj chk)
open Go.Proofs.Ytonlmnlpofgccaa.Ex (Ex Nm Kin In Sz Lo Gives bl_alloc bl_drewN bl_drew bl_set bl_call block_lt Txs tb bs_tb tb_bs eq_yes eq_no take_one)
set_option maxHeartbeats 2000000
set_option linter.unusedVariables false
theorem tgs_new (w : World) (f nm : ByteArray) : Tgs (w.alloc (.cells #[.string f, .string nm] 51)).drew (some ⟨w.heap.size, 0, none⟩) 1 [(bs f, bs nm)] := by
  refine ⟨rfl, by omega, .inr ⟨w.heap.size, 0, rfl, ?_, Lib.hid fun i hi => ?_⟩⟩
  · show w.heap.size < (w.alloc _).heap.size
    simp
  · have hi : i < 1 := hi
    obtain rfl : i = 0 := by omega
    have h1 := cell_two_new w (.string f) (.string nm) 51 0 _ rfl
    have h2 := cell_two_new w (.string f) (.string nm) 51 1 _ rfl
    rw [Ex.add_off] at h1 h2
    exact ⟨h1, h2⟩
theorem tgs_new' (w : World) (f nm : ByteArray) : Tgs (w.alloc (.cells #[.string f, .string nm] 51)) (some ⟨w.heap.size, 0, none⟩) 1 [(bs f, bs nm)] := tgs_new w f nm
abbrev tgL (l : List St) : List (Nm × Nm) := tgts (ordL l)
theorem tgL_take {l : List St} {k : Nat} {x : St} (h : l[k]? = some x) : tgL (l.take (k + 1)) = tgL (l.take k) ++ tgt x ++ tgL x.bo ++ tgL x.el := by
  unfold tgL
  rw [ordL_take h, tgts_app, tgts_ord]
  simp only [List.append_assoc]
theorem tgL_len (l : List St) : (tgL l).length ≤ cnL l := by have := tgts_len (ordL l); rw [ordL_len] at this; exact this
/-- What is known of the cells of a statement in a list. -/
def Cls (b o k : Nat) (x : St) (P : Pl) (W : World) : Prop := W.cell? ⟨b, o + k * 21, none⟩ = some (.int .i64 x.o) ∧ W.cell? ⟨b, o + k * 21 + 1, none⟩ = some (.string x.nm) ∧ W.cell? ⟨b, o + k * 21 + 2, none⟩ = some (.string x.f) ∧ W.cell? ⟨b, o + k * 21 + 19, none⟩ = some (.slice P.bp P.bm P.bc) ∧ W.cell? ⟨b, o + k * 21 + 20, none⟩ = some (.slice P.lp P.lm P.lc)
theorem cls_of {w : World} {b o k : Nat} {x : St} {P : Pl} (h : cell21 w b (o + k * 21) x P) : Cls b o k x P w := ⟨h 0 _ rfl, h 1 _ rfl, h 2 _ rfl, h 19 _ rfl, h 20 _ rfl⟩
set_option maxRecDepth 100000 in
theorem rtargets_any (sl : List St) : ∀ (p : Option Addr) (m c : Nat) (w : World), LIn w sl p m → cnL sl ≤ 900000 → Calls Try.prog 12 #[.slice p m c] w (GivesG (tgL sl) w) := by
  induction sl using lst_ind with
  | h sl ih =>
    intro p m c w h hc
    have HH := Lib.hid h
    have HI := Lib.hid ih
    obtain ⟨hl, hm⟩ := h.len
    have HL := Lib.hid hl
    have HC := Lib.hid hc
    clear ih h hl hc
    go_enter Try.func12, Try.ntmps12
    go_wp2_with fail
    go_loopw [3, 4] (fun d i wr => ∃ k : Nat, k ≤ m ∧ i = .int .i64 (k : Nat) ∧ Hid (OwnG w.heap.size wr d (tgL (sl.take k))) ∧ Hid (Below w.heap.size w wr)) (fun d i _ => m - (intOf i).toNat)
    case atStart => exact ⟨0, Nat.zero_le _, rfl, Lib.hid (World.ownsRow_nil _ _ _ _), Lib.hid (by (repeat (first | (with_reducible exact Below.refl _ _) | (with_reducible assumption) | (with_reducible apply bl_alloc) | (with_reducible apply bl_drewN) | (with_reducible apply bl_drew) | (with_reducible refine bl_set ?_ (by first | (simp; done) | (simp; omega)) _) | (with_reducible refine bl_call ?_ (by assumption)))))⟩
    case round =>
      obtain ⟨k, hk, rfl, HO, HW⟩ := hrel
      have k0 : (0 : Int) ≤ (k : Int) := by omega
      rcases Nat.lt_or_ge k m with h | h
      · have k1 : (k : Int) < (m : Int) := by omega
        obtain ⟨b, o', rfl, -, hG, hcell⟩ := HH.out.rows (by omega)
        have hkl : k < sl.length := by rw [HL.out]; omega
        obtain ⟨P, hc21, hsin⟩ := hcell.out k hkl
        have hmem : sl[k] ∈ sl := List.getElem_mem hkl
        have hgx : sl[k]? = some sl[k] := List.getElem?_eq_getElem hkl
        obtain ⟨x, hx⟩ : ∃ x, sl[k] = x := ⟨_, rfl⟩
        rw [hx] at hc21 hsin hmem hgx
        have HSIN := Lib.hid hsin
        have HX := Lib.hid hgx
        have HM := Lib.hid hmem
        have FC := Lib.hid (fun W (hb : Below w.heap.size w W) => cls_of (hc21.on hb hG))
        obtain ⟨i1, i2⟩ := HI.out x HM.out
        have hq := cnL_take HX.out
        have hq2 := cnL_le sl (k + 1)
        have hq3 := cn_one x
        have hcc := HC.out
        have l0 := tgL_len (sl.take k)
        have l1 := tgL_len x.bo
        have l2 := tgL_len x.el
        have hsum : (tgL (sl.take k)).length + (tgL x.bo).length + (tgL x.el).length ≤ 900000 := by omega
        have F1 := Lib.hid (fun W hi => i1 P.bp P.bm P.bc W hi (by omega))
        have F2 := Lib.hid (fun W hi => i2 P.lp P.lm P.lc W hi (by omega))
        have HT0 := tgL_take HX.out
        have hbr : b < wr.heap.size := Nat.lt_of_lt_of_le hG HW.out.size
        obtain ⟨c0, cn1, cf2, cb, ce⟩ := FC.out wr HW.out
        clear hcell hc21 hsin hx hmem hgx hkl i1 i2 hq hq2 hq3 hcc l0 l1 l2 cb ce HI
        obtain ⟨T0, hT0⟩ : ∃ T, tgL (sl.take k) = T := ⟨_, rfl⟩
        obtain ⟨T1, hT1⟩ : ∃ T, tgL x.bo = T := ⟨_, rfl⟩
        obtain ⟨T2, hT2⟩ : ∃ T, tgL x.el = T := ⟨_, rfl⟩
        rw [hT0] at HO
        rw [hT1] at F1
        rw [hT2] at F2
        rw [hT0, hT1, hT2] at HT0 hsum
        clear hT0 hT1 hT2
        by_cases h13 : x.o = 13
        · rw [show tgt x = [(bs x.f, bs x.nm)] from if_pos h13] at HT0
          have HT := Lib.hid HT0
          rw [h13] at c0
          have FE := Lib.hid (fun W (hbW : Below w.heap.size w W) => And.intro (FC.out W hbW).2.1 (FC.out W hbW).2.2.1)
          obtain ⟨v3, w3, hrun3, hown3, hg3⟩ := appg_run (w := (wr.alloc (.cells #[.string x.f, .string x.nm] 51)).drew) (OwnG.below HO.out (show Below wr.heap.size wr _ by (repeat (first | (with_reducible exact Below.refl _ _) | (with_reducible assumption) | (with_reducible apply bl_alloc) | (with_reducible apply bl_drewN) | (with_reducible apply bl_drew) | (with_reducible refine bl_set ?_ (by first | (simp; done) | (simp; omega)) _) | (with_reducible refine bl_call ?_ (by assumption)))))) (tgs_new wr x.f x.nm) 1 (show w.heap.size ≤ (wr.alloc _).heap.size by have := HW.out.size; simp; omega) (by omega)
          have hbw3 : Below w.heap.size w w3 := grown_below (show Below w.heap.size w (wr.alloc (.cells #[.string x.f, .string x.nm] 51)).drew by have HBB := HW.out; (repeat (first | (with_reducible exact Below.refl _ _) | (with_reducible assumption) | (with_reducible apply bl_alloc) | (with_reducible apply bl_drewN) | (with_reducible apply bl_drew) | (with_reducible refine bl_set ?_ (by first | (simp; done) | (simp; omega)) _) | (with_reducible refine bl_call ?_ (by assumption))))) (Nat.le_refl _) (show w.heap.size ≤ (wr.alloc _).heap.size by have := HW.out.size; simp; omega) (OwnG.below HO.out (show Below wr.heap.size wr _ by (repeat (first | (with_reducible exact Below.refl _ _) | (with_reducible assumption) | (with_reducible apply bl_alloc) | (with_reducible apply bl_drewN) | (with_reducible apply bl_drew) | (with_reducible refine bl_set ?_ (by first | (simp; done) | (simp; omega)) _) | (with_reducible refine bl_call ?_ (by assumption)))))) hg3
          have HO3 := Lib.hid hown3
          have g0 := (FC.out w3 hbw3).1
          rw [h13] at g0
          have FB1 := (FC.out w3 hbw3).2.2.2.1
          clear HT0 h13 hg3 hown3
          go_wp2_with fail
          go_region_held3 (fun w' => w'.cell? ⟨b, o' + k * 21 + 1, none⟩ = some (.string x.nm) ∧ w'.cell? ⟨b, o' + k * 21 + 2, none⟩ = some (.string x.f)) (first | (refine FE.out _ ?_; have HBB := HW.out; (repeat (first | (with_reducible exact Below.refl _ _) | (with_reducible assumption) | (with_reducible apply bl_alloc) | (with_reducible apply bl_drewN) | (with_reducible apply bl_drew) | (with_reducible refine bl_set ?_ (by first | (simp; done) | (simp; omega)) _) | (with_reducible refine bl_call ?_ (by assumption)))); done) | (refine FE.out _ ?_; exact hbw3; done) | (go_keep; done)) (first | (rw [if_pos (by rfl)]; refine Lib.wp_append_run _ _ _ _ _ rfl _ _ rfl rfl _ _ hrun3 ?_))
          go_wp2_with fail
          clear g0
          clear FB1
          refine (F1.out _ (HSIN.out.bo.on (by have HBB := (hbw3); (repeat (first | (with_reducible exact Below.refl _ _) | (with_reducible assumption) | (with_reducible apply bl_alloc) | (with_reducible apply bl_drewN) | (with_reducible apply bl_drew) | (with_reducible refine bl_set ?_ (by first | (simp; done) | (simp; omega)) _) | (with_reducible refine bl_call ?_ (by assumption))))))).mono ?_
          rintro e w5 ⟨p5, n5, c5, rfl, ht5, hb5⟩
          obtain ⟨v6, w6, hrun6, hown6, hg6⟩ := appg_run (OwnG.below HO3.out hb5) ht5 c5 (Nat.le_trans (Below.size (hbw3)) hb5.size) (by have h1 := ht5.1; (repeat rw [List.length_append]); (try rw [List.length_singleton]); omega)
          have hbw6 : Below w.heap.size w w6 := grown_below (bl_call (hbw3) hb5) (Nat.le_refl _) (Nat.le_trans (Below.size (hbw3)) hb5.size) (OwnG.below HO3.out hb5) hg6
          clear hg6
          have FB2 := (FC.out w6 hbw6).2.2.2.2
          go_wp2_with (at_builtin; refine Lib.wpList_append_run _ rfl _ _ _ _ rfl _ _ rfl rfl _ _ hrun6 ?_)
          clear FB2 hrun6
          refine (F2.out _ (HSIN.out.el.on (by (repeat (first | (with_reducible exact Below.refl _ _) | (with_reducible assumption) | (with_reducible apply bl_alloc) | (with_reducible apply bl_drewN) | (with_reducible apply bl_drew) | (with_reducible refine bl_set ?_ (by first | (simp; done) | (simp; omega)) _) | (with_reducible refine bl_call ?_ (by assumption))))))).mono ?_
          rintro e w7 ⟨p7, n7, c7, rfl, ht7, hb7⟩
          obtain ⟨v8, w8, hrun8, hown8, hg8⟩ := appg_run (OwnG.below hown6 hb7) ht7 c7 (Nat.le_trans hbw6.size hb7.size) (by have h1 := ht7.1; (repeat rw [List.length_append]); (try rw [List.length_singleton]); omega)
          have hbw8 : Below w.heap.size w w8 := grown_below (bl_call hbw6 hb7) (Nat.le_refl _) (Nat.le_trans hbw6.size hb7.size) (OwnG.below hown6 hb7) hg8
          have HO8 := Lib.hid hown8
          have HB8 := Lib.hid hbw8
          clear hg8 hown8 hown6
          go_wp2_with (at_builtin; refine Lib.wpList_append_run _ rfl _ _ _ _ rfl _ _ rfl rfl _ _ hrun8 ?_)
          go_roundw
          case rel => exact ⟨k + 1, by omega, by go_num, by rw [HT.out]; exact HO8, HB8⟩
          case measure => simp [intOf]; omega
        by_cases h14 : x.o = 14
        · rw [show tgt x = [([], bs x.nm)] by unfold tgt; rw [if_neg h13, if_pos h14]] at HT0
          have HT := Lib.hid HT0
          have u13 := beq_eq_false_iff_ne.2 h13
          rw [h14] at c0 u13
          obtain ⟨v3, w3, hrun3, hown3, hg3⟩ := appg_run (w := (wr.alloc (.cells #[.string nE, .string x.nm] 51))) (OwnG.below HO.out (show Below wr.heap.size wr _ by (repeat (first | (with_reducible exact Below.refl _ _) | (with_reducible assumption) | (with_reducible apply bl_alloc) | (with_reducible apply bl_drewN) | (with_reducible apply bl_drew) | (with_reducible refine bl_set ?_ (by first | (simp; done) | (simp; omega)) _) | (with_reducible refine bl_call ?_ (by assumption)))))) (tgs_new' wr nE x.nm) 1 (show w.heap.size ≤ (wr.alloc _).heap.size by have := HW.out.size; simp; omega) (by omega)
          have hbw3 : Below w.heap.size w w3 := grown_below (show Below w.heap.size w (wr.alloc (.cells #[.string nE, .string x.nm] 51)) by have HBB := HW.out; (repeat (first | (with_reducible exact Below.refl _ _) | (with_reducible assumption) | (with_reducible apply bl_alloc) | (with_reducible apply bl_drewN) | (with_reducible apply bl_drew) | (with_reducible refine bl_set ?_ (by first | (simp; done) | (simp; omega)) _) | (with_reducible refine bl_call ?_ (by assumption))))) (Nat.le_refl _) (show w.heap.size ≤ (wr.alloc _).heap.size by have := HW.out.size; simp; omega) (OwnG.below HO.out (show Below wr.heap.size wr _ by (repeat (first | (with_reducible exact Below.refl _ _) | (with_reducible assumption) | (with_reducible apply bl_alloc) | (with_reducible apply bl_drewN) | (with_reducible apply bl_drew) | (with_reducible refine bl_set ?_ (by first | (simp; done) | (simp; omega)) _) | (with_reducible refine bl_call ?_ (by assumption)))))) hg3
          have HO3 := Lib.hid hown3
          clear HT0 h13 h14 hg3 hown3
          have FB1 := (FC.out w3 hbw3).2.2.2.1
          go_wp2_with (at_builtin; refine Lib.wpList_append_run _ rfl _ _ _ _ rfl _ _ rfl rfl _ _ hrun3 ?_)
          clear FB1
          refine (F1.out _ (HSIN.out.bo.on (by have HBB := (hbw3); (repeat (first | (with_reducible exact Below.refl _ _) | (with_reducible assumption) | (with_reducible apply bl_alloc) | (with_reducible apply bl_drewN) | (with_reducible apply bl_drew) | (with_reducible refine bl_set ?_ (by first | (simp; done) | (simp; omega)) _) | (with_reducible refine bl_call ?_ (by assumption))))))).mono ?_
          rintro e w5 ⟨p5, n5, c5, rfl, ht5, hb5⟩
          obtain ⟨v6, w6, hrun6, hown6, hg6⟩ := appg_run (OwnG.below HO3.out hb5) ht5 c5 (Nat.le_trans (Below.size (hbw3)) hb5.size) (by have h1 := ht5.1; (repeat rw [List.length_append]); (try rw [List.length_singleton]); omega)
          have hbw6 : Below w.heap.size w w6 := grown_below (bl_call (hbw3) hb5) (Nat.le_refl _) (Nat.le_trans (Below.size (hbw3)) hb5.size) (OwnG.below HO3.out hb5) hg6
          clear hg6
          have FB2 := (FC.out w6 hbw6).2.2.2.2
          go_wp2_with (at_builtin; refine Lib.wpList_append_run _ rfl _ _ _ _ rfl _ _ rfl rfl _ _ hrun6 ?_)
          clear FB2 hrun6
          refine (F2.out _ (HSIN.out.el.on (by (repeat (first | (with_reducible exact Below.refl _ _) | (with_reducible assumption) | (with_reducible apply bl_alloc) | (with_reducible apply bl_drewN) | (with_reducible apply bl_drew) | (with_reducible refine bl_set ?_ (by first | (simp; done) | (simp; omega)) _) | (with_reducible refine bl_call ?_ (by assumption))))))).mono ?_
          rintro e w7 ⟨p7, n7, c7, rfl, ht7, hb7⟩
          obtain ⟨v8, w8, hrun8, hown8, hg8⟩ := appg_run (OwnG.below hown6 hb7) ht7 c7 (Nat.le_trans hbw6.size hb7.size) (by have h1 := ht7.1; (repeat rw [List.length_append]); (try rw [List.length_singleton]); omega)
          have hbw8 : Below w.heap.size w w8 := grown_below (bl_call hbw6 hb7) (Nat.le_refl _) (Nat.le_trans hbw6.size hb7.size) (OwnG.below hown6 hb7) hg8
          have HO8 := Lib.hid hown8
          have HB8 := Lib.hid hbw8
          clear hg8 hown8 hown6
          go_wp2_with (at_builtin; refine Lib.wpList_append_run _ rfl _ _ _ _ rfl _ _ rfl rfl _ _ hrun8 ?_)
          go_roundw
          case rel => exact ⟨k + 1, by omega, by go_num, by rw [HT.out]; exact HO8, HB8⟩
          case measure => simp [intOf]; omega
        rw [show tgt x = [] by unfold tgt; rw [if_neg h13, if_neg h14], List.append_nil] at HT0
        have HT := Lib.hid HT0
        have u13 := beq_eq_false_iff_ne.2 h13
        have u14 := beq_eq_false_iff_ne.2 h14
        clear HT0 h13 h14
        have FB1 := (FC.out wr HW.out).2.2.2.1
        go_wp2_with fail
        clear FB1
        refine (F1.out _ (HSIN.out.bo.on (by have HBB := (HW.out); (repeat (first | (with_reducible exact Below.refl _ _) | (with_reducible assumption) | (with_reducible apply bl_alloc) | (with_reducible apply bl_drewN) | (with_reducible apply bl_drew) | (with_reducible refine bl_set ?_ (by first | (simp; done) | (simp; omega)) _) | (with_reducible refine bl_call ?_ (by assumption))))))).mono ?_
        rintro e w5 ⟨p5, n5, c5, rfl, ht5, hb5⟩
        obtain ⟨v6, w6, hrun6, hown6, hg6⟩ := appg_run (OwnG.below HO.out hb5) ht5 c5 (Nat.le_trans (Below.size (HW.out)) hb5.size) (by have h1 := ht5.1; (repeat rw [List.length_append]); (try rw [List.length_singleton]); omega)
        have hbw6 : Below w.heap.size w w6 := grown_below (bl_call (HW.out) hb5) (Nat.le_refl _) (Nat.le_trans (Below.size (HW.out)) hb5.size) (OwnG.below HO.out hb5) hg6
        clear hg6
        have FB2 := (FC.out w6 hbw6).2.2.2.2
        go_wp2_with (at_builtin; refine Lib.wpList_append_run _ rfl _ _ _ _ rfl _ _ rfl rfl _ _ hrun6 ?_)
        clear FB2 hrun6
        refine (F2.out _ (HSIN.out.el.on (by (repeat (first | (with_reducible exact Below.refl _ _) | (with_reducible assumption) | (with_reducible apply bl_alloc) | (with_reducible apply bl_drewN) | (with_reducible apply bl_drew) | (with_reducible refine bl_set ?_ (by first | (simp; done) | (simp; omega)) _) | (with_reducible refine bl_call ?_ (by assumption))))))).mono ?_
        rintro e w7 ⟨p7, n7, c7, rfl, ht7, hb7⟩
        obtain ⟨v8, w8, hrun8, hown8, hg8⟩ := appg_run (OwnG.below hown6 hb7) ht7 c7 (Nat.le_trans hbw6.size hb7.size) (by have h1 := ht7.1; (repeat rw [List.length_append]); (try rw [List.length_singleton]); omega)
        have hbw8 : Below w.heap.size w w8 := grown_below (bl_call hbw6 hb7) (Nat.le_refl _) (Nat.le_trans hbw6.size hb7.size) (OwnG.below hown6 hb7) hg8
        have HO8 := Lib.hid hown8
        have HB8 := Lib.hid hbw8
        clear hg8 hown8 hown6
        go_wp2_with (at_builtin; refine Lib.wpList_append_run _ rfl _ _ _ _ rfl _ _ rfl rfl _ _ hrun8 ?_)
        go_roundw
        case rel => exact ⟨k + 1, by omega, by go_num, by rw [HT.out]; exact HO8, HB8⟩
        case measure => simp [intOf]; omega
      · obtain rfl : m = k := by omega
        have HT : Hid (sl.take m = sl) := Lib.hid (List.take_of_length_le (by rw [HL.out]; exact Nat.le_refl _))
        rw [HT.out] at HO
        have hlt := tgL_len sl
        have hcc := HC.out
        obtain ⟨p5, c5, rfl, ht⟩ := own_tgs HO.out
        have HG := Lib.hid ht
        clear ht
        go_wp2_with fail
        go_ret
        exact ⟨_, _, _, rfl, HG.out, HW.out⟩
end Go.Proofs.Ytonlmnlpofgccaa.Sm
