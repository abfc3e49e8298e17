/-
  The contracts of the law's sameTargets and contains and of the reference's Same of texts.
-/
import Derived.Test.YtonlmnlpofgccaaPTgt
import Derived.Test.YtonlmnlpofgccaaPApp
import Derived.Sort.Walk0
import Derived.Test.YtonlmnlpofgccaaNmFind
namespace Go.Proofs.Ytonlmnlpofgccaa.Sm
open Go.RowKit
open Go.Proofs.Ytonlmnlpofgccaa.Na (bs bs_inj chk)
open Go.Proofs.Ytonlmnlpofgccaa.Ex (Ex Nm Kin In Sz Lo Gives bl_alloc bl_drewN bl_drew bl_set bl_call block_lt Txs tb bs_tb tb_bs eq_yes eq_no take_one)
set_option maxHeartbeats 2000000
set_option linter.unusedVariables false
theorem yes_eq {x y : Nm} (h : ((tb x).toList == (tb y).toList) = true) : x = y := by
  by_cases e : x = y
  · exact e
  · rw [eq_no (show ¬ bs (tb x) = bs (tb y) by rw [bs_tb, bs_tb]; exact e)] at h
    cases h
set_option maxRecDepth 100000 in
theorem r07same_any (l l2 : List Nm) (p : Option Addr) (m c : Nat) (p2 : Option Addr) (m2 c2 : Nat) (w : World) (h : Txs w p m l) (h2 : Txs w p2 m2 l2) : Calls Try.prog 13 #[.slice p m c, .slice p2 m2 c2] w (Gives (.bool (decide (l = l2))) w) := by
  obtain ⟨hl, hm, hh⟩ := h
  obtain ⟨hl2, hm2, hh2⟩ := h2
  have HL := Lib.hid hl
  have HL2 := Lib.hid hl2
  by_cases hmm : m = m2
  · subst hmm
    have HH := Lib.hid hh
    have HH2 := Lib.hid hh2
    clear hh hh2 hl hl2
    go_enter Try.func13, Try.ntmps13
    go_wp2_with fail
    go_loopw [5] (fun i wr => ∃ k : Nat, k ≤ m ∧ Hid (l.take k = l2.take k) ∧ i = .int .i64 (k : Nat) ∧ Hid (Below w.heap.size w wr)) (fun i _ => m - (intOf i).toNat)
    case atStart => exact ⟨0, Nat.zero_le _, Lib.hid rfl, rfl, Lib.hid (by (repeat (first | (with_reducible exact Below.refl _ _) | (with_reducible assumption) | (with_reducible apply bl_alloc) | (with_reducible apply bl_drewN) | (with_reducible apply bl_drew) | (with_reducible refine bl_set ?_ (by first | (simp; done) | (simp; omega)) _) | (with_reducible refine bl_call ?_ (by assumption)))))⟩
    case round =>
      obtain ⟨k, hk, HT0, rfl, HW⟩ := hrel
      have k0 : (0 : Int) ≤ (k : Int) := by omega
      rcases Nat.lt_or_ge k m with h | h
      · have k1 : (k : Int) < (m : Int) := by omega
        obtain ⟨b, o, rfl, hb, hc⟩ := HH.out.resolve_left (by omega)
        obtain ⟨b', o', rfl, hb', hc'⟩ := HH2.out.resolve_left (by omega)
        have q1 : k < l.length := by rw [HL.out]; exact h
        have q2 : k < l2.length := by rw [HL2.out]; exact h
        have e1 := (HW.out.cell (p := ⟨b, o + k, none⟩) hb).trans (hc.out k (by rw [HL.out]; exact h))
        have e2 := (HW.out.cell (p := ⟨b', o' + k, none⟩) hb').trans (hc'.out k (by rw [HL2.out]; exact h))
        have g1 : l[k]? = some l[k] := List.getElem?_eq_getElem (by rw [HL.out]; exact h)
        have g2 : l2[k]? = some l2[k] := List.getElem?_eq_getElem (by rw [HL2.out]; exact h)
        obtain ⟨x, hx⟩ : ∃ x, l[k] = x := ⟨_, rfl⟩
        obtain ⟨y, hy⟩ : ∃ y, l2[k] = y := ⟨_, rfl⟩
        rw [hx] at e1 g1
        rw [hy] at e2 g2
        have G1 := Lib.hid g1
        have G2 := Lib.hid g2
        clear hx hy hc hc' g1 g2 q1 q2
        by_cases hxy : x = y
        · subst hxy
          have t1 : ((tb x).toList == (tb x).toList) = true := eq_yes rfl
          have HR : Hid (l.take (k + 1) = l2.take (k + 1)) := Lib.hid (by rw [take_one G1.out, take_one G2.out, HT0.out])
          go_wp2_with fail
          go_quiet (fail)
          go_wp2_with fail
          go_roundw
          case rel => exact ⟨k + 1, by omega, HR, by go_num, Lib.hid (by have HBB := HW.out; (repeat (first | (with_reducible exact Below.refl _ _) | (with_reducible assumption) | (with_reducible apply bl_alloc) | (with_reducible apply bl_drewN) | (with_reducible apply bl_drew) | (with_reducible refine bl_set ?_ (by first | (simp; done) | (simp; omega)) _) | (with_reducible refine bl_call ?_ (by assumption)))))⟩
          case measure => simp [intOf]; omega
        · have t1 : ((tb x).toList == (tb y).toList) = false := eq_no (by rw [bs_tb, bs_tb]; exact hxy)
          have HR : Hid (decide (l = l2) = false) := Lib.hid (decide_eq_false fun e => by
            subst e
            have := G1.out.symm.trans G2.out
            cases this
            exact hxy rfl)
          clear hxy
          go_wp2_with fail
          go_quiet (fail)
          go_wp2_with fail
          go_ret
          exact ⟨by rw [HR.out]; rfl, (by have HBB := HW.out; (repeat (first | (with_reducible exact Below.refl _ _) | (with_reducible assumption) | (with_reducible apply bl_alloc) | (with_reducible apply bl_drewN) | (with_reducible apply bl_drew) | (with_reducible refine bl_set ?_ (by first | (simp; done) | (simp; omega)) _) | (with_reducible refine bl_call ?_ (by assumption)))))⟩
      · obtain rfl : m = k := by omega
        have HR : Hid (decide (l = l2) = true) := Lib.hid (decide_eq_true (by
          have h1 := HT0.out
          rwa [List.take_of_length_le (by rw [HL.out]; exact Nat.le_refl _), List.take_of_length_le (by rw [HL2.out]; exact Nat.le_refl _)] at h1))
        go_wp2_with fail
        go_ret
        exact ⟨by rw [HR.out]; rfl, HW.out⟩
  · rw [decide_eq_false (fun e => hmm (by rw [← hl, ← hl2, e]))]
    have t1 : ((m : Int) == (m2 : Int)) = false := beq_eq_false_iff_ne.2 (by omega)
    have t2 : ((m : Int) != (m2 : Int)) = true := bne_iff_ne.2 (by omega)
    clear hmm hl hl2 hh hh2
    go_enter Try.func13, Try.ntmps13
    go_wp2_with fail
    go_ret
    exact ⟨rfl, by (repeat (first | (with_reducible exact Below.refl _ _) | (with_reducible assumption) | (with_reducible apply bl_alloc) | (with_reducible apply bl_drewN) | (with_reducible apply bl_drew) | (with_reducible refine bl_set ?_ (by first | (simp; done) | (simp; omega)) _) | (with_reducible refine bl_call ?_ (by assumption))))⟩
set_option maxRecDepth 100000 in
theorem samet_any (l l2 : List (Nm × Nm)) (p : Option Addr) (m c : Nat) (p2 : Option Addr) (m2 c2 : Nat) (w : World) (h : Tgs w p m l) (h2 : Tgs w p2 m2 l2) : Calls Try.prog 10 #[.slice p m c, .slice p2 m2 c2] w (Gives (.bool (decide (l = l2))) w) := by
  obtain ⟨hl, hm, hh⟩ := h
  obtain ⟨hl2, hm2, hh2⟩ := h2
  have HL := Lib.hid hl
  have HL2 := Lib.hid hl2
  by_cases hmm : m = m2
  · subst hmm
    have HH := Lib.hid hh
    have HH2 := Lib.hid hh2
    clear hh hh2 hl hl2
    go_enter Try.func10, Try.ntmps10
    go_wp2_with fail
    go_loopw [5] (fun i wr => ∃ k : Nat, k ≤ m ∧ Hid (l.take k = l2.take k) ∧ i = .int .i64 (k : Nat) ∧ Hid (Below w.heap.size w wr)) (fun i _ => m - (intOf i).toNat)
    case atStart => exact ⟨0, Nat.zero_le _, Lib.hid rfl, rfl, Lib.hid (by (repeat (first | (with_reducible exact Below.refl _ _) | (with_reducible assumption) | (with_reducible apply bl_alloc) | (with_reducible apply bl_drewN) | (with_reducible apply bl_drew) | (with_reducible refine bl_set ?_ (by first | (simp; done) | (simp; omega)) _) | (with_reducible refine bl_call ?_ (by assumption)))))⟩
    case round =>
      obtain ⟨k, hk, HT0, rfl, HW⟩ := hrel
      have k0 : (0 : Int) ≤ (k : Int) := by omega
      rcases Nat.lt_or_ge k m with h | h
      · have k1 : (k : Int) < (m : Int) := by omega
        obtain ⟨b, o, rfl, hb, hc⟩ := HH.out.resolve_left (by omega)
        obtain ⟨b', o', rfl, hb', hc'⟩ := HH2.out.resolve_left (by omega)
        have q1 : k < l.length := by rw [HL.out]; exact h
        have q2 : k < l2.length := by rw [HL2.out]; exact h
        have e1 := (HW.out.cell (p := ⟨b, o + k * 2, none⟩) hb).trans (hc.out k (by rw [HL.out]; exact h)).1
        have f1 := (HW.out.cell (p := ⟨b, o + k * 2 + 1, none⟩) hb).trans (hc.out k (by rw [HL.out]; exact h)).2
        have e2 := (HW.out.cell (p := ⟨b', o' + k * 2, none⟩) hb').trans (hc'.out k (by rw [HL2.out]; exact h)).1
        have f2 := (HW.out.cell (p := ⟨b', o' + k * 2 + 1, none⟩) hb').trans (hc'.out k (by rw [HL2.out]; exact h)).2
        have g1 : l[k]? = some l[k] := List.getElem?_eq_getElem (by rw [HL.out]; exact h)
        have g2 : l2[k]? = some l2[k] := List.getElem?_eq_getElem (by rw [HL2.out]; exact h)
        obtain ⟨x, hx⟩ : ∃ x, l[k] = x := ⟨_, rfl⟩
        obtain ⟨y, hy⟩ : ∃ y, l2[k] = y := ⟨_, rfl⟩
        rw [hx] at e1 f1 g1
        rw [hy] at e2 f2 g2
        have heq := eq2 (tb x.1) (tb x.2) (tb y.1) (tb y.2)
        have G1 := Lib.hid g1
        have G2 := Lib.hid g2
        clear hx hy hc hc' g1 g2 q1 q2
        by_cases hxy : x = y
        · subst hxy
          have t1 : ((tb x.1).toList == (tb x.1).toList) = true := eq_yes rfl
          have t2 : ((tb x.2).toList == (tb x.2).toList) = true := eq_yes rfl
          rw [t1, t2] at heq
          have HR : Hid (l.take (k + 1) = l2.take (k + 1)) := Lib.hid (by rw [take_one G1.out, take_one G2.out, HT0.out])
          go_wp2_with fail
          go_quiet (fail)
          go_wp2_with fail
          go_roundw
          case rel => exact ⟨k + 1, by omega, HR, by go_num, Lib.hid (by have HBB := HW.out; (repeat (first | (with_reducible exact Below.refl _ _) | (with_reducible assumption) | (with_reducible apply bl_alloc) | (with_reducible apply bl_drewN) | (with_reducible apply bl_drew) | (with_reducible refine bl_set ?_ (by first | (simp; done) | (simp; omega)) _) | (with_reducible refine bl_call ?_ (by assumption)))))⟩
          case measure => simp [intOf]; omega
        · have t1 : ((tb x.1).toList == (tb y.1).toList && (tb x.2).toList == (tb y.2).toList) = false := by
            cases h1 : ((tb x.1).toList == (tb y.1).toList) with
            | false => rfl
            | true =>
              cases h2 : ((tb x.2).toList == (tb y.2).toList) with
              | false => rfl
              | true =>
                exfalso
                apply hxy
                have g1 := yes_eq h1
                have g2 := yes_eq h2
                obtain ⟨x1, x2⟩ := x
                obtain ⟨y1, y2⟩ := y
                exact (congr (congrArg Prod.mk g1) g2)
          rw [t1] at heq
          have HR : Hid (decide (l = l2) = false) := Lib.hid (decide_eq_false fun e => by
            subst e
            have := G1.out.symm.trans G2.out
            cases this
            exact hxy rfl)
          clear hxy
          go_wp2_with fail
          go_quiet (fail)
          go_wp2_with fail
          go_ret
          exact ⟨by rw [HR.out]; rfl, (by have HBB := HW.out; (repeat (first | (with_reducible exact Below.refl _ _) | (with_reducible assumption) | (with_reducible apply bl_alloc) | (with_reducible apply bl_drewN) | (with_reducible apply bl_drew) | (with_reducible refine bl_set ?_ (by first | (simp; done) | (simp; omega)) _) | (with_reducible refine bl_call ?_ (by assumption)))))⟩
      · obtain rfl : m = k := by omega
        have HR : Hid (decide (l = l2) = true) := Lib.hid (decide_eq_true (by
          have h1 := HT0.out
          rwa [List.take_of_length_le (by rw [HL.out]; exact Nat.le_refl _), List.take_of_length_le (by rw [HL2.out]; exact Nat.le_refl _)] at h1))
        go_wp2_with fail
        go_ret
        exact ⟨by rw [HR.out]; rfl, HW.out⟩
  · rw [decide_eq_false (fun e => hmm (by rw [← hl, ← hl2, e]))]
    have t1 : ((m : Int) == (m2 : Int)) = false := beq_eq_false_iff_ne.2 (by omega)
    have t2 : ((m : Int) != (m2 : Int)) = true := bne_iff_ne.2 (by omega)
    clear hmm hl hl2 hh hh2
    go_enter Try.func10, Try.ntmps10
    go_wp2_with fail
    go_ret
    exact ⟨rfl, by (repeat (first | (with_reducible exact Below.refl _ _) | (with_reducible assumption) | (with_reducible apply bl_alloc) | (with_reducible apply bl_drewN) | (with_reducible apply bl_drew) | (with_reducible refine bl_set ?_ (by first | (simp; done) | (simp; omega)) _) | (with_reducible refine bl_call ?_ (by assumption))))⟩
theorem fst_mem (s : ByteArray) : ∀ L : List Nm, decide (0 ≤ Na.fst (L.map tb) s) = decide (bs s ∈ L)
  | [] => by simp [Na.fst]
  | x :: t => by
    have ih := fst_mem s t
    have h0 : (Na.fst ((x :: t).map tb) s) = if x = bs s then 0 else if Na.fst (t.map tb) s = -1 then -1 else Na.fst (t.map tb) s + 1 := rfl
    have hge : -1 ≤ Na.fst (t.map tb) s := Na.fst_ge s (t.map tb)
    rw [h0]
    by_cases h : x = bs s
    · rw [if_pos h, h]; simp
    · rw [if_neg h]
      have e : (bs s ∈ x :: t) ↔ bs s ∈ t := by
        rw [List.mem_cons]
        exact ⟨fun g => g.resolve_left fun g => h g.symm, .inr⟩
      rw [decide_eq_decide.2 e, ← ih]
      by_cases h2 : Na.fst (t.map tb) s = -1
      · rw [if_pos h2, h2]
      · rw [if_neg h2]
        exact decide_eq_decide.2 (by omega)
theorem txs_strs {w : World} {p : Option Addr} {n : Nat} {l : List Nm} (h : Txs w p n l) : Na.Strs w p n (l.map tb) := by
  obtain ⟨h1, h2, h3 | ⟨b, o, rfl, h4, h5⟩⟩ := h
  · exact ⟨by rw [List.length_map]; exact h1, h2, .inl h3⟩
  · refine ⟨by rw [List.length_map]; exact h1, h2, .inr ⟨b, o, rfl, h4, Lib.hid fun i hi => ?_⟩⟩
    have hi' : i < l.length := by simpa using hi
    rw [h5.out i hi']
    simp
theorem contains_any (l : List Nm) (s : ByteArray) (p : Option Addr) (n c : Nat) (w : World) (h : Txs w p n l) : Calls Try.prog 20 #[.slice p n c, .string s] w (fun e w' => e = .returned (.bool (decide (bs s ∈ l))) ∧ w' = w) := by
  have HF := Lib.hid (fun W (hb : Below w.heap.size w W) => Na.rfind_any p n c (l.map tb) s W (txs_strs (h.on hb)))
  have hm := fst_mem s l
  have HM := Lib.hid hm
  obtain ⟨f, hf⟩ : ∃ f, Na.fst (l.map tb) s = f := ⟨_, rfl⟩
  rw [hf] at HF HM
  clear h hm hf
  by_cases h0 : 0 ≤ f
  · have HR : Hid (decide (bs s ∈ l) = true) := Lib.hid (by rw [← HM.out]; exact decide_eq_true h0)
    clear HM
    go_enter Try.func20, Try.ntmps20
    go_wp2_with fail
    refine (HF.out _ (by (repeat (first | (with_reducible exact Below.refl _ _) | (with_reducible assumption) | (with_reducible apply bl_alloc) | (with_reducible apply bl_drewN) | (with_reducible apply bl_drew) | (with_reducible refine bl_set ?_ (by first | (simp; done) | (simp; omega)) _) | (with_reducible refine bl_call ?_ (by assumption)))))).mono ?_
    rintro e w1 ⟨rfl, rfl⟩
    go_wp2_with fail
    go_ret
    exact ⟨by first | (rw [HR.out]; rfl) | (simp [HR.out]; done) | (simp [HR.out]; omega), rfl⟩
  · have HR : Hid (decide (bs s ∈ l) = false) := Lib.hid (by rw [← HM.out]; exact decide_eq_false h0)
    have h1 : f < 0 := by omega
    clear HM h0
    go_enter Try.func20, Try.ntmps20
    go_wp2_with fail
    refine (HF.out _ (by (repeat (first | (with_reducible exact Below.refl _ _) | (with_reducible assumption) | (with_reducible apply bl_alloc) | (with_reducible apply bl_drewN) | (with_reducible apply bl_drew) | (with_reducible refine bl_set ?_ (by first | (simp; done) | (simp; omega)) _) | (with_reducible refine bl_call ?_ (by assumption)))))).mono ?_
    rintro e w1 ⟨rfl, rfl⟩
    go_wp2_with fail
    go_ret
    exact ⟨by first | (rw [HR.out]; rfl) | (simp [HR.out]; done) | (simp [HR.out]; omega), rfl⟩
theorem less_is (x y : ByteArray) : Op.bytesLess x.toList y.toList = decide (bs x < bs y) := by
  rw [Go.Proofs.bytesLess_eq, Lib.toList_data, Lib.toList_data]
theorem ds_one : ∀ (l : List (Nm × Nm)) (j : Nat) (hj : j < (ds l).length), ((ds l)[j]).oneCell' = true
  | [], j, hj => absurd hj (Nat.not_lt_zero _)
  | x :: t, 0, _ => rfl
  | x :: t, 1, _ => rfl
  | x :: t, j + 2, hj => by
    have := ds_one t j (by simpa [ds] using hj)
    simpa [ds] using this
/-- Pairs behind a row of pairs of the call's own. -/
theorem appg_run {w : World} {lo : Nat} {v : Value} {l0 : List (Nm × Nm)} (hown : OwnG lo w v l0) {l : List (Nm × Nm)} {p : Option Addr} {n : Nat} (h : Tgs w p n l) (c : Nat) (hb : lo ≤ w.heap.size) (hn : l0.length + n ≤ 3000000) :
    ∃ (v' : Value) (w' : World), (Builtin.append_ #[26, 26] 26 #[v, .slice p n c]).run Try.prog w = .ok v' w' ∧ OwnG lo w' v' (l0 ++ l) ∧ w.grownBy w' v.ownBlock := by
  obtain ⟨i0, hi0, hi1, hi2, hi3⟩ := parts_of' two_info
  obtain ⟨h1, h2, h3⟩ := h
  cases p with
  | none =>
    obtain rfl : n = 0 := by
      rcases h3 with h | ⟨b, o, h, -⟩
      · exact h
      · cases h
    obtain rfl := List.length_eq_zero_iff.1 h1
    exact ⟨v, w, append_none lo _ _ _ i0 2 Try.underlying26 hi0 v l0.length _ hown c, by rw [List.append_nil]; exact hown, ⟨rfl, rfl, rfl, Nat.le_refl _, fun _ _ _ => rfl⟩⟩
  | some a =>
    have hnews : ∀ j u, (ds l)[j]? = some u → w.cell? (a.add j) = some u := by
      intro j u hu
      have hj : j < l.length * 2 := by have := (List.getElem?_eq_some_iff.1 hu).1; rwa [ds_len] at this
      obtain ⟨b, o, he, hbl, hc⟩ := h3.resolve_left (by omega)
      cases he
      obtain ⟨i, hi2⟩ : ∃ i, j / 2 = i := ⟨_, rfl⟩
      have hil : i < l.length := by omega
      obtain ⟨g1, g2⟩ := ds_get hil
      obtain ⟨k1, k2⟩ := hc.out i hil
      rw [Ex.add_off]
      have hm : j = i * 2 ∨ j = i * 2 + 1 := by omega
      clear hi2 hj
      rcases hm with rfl | rfl
      · rw [g1] at hu
        cases hu
        exact k1
      · rw [g2] at hu
        cases hu
        exact k2
    obtain ⟨v', w', e1, e2, e3, -, -⟩ := run_append_own_at (P := Try.prog) w lo 26 26 51 i0 _ 2 32 Try.underlying26 hi0 hi1 hi2 hi3 rfl (by decide) v l0.length _ hown a n c (ds l) (by rw [ds_len, h1]) hnews
      (by
        intro u hu
        obtain ⟨j, hj, rfl⟩ := List.getElem_of_mem hu
        exact ds_one l j hj)
      (by unfold maxLen; omega) (by omega) hb
    refine ⟨v', w', e1, ?_, e3⟩
    show w'.ownsRow lo 51 2 v' (l0 ++ l).length _
    rw [List.length_append, h1, ds_app]
    exact e2
theorem OwnG.below {lo : Nat} {w w2 : World} {v : Value} {l : List (Nm × Nm)} (h : OwnG lo w v l) (hb : Below w.heap.size w w2) : OwnG lo w2 v l :=
  World.ownsRow.kept h (row := none) ⟨hb.os, hb.tape, hb.output, hb.size, fun k hk _ => hb.block k hk⟩ (by cases v.ownBlock <;> simp)
theorem grown_below {lo B : Nat} {e : TypeId} {size n : Nat} {xs : List Value} {a w w' : World} {v : Value} (hB : Below B a w) (hlo : B ≤ lo) (hw : lo ≤ w.heap.size) (ho : w.ownsRow lo e size v n xs) (hg : w.grownBy w' v.ownBlock) : Below B a w' := hB.grown hg (by omega) fun k hk => by have := (ho.lt k hk).1; omega
theorem ownG_none (w : World) : OwnG w.heap.size (w.alloc (.cells #[] 51)) (.slice (some ⟨w.heap.size, 0, none⟩) 0 0) [] := World.ownsRow_made w #[] 0 (Nat.le_refl _) (Nat.zero_le _) rfl
end Go.Proofs.Ytonlmnlpofgccaa.Sm
