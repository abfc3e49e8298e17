/-
  The contract of Targets; words for lists of pairs of texts.
-/
import Derived.Test.YtonlmnlpofgccaaGreatPCount
import Derived.Test.YtonlmnlpofgccaaGreatPUses
namespace Go.Proofs.YtonlmnlpofgccaaGreat.Sm
open Go.RowKit Go.Shelf Go.Sort
open Go.Proofs.YtonlmnlpofgccaaGreat.Na (bs bs_inj chk)
open Go.Proofs.YtonlmnlpofgccaaGreat.Ex (Ex Nm Kin In Sz Lo Gives bl_alloc bl_drewN bl_drew bl_set bl_call block_lt cell_of_box cell_new cell_alloc_on frozen_alloc_on set_other below_set keeps_below OwnT GivesT Txs tbs tb tb_bs bs_tb own_txs parts_of str_info srt srt_ins)
attribute [local go_sem] Oper.semAt_some
attribute [local go_sem] cs0 cs1 cs2 cs3 cs4 cs5 cs6 cs7 cs8 cs9 cs10 cs11 cs12 cs13 cs14 cs15 cs16 cs17 cs18 cs19 cs20
set_option maxHeartbeats 8000000
set_option linter.unusedVariables false
/-- The cells of a list of pairs of texts. -/
def ds : List (Nm × Nm) → List Value
  | [] => []
  | x :: t => .string (tb x.1) :: .string (tb x.2) :: ds t
theorem ds_app : ∀ a b : List (Nm × Nm), ds (a ++ b) = ds a ++ ds b
  | [], b => rfl
  | x :: t, b => by simp only [List.cons_append, ds, ds_app t b]
theorem ds_len : ∀ l : List (Nm × Nm), (ds l).length = l.length * 2
  | [] => rfl
  | x :: t => by simp only [ds, List.length_cons, ds_len t]; omega
theorem ds_get : ∀ {l : List (Nm × Nm)} {i : Nat}, (h : i < l.length) → (ds l)[i * 2]? = some (.string (tb l[i].1)) ∧ (ds l)[i * 2 + 1]? = some (.string (tb l[i].2))
  | x :: t, 0, _ => ⟨rfl, rfl⟩
  | x :: t, i + 1, h => by
    have := ds_get (l := t) (i := i) (by simpa using h)
    rw [show (i + 1) * 2 = i * 2 + 1 + 1 by omega]
    simpa [ds] using this
/-- A slice of pairs of texts that reads as l. -/
def Tgs (w : World) (p : Option Addr) (n : Nat) (l : List (Nm × Nm)) : Prop :=
  l.length = n ∧ n ≤ 9223372036854775807 ∧ (n = 0 ∨ ∃ b o, p = some ⟨b, o, none⟩ ∧ b < w.heap.size ∧ Hid (∀ i, (h : i < l.length) → w.cell? ⟨b, o + i * 2, none⟩ = some (.string (tb l[i].1)) ∧ w.cell? ⟨b, o + i * 2 + 1, none⟩ = some (.string (tb l[i].2))))
theorem Tgs.on {w w2 : World} {p : Option Addr} {n : Nat} {l : List (Nm × Nm)} (hb : Below w.heap.size w w2) (h : Tgs w p n l) : Tgs w2 p n l := by
  obtain ⟨h0, hl, h | ⟨b, o, rfl, h1, h2⟩⟩ := h
  · exact ⟨h0, hl, .inl h⟩
  · exact ⟨h0, hl, .inr ⟨b, o, rfl, Nat.lt_of_lt_of_le h1 hb.size, Lib.hid fun i hi => ⟨(hb.cell (p := ⟨b, o + i * 2, none⟩) h1).trans (h2.out i hi).1, (hb.cell (p := ⟨b, o + i * 2 + 1, none⟩) h1).trans (h2.out i hi).2⟩⟩⟩
theorem Tgs.nil {w : World} {p : Option Addr} : Tgs w p 0 [] := ⟨rfl, by omega, .inl rfl⟩
abbrev OwnG (lo : Nat) (w : World) (v : Value) (l : List (Nm × Nm)) : Prop := w.ownsRow lo 44 2 v l.length (ds l)
theorem own_tgs {lo : Nat} {w : World} {v : Value} {l : List (Nm × Nm)} (h : OwnG lo w v l) : ∃ p c, v = .slice p l.length c ∧ Tgs w p l.length l := by
  have h' := h
  rcases h'.2 with ⟨rfl, h0⟩ | ⟨g, cap, cur, rfl, hg, hcur, hc, hm, h5, h6⟩
  · have : l = [] := List.length_eq_zero_iff.1 h0
    subst this
    exact ⟨none, 0, rfl, Tgs.nil⟩
  · refine ⟨_, _, rfl, rfl, ?_, ?_⟩
    · unfold maxLen at hm; omega
    · refine .inr ⟨g, 0, rfl, (h.lt g rfl).2, Lib.hid fun i hi => ?_⟩
      have e1 := h.cellAt (0 + i * 2) (by omega)
      have e2 := h.cellAt (0 + i * 2 + 1) (by omega)
      obtain ⟨g1, g2⟩ := ds_get hi
      exact ⟨e1.trans (by rw [Nat.zero_add]; exact g1), e2.trans (by rw [Nat.zero_add]; exact g2)⟩
def GivesG (l : List (Nm × Nm)) (w : World) (e : Ending) (w' : World) : Prop := ∃ p n c, e = .returned (.slice p n c) ∧ Tgs w' p n l ∧ Below w.heap.size w w'
theorem two_info : (Tryz.prog.info? 44).map (fun i => (i.zero, i.size, i.bytes)) = some (some (.agg #[.string ⟨#[]⟩, .string ⟨#[]⟩]), 2, 32) := by kernel_rfl
theorem cell_two_new (w : World) (x y : Value) (t : TypeId) : ∀ j u, [x, y][j]? = some u → (w.alloc (.cells #[x, y] t)).cell? ((⟨w.heap.size, 0, none⟩ : Addr).add j) = some u := by
  intro j u hj
  match j, hj with
  | 0, hj => cases hj; simp [Addr.add, World.cell?_alloc_mark]
  | 1, hj => cases hj; simp [Addr.add, World.cell?_alloc_mark]
theorem tgts_snoc' {n₀ : Nat} {W0 : World} (ps : List (Nd n₀ W0)) (x : Nd n₀ W0) : tgts ((ps ++ [x]).map Nd.x) = tgts (ps.map Nd.x) ++ tgt x.x := by rw [List.map_append, List.map_cons, List.map_nil, tgts_snoc]
/-- An own row of texts that grows keeps what a round must keep. -/
theorem KpG.app {n₀ T B : Nat} {W w1 : World} {v v' : Value} {l : List (Nm × Nm)} {tmp : Obj} (hn : n₀ ≤ W.heap.size) (hB : n₀ ≤ B) (hT : B < T) (hrow : OwnG n₀ W v l) (hgrow : (W.alloc tmp).grownBy w1 v.ownBlock) (hbel : Below n₀ W (w1.setCell ⟨B, 0, none⟩ v')) : Kp n₀ T W (w1.setCell ⟨B, 0, none⟩ v') :=
  ⟨hbel, fun k c fr hk hc => by
    have hkl := (Array.getElem?_eq_some_iff.1 hc).1
    rw [(grownBy_setCell' w1 B v').block k (Nat.lt_of_lt_of_le hkl (Nat.le_trans (by simp) hgrow.size)) (fun e => by cases e; omega)]
    rw [hgrow.block k (by simp; omega) (fun e => by
      rcases hrow.2 with ⟨rfl, _⟩ | ⟨g', cap, cur, rfl, _, hgb, _⟩
      · simp [Value.ownBlock] at e
      · obtain rfl : g' = k := by simpa [Value.ownBlock] using e.symm
        rw [hgb] at hc
        cases hc)]
    exact (Below.heap_alloc W tmp k hkl).trans hc⟩
set_option maxRecDepth 100000 in
theorem targets_any (sl : List St) (p : Option Addr) (m c : Nat) (w : World) (h : LIn w sl p m) (hs : SzL sl) (hcn : cnL sl ≤ 1000000) : Calls Tryz.prog 14 #[.slice p m c] w (GivesG (tgts (ordL sl)) w) := by
  have HH := Lib.hid h
  have HS := Lib.hid hs
  have HC := Lib.hid hcn
  clear h hs hcn
  obtain ⟨n21, hn21⟩ : ∃ n : Nat, 21 = n := ⟨_, rfl⟩
  have hsz : ∀ w, (sizeOf 39).run Tryz.prog w = .ok n21 w := fun w => by rw [Tryz.sizeOf39, hn21]
  have HN21 := Lib.hid hn21
  clear hn21
  refine (callsIn_wide (n := 3)).1 ?_
  refine callsIn_of_wp_marks Tryz.func14 rfl trivial ?_ rfl
  simp only [Tryz.ntmps14, List.size_toArray, List.length_cons, List.length_nil, Nat.reduceAdd, Nat.reduceSub, Array.replicate_succ, Array.replicate_zero, List.push_toArray, List.append_toArray, List.nil_append, List.cons_append]
  gi_wp2_with (refine ⟨trivial, ?_⟩; gi_at_call 18; refine (statements_in Fence.wide _ trivial rfl _ _ _ _).mono ?_; rintro e w' ⟨rfl, rfl⟩)
  obtain ⟨w1, hw1⟩ : ∃ w1, w.alloc (.cells #[.slice none 0 0] 40) = w1 := ⟨_, rfl⟩
  have hz1 : w1.heap.size = w.heap.size + 1 := by rw [← hw1]; simp
  have hb1 : Below w.heap.size w w1 := by rw [← hw1]; (repeat (first | (with_reducible exact Below.refl _ _) | (with_reducible assumption) | (with_reducible apply bl_alloc) | (with_reducible apply bl_drewN) | (with_reducible apply bl_drew) | (with_reducible refine bl_set ?_ (by first | (simp; done) | (simp; omega)) _) | (with_reducible refine bl_call ?_ (by assumption))))
  have h1 : Boxed w1 w.heap.size 40 (.slice none 0 0) := by rw [← hw1]; exact Boxed.new _ _ _
  obtain ⟨w3, hw3⟩ : ∃ w3, w1.alloc (.cells #[.slice p m c] 22) = w3 := ⟨_, rfl⟩
  have hz3 : w3.heap.size = w.heap.size + 2 := by rw [← hw3]; simp [hz1]
  have hb3 : Below w1.heap.size w1 w3 := by rw [← hw3]; (repeat (first | (with_reducible exact Below.refl _ _) | (with_reducible assumption) | (with_reducible apply bl_alloc) | (with_reducible apply bl_drewN) | (with_reducible apply bl_drew) | (with_reducible refine bl_set ?_ (by first | (simp; done) | (simp; omega)) _) | (with_reducible refine bl_call ?_ (by assumption))))
  have h3 : Boxed w3 w.heap.size 40 (.slice none 0 0) := by rw [← hw3]; exact h1.alloc _
  have hx3 := cell_new w1 (.slice p m c) 22
  rw [hw3, hz1] at hx3
  have HW3 : Hid (Below w.heap.size w w3) := Lib.hid (hb1.trans (hb3.mono (by omega)))
  rw [hw1, hw3]
  clear hw1 hw3 hb1 hb3 h1 hz1
  obtain ⟨i0, hi0, hi1, hi2, hi3⟩ := parts_of two_info
  refine wpIn_rangeFunc_ownH rfl (by omega) (gf := 26) (lb := #[.pointer (some ⟨w.heap.size + 1, 0, none⟩)]) rfl trivial (enters_of Tryz.func26 (by kernel_rfl) rfl)
    (stmts_stops Fence.wide rfl trivial trivial rfl _ (w.heap.size + 1) w.heap.size w3.heap.size w (Nat.le_refl _) sl p m c w3 hx3.1 HH.out HS.out HW3.out (Nat.le_refl _)) (fun h k => h.trans k) (Kp.put (by omega)) (Below.refl _ _) (fun _ => rfl)
    (fun ps W => (∃ v, Boxed W w.heap.size 40 v ∧ W.ownsRow w.heap.size 44 2 v (tgts (ps.map Nd.x)).length (ds (tgts (ps.map Nd.x))) ∧ (v = .slice none 0 0 ↔ tgts (ps.map Nd.x) = [])) ∧ w3.heap.size ≤ W.heap.size ∧ Below w.heap.size w W)
    (fun _ _ _ => False)
    (OwnFrom.and (Own.from (holdsRow_own w.heap.size w.heap.size 40 44 2 (fun ps : List (Nd w.heap.size w) => (tgts (ps.map Nd.x)).length) (fun ps => ds (tgts (ps.map Nd.x))) (fun ps v => v = .slice none 0 0 ↔ tgts (ps.map Nd.x) = [])) _) (OwnFrom.and (fun s A B row hs hg _ => Nat.le_trans hs hg.size) (ownFrom_below (Nat.le_refl _) (by omega))))
    (fun _ _ _ _ _ hs _ _ => hs)
    ⟨⟨_, h3, World.ownsRow_nil _ _ _ _, by simp [tgts]⟩, Nat.le_refl _, HW3.out⟩
    (fun x a' W => ∃ Bx, w3.heap.size ≤ Bx ∧ box21 W Bx x.x x.P ∧ a' = { tmps := #[.slice p m c, undef, .slice none 0 0, .pointer (some ⟨w.heap.size, 0, none⟩), .pointer (some ⟨Bx, 0, none⟩), .slice p m c, .func (.func 26) #[] #[.pointer (some ⟨w.heap.size + 1, 0, none⟩)], .agg (cs x.x x.P), undef, undef, undef, undef, undef, undef, undef, undef, undef, undef, undef, undef, undef, undef, undef, undef, undef, undef, undef, undef, undef], defers := [] })
    (fun x a' _ A B row hs hg hr => let ⟨Bx, h1, h2, h3⟩ := hs; ⟨Bx, h1, box21.own (β := Unit) _ _ _ () A B row h2 hg (fun r e => (hr r e).2), h3⟩) ?assign ?body ?done ?stop
  case assign =>
    rintro l ps x W K ⟨⟨v, hv, hrow, hnil⟩, hz, hB⟩ hK
    simp only [encN]
    have hcsz : (cs x.x x.P).size = n21 := HN21.out
    have st1 := st_store x.x x.P
    have st2 := st_storeVar x.x x.P
    have st3 := st_storeAt x.x x.P
    gi_wp2
    have hbW : Below W.heap.size W (W.alloc (.cells (cs x.x x.P) 39)) := by (repeat (first | (with_reducible exact Below.refl _ _) | (with_reducible assumption) | (with_reducible apply bl_alloc) | (with_reducible apply bl_drewN) | (with_reducible apply bl_drew) | (with_reducible refine bl_set ?_ (by first | (simp; done) | (simp; omega)) _) | (with_reducible refine bl_call ?_ (by assumption))))
    have hle := hB.size
    refine hK _ _ (keeps_below hbW) (Kp.of_below hbW hle) ?_ ⟨W.heap.size, hz, box_new21, ?_⟩
    · exact ⟨⟨v, hv.alloc _, hrow.alloc _, hnil⟩, Nat.le_trans hz hbW.size, hB.trans (hbW.mono hle)⟩
    · simp [go_sem]
  case body =>
    rintro l ps x a' W hl ⟨r, hr⟩ ⟨⟨v, hv, hrow, hnil⟩, hz, hB⟩ ⟨Bx, hBx, hbx, rfl⟩ hlt
    have hsn := tgts_snoc' ps x
    have hc := hv.cell
    have b0 := hbx.c0
    have b1 := hbx.c1
    have b2 := hbx.c2
    have hpl : (tgts (ps.map Nd.x)).length ≤ 1000000 := by
      have h1 := tgts_len (ps.map Nd.x)
      have h2 := HC.out
      rw [List.length_map] at h1
      omega
    have HNIL := Lib.hid hnil
    have HB := Lib.hid hB
    have HZ := Lib.hid hz
    have hle := hB.size
    obtain ⟨L, hL⟩ : ∃ L, tgts (ps.map Nd.x) = L := ⟨_, rfl⟩
    rw [hL] at hsn hrow hpl HNIL
    clear hnil hB hL hr hbx
    by_cases h13 : x.x.o = 13
    · rw [show tgt x.x = [(bs x.x.f, bs x.x.nm)] from if_pos h13] at hsn
      have HSN := Lib.hid hsn
      clear hsn
      rw [h13] at b0
      clear h13
      gi_wp2_with (gi_at_builtin; refine wpListIn_append_own _ rfl _ _ 40 rfl w.heap.size 44 i0 (.agg #[.string ⟨#[]⟩, .string ⟨#[]⟩]) 2 32 Tryz.underlying40 hi0 hi1 hi2 hi3 rfl (by decide) _ _ _ rfl (hrow.alloc _) ⟨W.heap.size, 0, none⟩ 1 1 [.string (x.x.f), .string (x.x.nm)] rfl rfl (cell_two_new _ _ _ _) (by simp [Value.oneCell']) (by simp only [maxLen]; omega) (by omega) (by simp; omega) ?_; intro v' w4 hown' hgrow _; obtain ⟨g', cap', rfl⟩ := ownsRow_succ hown'; obtain ⟨hv1, hv2, hr2, hk2, hb2⟩ := hv.appended (by decide) hrow hle (by omega) hown' hgrow; have hc1 := hv1.cell; have hf1 := hv1.frozen)
      have hz4 : W.heap.size ≤ w4.heap.size := Nat.le_trans (by simp) hgrow.size
      refine ⟨hk2.from _, KpG.app hle (by omega) (by omega) hrow hgrow hb2, ⟨_, hv2, ?_, ?_⟩, by rw [World.size_setCell]; exact Nat.le_trans HZ.out hz4, HB.out.trans hb2⟩
      · rw [HSN.out, List.length_append]
        have : ds (L ++ [(bs x.x.f, bs x.x.nm)]) = ds L ++ [.string (x.x.f), .string (x.x.nm)] := by rw [ds_app]; simp [ds, tb]
        rw [this]
        exact hr2
      · rw [HSN.out]; simp
    by_cases h14 : x.x.o = 14
    · rw [show tgt x.x = [([], bs x.x.nm)] by unfold tgt; rw [if_neg h13, if_pos h14]] at hsn
      have HSN := Lib.hid hsn
      clear hsn
      rw [h14] at b0
      clear h13 h14
      gi_wp2_with (gi_at_builtin; refine wpListIn_append_own _ rfl _ _ 40 rfl w.heap.size 44 i0 (.agg #[.string ⟨#[]⟩, .string ⟨#[]⟩]) 2 32 Tryz.underlying40 hi0 hi1 hi2 hi3 rfl (by decide) _ _ _ rfl (hrow.alloc _) ⟨W.heap.size, 0, none⟩ 1 1 [.string (nE), .string (x.x.nm)] rfl rfl (cell_two_new _ _ _ _) (by simp [Value.oneCell']) (by simp only [maxLen]; omega) (by omega) (by simp; omega) ?_; intro v' w4 hown' hgrow _; obtain ⟨g', cap', rfl⟩ := ownsRow_succ hown'; obtain ⟨hv1, hv2, hr2, hk2, hb2⟩ := hv.appended (by decide) hrow hle (by omega) hown' hgrow; have hc1 := hv1.cell; have hf1 := hv1.frozen)
      have hz4 : W.heap.size ≤ w4.heap.size := Nat.le_trans (by simp) hgrow.size
      refine ⟨hk2.from _, KpG.app hle (by omega) (by omega) hrow hgrow hb2, ⟨_, hv2, ?_, ?_⟩, by rw [World.size_setCell]; exact Nat.le_trans HZ.out hz4, HB.out.trans hb2⟩
      · rw [HSN.out, List.length_append]
        have : ds (L ++ [([], bs x.x.nm)]) = ds L ++ [.string (nE), .string (x.x.nm)] := by rw [ds_app]; simp [ds, tb]
        rw [this]
        exact hr2
      · rw [HSN.out]; simp
    rw [show tgt x.x = [] by unfold tgt; rw [if_neg h13, if_neg h14], List.append_nil] at hsn
    have HSN := Lib.hid hsn
    have u13 := beq_eq_false_iff_ne.2 h13
    have u14 := beq_eq_false_iff_ne.2 h14
    clear hsn h13 h14 hpl
    gi_wp2
    exact ⟨KeepsFrom.refl _ _, Kp.refl _ _ _, ⟨v, hv, by rw [HSN.out]; exact hrow, by rw [HSN.out]; exact HNIL.out⟩, HZ.out, HB.out⟩
  case done =>
    rintro D ys W hD hys ⟨⟨v, hv, hrow, hnil⟩, hz, hB⟩ hK
    rw [hys] at hrow
    have hc := hv.cell
    clear hnil
    gi_wp2
    refine ⟨by simp, .inl ⟨_, _, rfl, run_takeDeferred hK, ?_⟩⟩
    have hs6 := ownsRow_putObj hrow (.deferred none) hK rfl
    obtain ⟨p6, c6, e6, h6⟩ := own_tgs hs6
    subst e6
    exact ⟨_, results_tmp rfl _ _ _, _, _, _, rfl, h6, hB.trans (belowK_b (w := w) (Nat.le_refl _) _ D _ _ (by omega) hK rfl rfl)⟩
  case stop =>
    rintro D c ps W _ _ h _
    exact h.elim
end Go.Proofs.YtonlmnlpofgccaaGreat.Sm
