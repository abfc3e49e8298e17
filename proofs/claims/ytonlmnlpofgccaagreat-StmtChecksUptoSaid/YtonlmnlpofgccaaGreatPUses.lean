/-
  The contract of Uses.
-/
import Derived.Test.YtonlmnlpofgccaaGreatPCount
import Derived.Test.YtonlmnlpofgccaaGreatENm
namespace Go.Proofs.YtonlmnlpofgccaaGreat.Sm
open Go.RowKit Go.Shelf Go.Sort
open Go.Proofs.YtonlmnlpofgccaaGreat.Na (bs bs_inj chk)
open Go.Proofs.YtonlmnlpofgccaaGreat.Ex (Ex Nm Kin In Sz Lo Gives bl_alloc bl_drewN bl_drew bl_set bl_call block_lt cell_of_box cell_new cell_alloc_on frozen_alloc_on set_other below_set keeps_below OwnT GivesT Txs tbs tb tb_bs bs_tb own_txs parts_of str_info srt srt_ins)
attribute [local go_sem] Oper.semAt_some
attribute [local go_sem] cs0 cs1 cs2 cs3 cs4 cs5 cs6 cs7 cs8 cs9 cs10 cs11 cs12 cs13 cs14 cs15 cs16 cs17 cs18 cs19 cs20
set_option maxHeartbeats 8000000
set_option linter.unusedVariables false
theorem box21.own {β : Type} (g : Nat) (x : St) (P : Pl) : Own (fun (_ : β) W => box21 W g x P) := fun _ A B row hs hg hr => by
  refine (hg.block g hs.lt (fun e => ?_)).trans hs
  obtain ⟨o, ho, hc⟩ := hr g e.symm
  rw [show A.heap[g]? = _ from hs] at ho
  cases ho
  cases hc
theorem uses_snoc' {n₀ : Nat} {W0 : World} (ps : List (Nd n₀ W0)) (x : Nd n₀ W0) : uses ((ps ++ [x]).map Nd.x) = uses (ps.map Nd.x) ++ use x.x := by rw [List.map_append, List.map_cons, List.map_nil, uses_snoc]
theorem use_nm {x : St} (h : oN x.o = true) : use x = [bs x.nm] := if_pos h
theorem use_of {x : St} (h : x.o = 2) : use x = [bs x.f] := by unfold use; rw [if_neg (by rw [h]; decide), if_pos h]
theorem use_no {x : St} (h : oN x.o = false) (h2 : ¬ x.o = 2) : use x = [] := by unfold use; rw [if_neg (by rw [h]; decide), if_neg h2]
/-- An own row of texts that grows keeps what a round must keep. -/
theorem Kp.app {n₀ T B : Nat} {W w1 : World} {v v' : Value} {l : List Nm} {tmp : Obj} (hn : n₀ ≤ W.heap.size) (hB : n₀ ≤ B) (hT : B < T) (hrow : OwnT n₀ W v l) (hgrow : (W.alloc tmp).grownBy w1 v.ownBlock) (hbel : Below n₀ W (w1.setCell ⟨B, 0, none⟩ v')) : Kp n₀ T W (w1.setCell ⟨B, 0, none⟩ v') :=
  ⟨hbel, fun k c fr hk hc => by
    have hkl := (Array.getElem?_eq_some_iff.1 hc).1
    rw [(grownBy_setCell' w1 B v').block k (Nat.lt_of_lt_of_le hkl (Nat.le_trans (by simp) hgrow.size)) (fun e => by cases e; omega)]
    rw [hgrow.block k (by simp; omega) (fun e => by
      rcases hrow.2 with ⟨rfl, _⟩ | ⟨g', cap, cur, rfl, _, hgb, _⟩
      · simp [Value.ownBlock] at e
      · obtain rfl : g' = k := by simpa [Value.ownBlock] using e.symm
        rw [hgb] at hc
        cases hc)]
    exact (Below.heap_alloc W tmp k hkl).trans hc⟩
set_option maxRecDepth 100000 in
theorem uses_any (sl : List St) (p : Option Addr) (m c : Nat) (w : World) (h : LIn w sl p m) (hs : SzL sl) (hcn : cnL sl ≤ 1000000) : Calls Tryz.prog 15 #[.slice p m c] w (GivesT (srt (uses (ordL sl))) w) := by
  have HH := Lib.hid h
  have HS := Lib.hid hs
  have HC := Lib.hid hcn
  clear h hs hcn
  obtain ⟨n21, hn21⟩ : ∃ n : Nat, 21 = n := ⟨_, rfl⟩
  have hsz : ∀ w, (sizeOf 39).run Tryz.prog w = .ok n21 w := fun w => by rw [Tryz.sizeOf39, hn21]
  have HN21 := Lib.hid hn21
  clear hn21
  refine (callsIn_wide (n := 3)).1 ?_
  refine callsIn_of_wp_marks Tryz.func15 rfl trivial ?_ rfl
  simp only [Tryz.ntmps15, List.size_toArray, List.length_cons, List.length_nil, Nat.reduceAdd, Nat.reduceSub, Array.replicate_succ, Array.replicate_zero, List.push_toArray, List.append_toArray, List.nil_append, List.cons_append]
  gi_wp2_with (refine ⟨trivial, ?_⟩; gi_at_call 18; refine (statements_in Fence.wide _ trivial rfl _ _ _ _).mono ?_; rintro e w' ⟨rfl, rfl⟩)
  obtain ⟨w1, hw1⟩ : ∃ w1, w.alloc (.cells #[.slice none 0 0] 42) = w1 := ⟨_, rfl⟩
  have hz1 : w1.heap.size = w.heap.size + 1 := by rw [← hw1]; simp
  have hb1 : Below w.heap.size w w1 := by rw [← hw1]; (repeat (first | (with_reducible exact Below.refl _ _) | (with_reducible assumption) | (with_reducible apply bl_alloc) | (with_reducible apply bl_drewN) | (with_reducible apply bl_drew) | (with_reducible refine bl_set ?_ (by first | (simp; done) | (simp; omega)) _) | (with_reducible refine bl_call ?_ (by assumption))))
  have h1 : Boxed w1 w.heap.size 42 (.slice none 0 0) := by rw [← hw1]; exact Boxed.new _ _ _
  obtain ⟨w3, hw3⟩ : ∃ w3, w1.alloc (.cells #[.slice p m c] 22) = w3 := ⟨_, rfl⟩
  have hz3 : w3.heap.size = w.heap.size + 2 := by rw [← hw3]; simp [hz1]
  have hb3 : Below w1.heap.size w1 w3 := by rw [← hw3]; (repeat (first | (with_reducible exact Below.refl _ _) | (with_reducible assumption) | (with_reducible apply bl_alloc) | (with_reducible apply bl_drewN) | (with_reducible apply bl_drew) | (with_reducible refine bl_set ?_ (by first | (simp; done) | (simp; omega)) _) | (with_reducible refine bl_call ?_ (by assumption))))
  have h3 : Boxed w3 w.heap.size 42 (.slice none 0 0) := by rw [← hw3]; exact h1.alloc _
  have hx3 := cell_new w1 (.slice p m c) 22
  rw [hw3, hz1] at hx3
  have HW3 : Hid (Below w.heap.size w w3) := Lib.hid (hb1.trans (hb3.mono (by omega)))
  rw [hw1, hw3]
  clear hw1 hw3 hb1 hb3 h1 hz1
  obtain ⟨i0, hi0, hi1, hi2, hi3⟩ := parts_of str_info
  refine wpIn_rangeFunc_ownH rfl (by omega) (gf := 26) (lb := #[.pointer (some ⟨w.heap.size + 1, 0, none⟩)]) rfl trivial (enters_of Tryz.func26 (by kernel_rfl) rfl)
    (stmts_stops Fence.wide rfl trivial trivial rfl _ (w.heap.size + 1) w.heap.size w3.heap.size w (Nat.le_refl _) sl p m c w3 hx3.1 HH.out HS.out HW3.out (Nat.le_refl _)) (fun h k => h.trans k) (Kp.put (by omega)) (Below.refl _ _) (fun _ => rfl)
    (fun ps W => (∃ v, Boxed W w.heap.size 42 v ∧ W.ownsRow w.heap.size 9 1 v (uses (ps.map Nd.x)).length (tbs (uses (ps.map Nd.x))) ∧ (v = .slice none 0 0 ↔ uses (ps.map Nd.x) = [])) ∧ w3.heap.size ≤ W.heap.size ∧ Below w.heap.size w W)
    (fun _ _ _ => False)
    (OwnFrom.and (Own.from (holdsRow_own w.heap.size w.heap.size 42 9 1 (fun ps : List (Nd w.heap.size w) => (uses (ps.map Nd.x)).length) (fun ps => tbs (uses (ps.map Nd.x))) (fun ps v => v = .slice none 0 0 ↔ uses (ps.map Nd.x) = [])) _) (OwnFrom.and (fun s A B row hs hg _ => Nat.le_trans hs hg.size) (ownFrom_below (Nat.le_refl _) (by omega))))
    (fun _ _ _ _ _ hs _ _ => hs)
    ⟨⟨_, h3, World.ownsRow_nil _ _ _ _, by simp [uses]⟩, Nat.le_refl _, HW3.out⟩
    (fun x a' W => ∃ Bx, w3.heap.size ≤ Bx ∧ box21 W Bx x.x x.P ∧ a' = { tmps := #[.slice p m c, undef, .slice none 0 0, .pointer (some ⟨w.heap.size, 0, none⟩), .pointer (some ⟨Bx, 0, none⟩), .slice p m c, .func (.func 26) #[] #[.pointer (some ⟨w.heap.size + 1, 0, none⟩)], .agg (cs x.x x.P), undef, undef, undef, undef, undef, undef, undef, undef, undef, undef, undef, undef, undef, undef, undef, undef, undef, undef, undef, undef, undef, undef, undef, undef, undef, undef, undef, undef, undef], defers := [] })
    (fun x a' _ A B row hs hg hr => let ⟨Bx, h1, h2, h3⟩ := hs; ⟨Bx, h1, box21.own (β := Unit) _ _ _ () A B row h2 hg (fun r e => (hr r e).2), h3⟩) ?assign ?body ?done ?stop
  case assign =>
    rintro l ps x W K ⟨⟨v, hv, hrow, hnil⟩, hz, hB⟩ hK
    simp only [encN]
    have hcsz : (cs x.x x.P).size = n21 := HN21.out
    have st1 := st_store x.x x.P
    have st2 := st_storeVar x.x x.P
    have st3 := st_storeAt x.x x.P
    gi_wp2
    have hbW : Below W.heap.size W (W.alloc (.cells (cs x.x x.P) 39)) := by (repeat (first | (with_reducible exact Below.refl _ _) | (with_reducible assumption) | (with_reducible apply bl_alloc) | (with_reducible apply bl_drewN) | (with_reducible apply bl_drew) | (with_reducible refine bl_set ?_ (by first | (simp; done) | (simp; omega)) _) | (with_reducible refine bl_call ?_ (by assumption))))
    have hle := hB.size
    refine hK _ _ (keeps_below hbW) (Kp.of_below hbW hle) ?_ ⟨W.heap.size, hz, box_new21, ?_⟩
    · exact ⟨⟨v, hv.alloc _, hrow.alloc _, hnil⟩, Nat.le_trans hz hbW.size, hB.trans (hbW.mono hle)⟩
    · simp [go_sem]
  case body =>
    rintro l ps x a' W hl ⟨r, hr⟩ ⟨⟨v, hv, hrow, hnil⟩, hz, hB⟩ ⟨Bx, hBx, hbx, rfl⟩ hlt
    have hsn := uses_snoc' ps x
    have hc := hv.cell
    have b0 := hbx.c0
    have b1 := hbx.c1
    have b2 := hbx.c2
    have hpl : (uses (ps.map Nd.x)).length ≤ 1000000 := by
      have h1 := uses_len (ps.map Nd.x)
      have h2 := HC.out
      rw [List.length_map] at h1
      omega
    have HNIL := Lib.hid hnil
    have HB := Lib.hid hB
    have HZ := Lib.hid hz
    have hle := hB.size
    obtain ⟨L, hL⟩ : ∃ L, uses (ps.map Nd.x) = L := ⟨_, rfl⟩
    rw [hL] at hsn hrow hpl HNIL
    clear hnil hB hL hr hbx
    cases ho : oN x.x.o with
    | true =>
      rw [use_nm ho] at hsn
      have HSN := Lib.hid hsn
      clear hsn
      obtain h | h | h | h | h | h | h | h | h | h : x.x.o = 6 ∨ x.x.o = 7 ∨ x.x.o = 8 ∨ x.x.o = 9 ∨ x.x.o = 10 ∨ x.x.o = 11 ∨ x.x.o = 12 ∨ x.x.o = 15 ∨ x.x.o = 16 ∨ x.x.o = 17 := by simpa [oN] using ho
      all_goals
        clear ho
        rw [h] at b0
        clear h
        gi_wp2_with (gi_at_builtin; refine wpListIn_append_own _ rfl _ _ 42 rfl w.heap.size 9 i0 (.string ⟨#[]⟩) 1 16 Tryz.underlying42 hi0 hi1 hi2 hi3 rfl (by decide) _ _ _ rfl (hrow.alloc _) ⟨W.heap.size, 0, none⟩ 1 1 [.string x.x.nm] rfl rfl (cell_one_new _ _ _) (by simp [Value.oneCell']) (by simp only [maxLen]; omega) (by omega) (by simp; omega) ?_; intro v' w4 hown' hgrow _; obtain ⟨g', cap', rfl⟩ := ownsRow_succ hown'; obtain ⟨hv1, hv2, hr2, hk2, hb2⟩ := hv.appended (by decide) hrow hle (by omega) hown' hgrow; have hc1 := hv1.cell; have hf1 := hv1.frozen)
        have hz4 : W.heap.size ≤ w4.heap.size := Nat.le_trans (by simp) hgrow.size
        refine ⟨hk2.from _, Kp.app hle (by omega) (by omega) hrow hgrow hb2, ⟨_, hv2, ?_, ?_⟩, by rw [World.size_setCell]; exact Nat.le_trans HZ.out hz4, HB.out.trans hb2⟩
        · rw [HSN.out, List.length_append]
          have : tbs (L ++ [bs x.x.nm]) = tbs L ++ [.string x.x.nm] := by simp [tbs, tb_bs]
          rw [this]
          exact hr2
        · rw [HSN.out]; simp
    | false =>
      have n6 : ¬ x.x.o = 6 := fun e => by rw [e] at ho; cases ho
      have n7 : ¬ x.x.o = 7 := fun e => by rw [e] at ho; cases ho
      have n8 : ¬ x.x.o = 8 := fun e => by rw [e] at ho; cases ho
      have n9 : ¬ x.x.o = 9 := fun e => by rw [e] at ho; cases ho
      have n10 : ¬ x.x.o = 10 := fun e => by rw [e] at ho; cases ho
      have n11 : ¬ x.x.o = 11 := fun e => by rw [e] at ho; cases ho
      have n12 : ¬ x.x.o = 12 := fun e => by rw [e] at ho; cases ho
      have n15 : ¬ x.x.o = 15 := fun e => by rw [e] at ho; cases ho
      have n16 : ¬ x.x.o = 16 := fun e => by rw [e] at ho; cases ho
      have n17 : ¬ x.x.o = 17 := fun e => by rw [e] at ho; cases ho
      by_cases h2 : x.x.o = 2
      · rw [use_of h2] at hsn
        have HSN := Lib.hid hsn
        rw [h2] at b0
        clear hsn ho n6 n7 n8 n9 n10 n11 n12 n15 n16 n17 h2
        gi_wp2_with (gi_at_builtin; refine wpListIn_append_own _ rfl _ _ 42 rfl w.heap.size 9 i0 (.string ⟨#[]⟩) 1 16 Tryz.underlying42 hi0 hi1 hi2 hi3 rfl (by decide) _ _ _ rfl (hrow.alloc _) ⟨W.heap.size, 0, none⟩ 1 1 [.string x.x.f] rfl rfl (cell_one_new _ _ _) (by simp [Value.oneCell']) (by simp only [maxLen]; omega) (by omega) (by simp; omega) ?_; intro v' w4 hown' hgrow _; obtain ⟨g', cap', rfl⟩ := ownsRow_succ hown'; obtain ⟨hv1, hv2, hr2, hk2, hb2⟩ := hv.appended (by decide) hrow hle (by omega) hown' hgrow; have hc1 := hv1.cell; have hf1 := hv1.frozen)
        have hz4 : W.heap.size ≤ w4.heap.size := Nat.le_trans (by simp) hgrow.size
        refine ⟨hk2.from _, Kp.app hle (by omega) (by omega) hrow hgrow hb2, ⟨_, hv2, ?_, ?_⟩, by rw [World.size_setCell]; exact Nat.le_trans HZ.out hz4, HB.out.trans hb2⟩
        · rw [HSN.out, List.length_append]
          have : tbs (L ++ [bs x.x.f]) = tbs L ++ [.string x.x.f] := by simp [tbs, tb_bs]
          rw [this]
          exact hr2
        · rw [HSN.out]; simp
      · rw [use_no ho h2, List.append_nil] at hsn
        have HSN := Lib.hid hsn
        have u6 := beq_eq_false_iff_ne.2 n6
        have u7 := beq_eq_false_iff_ne.2 n7
        have u8 := beq_eq_false_iff_ne.2 n8
        have u9 := beq_eq_false_iff_ne.2 n9
        have u10 := beq_eq_false_iff_ne.2 n10
        have u11 := beq_eq_false_iff_ne.2 n11
        have u12 := beq_eq_false_iff_ne.2 n12
        have u15 := beq_eq_false_iff_ne.2 n15
        have u16 := beq_eq_false_iff_ne.2 n16
        have u17 := beq_eq_false_iff_ne.2 n17
        have u2 := beq_eq_false_iff_ne.2 h2
        clear hsn ho n6 n7 n8 n9 n10 n11 n12 n15 n16 n17 h2 hpl
        gi_wp2
        exact ⟨KeepsFrom.refl _ _, Kp.refl _ _ _, ⟨v, hv, by rw [HSN.out]; exact hrow, by rw [HSN.out]; exact HNIL.out⟩, HZ.out, HB.out⟩
  case done =>
    rintro D ys W hD hys ⟨⟨v, hv, hrow, hnil⟩, hz, hB⟩ hK
    have hlen : (uses (ordL sl)).length ≤ 1000000 := by
      have h1 := uses_len (ordL sl)
      have h2 := HC.out
      rw [ordL_len] at h1
      omega
    rw [hys] at hrow hnil
    obtain ⟨L, hL⟩ : ∃ L, uses (ordL sl) = L := ⟨_, rfl⟩
    rw [hL] at hrow hnil hlen
    have HLE := Lib.hid hL
    clear hL
    have hc := hv.cell
    by_cases h0 : L = []
    · have hv0 := hnil.2 h0
      subst hv0
      have HG := Lib.hid (show srt (uses (ordL sl)) = [] by rw [HLE.out, h0, srt_ins]; rfl)
      have HB := Lib.hid hB
      clear hB hnil hrow hlen h0
      gi_wp2_with fail
      refine ⟨trivial, ?_⟩
      refine (callsIn_wide.2 (Any.slices_Sort_string_none Tryz.lays190 none 0 W)).mono ?_
      rintro e w4 ⟨rfl, rfl⟩
      gi_wp2_with fail
      refine ⟨trivial, ?_⟩
      refine (callsIn_wide.2 (Any.slices_Compact_string_empty Tryz.lays194 none 0 w4)).mono ?_
      rintro e w5 ⟨rfl, rfl⟩
      gi_wp2
      refine ⟨by simp, .inl ⟨_, _, rfl, run_takeDeferred hK, ?_⟩⟩
      exact ⟨_, results_tmp rfl _ _ _, none, 0, 0, rfl, by rw [HG.out]; exact Txs.nil, HB.out.trans (belowK_b (w := w) (Nat.le_refl _) _ D _ _ (by omega) hK rfl rfl)⟩
    · have hnn : ¬ v = .slice none 0 0 := fun e => h0 (hnil.1 e)
      obtain ⟨g, cap, rfl, hbg, hgl, hncap, hcm, -, hH⟩ := Lib.holds_of_ownsRow (enc := encStr) (zs := L) hrow hnn
      rcases hrow.2 with ⟨e0, _⟩ | ⟨g2, cap2, cur, e0, hbase, hgb, hq1, hq2, hq3, hq4⟩
      · cases e0
      cases e0
      have hgB : some w.heap.size ≠ some g := hv.not_row (by decide) hrow
      have hDg : some D ≠ some g := fun e => by cases e; rw [hgb] at hK; cases hK
      have hsort := Any.slices_Sort_string Tryz.lays190 g 0 cap L W hH hgl (by omega)
      obtain ⟨S, hS⟩ : ∃ S, L.mergeSort (fun x y => decide (x ≤ y)) = S := ⟨_, rfl⟩
      have hlS : S.length = L.length := by rw [← hS]; exact List.length_mergeSort L
      rw [hS] at hsort
      have HG := Lib.hid (show srt (uses (ordL sl)) = Lib.compact S by unfold srt; rw [HLE.out, hS])
      have HB := Lib.hid hB
      have HH4 := Lib.hid hH
      have HGB := Lib.hid hgb
      have HDG := Lib.hid hDg
      have HGL := Lib.hid hgl
      obtain ⟨N, hN⟩ : ∃ N, L.length = N := ⟨_, rfl⟩
      have HS3 := Lib.hid hq3
      rw [hN] at hsort hlS hlen hncap hrow hc hv hq1
      have HNL := Lib.hid hN
      clear hnil hnn h0 hS hB hH hgb hDg hgl hq4 hq3 hrow hN
      gi_wp2_with fail
      refine ⟨trivial, ?_⟩
      refine (callsIn_wide.2 hsort).mono ?_
      rintro e w4 ⟨rfl, nq, os, hw4⟩
      have hg4 : W.grownBy w4 (some g) := by rw [hw4]; exact grownBy_sorted _
      have hv4 := hv.kept hg4 hgB
      have hK4 := (hg4.block D (Array.getElem?_eq_some_iff.1 hK).1 HDG.out).trans hK
      have hH4 : Holds encStr w4 g 0 S.toArray := by
        rw [hw4]
        exact holds_grow encStr _ os g 0 _ (by simpa [putRow, mapBlock, Sort.ahead] using HGL.out) (holds_putRow encStr _ g 0 _ _ (holds_ahead encStr W nq g 0 _ HH4.out) (by simp [hlS, HNL.out]))
      have hs4 := ownsRow_sorted (n := nq) (os := os) (ts := S) (ss := L) (by rw [hlS, HNL.out]) hbase HGB.out (by rw [HNL.out]; exact hq1) hq2 HS3.out
      rw [← hw4, HNL.out] at hs4
      have hB4 : Below w.heap.size w w4 := HB.out.grown hg4 HB.out.size (fun j hj => by cases hj; exact hbg)
      have hcomp := Any.slices_Compact_string Tryz.lays194 g 0 cap S w4 hH4 (by omega) (by rw [hlS]; exact hncap)
      rw [hlS] at hcomp
      have hc4 := hv4.cell
      have HS4 := Lib.hid hs4
      have HB4 := Lib.hid hB4
      clear hg4 hw4 hH4 hs4 hB4 hK hv hv4 hc hsort hq1 hq2
      gi_wp2_with fail
      refine ⟨trivial, ?_⟩
      refine (callsIn_wide.2 hcomp).mono ?_
      rintro e w5 ⟨rfl, q, hw5⟩
      have hle := Lib.compact_length_le S
      have hput : ∀ k, g ≠ k → w5.heap[k]? = w4.heap[k]? := fun k hk => by rw [hw5]; simp [putRow, mapBlock, Sort.ahead, Array.getElem?_modify, hk]
      have hK5 := (hput D (fun e => HDG.out (by rw [e]))).trans hK4
      have hs5 := Lib.ownsRow_putRow (q := q) (k := (Lib.compact S).length) (ys := Lib.compact S ++ List.replicate (N - (Lib.compact S).length) []) HS4.out (by simp; omega) (by omega)
      rw [List.take_left, ← hw5] at hs5
      have hB5 : Below w.heap.size w w5 := by rw [hw5]; exact Lib.below_putRow HB4.out hbg
      clear hw5 hput hcomp hc4
      gi_wp2
      refine ⟨by simp, .inl ⟨_, _, rfl, run_takeDeferred hK5, ?_⟩⟩
      have hs6 := ownsRow_putObj hs5 (.deferred none) hK5 rfl
      obtain ⟨p6, c6, e6, h6⟩ := own_txs (l := Lib.compact S) hs6
      cases e6
      exact ⟨_, results_tmp rfl _ _ _, _, _, _, rfl, by rw [HG.out]; exact h6, hB5.trans (belowK_b (w := w) (Nat.le_refl _) _ D _ _ (by omega) hK5 rfl rfl)⟩
  case stop =>
    rintro D c ps W _ _ h _
    exact h.elim
end Go.Proofs.YtonlmnlpofgccaaGreat.Sm
