/-
  The contract of Names.
-/
import Derived.Test.YtfkenbdfakjeoaaECheck
import Derived.Test.YtfkenbdfakjeoaaETx
import Derived.Test.YtfkenbdfakjeoaaShelf
import Derived.Shelf.Sort.Plain
import Derived.Shelf.Slices.CompactS
import Derived.Shelf.Slices.In.SortNone
import Derived.Sort.OwnSorted
import Derived.Lib.OwnBridge
namespace Go.Proofs.Ytfkenbdfakjeoaa.Ex
open Go.RowKit Go.Shelf Go.Sort
open Go.Proofs.Ytfkenbdfakjeoaa.Na (bs bs_inj chk)
attribute [local go_sem] Oper.semAt_some
set_option maxHeartbeats 4000000
set_option linter.unusedVariables false
theorem check_gives2 {e : Ex} {x : Int} (h : chkE false e = x) (p : Option Addr) (m c : Nat) (w : World) (hi : In w e p m) (hs : Sz e) (hc : cnt e ≤ 1000000) : Calls Try.prog 12 #[.agg #[.int .i64 e.o, .string e.s, .int .i64 e.n, .slice p m c]] w (Gives (.int .i64 x) w) := by rw [← h]; exact check_any e p m c w hi hs hc
theorem says_snoc (l : List Ex) (x : Ex) : says (l ++ [x]) = if bs x.s = [] then says l else says l ++ [bs x.s] := by
  rw [says_app]
  simp only [says]
  split <;> simp
/-- An own row of texts that grows keeps what a round must keep. -/
theorem Kp.app {n₀ T B : Nat} {W w1 : World} {v v' : Value} {l : List Nm} {tmp : Obj} (hn : n₀ ≤ W.heap.size) (hB : n₀ ≤ B) (hT : B < T) (hrow : OwnT n₀ W v l) (hgrow : (W.alloc tmp).grownBy w1 v.ownBlock) (hbel : Below n₀ W (w1.setCell ⟨B, 0, none⟩ v')) : Kp n₀ T W (w1.setCell ⟨B, 0, none⟩ v') :=
  ⟨hbel, fun k c fr hk hc => by
    have hkl := (Array.getElem?_eq_some_iff.1 hc).1
    rw [(grownBy_setCell' w1 B v').block k (Nat.lt_of_lt_of_le hkl (Nat.le_trans (by simp) hgrow.size)) (fun e => by cases e; omega)]
    rw [hgrow.block k (by simp; omega) (fun e => by
      rcases hrow.2 with ⟨rfl, _⟩ | ⟨g', cap, cur, rfl, _, hgb, _⟩
      · simp [Value.ownBlock] at e
      · obtain rfl : g' = k := by simpa [Value.ownBlock] using e.symm
        rw [hgb] at hc
        cases hc)]
    exact (Below.heap_alloc W tmp k hkl).trans hc⟩
set_option maxRecDepth 100000 in
theorem names_any (e : Ex) (p : Option Addr) (m c : Nat) (w : World) (h : In w e p m) (hs : Sz e) (hc : cnt e ≤ 1000000) : Calls Try.prog 23 #[.agg #[.int .i64 e.o, .string e.s, .int .i64 e.n, .slice p m c]] w (GivesT (namesE e) w) := by
  obtain ⟨v, hv⟩ : ∃ v, chkE false e = v := ⟨_, rfl⟩
  have HM := Lib.hid (fun W hi => check_gives2 hv p m c W hi hs hc)
  have HH := Lib.hid h
  by_cases hv0 : ¬ v = 0
  · have HR := Lib.hid (show namesE e = [] by unfold namesE; rw [hv, if_neg hv0])
    have t0 : (v == 0) = false := beq_eq_false_iff_ne.2 hv0
    rw [HR.out]
    obtain ⟨o, s, nn, kl⟩ := e
    simp only [Ex.o, Ex.s, Ex.n] at HM ⊢
    clear h hs hc hv
    go_enter Try.func23, Try.ntmps23
    go_wp2_with fail
    refine (HM.out _ (HH.out.on (by (repeat (first | (with_reducible exact Below.refl _ _) | (with_reducible assumption) | (with_reducible apply bl_alloc) | (with_reducible apply bl_drewN) | (with_reducible apply bl_drew) | (with_reducible refine bl_set ?_ (by first | (simp; done) | (simp; omega)) _) | (with_reducible refine bl_call ?_ (by assumption))))))).mono ?_
    rintro e w1 ⟨rfl, hb1⟩
    go_wp2_with fail
    go_ret
    exact ⟨_, _, _, rfl, Txs.nil, by (repeat (first | (with_reducible exact Below.refl _ _) | (with_reducible assumption) | (with_reducible apply bl_alloc) | (with_reducible apply bl_drewN) | (with_reducible apply bl_drew) | (with_reducible refine bl_set ?_ (by first | (simp; done) | (simp; omega)) _) | (with_reducible refine bl_call ?_ (by assumption))))⟩
  obtain rfl : v = 0 := Classical.byContradiction hv0
  have HS := Lib.hid hs
  have HC := Lib.hid hc
  have HR := Lib.hid (show namesE e = srt (says (pre e)) by unfold namesE; rw [hv, if_pos rfl])
  rw [HR.out]
  obtain ⟨o, s, nn, kl⟩ := e
  simp only [Ex.o, Ex.s, Ex.n] at HM ⊢
  clear h hs hc hv hv0
  refine (callsIn_wide (n := 3)).1 ?_
  refine callsIn_of_wp_marks Try.func23 rfl trivial ?_ rfl
  simp only [Try.ntmps23, List.size_toArray, List.length_cons, List.length_nil, Nat.reduceAdd, Nat.reduceSub, Array.replicate_succ, Array.replicate_zero, List.push_toArray, List.append_toArray, List.nil_append, List.cons_append]
  gi_wp2_with fail
  refine ⟨trivial, ?_⟩
  refine (callsIn_wide.2 (HM.out _ (HH.out.on (by (repeat (first | (with_reducible exact Below.refl _ _) | (with_reducible assumption) | (with_reducible apply bl_alloc) | (with_reducible apply bl_drewN) | (with_reducible apply bl_drew) | (with_reducible refine bl_set ?_ (by first | (simp; done) | (simp; omega)) _) | (with_reducible refine bl_call ?_ (by assumption)))))))).mono ?_
  rintro e w1 ⟨rfl, hb1⟩
  obtain ⟨x0, x1, x2, x3⟩ : box4 w1 w.heap.size o s nn p m c := box_new.on hb1
  have hz1 : w.heap.size + 1 ≤ w1.heap.size := by have := hb1.size; simp at this; omega
  have HW1 : Hid (Below w.heap.size w w1) := Lib.hid (by (repeat (first | (with_reducible exact Below.refl _ _) | (with_reducible assumption) | (with_reducible apply bl_alloc) | (with_reducible apply bl_drewN) | (with_reducible apply bl_drew) | (with_reducible refine bl_set ?_ (by first | (simp; done) | (simp; omega)) _) | (with_reducible refine bl_call ?_ (by assumption)))))
  have hlt1 : w.heap.size < w1.heap.size := by omega
  clear hb1
  gi_wp2_with fail
  refine ⟨trivial, ?_⟩
  refine (nodes_in Fence.wide _ trivial rfl _ _ _ _ _ _ _).mono ?_
  rintro e w3 ⟨rfl, hw3⟩
  obtain ⟨w2, hw2⟩ : ∃ w2, w1.alloc (.cells #[.slice none 0 0] 33) = w2 := ⟨_, rfl⟩
  have hz2 : w2.heap.size = w1.heap.size + 1 := by rw [← hw2]; simp
  have hb2 : Below w1.heap.size w1 w2 := by rw [← hw2]; (repeat (first | (with_reducible exact Below.refl _ _) | (with_reducible assumption) | (with_reducible apply bl_alloc) | (with_reducible apply bl_drewN) | (with_reducible apply bl_drew) | (with_reducible refine bl_set ?_ (by first | (simp; done) | (simp; omega)) _) | (with_reducible refine bl_call ?_ (by assumption))))
  have h2 : Boxed w2 w1.heap.size 33 (.slice none 0 0) := by rw [← hw2]; exact Boxed.new _ _ _
  rw [hw2] at hw3
  have hb3 : Below w2.heap.size w2 w3 := by rw [hw3]; (repeat (first | (with_reducible exact Below.refl _ _) | (with_reducible assumption) | (with_reducible apply bl_alloc) | (with_reducible apply bl_drewN) | (with_reducible apply bl_drew) | (with_reducible refine bl_set ?_ (by first | (simp; done) | (simp; omega)) _) | (with_reducible refine bl_call ?_ (by assumption))))
  have h3 : Boxed w3 w1.heap.size 33 (.slice none 0 0) := by rw [hw3]; exact h2.alloc _
  have hx3 : box4 w3 w2.heap.size o s nn p m c := by rw [hw3]; exact box_new
  have hz3 : w3.heap.size = w2.heap.size + 1 := by rw [hw3]; simp
  have HW3 : Hid (Below w.heap.size w w3) := Lib.hid (HW1.out.trans ((hb2.mono HW1.out.size).trans (hb3.mono (by omega))))
  have hsz : w2.heap.size = w1.heap.size + 1 := hz2
  rw [hw2]
  clear hw3 hw2 hb2 hb3 h2
  gi_wp2
  obtain ⟨i0, hi0, hi1, hi2, hi3⟩ := parts_of str_info
  rw [hz2] at hx3
  refine wpIn_rangeFunc_ownH rfl (by omega) (gf := 49) (lb := #[.pointer (some ⟨w1.heap.size + 1, 0, none⟩)]) rfl trivial (enters_of Try.func49 (by kernel_rfl) rfl)
    (nodes_stops Fence.wide rfl trivial trivial rfl _ (w1.heap.size + 1) w.heap.size w3.heap.size (.mk o s nn kl) p m c w3 hx3 (HH.out.below HW3.out) HS.out (by omega) (Nat.le_refl _)) (fun h k => h.trans k) (Kp.put (by omega)) (Below.refl _ _) (fun _ => rfl)
    (fun ps W => (∃ v, Boxed W w1.heap.size 33 v ∧ W.ownsRow w.heap.size 9 1 v (says (ps.map Nd.x)).length (tbs (says (ps.map Nd.x))) ∧ (v = .slice none 0 0 ↔ says (ps.map Nd.x) = [])) ∧ w3.heap.size ≤ W.heap.size ∧ Below w.heap.size w W)
    (fun _ _ _ => False)
    (OwnFrom.and (Own.from (holdsRow_own w.heap.size w1.heap.size 33 9 1 (fun ps : List Nd => (says (ps.map Nd.x)).length) (fun ps => tbs (says (ps.map Nd.x))) (fun ps v => v = .slice none 0 0 ↔ says (ps.map Nd.x) = [])) _) (OwnFrom.and (fun s A B row hs hg _ => Nat.le_trans hs hg.size) (ownFrom_below (Nat.le_refl _) (by omega))))
    (fun _ _ _ _ _ hs _ _ => hs)
    ⟨⟨_, h3, World.ownsRow_nil _ _ _ _, by simp [says]⟩, Nat.le_refl _, HW3.out⟩
    (fun x a' W => ∃ Bx, w3.heap.size ≤ Bx ∧ box4 W Bx x.x.o x.x.s x.x.n x.p x.m x.c ∧ a' = { tmps := #[.agg #[.int .i64 o, .string s, .int .i64 nn, .slice p m c], .pointer (some ⟨w.heap.size, 0, none⟩), .slice none 0 0, .pointer (some ⟨w1.heap.size, 0, none⟩), .pointer (some ⟨Bx, 0, none⟩), .agg #[.int .i64 o, .string s, .int .i64 nn, .slice p m c], .int .i64 0, .bool false, .agg #[.int .i64 o, .string s, .int .i64 nn, .slice p m c], .func (.func 49) #[] #[.pointer (some ⟨w1.heap.size + 1, 0, none⟩)], .agg #[.int .i64 x.x.o, .string x.x.s, .int .i64 x.x.n, .slice x.p x.m x.c], undef, undef, undef, undef, undef, undef, undef, undef, undef, undef, undef, undef], defers := [] })
    (fun x a' _ A B row hs hg hr => let ⟨Bx, h1, h2, h3⟩ := hs; ⟨Bx, h1, box4.own (β := Unit) _ _ _ _ _ _ _ () A B row h2 hg (fun r e => (hr r e).2), h3⟩) ?assign ?body ?done ?stop
  case assign =>
    rintro l ps x W K ⟨⟨v, hv, hrow, hnil⟩, hz, hB⟩ hK
    simp only [encN]
    gi_wp2
    have hbW : Below W.heap.size W (W.alloc (.cells #[.int .i64 x.x.o, .string x.x.s, .int .i64 x.x.n, .slice x.p x.m x.c] 25)) := by (repeat (first | (with_reducible exact Below.refl _ _) | (with_reducible assumption) | (with_reducible apply bl_alloc) | (with_reducible apply bl_drewN) | (with_reducible apply bl_drew) | (with_reducible refine bl_set ?_ (by first | (simp; done) | (simp; omega)) _) | (with_reducible refine bl_call ?_ (by assumption))))
    have hle := hB.size
    refine hK _ _ (keeps_below hbW) (Kp.of_below hbW hle) ?_ ⟨W.heap.size, hz, box_new, ?_⟩
    · exact ⟨⟨v, hv.alloc _, hrow.alloc _, hnil⟩, Nat.le_trans hz hbW.size, hB.trans (hbW.mono hle)⟩
    · simp [go_sem]
  case body =>
    rintro l ps x a' W hl ⟨r, hr⟩ ⟨⟨v, hv, hrow, hnil⟩, hz, hB⟩ ⟨Bx, hBx, ⟨b0, b1, b2, b3⟩, rfl⟩ hlt
    have hsn := says_snoc (ps.map Nd.x) x.x
    rw [show ps.map Nd.x ++ [x.x] = (ps ++ [x]).map Nd.x by simp] at hsn
    have hc := hv.cell
    have hpl : (says (ps.map Nd.x)).length ≤ 1000000 := by
      have h1 := says_len (ps.map Nd.x)
      have h2 := HC.out
      rw [List.length_map] at h1
      omega
    by_cases hx : bs x.x.s = []
    · have e0 := emp_yes hx
      rw [if_pos hx] at hsn
      have HSN := Lib.hid hsn
      clear hsn hpl hx
      have HNIL := Lib.hid hnil
      clear hnil
      gi_wp2
      exact ⟨KeepsFrom.refl _ _, Kp.refl _ _ _, ⟨v, hv, by rw [HSN.out]; exact hrow, by rw [HSN.out]; exact HNIL.out⟩, hz, hB⟩
    · have e0 := emp_no hx
      rw [if_neg hx] at hsn
      have HSN := Lib.hid hsn
      have HNIL := Lib.hid hnil
      have HB := Lib.hid hB
      have HZ := Lib.hid hz
      have hle := hB.size
      obtain ⟨L, hL⟩ : ∃ L, says (ps.map Nd.x) = L := ⟨_, rfl⟩
      rw [hL] at HSN hrow hpl
      clear hsn hx hnil hB hL hr
      gi_wp2_with (gi_at_builtin; refine wpListIn_append_own _ rfl _ _ 33 rfl w.heap.size 9 i0 (.string ⟨#[]⟩) 1 16 Try.underlying33 hi0 hi1 hi2 hi3 rfl (by decide) _ _ _ rfl (hrow.alloc _) ⟨W.heap.size, 0, none⟩ 1 1 [.string x.x.s] rfl rfl (cell_one_new _ _ _) (by simp [Value.oneCell']) (by simp only [maxLen]; omega) (by omega) (by simp; omega) ?_; intro v' w4 hown' hgrow _; obtain ⟨g', cap', rfl⟩ := ownsRow_succ hown'; obtain ⟨hv1, hv2, hr2, hk2, hb2⟩ := hv.appended (by decide) hrow hle (by omega) hown' hgrow; have hc1 := hv1.cell; have hf1 := hv1.frozen)
      have hz4 : W.heap.size ≤ w4.heap.size := Nat.le_trans (by simp) hgrow.size
      refine ⟨hk2.from _, Kp.app hle (by omega) (by omega) hrow hgrow hb2, ⟨_, hv2, ?_, ?_⟩, by rw [World.size_setCell]; exact Nat.le_trans HZ.out hz4, HB.out.trans hb2⟩
      · rw [HSN.out, List.length_append]
        have : tbs (L ++ [bs x.x.s]) = tbs L ++ [.string x.x.s] := by simp [tbs, tb_bs]
        rw [this]
        exact hr2
      · rw [HSN.out]; simp
  case done =>
    rintro D ys W hD hys ⟨⟨v, hv, hrow, hnil⟩, hz, hB⟩ hK
    have hlen : (says (pre (.mk o s nn kl))).length ≤ 1000000 := by
      have h1 := says_len (pre (.mk o s nn kl))
      have h2 := HC.out
      rw [pre_len] at h1
      omega
    rw [hys] at hrow hnil
    obtain ⟨L, hL⟩ : ∃ L, says (pre (.mk o s nn kl)) = L := ⟨_, rfl⟩
    rw [hL] at hrow hnil hlen
    have HLE := Lib.hid hL
    clear hL
    have hc := hv.cell
    by_cases h0 : L = []
    · have hv0 := hnil.2 h0
      subst hv0
      have HG := Lib.hid (show srt (says (pre (.mk o s nn kl))) = [] by rw [HLE.out, h0, srt_ins]; rfl)
      have HB := Lib.hid hB
      clear hB hnil hrow hlen h0
      gi_wp2_with fail
      refine ⟨trivial, ?_⟩
      refine (callsIn_wide.2 (Any.slices_Sort_string_none Try.lays190 none 0 W)).mono ?_
      rintro e w4 ⟨rfl, rfl⟩
      gi_wp2_with fail
      refine ⟨trivial, ?_⟩
      refine (callsIn_wide.2 (Any.slices_Compact_string_empty Try.lays194 none 0 w4)).mono ?_
      rintro e w5 ⟨rfl, rfl⟩
      gi_wp2
      refine ⟨by simp, .inl ⟨_, _, rfl, run_takeDeferred hK, ?_⟩⟩
      exact ⟨_, results_tmp rfl _ _ _, none, 0, 0, rfl, by rw [HG.out]; exact Txs.nil, HB.out.trans (belowK_b (w := w) (Nat.le_refl _) _ D _ _ (by omega) hK rfl rfl)⟩
    · have hnn : ¬ v = .slice none 0 0 := fun e => h0 (hnil.1 e)
      obtain ⟨g, cap, rfl, hbg, hgl, hncap, hcm, -, hH⟩ := Lib.holds_of_ownsRow (enc := encStr) (zs := L) hrow hnn
      rcases hrow.2 with ⟨e0, _⟩ | ⟨g2, cap2, cur, e0, hbase, hgb, hq1, hq2, hq3, hq4⟩
      · cases e0
      cases e0
      have hgB : some w1.heap.size ≠ some g := hv.not_row (by decide) hrow
      have hDg : some D ≠ some g := fun e => by cases e; rw [hgb] at hK; cases hK
      have hsort := Any.slices_Sort_string Try.lays190 g 0 cap L W hH hgl (by omega)
      obtain ⟨S, hS⟩ : ∃ S, L.mergeSort (fun x y => decide (x ≤ y)) = S := ⟨_, rfl⟩
      have hlS : S.length = L.length := by rw [← hS]; exact List.length_mergeSort L
      rw [hS] at hsort
      have HG := Lib.hid (show srt (says (pre (.mk o s nn kl))) = Lib.compact S by unfold srt; rw [HLE.out, hS])
      have HB := Lib.hid hB
      have HH4 := Lib.hid hH
      have HGB := Lib.hid hgb
      have HDG := Lib.hid hDg
      have HGL := Lib.hid hgl
      obtain ⟨N, hN⟩ : ∃ N, L.length = N := ⟨_, rfl⟩
      have HS3 := Lib.hid hq3
      rw [hN] at hsort hlS hlen hncap hrow hc hv hq1
      have HNL := Lib.hid hN
      clear hnil hnn h0 hS hB hH hgb hDg hgl hq4 hq3 hrow hN
      gi_wp2_with fail
      refine ⟨trivial, ?_⟩
      refine (callsIn_wide.2 hsort).mono ?_
      rintro e w4 ⟨rfl, nq, os, hw4⟩
      have hg4 : W.grownBy w4 (some g) := by rw [hw4]; exact grownBy_sorted _
      have hv4 := hv.kept hg4 hgB
      have hK4 := (hg4.block D (Array.getElem?_eq_some_iff.1 hK).1 HDG.out).trans hK
      have hH4 : Holds encStr w4 g 0 S.toArray := by
        rw [hw4]
        exact holds_grow encStr _ os g 0 _ (by simpa [putRow, mapBlock, Sort.ahead] using HGL.out) (holds_putRow encStr _ g 0 _ _ (holds_ahead encStr W nq g 0 _ HH4.out) (by simp [hlS, HNL.out]))
      have hs4 := ownsRow_sorted (n := nq) (os := os) (ts := S) (ss := L) (by rw [hlS, HNL.out]) hbase HGB.out (by rw [HNL.out]; exact hq1) hq2 HS3.out
      rw [← hw4, HNL.out] at hs4
      have hB4 : Below w.heap.size w w4 := HB.out.grown hg4 HB.out.size (fun j hj => by cases hj; exact hbg)
      have hcomp := Any.slices_Compact_string Try.lays194 g 0 cap S w4 hH4 (by omega) (by rw [hlS]; exact hncap)
      rw [hlS] at hcomp
      have hc4 := hv4.cell
      have HS4 := Lib.hid hs4
      have HB4 := Lib.hid hB4
      clear hg4 hw4 hH4 hs4 hB4 hK hv hv4 hc hsort hq1 hq2
      gi_wp2_with fail
      refine ⟨trivial, ?_⟩
      refine (callsIn_wide.2 hcomp).mono ?_
      rintro e w5 ⟨rfl, q, hw5⟩
      have hle := Lib.compact_length_le S
      have hput : ∀ k, g ≠ k → w5.heap[k]? = w4.heap[k]? := fun k hk => by rw [hw5]; simp [putRow, mapBlock, Sort.ahead, Array.getElem?_modify, hk]
      have hK5 := (hput D (fun e => HDG.out (by rw [e]))).trans hK4
      have hs5 := Lib.ownsRow_putRow (q := q) (k := (Lib.compact S).length) (ys := Lib.compact S ++ List.replicate (N - (Lib.compact S).length) []) HS4.out (by simp; omega) (by omega)
      rw [List.take_left, ← hw5] at hs5
      have hB5 : Below w.heap.size w w5 := by rw [hw5]; exact Lib.below_putRow HB4.out hbg
      clear hw5 hput hcomp hc4
      gi_wp2
      refine ⟨by simp, .inl ⟨_, _, rfl, run_takeDeferred hK5, ?_⟩⟩
      have hs6 := ownsRow_putObj hs5 (.deferred none) hK5 rfl
      obtain ⟨p6, c6, e6, h6⟩ := own_txs (l := Lib.compact S) hs6
      cases e6
      exact ⟨_, results_tmp rfl _ _ _, _, _, _, rfl, by rw [HG.out]; exact h6, hB5.trans (belowK_b (w := w) (Nat.le_refl _) _ D _ _ (by omega) hK5 rfl rfl)⟩
  case stop =>
    rintro D c ps W _ _ h _
    exact h.elim
end Go.Proofs.Ytfkenbdfakjeoaa.Ex
