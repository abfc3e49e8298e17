/-
  The contracts of the reference's with and object.
-/
import Derived.Test.YtonlmnlpofgccaaPSmt
namespace Go.Proofs.Ytonlmnlpofgccaa.Sm
open Go.RowKit
open Go.Proofs.Ytonlmnlpofgccaa.Na (bs bs_inj chk)
open Go.Proofs.Ytonlmnlpofgccaa.Ex (Ex Nm Kin In Sz Lo Gives bl_alloc bl_drewN bl_drew bl_set bl_call block_lt Txs OwnT tbs tb bs_tb tb_bs eq_yes eq_no take_one take_snoc ins ins_is ins_old Inc insA insA_inc inc_unique inc_ins mem_ins inc_nil str_info)
set_option maxHeartbeats 2000000
set_option linter.unusedVariables false
attribute [local go_sem] cs0 cs1 cs2 cs3 cs4 cs5 cs6 cs7 cs8 cs9 cs10 cs11 cs12 cs13 cs14 cs15 cs16 cs17 cs18 cs19 cs20
/-- Texts behind a row of texts of the call's own. -/
theorem appt_run {w : World} {lo : Nat} {v : Value} {l0 : List Nm} (hown : OwnT lo w v l0) {l : List Nm} {p : Option Addr} {n : Nat} (h : Txs w p n l) (c : Nat) (hb : lo ≤ w.heap.size) (hn : l0.length + n ≤ 3000000) :
    ∃ (v' : Value) (w' : World), (Builtin.append_ #[29, 29] 29 #[v, .slice p n c]).run Try.prog w = .ok v' w' ∧ OwnT lo w' v' (l0 ++ l) ∧ w.grownBy w' v.ownBlock := by
  obtain ⟨i0, hi0, hi1, hi2, hi3⟩ := parts_of' str_info
  obtain ⟨h1, h2, h3⟩ := h
  cases p with
  | none =>
    obtain rfl : n = 0 := by
      rcases h3 with h | ⟨b, o, h, -⟩
      · exact h
      · cases h
    obtain rfl := List.length_eq_zero_iff.1 h1
    exact ⟨v, w, append_none lo _ _ _ i0 1 Try.underlying29 hi0 v l0.length _ hown c, by rw [List.append_nil]; exact hown, ⟨rfl, rfl, rfl, Nat.le_refl _, fun _ _ _ => rfl⟩⟩
  | some a =>
    have hnews : ∀ j u, (tbs l)[j]? = some u → w.cell? (a.add j) = some u := by
      intro j u hu
      have hj : j < l.length := by have := (List.getElem?_eq_some_iff.1 hu).1; simpa [tbs] using this
      obtain ⟨b, o, he, hbl, hc⟩ := h3.resolve_left (by omega)
      cases he
      rw [Ex.add_off, hc.out j hj, ← hu]
      simp [tbs, hj]
    obtain ⟨v', w', e1, e2, e3, -, -⟩ := run_append_own_at (P := Try.prog) w lo 29 29 9 i0 _ 1 16 Try.underlying29 hi0 hi1 hi2 hi3 rfl (by decide) v l0.length _ hown a n c (tbs l) (by simp [tbs, h1]) hnews
      (by intro u hu; obtain ⟨x, -, rfl⟩ := List.mem_map.1 hu; rfl) (by unfold maxLen; omega) (by omega) hb
    refine ⟨v', w', e1, ?_, e3⟩
    show w'.ownsRow lo 9 1 v' (l0 ++ l).length _
    rw [List.length_append, h1, show tbs (l0 ++ l) = tbs l0 ++ tbs l by simp [tbs]]
    exact e2
theorem own_mono {lo lo2 : Nat} {w : World} {v : Value} {l : List Nm} (h : lo2 ≤ lo) (ho : OwnT lo w v l) : OwnT lo2 w v l := by
  refine ⟨ho.1, ?_⟩
  rcases ho.2 with h1 | ⟨g, cap, cur, h1, h2, h3⟩
  · exact .inl h1
  · exact .inr ⟨g, cap, cur, h1, Nat.le_trans h h2, h3⟩
theorem txs_new (w : World) (s : ByteArray) : Txs (w.alloc (.cells #[.string s] 9)) (some ⟨w.heap.size, 0, none⟩) 1 [bs s] := by
  refine ⟨rfl, by omega, .inr ⟨w.heap.size, 0, rfl, by simp, Lib.hid fun i hi => ?_⟩⟩
  have hi : i < 1 := hi
  obtain rfl : i = 0 := by omega
  rw [World.cell?_alloc_mark]
  rfl
theorem own_opts {lo : Nat} {w : World} {v : Value} {l : List Nm} (h : OwnT lo w v l) : (v = .slice none 0 0 ∧ l = []) ∨ ∃ g cap, v = .slice (some ⟨g, 0, none⟩) l.length cap ∧ lo ≤ g ∧ g < w.heap.size ∧ l.length ≤ cap ∧ cap ≤ 9223372036854775807 ∧ Hid (∀ i, (h : i < l.length) → w.cell? ⟨g, 0 + i, none⟩ = some (.string (tb l[i]))) := by
  have h' := h
  rcases h'.2 with ⟨rfl, h0⟩ | ⟨g, cap, cur, rfl, hg, hcur, hc, hm, h5, h6⟩
  · exact .inl ⟨rfl, List.length_eq_zero_iff.1 h0⟩
  · refine .inr ⟨g, cap, rfl, hg, (h.lt g rfl).2, hc, by unfold maxLen at hm; omega, Lib.hid fun i hi => ?_⟩
    rw [h.cellAt (0 + i) (by omega), Nat.zero_add, List.getElem?_map, List.getElem?_eq_getElem hi]
    rfl
theorem inc_take {s : Nm} : ∀ {l : List Nm} {k : Nat}, Inc l → (∀ i (h : i < l.length), i < k → l[i] < s) → (∀ h : k < l.length, s < l[k]) → ins l s = l.take k ++ [s] ++ l.drop k := by
  intro l k hi h1 h2
  rw [ins_is hi]
  have e1 : l.filter (fun x => decide (x < s)) = l.take k := by
    conv => lhs; rw [← List.take_append_drop k l]
    rw [List.filter_append]
    have a1 : (l.take k).filter (fun x => decide (x < s)) = l.take k := List.filter_eq_self.2 fun x hx => by
      obtain ⟨i, hil, rfl⟩ := List.getElem_of_mem hx
      have hil' : i < l.length ∧ i < k := by simp at hil; omega
      rw [List.getElem_take]
      exact decide_eq_true (h1 i hil'.1 hil'.2)
    have a2 : (l.drop k).filter (fun x => decide (x < s)) = [] := List.filter_eq_nil_iff.2 fun x hx => by
      obtain ⟨i, hil, rfl⟩ := List.getElem_of_mem hx
      have hil' : k + i < l.length := by simp at hil; omega
      rw [List.getElem_drop]
      have h3 := h2 (by omega)
      have h4 : s < l[k + i] := by
        rcases Nat.eq_zero_or_pos i with h0 | h0
        · subst h0; exact h3
        · exact Ex.nm_lt_trans h3 (List.pairwise_iff_getElem.1 hi k (k + i) _ _ (by omega))
      simpa using Ex.nm_asym h4
    rw [a1, a2, List.append_nil]
  have e2 : l.filter (fun x => decide (s < x)) = l.drop k := by
    conv => lhs; rw [← List.take_append_drop k l]
    rw [List.filter_append]
    have a1 : (l.take k).filter (fun x => decide (s < x)) = [] := List.filter_eq_nil_iff.2 fun x hx => by
      obtain ⟨i, hil, rfl⟩ := List.getElem_of_mem hx
      have hil' : i < l.length ∧ i < k := by simp at hil; omega
      rw [List.getElem_take]
      simpa using Ex.nm_asym (h1 i hil'.1 hil'.2)
    have a2 : (l.drop k).filter (fun x => decide (s < x)) = l.drop k := List.filter_eq_self.2 fun x hx => by
      obtain ⟨i, hil, rfl⟩ := List.getElem_of_mem hx
      have hil' : k + i < l.length := by simp at hil; omega
      rw [List.getElem_drop]
      have h3 := h2 (by omega)
      rcases Nat.eq_zero_or_pos i with h0 | h0
      · subst h0; exact decide_eq_true h3
      · exact decide_eq_true (Ex.nm_lt_trans h3 (List.pairwise_iff_getElem.1 hi k (k + i) _ _ (by omega)))
    rw [a1, a2, List.nil_append]
  rw [e1, e2, List.append_assoc]
  rfl
def GivesO (lo : Nat) (l : List Nm) (w : World) (e : Ending) (w' : World) : Prop := ∃ v, e = .returned v ∧ OwnT lo w' v l ∧ Below w.heap.size w w'
theorem own_nil (lo : Nat) (w : World) : OwnT lo w (.slice none 0 0) [] := World.ownsRow_nil _ _ _ _
theorem txs_take {w W : World} {g : Nat} {l : List Nm} (hc : Hid (∀ i, (h : i < l.length) → w.cell? ⟨g, 0 + i, none⟩ = some (.string (tb l[i])))) (hg : g < w.heap.size) (hb : Below w.heap.size w W) {k : Nat} (hk : k ≤ l.length) (hn : k ≤ 900000) : Txs W (some ⟨g, 0, none⟩) k (l.take k) := by
  refine ⟨by rw [List.length_take]; omega, by omega, .inr ⟨g, 0, rfl, Nat.lt_of_lt_of_le hg hb.size, Lib.hid fun i hi => ?_⟩⟩
  have hi' : i < l.length := by rw [List.length_take] at hi; omega
  rw [(hb.cell (p := ⟨g, 0 + i, none⟩) hg).trans (hc.out i hi'), List.getElem_take]
theorem txs_drop {w W : World} {g : Nat} {l : List Nm} (hc : Hid (∀ i, (h : i < l.length) → w.cell? ⟨g, 0 + i, none⟩ = some (.string (tb l[i])))) (hg : g < w.heap.size) (hb : Below w.heap.size w W) {m : Nat} (hm : l.length = m) (k : Nat) (hn : m ≤ 900000) : Txs W (some ⟨g, k, none⟩) (m - k) (l.drop k) := by
  subst hm
  refine ⟨by rw [List.length_drop], by omega, .inr ⟨g, k, rfl, Nat.lt_of_lt_of_le hg hb.size, Lib.hid fun i hi => ?_⟩⟩
  have hi' : k + i < l.length := by rw [List.length_drop] at hi; omega
  have := (hb.cell (p := ⟨g, 0 + (k + i), none⟩) hg).trans (hc.out (k + i) hi')
  rw [Nat.zero_add] at this
  rw [this, List.getElem_drop]
theorem txs_zero {W : World} {p : Option Addr} {l : List Nm} (h : l = []) : Txs W p 0 l := by subst h; exact Txs.nil
set_option maxRecDepth 100000 in
theorem with_nil (s : ByteArray) (lo : Nat) (w : World) (hlo : lo ≤ w.heap.size) : Calls Try.prog 28 #[.slice none 0 0, .string s] w (GivesO lo (ins [] (bs s)) w) := by
  have HR : Hid (ins [] (bs s) = [bs s]) := Lib.hid (by rw [ins_is inc_nil]; rfl)
  have HLO := Lib.hid hlo
  clear hlo
  go_enter Try.func28, Try.ntmps28
  go_wp2_with fail
  go_loopw [5] (fun i wr => i = .int .i64 0 ∧ Hid (Below w.heap.size w wr)) (fun i _ => 0)
  case atStart => exact ⟨rfl, Lib.hid (by (repeat (first | (with_reducible exact Below.refl _ _) | (with_reducible assumption) | (with_reducible apply bl_alloc) | (with_reducible apply bl_drewN) | (with_reducible apply bl_drew) | (with_reducible refine bl_set ?_ (by first | (simp; done) | (simp; omega)) _) | (with_reducible refine bl_call ?_ (by assumption)))))⟩
  case round =>
    obtain ⟨rfl, HW⟩ := hrel
    have l : List Nm := []
    have cap : Nat := 0
    obtain ⟨v1, w1, hrun1, hown1, hg1⟩ := appt_run (own_nil w.heap.size wr) (Txs.nil (p := none)) cap HW.out.size (by first | (simp; done) | (simp; omega))
    have hz1 : w.heap.size ≤ w1.heap.size := Nat.le_trans HW.out.size hg1.size
    have hb1 : Below w.heap.size w w1 := grown_below HW.out (Nat.le_refl _) HW.out.size (own_nil w.heap.size wr) hg1
    obtain ⟨v2, w2, hrun2, hown2, hg2⟩ := appt_run (w := w1.alloc (.cells #[.string s] 9)) (Ex.OwnT.below hown1 (show Below w1.heap.size w1 _ by (repeat (first | (with_reducible exact Below.refl _ _) | (with_reducible assumption) | (with_reducible apply bl_alloc) | (with_reducible apply bl_drewN) | (with_reducible apply bl_drew) | (with_reducible refine bl_set ?_ (by first | (simp; done) | (simp; omega)) _) | (with_reducible refine bl_call ?_ (by assumption)))))) (txs_new w1 s) 1 (by first | (simp; done) | (simp; omega)) (by first | (simp; done) | (simp; omega))
    have hz2 : w.heap.size ≤ w2.heap.size := Nat.le_trans (by first | (simp; done) | (simp; omega)) hg2.size
    have hb2 : Below w.heap.size w w2 := grown_below (show Below w.heap.size w (w1.alloc (.cells #[.string s] 9)) by (repeat (first | (with_reducible exact Below.refl _ _) | (with_reducible assumption) | (with_reducible apply bl_alloc) | (with_reducible apply bl_drewN) | (with_reducible apply bl_drew) | (with_reducible refine bl_set ?_ (by first | (simp; done) | (simp; omega)) _) | (with_reducible refine bl_call ?_ (by assumption))))) (Nat.le_refl _) (by first | (simp; done) | (simp; omega)) (Ex.OwnT.below hown1 (show Below w1.heap.size w1 _ by (repeat (first | (with_reducible exact Below.refl _ _) | (with_reducible assumption) | (with_reducible apply bl_alloc) | (with_reducible apply bl_drewN) | (with_reducible apply bl_drew) | (with_reducible refine bl_set ?_ (by first | (simp; done) | (simp; omega)) _) | (with_reducible refine bl_call ?_ (by assumption)))))) hg2
    have hb2' : Below w.heap.size w w2 := hb2
    obtain ⟨v3, w3, hrun3, hown3, hg3⟩ := appt_run hown2 (Txs.nil (p := none)) 0 hz2 (by first | (simp; done) | (simp; omega))
    have hb3 : Below w.heap.size w w3 := grown_below hb2 (Nat.le_refl _) hz2 hown2 hg3
    have HO3 := Lib.hid hown3
    have HB3 := Lib.hid hb3
    clear hown1 hown2 hown3 hg1 hg2 hg3 hb1 hb2 hb2' hb3 hz1 hz2
    go_wp2_with (first | (at_builtin; refine Lib.wpList_append_run _ rfl _ _ _ _ rfl _ _ rfl rfl _ _ hrun3 ?_) | (at_builtin; refine Lib.wpList_append_run _ rfl _ _ _ _ rfl _ _ rfl rfl _ _ hrun2 ?_) | (at_builtin; refine Lib.wpList_append_run _ rfl _ _ _ _ rfl _ _ rfl rfl _ _ hrun1 ?_))
    go_ret
    exact ⟨v3, rfl, by rw [HR.out]; exact own_mono HLO.out (by simpa using HO3.out), HB3.out⟩
set_option maxRecDepth 100000 in
theorem with_some (l : List Nm) (g cap : Nat) (s : ByteArray) (lo : Nat) (w : World) (hi : Inc l) (ho : OwnT lo w (.slice (some ⟨g, 0, none⟩) l.length cap) l) (hn : l.length ≤ 900000) (hlo : lo ≤ w.heap.size) (hm : l.length ≤ cap) (hcap : cap ≤ 9223372036854775807) (hg : g < w.heap.size) (hc : Hid (∀ i, (h : i < l.length) → w.cell? ⟨g, 0 + i, none⟩ = some (.string (tb l[i])))) :
    Calls Try.prog 28 #[.slice (some ⟨g, 0, none⟩) l.length cap, .string s] w (GivesO lo (ins l (bs s)) w) := by
  have HO := Lib.hid ho
  have HI := Lib.hid hi
  have HLO := Lib.hid hlo
  obtain ⟨m, hml⟩ : ∃ m, l.length = m := ⟨_, rfl⟩
  rw [hml] at hn hm HO ⊢
  have HM := Lib.hid hml
  clear ho hi hlo hml
  go_enter Try.func28, Try.ntmps28
  go_wp2_with fail
  go_loopw [5] (fun i wr => ∃ k : Nat, k ≤ m ∧ i = .int .i64 (k : Nat) ∧ Hid (∀ i (h : i < l.length), i < k → l[i] < bs s) ∧ Hid (Below w.heap.size w wr)) (fun i _ => m - (intOf i).toNat)
  case atStart => exact ⟨0, Nat.zero_le _, rfl, Lib.hid fun i h h0 => absurd h0 (Nat.not_lt_zero _), Lib.hid (by (repeat (first | (with_reducible exact Below.refl _ _) | (with_reducible assumption) | (with_reducible apply bl_alloc) | (with_reducible apply bl_drewN) | (with_reducible apply bl_drew) | (with_reducible refine bl_set ?_ (by first | (simp; done) | (simp; omega)) _) | (with_reducible refine bl_call ?_ (by assumption)))))⟩
  case round =>
    obtain ⟨k, hk, rfl, HT, HW⟩ := hrel
    have k0 : (0 : Int) ≤ (k : Int) := by omega
    have kc : (k : Int) ≤ (cap : Int) := by omega
    have km : (k : Int) ≤ (m : Int) := by omega
    rcases Nat.lt_or_ge k m with h | h
    · have k1 : (k : Int) < (m : Int) := by omega
      have hkl : k < l.length := by rw [HM.out]; exact h
      have e1 := (HW.out.cell (p := ⟨g, 0 + k, none⟩) hg).trans (hc.out k hkl)
      rw [Nat.zero_add] at e1
      obtain ⟨x, hx⟩ : ∃ x, l[k] = x := ⟨_, rfl⟩
      have HX := Lib.hid hx
      rw [hx] at e1
      clear hx
      by_cases hlt : x < bs s
      · have l1 : Op.bytesLess (tb x).toList s.toList = true := (less_is _ _).trans (decide_eq_true (by rw [bs_tb]; exact hlt))
        have HT2 : Hid (∀ i (h : i < l.length), i < k + 1 → l[i] < bs s) := Lib.hid fun i h h0 => by
          rcases Nat.lt_or_ge i k with h1 | h1
          · exact HT.out i h h1
          · obtain rfl : i = k := by omega
            rw [HX.out]; exact hlt
        clear hlt
        go_wp2_with fail
        go_roundw
        case rel => exact ⟨k + 1, by omega, by go_num, HT2, HW⟩
        case measure => simp [intOf]; omega
      · have l1 : Op.bytesLess (tb x).toList s.toList = false := (less_is _ _).trans (decide_eq_false (by rw [bs_tb]; exact hlt))
        by_cases he : x = bs s
        · have q1 : ((tb x).toList == s.toList) = true := eq_yes (by rw [bs_tb]; exact he)
          have HR : Hid (ins l (bs s) = l) := Lib.hid (ins_old HI.out (by rw [← he, ← HX.out]; exact List.getElem_mem hkl))
          clear hlt he
          go_wp2_with fail
          go_ret
          exact ⟨.slice (some ⟨g, 0, none⟩) m cap, rfl, by rw [HR.out]; exact Ex.OwnT.below (show w.ownsRow lo 9 1 _ l.length (tbs l) by have h9 := HO.out; exact h9) HW.out, HW.out⟩
        · have q1 : ((tb x).toList == s.toList) = false := eq_no (by rw [bs_tb]; exact he)
          have HR : Hid (ins l (bs s) = l.take k ++ [bs s] ++ l.drop k) := Lib.hid (inc_take HI.out HT.out fun hh => by rw [HX.out]; exact Ex.nm_lt_of_le_of_ne (List.not_lt.1 hlt) (fun e => he e.symm))
          clear hlt he
          have hck : ¬ cap = k := by omega
          obtain ⟨v1, w1, hrun1, hown1, hg1⟩ := appt_run (own_nil w.heap.size wr) (txs_take hc hg HW.out (k := k) (by rw [HM.out]; omega) (by omega)) cap HW.out.size (by first | (simp; done) | (simp; omega))
          have hz1 : w.heap.size ≤ w1.heap.size := Nat.le_trans HW.out.size hg1.size
          have hb1 : Below w.heap.size w w1 := grown_below HW.out (Nat.le_refl _) HW.out.size (own_nil w.heap.size wr) hg1
          obtain ⟨v2, w2, hrun2, hown2, hg2⟩ := appt_run (w := w1.alloc (.cells #[.string s] 9)) (Ex.OwnT.below hown1 (show Below w1.heap.size w1 _ by (repeat (first | (with_reducible exact Below.refl _ _) | (with_reducible assumption) | (with_reducible apply bl_alloc) | (with_reducible apply bl_drewN) | (with_reducible apply bl_drew) | (with_reducible refine bl_set ?_ (by first | (simp; done) | (simp; omega)) _) | (with_reducible refine bl_call ?_ (by assumption)))))) (txs_new w1 s) 1 (by first | (simp; done) | (simp; omega)) (by first | (simp; done) | (simp; omega))
          have hz2 : w.heap.size ≤ w2.heap.size := Nat.le_trans (by first | (simp; done) | (simp; omega)) hg2.size
          have hb2 : Below w.heap.size w w2 := grown_below (show Below w.heap.size w (w1.alloc (.cells #[.string s] 9)) by (repeat (first | (with_reducible exact Below.refl _ _) | (with_reducible assumption) | (with_reducible apply bl_alloc) | (with_reducible apply bl_drewN) | (with_reducible apply bl_drew) | (with_reducible refine bl_set ?_ (by first | (simp; done) | (simp; omega)) _) | (with_reducible refine bl_call ?_ (by assumption))))) (Nat.le_refl _) (by first | (simp; done) | (simp; omega)) (Ex.OwnT.below hown1 (show Below w1.heap.size w1 _ by (repeat (first | (with_reducible exact Below.refl _ _) | (with_reducible assumption) | (with_reducible apply bl_alloc) | (with_reducible apply bl_drewN) | (with_reducible apply bl_drew) | (with_reducible refine bl_set ?_ (by first | (simp; done) | (simp; omega)) _) | (with_reducible refine bl_call ?_ (by assumption)))))) hg2
          have hb2' : Below w.heap.size w w2 := hb2
          obtain ⟨v3, w3, hrun3, hown3, hg3⟩ := appt_run hown2 (txs_drop hc hg hb2' HM.out k (by omega)) (cap - k) hz2 (by first | (simp; done) | (simp; omega))
          have hb3 : Below w.heap.size w w3 := grown_below hb2 (Nat.le_refl _) hz2 hown2 hg3
          have HO3 := Lib.hid hown3
          have HB3 := Lib.hid hb3
          clear hown1 hown2 hown3 hg1 hg2 hg3 hb1 hb2 hb2' hb3 hz1 hz2
          go_wp2_with (first | (at_builtin; refine Lib.wpList_append_run _ rfl _ _ _ _ rfl _ _ rfl rfl _ _ hrun3 ?_) | (at_builtin; refine Lib.wpList_append_run _ rfl _ _ _ _ rfl _ _ rfl rfl _ _ hrun2 ?_) | (at_builtin; refine Lib.wpList_append_run _ rfl _ _ _ _ rfl _ _ rfl rfl _ _ hrun1 ?_))
          go_ret
          exact ⟨v3, rfl, by rw [HR.out]; exact own_mono HLO.out (by simpa using HO3.out), HB3.out⟩
    · obtain rfl : m = k := by omega
      have HR : Hid (ins l (bs s) = l.take m ++ [bs s] ++ l.drop m) := Lib.hid (inc_take HI.out HT.out fun hh => absurd hh (by rw [HM.out]; omega))
      by_cases hcm : cap = m
      · subst hcm
        obtain ⟨v1, w1, hrun1, hown1, hg1⟩ := appt_run (own_nil w.heap.size wr) (txs_take hc hg HW.out (k := cap) (by rw [HM.out]; omega) (by omega)) cap HW.out.size (by first | (simp; done) | (simp; omega))
        have hz1 : w.heap.size ≤ w1.heap.size := Nat.le_trans HW.out.size hg1.size
        have hb1 : Below w.heap.size w w1 := grown_below HW.out (Nat.le_refl _) HW.out.size (own_nil w.heap.size wr) hg1
        obtain ⟨v2, w2, hrun2, hown2, hg2⟩ := appt_run (w := w1.alloc (.cells #[.string s] 9)) (Ex.OwnT.below hown1 (show Below w1.heap.size w1 _ by (repeat (first | (with_reducible exact Below.refl _ _) | (with_reducible assumption) | (with_reducible apply bl_alloc) | (with_reducible apply bl_drewN) | (with_reducible apply bl_drew) | (with_reducible refine bl_set ?_ (by first | (simp; done) | (simp; omega)) _) | (with_reducible refine bl_call ?_ (by assumption)))))) (txs_new w1 s) 1 (by first | (simp; done) | (simp; omega)) (by first | (simp; done) | (simp; omega))
        have hz2 : w.heap.size ≤ w2.heap.size := Nat.le_trans (by first | (simp; done) | (simp; omega)) hg2.size
        have hb2 : Below w.heap.size w w2 := grown_below (show Below w.heap.size w (w1.alloc (.cells #[.string s] 9)) by (repeat (first | (with_reducible exact Below.refl _ _) | (with_reducible assumption) | (with_reducible apply bl_alloc) | (with_reducible apply bl_drewN) | (with_reducible apply bl_drew) | (with_reducible refine bl_set ?_ (by first | (simp; done) | (simp; omega)) _) | (with_reducible refine bl_call ?_ (by assumption))))) (Nat.le_refl _) (by first | (simp; done) | (simp; omega)) (Ex.OwnT.below hown1 (show Below w1.heap.size w1 _ by (repeat (first | (with_reducible exact Below.refl _ _) | (with_reducible assumption) | (with_reducible apply bl_alloc) | (with_reducible apply bl_drewN) | (with_reducible apply bl_drew) | (with_reducible refine bl_set ?_ (by first | (simp; done) | (simp; omega)) _) | (with_reducible refine bl_call ?_ (by assumption)))))) hg2
        have hb2' : Below w.heap.size w w2 := hb2
        obtain ⟨v3, w3, hrun3, hown3, hg3⟩ := appt_run hown2 (txs_zero (p := some ⟨g, 0, none⟩) (List.drop_of_length_le (by rw [HM.out]; omega))) 0 hz2 (by first | (simp; done) | (simp; omega))
        have hb3 : Below w.heap.size w w3 := grown_below hb2 (Nat.le_refl _) hz2 hown2 hg3
        have HO3 := Lib.hid hown3
        have HB3 := Lib.hid hb3
        clear hown1 hown2 hown3 hg1 hg2 hg3 hb1 hb2 hb2' hb3 hz1 hz2
        go_wp2_with (first | (at_builtin; refine Lib.wpList_append_run _ rfl _ _ _ _ rfl _ _ rfl rfl _ _ hrun3 ?_) | (at_builtin; refine Lib.wpList_append_run _ rfl _ _ _ _ rfl _ _ rfl rfl _ _ hrun2 ?_) | (at_builtin; refine Lib.wpList_append_run _ rfl _ _ _ _ rfl _ _ rfl rfl _ _ hrun1 ?_))
        go_ret
        exact ⟨v3, rfl, by rw [HR.out]; exact own_mono HLO.out (by simpa using HO3.out), HB3.out⟩
      · obtain ⟨v1, w1, hrun1, hown1, hg1⟩ := appt_run (own_nil w.heap.size wr) (txs_take hc hg HW.out (k := m) (by rw [HM.out]; omega) (by omega)) cap HW.out.size (by first | (simp; done) | (simp; omega))
        have hz1 : w.heap.size ≤ w1.heap.size := Nat.le_trans HW.out.size hg1.size
        have hb1 : Below w.heap.size w w1 := grown_below HW.out (Nat.le_refl _) HW.out.size (own_nil w.heap.size wr) hg1
        obtain ⟨v2, w2, hrun2, hown2, hg2⟩ := appt_run (w := w1.alloc (.cells #[.string s] 9)) (Ex.OwnT.below hown1 (show Below w1.heap.size w1 _ by (repeat (first | (with_reducible exact Below.refl _ _) | (with_reducible assumption) | (with_reducible apply bl_alloc) | (with_reducible apply bl_drewN) | (with_reducible apply bl_drew) | (with_reducible refine bl_set ?_ (by first | (simp; done) | (simp; omega)) _) | (with_reducible refine bl_call ?_ (by assumption)))))) (txs_new w1 s) 1 (by first | (simp; done) | (simp; omega)) (by first | (simp; done) | (simp; omega))
        have hz2 : w.heap.size ≤ w2.heap.size := Nat.le_trans (by first | (simp; done) | (simp; omega)) hg2.size
        have hb2 : Below w.heap.size w w2 := grown_below (show Below w.heap.size w (w1.alloc (.cells #[.string s] 9)) by (repeat (first | (with_reducible exact Below.refl _ _) | (with_reducible assumption) | (with_reducible apply bl_alloc) | (with_reducible apply bl_drewN) | (with_reducible apply bl_drew) | (with_reducible refine bl_set ?_ (by first | (simp; done) | (simp; omega)) _) | (with_reducible refine bl_call ?_ (by assumption))))) (Nat.le_refl _) (by first | (simp; done) | (simp; omega)) (Ex.OwnT.below hown1 (show Below w1.heap.size w1 _ by (repeat (first | (with_reducible exact Below.refl _ _) | (with_reducible assumption) | (with_reducible apply bl_alloc) | (with_reducible apply bl_drewN) | (with_reducible apply bl_drew) | (with_reducible refine bl_set ?_ (by first | (simp; done) | (simp; omega)) _) | (with_reducible refine bl_call ?_ (by assumption)))))) hg2
        have hb2' : Below w.heap.size w w2 := hb2
        obtain ⟨v3, w3, hrun3, hown3, hg3⟩ := appt_run hown2 (txs_zero (p := some ⟨g, m, none⟩) (List.drop_of_length_le (by rw [HM.out]; omega))) (cap - m) hz2 (by first | (simp; done) | (simp; omega))
        have hb3 : Below w.heap.size w w3 := grown_below hb2 (Nat.le_refl _) hz2 hown2 hg3
        have HO3 := Lib.hid hown3
        have HB3 := Lib.hid hb3
        clear hown1 hown2 hown3 hg1 hg2 hg3 hb1 hb2 hb2' hb3 hz1 hz2
        go_wp2_with (first | (at_builtin; refine Lib.wpList_append_run _ rfl _ _ _ _ rfl _ _ rfl rfl _ _ hrun3 ?_) | (at_builtin; refine Lib.wpList_append_run _ rfl _ _ _ _ rfl _ _ rfl rfl _ _ hrun2 ?_) | (at_builtin; refine Lib.wpList_append_run _ rfl _ _ _ _ rfl _ _ rfl rfl _ _ hrun1 ?_))
        go_ret
        exact ⟨v3, rfl, by rw [HR.out]; exact own_mono HLO.out (by simpa using HO3.out), HB3.out⟩
end Go.Proofs.Ytonlmnlpofgccaa.Sm
