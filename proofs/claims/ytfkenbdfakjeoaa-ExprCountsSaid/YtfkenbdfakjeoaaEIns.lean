/-
  The contracts of the reference's Insert, mentioned and Names.
-/
import Derived.Test.YtfkenbdfakjeoaaETx
import Derived.Test.YtfkenbdfakjeoaaERChk
import Derived.Sort.Walk0
import Derived.Deep.AppendLies
namespace Go.Proofs.Ytfkenbdfakjeoaa.Ex
open Go.RowKit
open Go.Proofs.Ytfkenbdfakjeoaa.Na (bs bs_inj chk)
set_option maxHeartbeats 4000000
set_option linter.unusedVariables false
set_option linter.unusedSimpArgs false
theorem less_is (x y : ByteArray) : Op.bytesLess x.toList y.toList = decide (bs x < bs y) := by
  rw [Go.Proofs.bytesLess_eq, Lib.toList_data, Lib.toList_data]
theorem insS_yes {s x : Nm} {q : List Nm × Bool} (h : q.2 = false) (g : ¬ x < s) : insS s q x = if x = s then (q.1 ++ [s], true) else (q.1 ++ [s] ++ [x], true) := by
  simp [insS, h, g]
theorem insS_no {s x : Nm} {q : List Nm × Bool} (h : q.2 = true ∨ x < s) : insS s q x = if x = s then q else (q.1 ++ [x], q.2) := by
  unfold insS
  have e : ¬ (q.2 = false ∧ ¬ x < s) := fun ⟨a, b⟩ => h.elim (fun e => by rw [a] at e; cases e) b
  simp only [e, if_false]
theorem own_one {lo : Nat} {w : World} {v : Value} {q : List Nm} {x : ByteArray} (h : w.ownsRow lo 9 1 v (q.length + 1) (tbs q ++ [.string x])) : OwnT lo w v (q ++ [bs x]) := by
  show w.ownsRow lo 9 1 v (q ++ [bs x]).length (tbs (q ++ [bs x]))
  rw [List.length_append]
  have : tbs (q ++ [bs x]) = tbs q ++ [.string x] := by simp [tbs, tb_bs]
  rw [this]
  exact h
theorem grown_on {a wr w4 : World} {v : Value} {q : List Nm} {o : Obj} (hB : Below a.heap.size a wr) (hr : OwnT a.heap.size wr v q) (hg : (wr.alloc o).grownBy w4 v.ownBlock) : Below a.heap.size a w4 :=
  Below.grown (bl_alloc hB) hg (by simp; exact Nat.le_succ_of_le hB.size) fun k hk => (World.ownsRow.lt hr k hk).1
theorem grown_cell {lo : Nat} {wr w4 : World} {v u : Value} {q : List Nm} {o : Obj} {b k : Nat} (hr : OwnT lo wr v q) (hg : (wr.alloc o).grownBy w4 v.ownBlock) (hb : b < lo) (h : wr.cell? ⟨b, k, none⟩ = some u) : w4.cell? ⟨b, k, none⟩ = some u := by
  have hlt := block_lt h
  refine (World.cell?_of_block (a := ⟨b, k, none⟩) (hg.block b (by simp; omega) fun e => ?_)).trans (Lib.cell?_alloc_some _ h)
  have := (World.ownsRow.lt hr b e.symm).1
  omega
set_option maxRecDepth 100000 in
theorem insert_any (l : List Nm) (s : ByteArray) (p : Option Addr) (m c : Nat) (w : World) (h : Txs w p m l) (hm : m ≤ 1000) : Calls Try.prog 30 #[.slice p m c, .string s] w (GivesT (ins l (bs s)) w) := by
  obtain ⟨hl, hm2, hh⟩ := h
  have HL := Lib.hid hl
  have HH := Lib.hid hh
  have HM := Lib.hid hm
  obtain ⟨i0, hi0, hi1, hi2, hi3⟩ := parts_of str_info
  clear hh hl
  go_enter Try.func30, Try.ntmps30
  go_wp2_with fail
  go_loopw [5, 6, 7] (fun v d i wr => ∃ (k : Nat) (b : Bool) (q : List Nm), k ≤ m ∧ i = .int .i64 (k : Nat) ∧ d = .bool b ∧ Hid (insF (bs s) (l.take k) = (q, b) ∧ q.length ≤ 2 * k ∧ OwnT w.heap.size wr v q) ∧ Hid (Below w.heap.size w wr)) (fun v d i _ => m - (intOf i).toNat)
  case atStart => exact ⟨0, false, [], Nat.zero_le _, rfl, rfl, Lib.hid ⟨by rw [List.take_zero]; rfl, by simp, World.ownsRow_nil _ _ _ _⟩, Lib.hid (by (repeat (first | (with_reducible exact Below.refl _ _) | (with_reducible assumption) | (with_reducible apply bl_alloc) | (with_reducible apply bl_drewN) | (with_reducible apply bl_drew) | (with_reducible refine bl_set ?_ (by first | (simp; done) | (simp; omega)) _) | (with_reducible refine bl_call ?_ (by assumption)))))⟩
  case round =>
    obtain ⟨k, b, q, hk, rfl, rfl, HV, HW⟩ := hrel
    have k0 : (0 : Int) ≤ (k : Int) := by omega
    rcases Nat.lt_or_ge k m with h | h
    · have k1 : (k : Int) < (m : Int) := by omega
      obtain ⟨bb, o, rfl, hb, hc⟩ := HH.out.resolve_left (by omega)
      have q1 : k < l.length := by rw [HL.out]; exact h
      have e1 := (HW.out.cell (p := ⟨bb, o + k, none⟩) hb).trans (hc.out k q1)
      have hst := insF_take (s := bs s) q1
      rw [HV.out.1] at hst
      obtain ⟨x, hx⟩ : ∃ x, l[k] = x := ⟨_, rfl⟩
      rw [hx] at e1 hst
      have hbr : bb < wr.heap.size := Nat.lt_of_lt_of_le hb HW.out.size
      have HST := Lib.hid hst
      have hlt := less_is (tb x) s
      rw [bs_tb] at hlt
      have hq := HV.out.2.1
      have hrow := HV.out.2.2
      have hBW := HW.out
      have hm1 := HM.out
      clear hx hc hst q1
      by_cases hE : x = bs s
      · have t1 : ((tb x).toList == s.toList) = true := eq_yes (by rw [bs_tb]; exact hE)
        by_cases hA : b = false ∧ ¬ x < bs s
        · obtain ⟨rfl, hA⟩ := hA
          rw [insS_yes rfl hA, if_pos hE] at HST
          have l1 : Op.bytesLess (tb x).toList s.toList = false := hlt.trans (decide_eq_false hA)
          clear hlt hA hE
          go_wp2_with ((at_builtin; refine wpList_append_own _ rfl _ _ 33 rfl w.heap.size 9 i0 (.string ⟨#[]⟩) 1 16 Try.underlying33 hi0 hi1 hi2 hi3 rfl (by decide) _ _ _ rfl (World.ownsRow.alloc hrow _) ⟨wr.heap.size, 0, none⟩ 1 1 [.string (s)] rfl rfl (cell_one_new _ _ _) (by simp [Value.oneCell']) (by simp only [maxLen, List.length_append, List.length_singleton]; omega) (by (try simp only [List.length_append, List.length_singleton]); omega) (by have h1 := hBW.size; simp; omega) ?_; intro v' w4 hown' hgrow _; obtain ⟨g', cap', rfl, -, -⟩ := World.ownsRow.form hown' (by omega)); have e2 : w4.cell? ⟨bb, o + k, none⟩ = some (.string (tb x)) := grown_cell hrow hgrow hb e1)
          go_roundw
          case rel => exact ⟨k + 1, true, q ++ [bs s], by omega, by go_num, rfl, Lib.hid ⟨HST.out, by rw [List.length_append]; simp; omega, own_one hown'⟩, Lib.hid (grown_on hBW hrow hgrow)⟩
          case measure => simp [intOf]; omega
        · rw [insS_no (by cases b with | true => exact .inl rfl | false => exact .inr (Classical.byContradiction fun h => hA ⟨rfl, h⟩)), if_pos hE] at HST
          cases b with
          | true =>
            clear hlt hA hE
            go_wp2_with fail
            go_roundw
            case rel => exact ⟨k + 1, true, q, by omega, by go_num, rfl, Lib.hid ⟨HST.out, by omega, hrow⟩, HW⟩
            case measure => simp [intOf]; omega
          | false =>
            have l1 : Op.bytesLess (tb x).toList s.toList = true := hlt.trans (decide_eq_true (Classical.byContradiction fun h => hA ⟨rfl, h⟩))
            clear hlt hA hE
            go_wp2_with fail
            go_roundw
            case rel => exact ⟨k + 1, false, q, by omega, by go_num, rfl, Lib.hid ⟨HST.out, by omega, hrow⟩, HW⟩
            case measure => simp [intOf]; omega
      · have t1 : ((tb x).toList == s.toList) = false := eq_no (by rw [bs_tb]; exact hE)
        by_cases hA : b = false ∧ ¬ x < bs s
        · obtain ⟨rfl, hA⟩ := hA
          rw [insS_yes rfl hA, if_neg hE] at HST
          have l1 : Op.bytesLess (tb x).toList s.toList = false := hlt.trans (decide_eq_false hA)
          have hlen1 : (q ++ [bs s]).length = q.length + 1 := by simp
          clear hlt hA hE
          go_wp2_with (first
            | ((at_builtin; refine wpList_append_own _ rfl _ _ 33 rfl w.heap.size 9 i0 (.string ⟨#[]⟩) 1 16 Try.underlying33 hi0 hi1 hi2 hi3 rfl (by decide) _ _ _ rfl (World.ownsRow.alloc hrow _) ⟨wr.heap.size, 0, none⟩ 1 1 [.string (s)] rfl rfl (cell_one_new _ _ _) (by simp [Value.oneCell']) (by simp only [maxLen, List.length_append, List.length_singleton]; omega) (by (try simp only [List.length_append, List.length_singleton]); omega) (by have h1 := hBW.size; simp; omega) ?_; intro v' w4 hown' hgrow _; obtain ⟨g', cap', rfl, -, -⟩ := World.ownsRow.form hown' (by omega)); have hB2 := grown_on hBW hrow hgrow; have hr2 := own_one hown'; have e2 : w4.cell? ⟨bb, o + k, none⟩ = some (.string (tb x)) := grown_cell hrow hgrow hb e1; clear hown' hgrow hrow)
            | (at_builtin; refine wpList_append_own _ rfl _ _ 33 rfl w.heap.size 9 i0 (.string ⟨#[]⟩) 1 16 Try.underlying33 hi0 hi1 hi2 hi3 rfl (by decide) _ _ _ rfl (World.ownsRow.alloc hr2 _) ⟨w4.heap.size, 0, none⟩ 1 1 [.string (tb x)] rfl rfl (cell_one_new _ _ _) (by simp [Value.oneCell']) (by simp only [maxLen, List.length_append, List.length_singleton]; omega) (by (try simp only [List.length_append, List.length_singleton]); omega) (by have h1 := hB2.size; simp; omega) ?_; intro v' w5 hown' hgrow _; obtain ⟨g', cap', rfl, -, -⟩ := World.ownsRow.form hown' (by omega)))
          go_roundw
          case rel => exact ⟨k + 1, true, q ++ [bs s] ++ [x], by omega, by go_num, rfl, Lib.hid ⟨HST.out, by rw [List.length_append, hlen1]; simp; omega, by have h9 := own_one hown'; simp only [List.length_append, List.length_singleton] at h9; rw [bs_tb] at h9; exact h9⟩, Lib.hid (grown_on hB2 hr2 hgrow)⟩
          case measure => simp [intOf]; omega
        · rw [insS_no (by cases b with | true => exact .inl rfl | false => exact .inr (Classical.byContradiction fun h => hA ⟨rfl, h⟩)), if_neg hE] at HST
          cases b with
          | true =>
            clear hlt hA hE
            go_wp2_with (at_builtin; refine wpList_append_own _ rfl _ _ 33 rfl w.heap.size 9 i0 (.string ⟨#[]⟩) 1 16 Try.underlying33 hi0 hi1 hi2 hi3 rfl (by decide) _ _ _ rfl (World.ownsRow.alloc hrow _) ⟨wr.heap.size, 0, none⟩ 1 1 [.string (tb x)] rfl rfl (cell_one_new _ _ _) (by simp [Value.oneCell']) (by simp only [maxLen, List.length_append, List.length_singleton]; omega) (by (try simp only [List.length_append, List.length_singleton]); omega) (by have h1 := hBW.size; simp; omega) ?_; intro v' w4 hown' hgrow _; obtain ⟨g', cap', rfl, -, -⟩ := World.ownsRow.form hown' (by omega))
            go_roundw
            case rel => exact ⟨k + 1, true, q ++ [x], by omega, by go_num, rfl, Lib.hid ⟨HST.out, by rw [List.length_append]; simp; omega, own_one hown'⟩, Lib.hid (grown_on hBW hrow hgrow)⟩
            case measure => simp [intOf]; omega
          | false =>
            have l1 : Op.bytesLess (tb x).toList s.toList = true := hlt.trans (decide_eq_true (Classical.byContradiction fun h => hA ⟨rfl, h⟩))
            clear hlt hA hE
            go_wp2_with (at_builtin; refine wpList_append_own _ rfl _ _ 33 rfl w.heap.size 9 i0 (.string ⟨#[]⟩) 1 16 Try.underlying33 hi0 hi1 hi2 hi3 rfl (by decide) _ _ _ rfl (World.ownsRow.alloc hrow _) ⟨wr.heap.size, 0, none⟩ 1 1 [.string (tb x)] rfl rfl (cell_one_new _ _ _) (by simp [Value.oneCell']) (by simp only [maxLen, List.length_append, List.length_singleton]; omega) (by (try simp only [List.length_append, List.length_singleton]); omega) (by have h1 := hBW.size; simp; omega) ?_; intro v' w4 hown' hgrow _; obtain ⟨g', cap', rfl, -, -⟩ := World.ownsRow.form hown' (by omega))
            go_roundw
            case rel => exact ⟨k + 1, false, q ++ [x], by omega, by go_num, rfl, Lib.hid ⟨HST.out, by rw [List.length_append]; simp; omega, own_one hown'⟩, Lib.hid (grown_on hBW hrow hgrow)⟩
            case measure => simp [intOf]; omega
    · obtain rfl : m = k := by omega
      have HT : Hid (l.take m = l) := Lib.hid (List.take_of_length_le (by rw [HL.out]; exact Nat.le_refl _))
      rw [HT.out] at HV
      have hrow := HV.out.2.2
      have hBW := HW.out
      have hm1 := HM.out
      have hq := HV.out.2.1
      cases b with
      | true =>
        have HR : Hid (ins l (bs s) = q) := Lib.hid (by unfold ins; rw [HV.out.1]; rfl)
        obtain ⟨p6, c6, e6, h6⟩ := own_txs hrow
        subst e6
        go_wp2_with fail
        go_ret
        exact ⟨_, _, _, rfl, by rw [HR.out]; exact h6, HW.out⟩
      | false =>
        have HR : Hid (ins l (bs s) = q ++ [bs s]) := Lib.hid (by unfold ins; rw [HV.out.1]; rfl)
        go_wp2_with (at_builtin; refine wpList_append_own _ rfl _ _ 33 rfl w.heap.size 9 i0 (.string ⟨#[]⟩) 1 16 Try.underlying33 hi0 hi1 hi2 hi3 rfl (by decide) _ _ _ rfl (World.ownsRow.alloc hrow _) ⟨wr.heap.size, 0, none⟩ 1 1 [.string (s)] rfl rfl (cell_one_new _ _ _) (by simp [Value.oneCell']) (by simp only [maxLen, List.length_append, List.length_singleton]; omega) (by (try simp only [List.length_append, List.length_singleton]); omega) (by have h1 := hBW.size; simp; omega) ?_; intro v' w4 hown' hgrow _; obtain ⟨g', cap', rfl, -, -⟩ := World.ownsRow.form hown' (by omega))
        have hB4 := grown_on hBW hrow hgrow
        have h5 := own_one hown'
        obtain ⟨p6, c6, e6, h6⟩ := own_txs h5
        go_ret
        simp only [List.length_append, List.length_singleton] at e6 h6
        exact ⟨_, _, _, congrArg Ending.returned e6, by rw [HR.out]; exact h6, hB4⟩
end Go.Proofs.Ytfkenbdfakjeoaa.Ex
