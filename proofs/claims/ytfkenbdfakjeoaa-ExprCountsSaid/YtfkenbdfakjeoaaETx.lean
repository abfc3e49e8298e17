/-
  Words for lists of texts in memory; the contracts of the reference's SameTexts and Insert.
-/
import Derived.Test.YtfkenbdfakjeoaaEBase
import Derived.Test.YtfkenbdfakjeoaaENames
import Derived.Sort.EncStr
namespace Go.Proofs.Ytfkenbdfakjeoaa.Ex
open Go.RowKit
open Go.Proofs.Ytfkenbdfakjeoaa.Na (bs bs_inj chk)
set_option maxHeartbeats 2000000
set_option linter.unusedVariables false
/-- The text of a list of bytes. -/
def tb (l : Nm) : ByteArray := ⟨l.toArray⟩
theorem bs_tb (l : Nm) : bs (tb l) = l := rfl
theorem tb_bs (s : ByteArray) : tb (bs s) = s := rfl
/-- A slice of texts that reads as l. -/
def Txs (w : World) (p : Option Addr) (n : Nat) (l : List Nm) : Prop :=
  l.length = n ∧ n ≤ 9223372036854775807 ∧ (n = 0 ∨ ∃ b o, p = some ⟨b, o, none⟩ ∧ b < w.heap.size ∧ Hid (∀ i, (h : i < l.length) → w.cell? ⟨b, o + i, none⟩ = some (.string (tb l[i]))))
theorem Txs.on {w w2 : World} {p : Option Addr} {n : Nat} {l : List Nm} (hb : Below w.heap.size w w2) (h : Txs w p n l) : Txs w2 p n l := by
  obtain ⟨h0, hl, h | ⟨b, o, rfl, h1, h2⟩⟩ := h
  · exact ⟨h0, hl, .inl h⟩
  · exact ⟨h0, hl, .inr ⟨b, o, rfl, Nat.lt_of_lt_of_le h1 hb.size, Lib.hid fun i hi => (hb.cell (p := ⟨b, o + i, none⟩) h1).trans (h2.out i hi)⟩⟩
theorem Txs.nil {w : World} {p : Option Addr} : Txs w p 0 [] := ⟨rfl, by omega, .inl rfl⟩
abbrev tbs (l : List Nm) : List Value := l.map fun x => .string (tb x)
/-- A row of texts that a call made, from a block on. -/
abbrev OwnT (lo : Nat) (w : World) (v : Value) (l : List Nm) : Prop := w.ownsRow lo 9 1 v l.length (tbs l)
theorem OwnT.below {lo : Nat} {w w2 : World} {v : Value} {l : List Nm} (h : OwnT lo w v l) (hb : Below w.heap.size w w2) : OwnT lo w2 v l :=
  World.ownsRow.kept h (row := none) ⟨hb.os, hb.tape, hb.output, hb.size, fun k hk _ => hb.block k hk⟩ (by cases v.ownBlock <;> simp)
theorem own_txs {lo : Nat} {w : World} {v : Value} {l : List Nm} (h : OwnT lo w v l) : ∃ p c, v = .slice p l.length c ∧ Txs w p l.length l := by
  have h' := h
  rcases h'.2 with ⟨rfl, h0⟩ | ⟨g, cap, cur, rfl, hg, hcur, hc, hm, h5, h6⟩
  · have : l = [] := List.length_eq_zero_iff.1 h0
    subst this
    exact ⟨none, 0, rfl, Txs.nil⟩
  · refine ⟨_, _, rfl, rfl, ?_, ?_⟩
    · unfold maxLen at hm; omega
    · refine .inr ⟨g, 0, rfl, (h.lt g rfl).2, Lib.hid fun i hi => ?_⟩
      rw [h.cellAt (0 + i) (by omega), Nat.zero_add, List.getElem?_map, List.getElem?_eq_getElem hi]
      rfl
theorem parts_of {o : Option TypeInfo} {z : Value} {s b : Nat} (h : o.map (fun i => (i.zero, i.size, i.bytes)) = some (some z, s, b)) : ∃ i, o = some i ∧ i.zero = some z ∧ i.size = s ∧ i.bytes = b := by
  cases o with
  | none => cases h
  | some i => simp only [Option.map_some, Option.some.injEq, Prod.mk.injEq] at h; exact ⟨i, rfl, h.1, h.2.1, h.2.2⟩
theorem str_info : (Try.prog.info? 9).map (fun i => (i.zero, i.size, i.bytes)) = some (some (.string ⟨#[]⟩), 1, 16) := by kernel_rfl
/-- One text more, the text in a block of its own. -/
theorem append_txt {lo : Nat} {w : World} {v : Value} {l : List Nm} (hown : OwnT lo w v l) {b : Nat} {x : ByteArray} (hx : w.cell? ⟨b, 0, none⟩ = some (.string x)) (hn : l.length ≤ 1000000) (hlo : lo ≤ w.heap.size) :
    ∃ v' w', (Builtin.append_ #[33, 33] 33 #[v, .slice (some ⟨b, 0, none⟩) 1 1]).run Try.prog w = .ok v' w' ∧ OwnT lo w' v' (l ++ [bs x]) ∧ w.grownBy w' v.ownBlock ∧ ¬ v' = .slice none 0 0 := by
  obtain ⟨i0, hi0, hz0, hz1, hz2⟩ := parts_of str_info
  have hnews : ∀ j u, ([.string x] : List Value)[j]? = some u → w.cell? ((⟨b, 0, none⟩ : Addr).add j) = some u := by
    intro j u hu
    have hj : j < 1 := (List.getElem?_eq_some_iff.1 hu).1
    obtain rfl : j = 0 := by omega
    cases hu
    rw [add_off]
    exact hx
  obtain ⟨v', w', hrun, h2, h3, h4, -⟩ := run_append_own_at (P := Try.prog) w lo 33 33 9 i0 _ 1 16 Try.underlying33 hi0 hz0 hz1 hz2 rfl (by omega) v l.length _ hown ⟨b, 0, none⟩ 1 1 [.string x] rfl hnews (by simp [Value.oneCell'])
    (by unfold maxLen; omega) (by omega) hlo
  refine ⟨v', w', hrun, ?_, h3, fun e => by have := (h4.1 e).2; omega⟩
  show w'.ownsRow lo 9 1 v' (l ++ [bs x]).length _
  rw [List.length_append]
  have : tbs (l ++ [bs x]) = tbs l ++ [.string x] := by simp [tbs, tb_bs]
  rw [this]
  exact h2
theorem grown_below {lo : Nat} {a w w' : World} {v : Value} {l : List Nm} (hB : Below lo a w) (hlo : lo ≤ w.heap.size) (ho : OwnT lo w v l) (hg : w.grownBy w' v.ownBlock) : Below lo a w' := hB.grown hg hlo fun k hk => (ho.lt k hk).1
def GivesT (l : List Nm) (w : World) (e : Ending) (w' : World) : Prop := ∃ p n c, e = .returned (.slice p n c) ∧ Txs w' p n l ∧ Below w.heap.size w w'
set_option maxRecDepth 100000 in
theorem sametx_any (l l2 : List Nm) (p : Option Addr) (m c : Nat) (p2 : Option Addr) (m2 c2 : Nat) (w : World) (h : Txs w p m l) (h2 : Txs w p2 m2 l2) : Calls Try.prog 22 #[.slice p m c, .slice p2 m2 c2] w (Gives (.bool (decide (l = l2))) w) := by
  obtain ⟨hl, hm, hh⟩ := h
  obtain ⟨hl2, hm2, hh2⟩ := h2
  have HL := Lib.hid hl
  have HL2 := Lib.hid hl2
  by_cases hmm : m = m2
  · subst hmm
    have HH := Lib.hid hh
    have HH2 := Lib.hid hh2
    clear hh hh2 hl hl2
    go_enter Try.func22, Try.ntmps22
    go_wp2_with fail
    go_loopw [5] (fun i wr => ∃ k : Nat, k ≤ m ∧ Hid (l.take k = l2.take k) ∧ i = .int .i64 (k : Nat) ∧ Hid (Below w.heap.size w wr)) (fun i _ => m - (intOf i).toNat)
    case atStart => exact ⟨0, Nat.zero_le _, Lib.hid rfl, rfl, Lib.hid (by (repeat (first | (with_reducible exact Below.refl _ _) | (with_reducible assumption) | (with_reducible apply bl_alloc) | (with_reducible apply bl_drewN) | (with_reducible apply bl_drew) | (with_reducible refine bl_set ?_ (by first | (simp; done) | (simp; omega)) _) | (with_reducible refine bl_call ?_ (by assumption)))))⟩
    case round =>
      obtain ⟨k, hk, HT0, rfl, HW⟩ := hrel
      have k0 : (0 : Int) ≤ (k : Int) := by omega
      rcases Nat.lt_or_ge k m with h | h
      · have k1 : (k : Int) < (m : Int) := by omega
        obtain ⟨b, o, rfl, hb, hc⟩ := HH.out.resolve_left (by omega)
        obtain ⟨b', o', rfl, hb', hc'⟩ := HH2.out.resolve_left (by omega)
        have q1 : k < l.length := by rw [HL.out]; exact h
        have q2 : k < l2.length := by rw [HL2.out]; exact h
        have e1 := (HW.out.cell (p := ⟨b, o + k, none⟩) hb).trans (hc.out k (by rw [HL.out]; exact h))
        have e2 := (HW.out.cell (p := ⟨b', o' + k, none⟩) hb').trans (hc'.out k (by rw [HL2.out]; exact h))
        have g1 : l[k]? = some l[k] := List.getElem?_eq_getElem (by rw [HL.out]; exact h)
        have g2 : l2[k]? = some l2[k] := List.getElem?_eq_getElem (by rw [HL2.out]; exact h)
        obtain ⟨x, hx⟩ : ∃ x, l[k] = x := ⟨_, rfl⟩
        obtain ⟨y, hy⟩ : ∃ y, l2[k] = y := ⟨_, rfl⟩
        rw [hx] at e1 g1
        rw [hy] at e2 g2
        have G1 := Lib.hid g1
        have G2 := Lib.hid g2
        clear hx hy hc hc' g1 g2 q1 q2
        by_cases hxy : x = y
        · subst hxy
          have t1 : ((tb x).toList == (tb x).toList) = true := eq_yes rfl
          have HR : Hid (l.take (k + 1) = l2.take (k + 1)) := Lib.hid (by rw [take_one G1.out, take_one G2.out, HT0.out])
          go_wp2_with fail
          go_quiet (fail)
          go_wp2_with fail
          go_roundw
          case rel => exact ⟨k + 1, by omega, HR, by go_num, Lib.hid (by have HBB := HW.out; (repeat (first | (with_reducible exact Below.refl _ _) | (with_reducible assumption) | (with_reducible apply bl_alloc) | (with_reducible apply bl_drewN) | (with_reducible apply bl_drew) | (with_reducible refine bl_set ?_ (by first | (simp; done) | (simp; omega)) _) | (with_reducible refine bl_call ?_ (by assumption)))))⟩
          case measure => simp [intOf]; omega
        · have t1 : ((tb x).toList == (tb y).toList) = false := eq_no (by rw [bs_tb, bs_tb]; exact hxy)
          have HR : Hid (decide (l = l2) = false) := Lib.hid (decide_eq_false fun e => by
            subst e
            have := G1.out.symm.trans G2.out
            cases this
            exact hxy rfl)
          clear hxy
          go_wp2_with fail
          go_quiet (fail)
          go_wp2_with fail
          go_ret
          exact ⟨by rw [HR.out]; rfl, (by have HBB := HW.out; (repeat (first | (with_reducible exact Below.refl _ _) | (with_reducible assumption) | (with_reducible apply bl_alloc) | (with_reducible apply bl_drewN) | (with_reducible apply bl_drew) | (with_reducible refine bl_set ?_ (by first | (simp; done) | (simp; omega)) _) | (with_reducible refine bl_call ?_ (by assumption)))))⟩
      · obtain rfl : m = k := by omega
        have HR : Hid (decide (l = l2) = true) := Lib.hid (decide_eq_true (by
          have h1 := HT0.out
          rwa [List.take_of_length_le (by rw [HL.out]; exact Nat.le_refl _), List.take_of_length_le (by rw [HL2.out]; exact Nat.le_refl _)] at h1))
        go_wp2_with fail
        go_ret
        exact ⟨by rw [HR.out]; rfl, HW.out⟩
  · rw [decide_eq_false (fun e => hmm (by rw [← hl, ← hl2, e]))]
    have t1 : ((m : Int) == (m2 : Int)) = false := beq_eq_false_iff_ne.2 (by omega)
    have t2 : ((m : Int) != (m2 : Int)) = true := bne_iff_ne.2 (by omega)
    clear hmm hl hl2 hh hh2
    go_enter Try.func22, Try.ntmps22
    go_wp2_with fail
    go_ret
    exact ⟨rfl, by (repeat (first | (with_reducible exact Below.refl _ _) | (with_reducible assumption) | (with_reducible apply bl_alloc) | (with_reducible apply bl_drewN) | (with_reducible apply bl_drew) | (with_reducible refine bl_set ?_ (by first | (simp; done) | (simp; omega)) _) | (with_reducible refine bl_call ?_ (by assumption))))⟩
end Go.Proofs.Ytfkenbdfakjeoaa.Ex
