/-
  Words for lists of texts in memory; the contracts of the reference's SameTexts and Insert.
-/
import Derived.Test.YtonlmnlpofgccaaGreatEBase
import Derived.Test.YtonlmnlpofgccaaGreatENames
import Derived.Sort.EncStr
namespace Go.Proofs.YtonlmnlpofgccaaGreat.Ex
open Go.RowKit
open Go.Proofs.YtonlmnlpofgccaaGreat.Na (bs bs_inj chk)
set_option maxHeartbeats 2000000
set_option linter.unusedVariables false
/-- The text of a list of bytes. -/
def tb (l : Nm) : ByteArray := ⟨l.toArray⟩
theorem bs_tb (l : Nm) : bs (tb l) = l := rfl
theorem tb_bs (s : ByteArray) : tb (bs s) = s := rfl
/-- A slice of texts that reads as l. -/
def Txs (w : World) (p : Option Addr) (n : Nat) (l : List Nm) : Prop :=
  l.length = n ∧ n ≤ 9223372036854775807 ∧ (n = 0 ∨ ∃ b o, p = some ⟨b, o, none⟩ ∧ b < w.heap.size ∧ Hid (∀ i, (h : i < l.length) → w.cell? ⟨b, o + i, none⟩ = some (.string (tb l[i]))))
theorem Txs.on {w w2 : World} {p : Option Addr} {n : Nat} {l : List Nm} (hb : Below w.heap.size w w2) (h : Txs w p n l) : Txs w2 p n l := by
  obtain ⟨h0, hl, h | ⟨b, o, rfl, h1, h2⟩⟩ := h
  · exact ⟨h0, hl, .inl h⟩
  · exact ⟨h0, hl, .inr ⟨b, o, rfl, Nat.lt_of_lt_of_le h1 hb.size, Lib.hid fun i hi => (hb.cell (p := ⟨b, o + i, none⟩) h1).trans (h2.out i hi)⟩⟩
theorem Txs.nil {w : World} {p : Option Addr} : Txs w p 0 [] := ⟨rfl, by omega, .inl rfl⟩
abbrev tbs (l : List Nm) : List Value := l.map fun x => .string (tb x)
/-- A row of texts that a call made, from a block on. -/
abbrev OwnT (lo : Nat) (w : World) (v : Value) (l : List Nm) : Prop := w.ownsRow lo 9 1 v l.length (tbs l)
theorem OwnT.below {lo : Nat} {w w2 : World} {v : Value} {l : List Nm} (h : OwnT lo w v l) (hb : Below w.heap.size w w2) : OwnT lo w2 v l :=
  World.ownsRow.kept h (row := none) ⟨hb.os, hb.tape, hb.output, hb.size, fun k hk _ => hb.block k hk⟩ (by cases v.ownBlock <;> simp)
theorem own_txs {lo : Nat} {w : World} {v : Value} {l : List Nm} (h : OwnT lo w v l) : ∃ p c, v = .slice p l.length c ∧ Txs w p l.length l := by
  have h' := h
  rcases h'.2 with ⟨rfl, h0⟩ | ⟨g, cap, cur, rfl, hg, hcur, hc, hm, h5, h6⟩
  · have : l = [] := List.length_eq_zero_iff.1 h0
    subst this
    exact ⟨none, 0, rfl, Txs.nil⟩
  · refine ⟨_, _, rfl, rfl, ?_, ?_⟩
    · unfold maxLen at hm; omega
    · refine .inr ⟨g, 0, rfl, (h.lt g rfl).2, Lib.hid fun i hi => ?_⟩
      rw [h.cellAt (0 + i) (by omega), Nat.zero_add, List.getElem?_map, List.getElem?_eq_getElem hi]
      rfl
theorem parts_of {o : Option TypeInfo} {z : Value} {s b : Nat} (h : o.map (fun i => (i.zero, i.size, i.bytes)) = some (some z, s, b)) : ∃ i, o = some i ∧ i.zero = some z ∧ i.size = s ∧ i.bytes = b := by
  cases o with
  | none => cases h
  | some i => simp only [Option.map_some, Option.some.injEq, Prod.mk.injEq] at h; exact ⟨i, rfl, h.1, h.2.1, h.2.2⟩
theorem str_info : (Tryz.prog.info? 9).map (fun i => (i.zero, i.size, i.bytes)) = some (some (.string ⟨#[]⟩), 1, 16) := by kernel_rfl
/-- One text more, the text in a block of its own. -/
theorem append_txt {lo : Nat} {w : World} {v : Value} {l : List Nm} (hown : OwnT lo w v l) {b : Nat} {x : ByteArray} (hx : w.cell? ⟨b, 0, none⟩ = some (.string x)) (hn : l.length ≤ 1000000) (hlo : lo ≤ w.heap.size) :
    ∃ v' w', (Builtin.append_ #[42, 42] 42 #[v, .slice (some ⟨b, 0, none⟩) 1 1]).run Tryz.prog w = .ok v' w' ∧ OwnT lo w' v' (l ++ [bs x]) ∧ w.grownBy w' v.ownBlock ∧ ¬ v' = .slice none 0 0 := by
  obtain ⟨i0, hi0, hz0, hz1, hz2⟩ := parts_of str_info
  have hnews : ∀ j u, ([.string x] : List Value)[j]? = some u → w.cell? ((⟨b, 0, none⟩ : Addr).add j) = some u := by
    intro j u hu
    have hj : j < 1 := (List.getElem?_eq_some_iff.1 hu).1
    obtain rfl : j = 0 := by omega
    cases hu
    rw [add_off]
    exact hx
  obtain ⟨v', w', hrun, h2, h3, h4, -⟩ := run_append_own_at (P := Tryz.prog) w lo 42 42 9 i0 _ 1 16 Tryz.underlying42 hi0 hz0 hz1 hz2 rfl (by omega) v l.length _ hown ⟨b, 0, none⟩ 1 1 [.string x] rfl hnews (by simp [Value.oneCell'])
    (by unfold maxLen; omega) (by omega) hlo
  refine ⟨v', w', hrun, ?_, h3, fun e => by have := (h4.1 e).2; omega⟩
  show w'.ownsRow lo 9 1 v' (l ++ [bs x]).length _
  rw [List.length_append]
  have : tbs (l ++ [bs x]) = tbs l ++ [.string x] := by simp [tbs, tb_bs]
  rw [this]
  exact h2
theorem grown_below {lo : Nat} {a w w' : World} {v : Value} {l : List Nm} (hB : Below lo a w) (hlo : lo ≤ w.heap.size) (ho : OwnT lo w v l) (hg : w.grownBy w' v.ownBlock) : Below lo a w' := hB.grown hg hlo fun k hk => (ho.lt k hk).1
def GivesT (l : List Nm) (w : World) (e : Ending) (w' : World) : Prop := ∃ p n c, e = .returned (.slice p n c) ∧ Txs w' p n l ∧ Below w.heap.size w w'
end Go.Proofs.YtonlmnlpofgccaaGreat.Ex
