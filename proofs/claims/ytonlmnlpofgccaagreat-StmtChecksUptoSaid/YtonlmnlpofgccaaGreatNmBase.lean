/-
  Words for worlds and lists of texts in memory; how texts are compared.
-/
import Derived.Test.YtonlmnlpofgccaaGreatRows
import Derived.Test.YtonlmnlpofgccaaGreatNmMath
import Derived.WalkSpells
import Derived.WalkLawsBesides
import Derived.Lib.Hide
import Derived.LoopTactic
import Derived.RegionTactic
import Derived.Deep.QuietTactic
import Derived.BigQuiet
import Derived.Outline
import Derived.Deep.DeepCutAuto
import Derived.Deep.CutBlock
import Derived.Deep.RegionHeld3
import Derived.StillTailTactics
import Derived.Maps.AppendAt
import Derived.Maps.OwnSet
import Derived.Laws.OwnMore
import Derived.OwnWalk
import Derived.ArgAppend
import Derived.Lib.SliceRun
import Derived.Lib.Bytealg
import Derived.Laws.Strings3
namespace Go.Proofs.YtonlmnlpofgccaaGreat.Na
open Go.RowKit
set_option maxHeartbeats 1000000
theorem ret_int {k : IntKind} {a b : Int} (h : a = b) : Ending.returned (.int k a) = .returned (.int k b) := by rw [h]
theorem ret_bool {a b : Bool} (h : a = b) : Ending.returned (.bool a) = .returned (.bool b) := by rw [h]
def Gives (v : Value) (w : World) (e : Ending) (w' : World) : Prop := e = .returned v ∧ Below w.heap.size w w'
theorem below_drewN {B : Nat} {a w : World} (h : Below B a w) (n : Nat) : Below B a (w.drewN n) := ⟨h.os, h.tape, h.output, h.size, h.block⟩
section
variable {a w w2 : World}
theorem bl_alloc {o : Obj} (h : Below a.heap.size a w) : Below a.heap.size a (w.alloc o) := h.alloc h.size o
theorem bl_drewN {n : Nat} (h : Below a.heap.size a w) : Below a.heap.size a (w.drewN n) := below_drewN h n
theorem bl_drew (h : Below a.heap.size a w) : Below a.heap.size a w.drew := h.drew
theorem bl_set {p : Addr} (h : Below a.heap.size a w) (hp : a.heap.size ≤ p.block) (u : Value) : Below a.heap.size a (w.setCell p u) := h.setCell hp u
theorem bl_call (h : Below a.heap.size a w) (hb : Below w.heap.size w w2) : Below a.heap.size a w2 := h.trans (hb.mono h.size)
end
/-- A slice of texts that reads as l, its cells below the world's top. -/
def Strs (w : World) (p : Option Addr) (n : Nat) (l : List ByteArray) : Prop :=
  l.length = n ∧ n ≤ 9223372036854775807 ∧ (n = 0 ∨ ∃ b o, p = some ⟨b, o, none⟩ ∧ b < w.heap.size ∧ Hid (∀ i, (h : i < l.length) → w.cell? ⟨b, o + i, none⟩ = some (.string (l[i]))))
theorem Strs.on {w w2 : World} {p : Option Addr} {n : Nat} {l : List ByteArray} (hb : Below w.heap.size w w2) (h : Strs w p n l) : Strs w2 p n l := by
  obtain ⟨h0, hl, h | ⟨b, o, rfl, h1, h2⟩⟩ := h
  · exact ⟨h0, hl, .inl h⟩
  · exact ⟨h0, hl, .inr ⟨b, o, rfl, Nat.lt_of_lt_of_le h1 hb.size, Lib.hid fun i hi => (hb.cell (p := ⟨b, o + i, none⟩) h1).trans (h2.out i hi)⟩⟩
theorem Strs.alloc {w : World} {o : Obj} {p : Option Addr} {n : Nat} {l : List ByteArray} (h : Strs w p n l) : Strs (w.alloc o) p n l := h.on ((Below.refl _ _).alloc (Nat.le_refl _) o)
theorem Strs.drew {w : World} {p : Option Addr} {n : Nat} {l : List ByteArray} (h : Strs w p n l) : Strs w.drew p n l := h
theorem Strs.drewN {w : World} {p : Option Addr} {n : Nat} {l : List ByteArray} (h : Strs w p n l) (m : Nat) : Strs (w.drewN m) p n l := h
/-- A slice of bytes that reads as l, its cells below the world's top. -/
def Byt (w : World) (p : Option Addr) (n : Nat) (l : List UInt8) : Prop :=
  l.length = n ∧ n ≤ 9223372036854775807 ∧ (n = 0 ∨ ∃ b o, p = some ⟨b, o, none⟩ ∧ b < w.heap.size ∧ Hid (∀ i, (h : i < l.length) → w.cell? ⟨b, o + i, none⟩ = some (.int .u8 ((l[i]).toNat : Int))))
theorem Byt.on {w w2 : World} {p : Option Addr} {n : Nat} {l : List UInt8} (hb : Below w.heap.size w w2) (h : Byt w p n l) : Byt w2 p n l := by
  obtain ⟨h0, hl, h | ⟨b, o, rfl, h1, h2⟩⟩ := h
  · exact ⟨h0, hl, .inl h⟩
  · exact ⟨h0, hl, .inr ⟨b, o, rfl, Nat.lt_of_lt_of_le h1 hb.size, Lib.hid fun i hi => (hb.cell (p := ⟨b, o + i, none⟩) h1).trans (h2.out i hi)⟩⟩
theorem bytes_S (S : ByteArray) (hl : S.size ≤ 9223372036854775807) (w : World) :
    ∃ c w', (convert 9 81 (.string S)).run Tryz.prog w = .ok (.slice (some ⟨w.heap.size, 0, none⟩) S.size c) w' ∧ Byt w' (some ⟨w.heap.size, 0, none⟩) S.size (bs S) ∧ Below w.heap.size w w' := by
  refine ⟨_, _, run_bytes_of_string w _ _ 5 _ Tryz.underlying9 Tryz.underlying81 Tryz.underlying5, ⟨bs_len S, hl, .inr ⟨_, _, rfl, by simp, Lib.hid fun i hi => ?_⟩⟩, bl_alloc (bl_drew (Below.refl _ _))⟩
  have e := World.cell?_alloc_mark w.drew (bytesRow S (grownCap w S.size 0 5)) 5 ((bytesRow S (grownCap w S.size 0 5)).size, (bytesRow S (grownCap w S.size 0 5)).size + 1) (0 + i)
  rw [show w.drew.heap.size = w.heap.size from rfl] at e
  rw [e, Nat.zero_add, bytesRow_at _ _ _ (by rw [bs_len] at hi; exact hi)]
  rfl
/-- How the walk spells that two texts are equal. -/
theorem eq_yes {a b : ByteArray} (h : bs a = bs b) : (a.toList == b.toList) = true := by rw [bs_inj h]; simp
theorem eq_no {a b : ByteArray} (h : ¬ bs a = bs b) : (a.toList == b.toList) = false := by
  rw [beq_eq_false_iff_ne, Lib.toList_data, Lib.toList_data]; exact h
end Go.Proofs.YtonlmnlpofgccaaGreat.Na
