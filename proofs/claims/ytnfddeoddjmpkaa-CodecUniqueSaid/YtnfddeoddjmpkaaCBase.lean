/-
  Words for worlds, bytes and lists in memory.
-/
import Derived.Test.YtnfddeoddjmpkaaRows
import Derived.Test.YtnfddeoddjmpkaaCMath2
import Derived.WalkSpells
import Derived.WalkLawsBesides
import Derived.Lib.Hide
import Derived.LoopTactic
import Derived.RegionTactic
import Derived.Deep.QuietTactic
import Derived.BigQuiet
import Derived.Outline
import Derived.Deep.DeepCutAuto
import Derived.Deep.CutBlock
import Derived.Deep.RegionHeld3
import Derived.StillTailTactics
import Derived.Maps.AppendAt
import Derived.Laws.OwnMore
import Derived.OwnWalk
import Derived.ArgAppend
import Derived.Lib.AppendZeros
import Derived.Lib.SliceRun
import Derived.Laws.BitsAllLaws
import Derived.Laws.Bits64
namespace Go.Proofs.Ytnfddeoddjmpkaa.Co
open Go.RowKit
set_option maxHeartbeats 1000000
theorem ret_int {k : IntKind} {a b : Int} (h : a = b) : Ending.returned (.int k a) = .returned (.int k b) := by rw [h]
theorem ret_bool {a b : Bool} (h : a = b) : Ending.returned (.bool a) = .returned (.bool b) := by rw [h]
def Gives (v : Value) (w : World) (e : Ending) (w' : World) : Prop := e = .returned v ∧ Below w.heap.size w w'
theorem below_drewN {B : Nat} {a w : World} (h : Below B a w) (n : Nat) : Below B a (w.drewN n) := ⟨h.os, h.tape, h.output, h.size, h.block⟩
section
variable {a w w2 : World}
theorem bl_alloc {o : Obj} (h : Below a.heap.size a w) : Below a.heap.size a (w.alloc o) := h.alloc h.size o
theorem bl_drewN {n : Nat} (h : Below a.heap.size a w) : Below a.heap.size a (w.drewN n) := below_drewN h n
theorem bl_drew (h : Below a.heap.size a w) : Below a.heap.size a w.drew := h.drew
theorem bl_set {p : Addr} (h : Below a.heap.size a w) (hp : a.heap.size ≤ p.block) (u : Value) : Below a.heap.size a (w.setCell p u) := h.setCell hp u
theorem bl_call (h : Below a.heap.size a w) (hb : Below w.heap.size w w2) : Below a.heap.size a w2 := h.trans (hb.mono h.size)
end
/-- A slice of bytes that reads as l, its cells below the world's top. -/
def Byt (w : World) (p : Option Addr) (n : Nat) (l : List UInt8) : Prop :=
  l.length = n ∧ n ≤ 9223372036854775807 ∧ (n = 0 ∨ ∃ b o, p = some ⟨b, o, none⟩ ∧ b < w.heap.size ∧ Hid (∀ i, (h : i < l.length) → w.cell? ⟨b, o + i, none⟩ = some (.int .u8 ((l[i]).toNat : Int))))
theorem Byt.on {w w2 : World} {p : Option Addr} {n : Nat} {l : List UInt8} (hb : Below w.heap.size w w2) (h : Byt w p n l) : Byt w2 p n l := by
  obtain ⟨h0, hl, h | ⟨b, o, rfl, h1, h2⟩⟩ := h
  · exact ⟨h0, hl, .inl h⟩
  · exact ⟨h0, hl, .inr ⟨b, o, rfl, Nat.lt_of_lt_of_le h1 hb.size, Lib.hid fun i hi => (hb.cell (p := ⟨b, o + i, none⟩) h1).trans (h2.out i hi)⟩⟩
theorem Byt.alloc {w : World} {o : Obj} {p : Option Addr} {n : Nat} {l : List UInt8} (h : Byt w p n l) : Byt (w.alloc o) p n l := h.on ((Below.refl _ _).alloc (Nat.le_refl _) o)
theorem Byt.drew {w : World} {p : Option Addr} {n : Nat} {l : List UInt8} (h : Byt w p n l) : Byt w.drew p n l := h
theorem Byt.drewN {w : World} {p : Option Addr} {n : Nat} {l : List UInt8} (h : Byt w p n l) (m : Nat) : Byt (w.drewN m) p n l := h
/-- A slice of ints that reads as l. -/
def Ints (w : World) (p : Option Addr) (n : Nat) (l : List Int) : Prop :=
  l.length = n ∧ n ≤ 9223372036854775807 ∧ (n = 0 ∨ ∃ b o, p = some ⟨b, o, none⟩ ∧ b < w.heap.size ∧ Hid (∀ i, (h : i < l.length) → w.cell? ⟨b, o + i, none⟩ = some (.int .i64 (l[i]))))
theorem Ints.on {w w2 : World} {p : Option Addr} {n : Nat} {l : List Int} (hb : Below w.heap.size w w2) (h : Ints w p n l) : Ints w2 p n l := by
  obtain ⟨h0, hl, h | ⟨b, o, rfl, h1, h2⟩⟩ := h
  · exact ⟨h0, hl, .inl h⟩
  · exact ⟨h0, hl, .inr ⟨b, o, rfl, Nat.lt_of_lt_of_le h1 hb.size, Lib.hid fun i hi => (hb.cell (p := ⟨b, o + i, none⟩) h1).trans (h2.out i hi)⟩⟩
theorem Ints.alloc {w : World} {o : Obj} {p : Option Addr} {n : Nat} {l : List Int} (h : Ints w p n l) : Ints (w.alloc o) p n l := h.on ((Below.refl _ _).alloc (Nat.le_refl _) o)
theorem Ints.drew {w : World} {p : Option Addr} {n : Nat} {l : List Int} (h : Ints w p n l) : Ints w.drew p n l := h
theorem Ints.drewN {w : World} {p : Option Addr} {n : Nat} {l : List Int} (h : Ints w p n l) (m : Nat) : Ints (w.drewN m) p n l := h
def bv (l : List UInt8) : List Value := l.map fun c => .int .u8 (c.toNat : Int)
def iv (l : List Int) : List Value := l.map fun z => .int .i64 z
theorem bv_len {l : List UInt8} : (bv l).length = l.length := by unfold bv; rw [List.length_map]
theorem iv_len {l : List Int} : (iv l).length = l.length := by unfold iv; rw [List.length_map]
theorem bv_get {l : List UInt8} {i : Nat} (h : i < l.length) : (bv l)[i]? = some (.int .u8 ((l[i]).toNat : Int)) := by unfold bv; simp [h]
theorem iv_get {l : List Int} {i : Nat} (h : i < l.length) : (iv l)[i]? = some (.int .i64 (l[i])) := by unfold iv; simp [h]
theorem bv_one {l : List UInt8} : ∀ u ∈ bv l, u.oneCell' = true := by
  intro u hu
  unfold bv at hu
  obtain ⟨c, -, rfl⟩ := List.mem_map.1 hu
  rfl
theorem iv_one {l : List Int} : ∀ u ∈ iv l, u.oneCell' = true := by
  intro u hu
  unfold iv at hu
  obtain ⟨c, -, rfl⟩ := List.mem_map.1 hu
  rfl
theorem add_off (b o j : Nat) : (⟨b, o, none⟩ : Addr).add j = ⟨b, o + j, none⟩ := by unfold Addr.add; split <;> simp_all
theorem Byt.cells {w : World} {b o : Nat} {n : Nat} {l : List UInt8} (h : Byt w (some ⟨b, o, none⟩) n l) : ∀ j u, (bv l)[j]? = some u → w.cell? ((⟨b, o, none⟩ : Addr).add j) = some u := by
  intro j u hu
  have hj : j < l.length := by
    have := (List.getElem?_eq_some_iff.1 hu).1
    rwa [bv_len] at this
  rw [bv_get hj] at hu
  cases hu
  rw [add_off]
  obtain ⟨h0, -, h | ⟨b', o', he, -, h2⟩⟩ := h
  · omega
  · cases he
    exact h2.out j hj
theorem own_len {w : World} {base : Nat} {e : TypeId} {v : Value} {n : Nat} {xs : List Value} (h : w.ownsRow base e 1 v n xs) : xs.length = n := by have := h.1; omega
/-- A row of the call's own reads as bytes. -/
theorem byt_own {lo : Nat} {w : World} {v : Value} {n : Nat} {l : List UInt8} (h : w.ownsRow lo 5 1 v n (bv l)) (hn : n ≤ 9223372036854775807) : ∃ q d, v = .slice q n d ∧ n ≤ d ∧ Byt w q n l := by
  have hl : l.length = n := by have := own_len h; rwa [bv_len] at this
  rcases h.2 with ⟨rfl, rfl⟩ | ⟨g, cap, cur, rfl, hb, hg, hc, -⟩
  · exact ⟨none, 0, rfl, Nat.le_refl _, hl, hn, .inl rfl⟩
  · refine ⟨_, cap, rfl, hc, hl, hn, .inr ⟨g, 0, rfl, (Array.getElem?_eq_some_iff.1 hg).1, Lib.hid fun i hi => ?_⟩⟩
    rw [Nat.zero_add, h.cellAt i (by omega)]
    exact bv_get hi
theorem ints_own {lo : Nat} {w : World} {v : Value} {n : Nat} {l : List Int} (h : w.ownsRow lo 3 1 v n (iv l)) (hn : n ≤ 9223372036854775807) : ∃ q d, v = .slice q n d ∧ n ≤ d ∧ Ints w q n l := by
  have hl : l.length = n := by have := own_len h; rwa [iv_len] at this
  rcases h.2 with ⟨rfl, rfl⟩ | ⟨g, cap, cur, rfl, hb, hg, hc, -⟩
  · exact ⟨none, 0, rfl, Nat.le_refl _, hl, hn, .inl rfl⟩
  · refine ⟨_, cap, rfl, hc, hl, hn, .inr ⟨g, 0, rfl, (Array.getElem?_eq_some_iff.1 hg).1, Lib.hid fun i hi => ?_⟩⟩
    rw [Nat.zero_add, h.cellAt i (by omega)]
    exact iv_get hi
theorem own_on {lo : Nat} {e : TypeId} {w w2 : World} {v : Value} {n : Nat} {xs : List Value} (h : w.ownsRow lo e 1 v n xs) (hb : Below w.heap.size w w2) : w2.ownsRow lo e 1 v n xs :=
  h.kept (row := none) ⟨hb.os, hb.tape, hb.output, hb.size, fun k hk _ => hb.block k hk⟩ (by cases v.ownBlock <;> simp)
theorem parts_of {o : Option TypeInfo} {z : Value} {s b : Nat} (h : o.map (fun i => (i.zero, i.size, i.bytes)) = some (some z, s, b)) : ∃ i, o = some i ∧ i.zero = some z ∧ i.size = s ∧ i.bytes = b := by
  cases o with
  | none => cases h
  | some i => simp only [Option.map_some, Option.some.injEq, Prod.mk.injEq] at h; exact ⟨i, rfl, h.1, h.2.1, h.2.2⟩
theorem int_info : (Try.prog.info? 3).map (fun i => (i.zero, i.size, i.bytes)) = some (some (.int .i64 0), 1, 8) := by kernel_rfl
theorem u8_info : (Try.prog.info? 5).map (fun i => (i.zero, i.size, i.bytes)) = some (some (.int .u8 0), 1, 1) := by kernel_rfl
theorem ones64 (u : Nat) (h : u < 18446744073709551616) : (2 ^ 64 - 1) ^^^ u = 18446744073709551615 - u := by
  apply Nat.eq_of_testBit_eq
  intro i
  have e2 : Nat.testBit (18446744073709551615 - u) i = (decide (i < 64) && !Nat.testBit u i) := by
    rw [show 18446744073709551615 - u = 2 ^ 64 - (u + 1) by omega]
    exact Nat.testBit_two_pow_sub_succ h i
  rw [Nat.testBit_xor, Nat.testBit_two_pow_sub_one, e2]
  by_cases hi : i < 64
  · simp [hi]
  · have : Nat.testBit u i = false := Nat.testBit_lt_two_pow (Nat.lt_of_lt_of_le h (show 2 ^ 64 ≤ 2 ^ i from Nat.pow_le_pow_right (by decide) (by omega)))
    simp [hi, this]
theorem not_i64 {n : Int} (h : -9223372036854775808 ≤ n) (h2 : n ≤ 9223372036854775807) : bits .xor .i64 (-1) n = -1 - n := by
  show IntKind.i64.wrap ((BitVec.ofInt 64 (-1) ^^^ BitVec.ofInt 64 n).toNat : Int) = _
  have h1 : (BitVec.ofInt 64 (-1)).toNat = 2 ^ 64 - 1 := by decide
  obtain ⟨x, hx⟩ : ∃ x, (BitVec.ofInt 64 n).toNat = x := ⟨_, rfl⟩
  have h3 : x = (n % 18446744073709551616).toNat := by rw [← hx, BitVec.toNat_ofInt]; rfl
  rw [BitVec.toNat_xor, h1, hx, ones64 x (by omega), IntKind.wrap_i64]
  omega
end Go.Proofs.Ytnfddeoddjmpkaa.Co
