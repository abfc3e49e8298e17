/-
  Bytes changed at up to four places: the lists, and the row in memory that holds them.
-/
import Derived.Test.YtnfddeoddjmpkaaCAwake
import Derived.Test.YtnfddeoddjmpkaaCFrame
import Derived.Lib.BufferWrite
namespace Go.Proofs.Ytnfddeoddjmpkaa.Co
open Go.RowKit
set_option maxHeartbeats 2000000
def maskL (n t : Nat) (m : List UInt8) : List UInt8 := List.replicate t 0 ++ m ++ List.replicate (n - t - m.length) 0
theorem maskL_len {n t : Nat} {m : List UInt8} (h : t + m.length ≤ n) : (maskL n t m).length = n := by
  unfold maskL; simp only [List.length_append, List.length_replicate]; omega
theorem maskL_nil {n t : Nat} (h : t ≤ n) : maskL n t [] = List.replicate n 0 := by
  unfold maskL
  rw [List.append_nil, List.replicate_append_replicate]
  congr 1
  simp only [List.length_nil]; omega
theorem maskL_set {n t j : Nat} {Y : List UInt8} (hj : j < Y.length) (h : t + j < n) : (maskL n t (Y.take j)).set (t + j) (Y[j]) = maskL n t (Y.take (j + 1)) := by
  have e : n - t - (Y.take j).length = (n - t - (Y.take (j + 1)).length) + 1 := by simp only [List.length_take]; omega
  unfold maskL
  rw [e, List.replicate_succ]
  have hl : (List.replicate t (0 : UInt8) ++ Y.take j).length = t + j := by simp only [List.length_append, List.length_replicate, List.length_take]; omega
  rw [List.set_append_right _ _ (by omega), hl, Nat.sub_self, List.set_cons_zero, List.take_succ_eq_append_getElem hj]
  simp only [List.append_assoc, List.singleton_append]
theorem xorL_set {l m : List UInt8} {i : Nat} {v : UInt8} (hi : i < l.length) (hm : i < m.length) : (xorL l m).set i (l[i] ^^^ v) = xorL l (m.set i v) := by
  unfold xorL
  apply List.ext_getElem?
  intro k
  by_cases hk : k = i
  · subst hk
    rw [List.getElem?_set_self (by rw [List.length_zipWith]; omega), List.getElem?_zipWith]
    simp [hi, hm]
  · rw [List.getElem?_set_ne (fun e => hk e.symm), List.getElem?_zipWith, List.getElem?_zipWith, List.getElem?_set_ne (fun e => hk e.symm)]
theorem xorL_len {l m : List UInt8} (h : l.length = m.length) : (xorL l m).length = l.length := by unfold xorL; rw [List.length_zipWith]; omega
theorem bv_set {l : List UInt8} {i : Nat} {c : UInt8} : (bv l).set i (.int .u8 (c.toNat : Int)) = bv (l.set i c) := by
  unfold bv; rw [List.map_set]
theorem zs_bv (n : Nat) : zs n = bv (List.replicate n 0) := by
  unfold zs bv; rw [List.map_replicate]; rfl
/-- Whether one of the bytes is not zero. -/
def anyB (m : List UInt8) : Bool := m.any (· != 0)
theorem anyB_iff {m : List UInt8} : anyB m = false ↔ ∀ c ∈ m, c = 0 := by
  unfold anyB; simp
theorem anyB_snoc {m : List UInt8} {c : UInt8} : anyB (m ++ [c]) = (anyB m || c != 0) := by unfold anyB; simp
/-- What the loop keeps: the bytes changed so far, the mask so far. -/
def Chg (W0 : World) (l Y : List UInt8) (g1 c1 g2 n t j : Nat) (wr : World) : Prop :=
  wr.ownsRow W0.heap.size 5 1 (.slice (some ⟨g1, 0, none⟩) n c1) n (bv (xorL l (maskL n t (Y.take j)))) ∧ wr.ownsRow W0.heap.size 5 1 (.slice (some ⟨g2, 0, none⟩) n n) n (bv (maskL n t (Y.take j))) ∧ Below W0.heap.size W0 wr
theorem own_set {w : World} {B g i n c h : Nat} {xs : List Value} {v : Value} (ho : w.ownsRow B 5 1 (.slice (some ⟨g, 0, none⟩) n c) n xs) (hne : g ≠ h) : (w.setCell ⟨h, i, none⟩ v).ownsRow B 5 1 (.slice (some ⟨g, 0, none⟩) n c) n xs :=
  ho.kept (Lib.grownBy_setCell w h i v) (Or.inr (by simp [Value.ownBlock, hne]))
theorem Chg.first {W0 w : World} {l Y : List UInt8} {g1 c1 g2 n t j : Nat} (h : Chg W0 l Y g1 c1 g2 n t j w) (hl : l.length = n) (hY : Y.length = 4) (hj : j < 4) (ht : t + j < n) (hg : g1 ≠ g2) :
    (w.setCell ⟨g1, t + j, none⟩ (.int .u8 (((l[t + j]'(by omega)) ^^^ (Y[j]'(by omega))).toNat : Int))).ownsRow W0.heap.size 5 1 (.slice (some ⟨g1, 0, none⟩) n c1) n (bv (xorL l (maskL n t (Y.take (j + 1))))) ∧
    (w.setCell ⟨g1, t + j, none⟩ (.int .u8 (((l[t + j]'(by omega)) ^^^ (Y[j]'(by omega))).toNat : Int))).ownsRow W0.heap.size 5 1 (.slice (some ⟨g2, 0, none⟩) n n) n (bv (maskL n t (Y.take j))) ∧
    Below W0.heap.size W0 (w.setCell ⟨g1, t + j, none⟩ (.int .u8 (((l[t + j]'(by omega)) ^^^ (Y[j]'(by omega))).toNat : Int))) := by
  obtain ⟨h1, h2, h3⟩ := h
  refine ⟨?_, own_set h2 (fun e => hg e.symm), bl_set h3 (h1.lt g1 rfl).1 _⟩
  have := (h1.stored (t + j) (.int .u8 (((l[t + j]'(by omega)) ^^^ (Y[j]'(by omega))).toNat : Int))).1
  rw [bv_set, xorL_set (by omega) (by rw [maskL_len (by rw [List.length_take]; omega)]; omega), maskL_set (by omega) ht] at this
  exact this
theorem Chg.second {W0 w : World} {l Y : List UInt8} {g1 c1 g2 n t j : Nat}
    (h : w.ownsRow W0.heap.size 5 1 (.slice (some ⟨g1, 0, none⟩) n c1) n (bv (xorL l (maskL n t (Y.take (j + 1))))) ∧ w.ownsRow W0.heap.size 5 1 (.slice (some ⟨g2, 0, none⟩) n n) n (bv (maskL n t (Y.take j))) ∧ Below W0.heap.size W0 w)
    (hY : Y.length = 4) (hj : j < 4) (ht : t + j < n) (hg : g1 ≠ g2) : Chg W0 l Y g1 c1 g2 n t (j + 1) (w.setCell ⟨g2, t + j, none⟩ (.int .u8 ((Y[j]'(by omega)).toNat : Int))) := by
  obtain ⟨h1, h2, h3⟩ := h
  refine ⟨own_set h1 hg, ?_, bl_set h3 (h2.lt g2 rfl).1 _⟩
  have := (h2.stored (t + j) (.int .u8 ((Y[j]'(by omega)).toNat : Int))).1
  rw [bv_set, maskL_set (by omega) ht] at this
  exact this
/-- The bytes behind the first store. -/
def Mid (W0 : World) (l Y : List UInt8) (g1 c1 g2 n t j : Nat) (w : World) : Prop :=
  w.ownsRow W0.heap.size 5 1 (.slice (some ⟨g1, 0, none⟩) n c1) n (bv (xorL l (maskL n t (Y.take (j + 1))))) ∧ w.ownsRow W0.heap.size 5 1 (.slice (some ⟨g2, 0, none⟩) n n) n (bv (maskL n t (Y.take j))) ∧ Below W0.heap.size W0 w
theorem Chg.one {W0 w : World} {l Y : List UInt8} {g1 c1 g2 n t j M : Nat} {x y : UInt8} (h : Chg W0 l Y g1 c1 g2 n t j w) (hl : l.length = n) (hY : Y.length = 4) (hj : j < 4) (hM : t + j = M) (ht : M < n) (hg : g1 ≠ g2) (hx : l[M]? = some x) (hy : Y[j]? = some y) :
    Mid W0 l Y g1 c1 g2 n t j (w.setCell ⟨g1, M, none⟩ (.int .u8 ((x ^^^ y).toNat : Int))) := by
  subst hM
  obtain ⟨_, rfl⟩ := List.getElem?_eq_some_iff.1 hx
  obtain ⟨_, rfl⟩ := List.getElem?_eq_some_iff.1 hy
  exact Chg.first h hl hY hj ht hg
theorem Mid.two {W0 w : World} {l Y : List UInt8} {g1 c1 g2 n t j M : Nat} {y : UInt8} (h : Mid W0 l Y g1 c1 g2 n t j w) (hY : Y.length = 4) (hj : j < 4) (hM : t + j = M) (ht : M < n) (hg : g1 ≠ g2) (hy : Y[j]? = some y) :
    Chg W0 l Y g1 c1 g2 n t (j + 1) (w.setCell ⟨g2, M, none⟩ (.int .u8 (y.toNat : Int))) := by
  subst hM
  obtain ⟨_, rfl⟩ := List.getElem?_eq_some_iff.1 hy
  exact Chg.second h hY hj ht hg
theorem Mid.drew {W0 w : World} {l Y : List UInt8} {g1 c1 g2 n t j : Nat} (h : Mid W0 l Y g1 c1 g2 n t j w) : Mid W0 l Y g1 c1 g2 n t j w.drew :=
  ⟨h.1, h.2.1, h.2.2.drew⟩
theorem own_there {w : World} {B g n c M : Nat} {xs : List Value} (h : w.ownsRow B 5 1 (.slice (some ⟨g, 0, none⟩) n c) n xs) (hM : M < n) : ∃ u, w.cell? ⟨g, M, none⟩ = some u := by
  have h1 := h.cellAt M (by omega)
  have h2 := own_len h
  rw [List.getElem?_eq_getElem (by rw [h2]; exact hM)] at h1
  exact ⟨_, h1⟩
theorem byt_at {w : World} {b o n M : Nat} {l : List UInt8} (h : Byt w (some ⟨b, o, none⟩) n l) (hM : M < n) : ∃ x, l[M]? = some x ∧ w.cell? ⟨b, o + M, none⟩ = some (.int .u8 (x.toNat : Int)) := by
  obtain ⟨h0, -, h1 | ⟨b', o', he, -, hc⟩⟩ := h
  · omega
  · cases he
    exact ⟨l[M], List.getElem?_eq_getElem (by omega), hc.out M (by omega)⟩
theorem xor_i64 {a b : Nat} (ha : a < 4294967296) (hb : b < 4294967296) : bits .xor .i64 (a : Int) (b : Int) = ((a ^^^ b : Nat) : Int) := by
  show IntKind.i64.wrap ((BitVec.ofInt 64 (a : Int) ^^^ BitVec.ofInt 64 (b : Int)).toNat : Int) = _
  have e : ∀ x : Nat, x < 4294967296 → (BitVec.ofInt 64 (x : Int)).toNat = x := fun x hx => by
    rw [BitVec.ofInt_natCast, BitVec.toNat_ofNat]; exact Nat.mod_eq_of_lt (by omega)
  have h := Nat.xor_lt_two_pow (n := 32) ha hb
  rw [BitVec.toNat_xor, e a ha, e b hb, IntKind.wrap_i64]
  omega
theorem xor_u8 (a b : UInt8) : bits .xor .u8 (a.toNat : Int) (b.toNat : Int) = ((a ^^^ b).toNat : Int) := by
  rw [byte_xor]
  exact u8_xor_nat _ _ (byte_lt a) (byte_lt b)
end Go.Proofs.Ytnfddeoddjmpkaa.Co
