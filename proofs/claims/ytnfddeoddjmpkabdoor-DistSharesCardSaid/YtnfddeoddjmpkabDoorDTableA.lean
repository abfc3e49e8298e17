/-
  tableValue at every table that Check accepts.
-/
import Derived.Test.YtnfddeoddjmpkabDoorDTableV
import Derived.Laws.OwnMore
import Derived.Lib.OwnBridge
import Derived.OwnWalk
namespace Go.Proofs.YtnfddeoddjmpkabDoor.Di
open Go.RowKit
open St (hiN hiN_lt)
set_option maxHeartbeats 2000000
theorem made_int (n : Nat) (hn : n ≤ 20) (w : World) : (Instr.makeSlice 31 (.int .i64 n) (.int .i64 n)).run Tryd.prog w = .ok (.slice (some ⟨w.heap.size, 0, none⟩) n n) (w.alloc (.cells (Array.replicate n (.int .i64 0)) 3)) := by
  obtain ⟨i0, hi, hz0, hz1, hz2⟩ : ∃ i, Tryd.prog.info? 3 = some i ∧ i.zero = some (.int .i64 0) ∧ i.size = 1 ∧ i.bytes = 8 := info_parts (by kernel_rfl)
  rw [run_make w 31 3 i0 (.int .i64 0) Tryd.underlying31 hi hz0 .i64 .i64 n n (by omega) (by omega) (by rw [hz2]; omega) (by omega), hz1]
  have : madeCells (Value.int .i64 0).cells ((n : Int).toNat * 1) = Array.replicate n (.int .i64 0) := by
    apply Array.toList_inj.1
    rw [show (Value.int .i64 0).cells = #[.int .i64 0] from rfl, toList_madeCells_one]
    simp
  rw [this]
  simp
theorem fill_holds {w wr : World} {m : Nat} {sv : Value} (h : Fill w (m + 1) sv (m + 1) wr) : Sort.Holds encF wr (w.heap.size + 1) 0 (idArr m) := by
  intro j hj
  rw [idArr_size] at hj
  have h1 := h.1 j hj
  rw [if_pos hj] at h1
  rw [Nat.zero_add, idArr_get m j hj]
  exact h1
theorem laid_of {w wr : World} {m t : Nat} {sv : Value} (h : Fill w (m + 1) sv (m + 1) wr) (d : Array (Fin (m + 1))) (hd : d.size = m + 1) :
    Laid w (m + 1) sv (fun j => d[j]!.val) ((Sort.putRow encF wr (w.heap.size + 1) 0 d).drewN t) := by
  have hH := fill_holds h
  have hH2 := Sort.holds_putRow encF wr (w.heap.size + 1) 0 (idArr m) d hH (by rw [idArr_size, hd])
  refine ⟨fun j hj => ?_, ?_, ?_⟩
  · have := (hH2 j (by omega)).1
    rw [Nat.zero_add] at this
    exact this
  · show (Sort.putRow encF wr (w.heap.size + 1) 0 d).cell? _ = _
    rw [Sort.cell?_putRow_other _ _ _ _ _ _ (Or.inl (by show w.heap.size ≠ w.heap.size + 1; omega))]
    exact h.2.1
  · exact Lib.below_putRow (q := t) h.2.2.1 (by omega)
theorem sumK {W : Nat → Int} {n u : Nat} (hu : u < 18446744073709551616) (n1 : 1 ≤ n) (n20 : n ≤ 20) (hW : ∀ i, i < n → 1 ≤ W i ∧ W i ≤ 1000) : ∃ S : Nat, sumT W n = (S : Int) ∧ (sumT W n).toNat = S ∧ 1 ≤ S ∧ S ≤ 20000 ∧ hiN u S < S := by
  obtain ⟨h1, h2⟩ := sumT_bd hW
  refine ⟨(sumT W n).toNat, by omega, rfl, by omega, by omega, hiN_lt hu (by omega)⟩
/-- The value of DTable. -/
def tblV (V W : Nat → Int) (n u : Nat) : Int := tabV V W n ((hiN u (sumT W n).toNat : Nat) : Int)
theorem tval_any (p : Option Addr) (c : Nat) (q : Option Addr) (f n u : Nat) (V W : Nat → Int) (w : World) (hV : Row w p n V) (hWr : Row w q n W) (n1 : 1 ≤ n) (n20 : n ≤ 20) (hW : ∀ i, i < n → 1 ≤ W i ∧ W i ≤ 1000) (hu : u < 18446744073709551616) :
    Calls Tryd.prog 61 #[.slice p n c, .slice q n f, .int .u64 u] w (Gives (.int .i64 (tblV V W n u)) w) := by
  obtain ⟨-, h | ⟨b, o, rfl, hb, hv⟩⟩ := hV
  · omega
  have hWr0 := hWr
  obtain ⟨-, h | ⟨b2, o2, rfl, hb2, hw⟩⟩ := hWr
  · omega
  obtain ⟨m, rfl⟩ : ∃ m, n = m + 1 := ⟨n - 1, by omega⟩
  obtain ⟨S, e1, e2, s1, s2, hk⟩ := sumK (W := W) hu n1 n20 hW
  unfold tblV
  rw [e2]
  refine tval_walk b o c b2 o2 f (m + 1) u S _ V W w _ hb hb2 n1 n20 (by omega) (by omega) hv hw (Lib.hid hW) (Lib.hid (by rw [e1]; omega)) (made_int (m + 1) n20) (Lib.hid (fill_start w (m + 1) _ _ _)) (Lib.hid fun wr hF => ?_) (Lib.hid fun wr hB => ?_) (Lib.hid fun wr => upper_any u S hu (by omega) (by omega) wr)
  · have hB := hF.2.2.1
    have hS : SortIn wr b o c (m + 1) w.heap.size (w.heap.size + 1) V := ⟨by have := hF.2.2.2; omega, Nat.lt_of_lt_of_le hb hB.size, hF.2.2.2, by omega, by omega, hF.2.1, fun i hi => (hB.cell (p := ⟨b, o + i, none⟩) hb).trans (hv.out i hi)⟩
    refine (sort_any b o c m w.heap.size (w.heap.size + 1) (m + 1) V n20 wr hS (fill_holds hF)).mono fun e w' ⟨he, t, hw'⟩ => ⟨he, _, (sort1_ok V m).ord, ?_⟩
    rw [hw']
    exact laid_of hF _ (sort1_size V m)
  · have h := sum_any (some ⟨b2, o2, none⟩) (m + 1) f W wr (hWr0.on hB) n20 (Lib.hid fun i hi => by have := hW i hi; omega)
    rw [e1] at h
    exact h
end Go.Proofs.YtnfddeoddjmpkabDoor.Di
