/-
  The contracts of cmp.Compare[int], of the closure that compares two places by their values, and of slices.SortStableFunc at at most 20 places.
-/
import Derived.Test.YtnfddeoddjmpkabDoorDTab
import Derived.Test.YtnfddeoddjmpkabDoorCmp
import Derived.Test.YtnfddeoddjmpkabDoorSortLaid
import Derived.Shelf.SlSortCmp.Insertion
import Derived.Sort.LotA
namespace Go.Proofs.YtnfddeoddjmpkabDoor.Di
open Go.RowKit Go.Sort
set_option maxHeartbeats 1000000
theorem cmp_int (x y : Int) (w : World) : Calls Tryd.prog 78 #[.int .i64 x, .int .i64 y] w fun e w' => e = .returned (.int .i64 (cmpZ x y)) ∧ w = w' := by
  unfold cmpZ
  have h : x < y ∨ (¬ x < y ∧ y < x) ∨ ¬ x < y ∧ ¬ y < x := by omega
  rcases h with h | ⟨h, g⟩ | ⟨h, g⟩
  · rw [if_pos h]
    go_enter Tryd.func78, Tryd.ntmps78
    go_wp2
    go_ret
    exact ⟨rfl, rfl⟩
  · rw [if_neg h, if_pos g]
    go_enter Tryd.func78, Tryd.ntmps78
    go_wp2
    go_ret
    exact ⟨rfl, rfl⟩
  · rw [if_neg h, if_neg g]
    go_enter Tryd.func78, Tryd.ntmps78
    go_wp2
    go_ret
    exact ⟨rfl, rfl⟩
theorem closure_any (b o cap n B i j : Nat) (V : Nat → Int) (hi : i < n) (hj : j < n) (W : World) (hbox : W.cell? ⟨B, 0, none⟩ = some (.slice (some ⟨b, o, none⟩) n cap)) (e1 : W.cell? ⟨b, o + i, none⟩ = some (.int .i64 (V i))) (e2 : W.cell? ⟨b, o + j, none⟩ = some (.int .i64 (V j))) :
    Calls Tryd.prog 77 #[.int .i64 i, .int .i64 j, .pointer (some ⟨B, 0, none⟩)] W fun e w' => e = .returned (.int .i64 (cmpZ (V i) (V j))) ∧ ∃ q, w' = W.drewN q := by
  have c1 : (0 : Int) ≤ (i : Int) := by omega
  have c2 : (i : Int) < (n : Int) := by omega
  have c3 : (0 : Int) ≤ (j : Int) := by omega
  have c4 : (j : Int) < (n : Int) := by omega
  go_enter Tryd.func77, Tryd.ntmps77
  go_wp2_with fail
  go_quiet ((go_at_call 78; exact quiet_left (cmp_int _ _ _)))
  go_wp2_with fail
  go_ret
  exact ⟨rfl, _, rfl⟩
def encF {m : Nat} (x : Fin (m + 1)) : Value := .int .i64 ((x.val : Nat) : Int)
def cfV (V : Nat → Int) {m : Nat} (x y : Fin (m + 1)) : Int := cmpZ (V x.val) (V y.val)
theorem cfV_lt (V : Nat → Int) {m : Nat} (x y : Fin (m + 1)) : ltOf (cfV V) x y = decide (V x.val < V y.val) := by
  unfold ltOf cfV cmpZ
  by_cases h : V x.val < V y.val
  · rw [if_pos h]; simp [h]
  · rw [if_neg h]
    by_cases g : V y.val < V x.val
    · rw [if_pos g]; simp [h]
    · rw [if_neg g]; simp [h]
theorem cfV_swo (V : Nat → Int) (m : Nat) : SWO (ltOf (cfV V) : Fin (m + 1) → Fin (m + 1) → Bool) :=
  ⟨fun x => by rw [cfV_lt]; exact decide_eq_false (Int.lt_irrefl _),
   fun x y z h1 h2 => by rw [cfV_lt] at *; have := of_decide_eq_true h1; have := of_decide_eq_true h2; exact decide_eq_true (by omega),
   fun x y z h1 h2 => by rw [cfV_lt] at *; have := of_decide_eq_false h1; have := of_decide_eq_false h2; exact decide_eq_false (by omega)⟩
/-- What the sort's caller holds: the boxed slice and the values, apart from the row that is sorted. -/
structure SortIn (w : World) (b o cap n B blk : Nat) (V : Nat → Int) : Prop where
  hB : B < w.heap.size
  hb : b < w.heap.size
  hk : blk < w.heap.size
  n1 : B ≠ blk
  n2 : b ≠ blk
  box : w.cell? ⟨B, 0, none⟩ = some (.slice (some ⟨b, o, none⟩) n cap)
  vals : ∀ i, i < n → w.cell? ⟨b, o + i, none⟩ = some (.int .i64 (V i))
theorem SortIn.put {w : World} {b o cap n B blk : Nat} {V : Nat → Int} {α : Type} [Inhabited α] (h : SortIn w b o cap n B blk V) (enc : α → Value) (d : Array α) (t : Nat) : SortIn ((putRow enc w blk 0 d).drewN t) b o cap n B blk V := by
  have hz : ((putRow enc w blk 0 d).drewN t).heap.size = w.heap.size := size_putRow _ _ _ _ _
  refine ⟨by rw [hz]; exact h.hB, by rw [hz]; exact h.hb, by rw [hz]; exact h.hk, h.n1, h.n2, ?_, fun i hi => ?_⟩
  · show (putRow enc w blk 0 d).cell? _ = _
    rw [cell?_putRow_other _ _ _ _ _ _ (Or.inl h.n1)]; exact h.box
  · show (putRow enc w blk 0 d).cell? _ = _
    rw [cell?_putRow_other _ _ _ _ _ _ (Or.inl h.n2)]; exact h.vals i hi
theorem ins_any (b o cap m B blk cap2 : Nat) (V : Nat → Int) (a z : Nat) (d : Array (Fin (m + 1))) (hs : d.size = m + 1) (w : World) (hS : SortIn w b o cap (m + 1) B blk V) (hH : Holds encF w blk 0 d) (haz : a ≤ z) (hz : z ≤ m + 1) (hm : m < 4611686018427387903) :
    Calls Tryd.prog 86 #[.slice (some ⟨blk, 0, none⟩) (m + 1) cap2, .int .i64 a, .int .i64 z, .func (.func 77) #[] #[.pointer (some ⟨B, 0, none⟩)]] w fun e w' =>
      e = .returned (.tuple #[]) ∧ ∃ t, w' = (putRow encF w blk 0 (Sort.insertionSort (ltOf (cfV V)) d a z)).drewN t := by
  have eg : ∀ args w, (callFunc 77 args).run Tryd.prog w = .ok (.enter 77 args) w := enters_of Tryd.func77 (by kernel_rfl) rfl
  have hc : CmpReads Tryd.prog 77 #[.pointer (some ⟨B, 0, none⟩)] (encF (m := m)) (cfV V) blk 0 d.size w := fun t os dk hdk x y => by
    have hh : (putRow encF (Sort.ahead w t) blk 0 dk).heap.size = w.heap.size := size_putRow _ _ _ _ _
    refine closure_any b o cap (m + 1) B x.val y.val V x.isLt y.isLt _ ?_ ?_ ?_
    all_goals
      unfold sortWorld
    · rw [cell?_grow _ _ _ (by show B < _; rw [hh]; exact hS.hB), cell?_putRow_other _ _ _ _ _ _ (Or.inl hS.n1)]; exact hS.box
    · rw [cell?_grow _ _ _ (by show b < _; rw [hh]; exact hS.hb), cell?_putRow_other _ _ _ _ _ _ (Or.inl hS.n2)]; exact hS.vals _ x.isLt
    · rw [cell?_grow _ _ _ (by show b < _; rw [hh]; exact hS.hb), cell?_putRow_other _ _ _ _ _ _ (Or.inl hS.n2)]; exact hS.vals _ y.isLt
  have h := Any.insertionSortCmpFunc_one Tryd.insSort (encF (m := m)) (fun _ => rfl) (cfV V) 77 #[.pointer (some ⟨B, 0, none⟩)] blk 0 cap2 a z d w eg hc hH haz (by omega) (by omega)
  rw [hs] at h
  exact h
end Go.Proofs.YtnfddeoddjmpkabDoor.Di
