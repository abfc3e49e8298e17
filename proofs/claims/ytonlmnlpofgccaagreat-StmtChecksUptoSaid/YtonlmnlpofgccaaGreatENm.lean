/-
  The contract of Names.
-/
import Derived.Test.YtonlmnlpofgccaaGreatECheck
import Derived.Test.YtonlmnlpofgccaaGreatETx
import Derived.Test.YtonlmnlpofgccaaGreatShelf
import Derived.Shelf.Sort.Plain
import Derived.Shelf.Slices.CompactS
import Derived.Shelf.Slices.In.SortNone
import Derived.Sort.OwnSorted
import Derived.Lib.OwnBridge
namespace Go.Proofs.YtonlmnlpofgccaaGreat.Ex
open Go.RowKit Go.Shelf Go.Sort
open Go.Proofs.YtonlmnlpofgccaaGreat.Na (bs bs_inj chk)
attribute [local go_sem] Oper.semAt_some
set_option maxHeartbeats 4000000
set_option linter.unusedVariables false
theorem check_gives2 {e : Ex} {x : Int} (h : chkE false e = x) (p : Option Addr) (m c : Nat) (w : World) (hi : In w e p m) (hs : Sz e) (hc : cnt e ≤ 1000000) : Calls Tryz.prog 34 #[.agg #[.int .i64 e.o, .string e.s, .int .i64 e.n, .slice p m c]] w (Gives (.int .i64 x) w) := by rw [← h]; exact check_any e p m c w hi hs hc
theorem says_snoc (l : List Ex) (x : Ex) : says (l ++ [x]) = if bs x.s = [] then says l else says l ++ [bs x.s] := by
  rw [says_app]
  simp only [says]
  split <;> simp
/-- An own row of texts that grows keeps what a round must keep. -/
theorem Kp.app {n₀ T B : Nat} {W w1 : World} {v v' : Value} {l : List Nm} {tmp : Obj} (hn : n₀ ≤ W.heap.size) (hB : n₀ ≤ B) (hT : B < T) (hrow : OwnT n₀ W v l) (hgrow : (W.alloc tmp).grownBy w1 v.ownBlock) (hbel : Below n₀ W (w1.setCell ⟨B, 0, none⟩ v')) : Kp n₀ T W (w1.setCell ⟨B, 0, none⟩ v') :=
  ⟨hbel, fun k c fr hk hc => by
    have hkl := (Array.getElem?_eq_some_iff.1 hc).1
    rw [(grownBy_setCell' w1 B v').block k (Nat.lt_of_lt_of_le hkl (Nat.le_trans (by simp) hgrow.size)) (fun e => by cases e; omega)]
    rw [hgrow.block k (by simp; omega) (fun e => by
      rcases hrow.2 with ⟨rfl, _⟩ | ⟨g', cap, cur, rfl, _, hgb, _⟩
      · simp [Value.ownBlock] at e
      · obtain rfl : g' = k := by simpa [Value.ownBlock] using e.symm
        rw [hgb] at hc
        cases hc)]
    exact (Below.heap_alloc W tmp k hkl).trans hc⟩
end Go.Proofs.YtonlmnlpofgccaaGreat.Ex
