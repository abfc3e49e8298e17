/-
  How texts and lists of texts among the arguments are read; the last step of a law's row.
-/
import Derived.Test.YtgepgdndhnoanaaNmBase
import Derived.ProofKit
import Derived.LaidMore
import Derived.LaidHandle
import Derived.MakeChecks
import Derived.OpenShut
import Derived.Stop.Joined
import Derived.Lib.SmallJoins
import Derived.Deep.Slices
import Derived.Deep.Fields
import Derived.ChangeSame
import Derived.SliceStrings
import Derived.SizedLaws
namespace Go.Proofs.Ytgepgdndhnoanaa.Na
open Go.ChangeShapes Go.WideShapes Go.ChangeAt Go.RowKit Go.Joins Go.Deep
set_option maxHeartbeats 1000000
section
variable {H : Type} {enc : TypeId × Value → H}
/-- The last step of a law's row (a row that does not say 'again'): the result is a bool, the arguments read as before, and of what was there nothing has turned; new blocks may be of any make. -/
theorem law_post {f : Func} {s : ChangeSpec} {W W' : World} {args : Array Value} {b : Bool} {ds : List (DataW H)} {before : List MemPlace}
    (hW : DataW.Whole enc Try.prog f.params.toList s.vars false W args.toList ds [] before)
    (hres : DataW.TrodAll enc Try.prog W' W.heap.size (fun _ => false) false f.resultTypes.toList ((Value.bool b).resultList f.resultTypes.size) (s.fn H (ds ++ [])).results [])
    (hargs : DataW.TrodAll enc Try.prog W' 0 (fun k => decide (k < W.heap.size)) true f.params.toList args.toList (s.fn H (ds ++ [])).args before)
    (hvars : DataW.TrodVars enc Try.prog W' (fun k => decide (k < W.heap.size)) s.vars (s.fn H (ds ++ [])).vars [])
    (hb : Below W.heap.size W W') : s.post enc Try.prog f false true false false W args (.bool b) W' :=
  ⟨ds, [], before, [], before, [], hW, hres, hargs, hvars, World.keptBut_mono (fun _ hp => ⟨hp, Or.inr (Or.inl hp)⟩) (hb.frame (· ∈ before)), fun h => by cases h⟩
theorem own : ownKnob Try.prog.godebug = none := by kernel_rfl
theorem c_str : Try.prog.cellsOf 9 = 1 := by kernel_rfl
theorem block_lt {w : World} {b k : Nat} {v : Value} (h : w.cell? ⟨b, k, none⟩ = some v) : b < w.heap.size := by
  rcases Nat.lt_or_ge b w.heap.size with g | g
  · exact g
  · unfold World.cell? at h
    rw [Array.getElem?_eq_none g] at h
    cases h
/-- A slice of texts as the arguments hold it. -/
theorem open_strs {w : World} {r : Reach} {b0 : Nat} {v : Value} {d : DataW H} {ps : List MemPlace} (hv0 : Value.okWide Try.prog w r b0 28 v) (h : DataW.Trod enc Try.prog w 0 (fun _ => true) true 28 v d ps) :
    ∃ (p : Option Addr) (n c : Nat) (l : List ByteArray), v = .slice p n c ∧ n ≤ c ∧ Strs w p n l ∧ ∀ x ∈ l, x.size ≤ 9223372036854775807 := by
  obtain ⟨a0, l0, k0, rfl⟩ := okWide_slice Try.underlying28 hv0
  obtain ⟨fuel, hf⟩ := h
  rcases open_strings Try.underlying28 Try.underlying9 c_str hf with ⟨hcs, -⟩ | ⟨a, len, cap, zs, hcs, -, hl, hm, hz, -, hcell, hwf⟩
  · have hv : Value.slice a0 l0 k0 = .slice none 0 0 := by simpa [Value.cells] using hcs
    exact ⟨none, 0, 0, [], hv, Nat.le_refl _, ⟨rfl, by omega, .inl rfl⟩, by simp⟩
  · have hv : Value.slice a0 l0 k0 = .slice (some a) len cap := by simpa [Value.cells] using hcs
    simp only [if_true] at hz
    refine ⟨some a, len, cap, zs.take len, hv, hl, ⟨by rw [List.length_take]; omega, by unfold maxLen at hm; omega, ?_⟩, fun x hx => ?_⟩
    · by_cases h0 : len = 0
      · exact .inl h0
      · obtain ⟨b, off, spot⟩ := a
        have hspot : spot = none := by simpa [Addr.add] using World.cell?_spot (hcell 0 (by omega))
        subst hspot
        have hc : ∀ j, (hj : j < (zs.take len).length) → w.cell? ⟨b, off + j, none⟩ = some (.string ((zs.take len)[j])) := fun j hj => by
          rw [List.length_take] at hj
          have hj2 : j < zs.length := by omega
          rw [← add_plain, List.getElem_take]
          have := hcell j hj2
          rwa [show zs.getD j ByteArray.empty = zs[j] by simp [List.getD, List.getElem?_eq_getElem hj2]] at this
        exact .inr ⟨b, off, rfl, block_lt (hc 0 (by rw [List.length_take]; omega)), Lib.hid hc⟩
    · have := hwf x (List.mem_of_mem_take hx)
      unfold maxLen at this
      omega
/-- An argument reads as before in a world in which nothing of the old has turned. -/
theorem laidOut : laidOutB Try.prog = true := by kernel_rfl
theorem arg_back {W W' : World} {v : Value} {d : DataW H} {ps : List MemPlace} {t : TypeId} (hr : Try.prog.readableRec t = true) (ht : t < Try.prog.types.size) (h : DataW.Trod enc Try.prog W 0 (fun _ => true) true t v d ps) (hb : Below W.heap.size W W') (hlt : ∀ y ∈ ps, y.block < W.heap.size) :
    DataW.Trod enc Try.prog W' 0 (fun k => decide (k < W.heap.size)) true t v d ps := Below.trod laidOut hr ht h hb hlt
end
theorem add_off (b o j : Nat) : (⟨b, o, none⟩ : Addr).add j = ⟨b, o + j, none⟩ := by unfold Addr.add; split <;> simp_all
end Go.Proofs.Ytgepgdndhnoanaa.Na
