/-
  How bytes, lists and texts among the arguments are read; the last step of a law's row; the test of sizes.
-/
import Derived.Test.YtnfddeoddjmpkaaCBase
import Derived.ProofKit
import Derived.LaidMore
import Derived.LaidHandle
import Derived.MakeChecks
import Derived.OpenShut
import Derived.Stop.Joined
import Derived.Lib.SmallJoins
import Derived.Deep.Slices
import Derived.Deep.Fields
import Derived.ChangeSame
namespace Go.Proofs.Ytnfddeoddjmpkaa.Co
open Go.ChangeShapes Go.WideShapes Go.ChangeAt Go.RowKit Go.Joins Go.Deep
set_option maxHeartbeats 1000000
theorem getD_at {l : List Int} {i : Nat} (h : i < l.length) : l.getD i 0 = l[i] := by simp [List.getD, List.getElem?_eq_getElem h]
section
variable {H : Type} {enc : TypeId × Value → H}
/-- The last step of a law's row (a row that does not say 'again'): the result is a bool, the arguments read as before, and of what was there nothing has turned; new blocks may be of any make. -/
theorem law_post {f : Func} {s : ChangeSpec} {W W' : World} {args : Array Value} {b : Bool} {ds : List (DataW H)} {before : List MemPlace}
    (hW : DataW.Whole enc Try.prog f.params.toList s.vars false W args.toList ds [] before)
    (hres : DataW.TrodAll enc Try.prog W' W.heap.size (fun _ => false) false f.resultTypes.toList ((Value.bool b).resultList f.resultTypes.size) (s.fn H (ds ++ [])).results [])
    (hargs : DataW.TrodAll enc Try.prog W' 0 (fun k => decide (k < W.heap.size)) true f.params.toList args.toList (s.fn H (ds ++ [])).args before)
    (hvars : DataW.TrodVars enc Try.prog W' (fun k => decide (k < W.heap.size)) s.vars (s.fn H (ds ++ [])).vars [])
    (hb : Below W.heap.size W W') : s.post enc Try.prog f false true false false W args (.bool b) W' :=
  ⟨ds, [], before, [], before, [], hW, hres, hargs, hvars, World.keptBut_mono (fun _ hp => ⟨hp, Or.inr (Or.inl hp)⟩) (hb.frame (· ∈ before)), fun h => by cases h⟩
theorem own : ownKnob Try.prog.godebug = none := by kernel_rfl
theorem c_int : Try.prog.cellsOf 3 = 1 := by kernel_rfl
theorem c_u8 : Try.prog.cellsOf 5 = 1 := by kernel_rfl
theorem block_lt {w : World} {b k : Nat} {v : Value} (h : w.cell? ⟨b, k, none⟩ = some v) : b < w.heap.size := by
  rcases Nat.lt_or_ge b w.heap.size with g | g
  · exact g
  · unfold World.cell? at h
    rw [Array.getElem?_eq_none g] at h
    cases h
/-- A slice of ints as the arguments hold it. -/
theorem open_list {w : World} {r : Reach} {b0 : Nat} {v : Value} {d : DataW H} {ps : List MemPlace} (hv0 : Value.okWide Try.prog w r b0 23 v) (h : DataW.Trod enc Try.prog w 0 (fun _ => true) true 23 v d ps) :
    ∃ (p : Option Addr) (n c : Nat) (l : List Int), v = .slice p n c ∧ n ≤ c ∧ Ints w p n l ∧ ∀ x ∈ l, Fits x := by
  obtain ⟨a0, l0, k0, rfl⟩ := okWide_slice Try.underlying23 hv0
  obtain ⟨fuel, hf⟩ := h
  rcases open_ints Try.underlying23 Try.underlying3 c_int hf with ⟨hcs, -⟩ | ⟨a, len, cap, zs, hcs, -, hl, hm, hz, -, hcell, hwf⟩
  · have hv : Value.slice a0 l0 k0 = .slice none 0 0 := by simpa [Value.cells] using hcs
    exact ⟨none, 0, 0, [], hv, Nat.le_refl _, ⟨rfl, by omega, .inl rfl⟩, by simp⟩
  · have hv : Value.slice a0 l0 k0 = .slice (some a) len cap := by simpa [Value.cells] using hcs
    simp only [if_true] at hz
    refine ⟨some a, len, cap, zs.take len, hv, hl, ⟨by rw [List.length_take]; omega, by unfold maxLen at hm; omega, ?_⟩, fun x hx => ?_⟩
    · by_cases h0 : len = 0
      · exact .inl h0
      · obtain ⟨b, off, spot⟩ := a
        have hspot : spot = none := by simpa [Addr.add] using World.cell?_spot (hcell 0 (by omega))
        subst hspot
        have hc : ∀ j, (hj : j < (zs.take len).length) → w.cell? ⟨b, off + j, none⟩ = some (.int .i64 ((zs.take len)[j])) := fun j hj => by
          rw [List.length_take] at hj
          rw [← add_plain, List.getElem_take]
          have := hcell j (by omega)
          rwa [getD_at (by omega)] at this
        exact .inr ⟨b, off, rfl, block_lt (hc 0 (by rw [List.length_take]; omega)), Lib.hid hc⟩
    · exact bounds_i64 (hwf x (List.mem_of_mem_take hx))
/-- A slice of bytes as the arguments hold it. -/
theorem open_byts {w : World} {r : Reach} {b0 : Nat} {v : Value} {d : DataW H} {ps : List MemPlace} (hv0 : Value.okWide Try.prog w r b0 22 v) (h : DataW.Trod enc Try.prog w 0 (fun _ => true) true 22 v d ps) :
    ∃ (p : Option Addr) (n c : Nat) (l : List UInt8), v = .slice p n c ∧ n ≤ c ∧ Byt w p n l := by
  obtain ⟨a0, l0, k0, rfl⟩ := okWide_slice Try.underlying22 hv0
  obtain ⟨fuel, hf⟩ := h
  rcases open_ints Try.underlying22 Try.underlying5 c_u8 hf with ⟨hcs, -⟩ | ⟨a, len, cap, zs, hcs, -, hl, hm, hz, -, hcell, hwf⟩
  · have hv : Value.slice a0 l0 k0 = .slice none 0 0 := by simpa [Value.cells] using hcs
    exact ⟨none, 0, 0, [], hv, Nat.le_refl _, ⟨rfl, by omega, .inl rfl⟩⟩
  · have hv : Value.slice a0 l0 k0 = .slice (some a) len cap := by simpa [Value.cells] using hcs
    simp only [if_true] at hz
    refine ⟨some a, len, cap, (zs.take len).map fun z => UInt8.ofNat z.toNat, hv, hl, ⟨by rw [List.length_map, List.length_take]; omega, by unfold maxLen at hm; omega, ?_⟩⟩
    by_cases h0 : len = 0
    · exact .inl h0
    · obtain ⟨b, off, spot⟩ := a
      have hspot : spot = none := by simpa [Addr.add] using World.cell?_spot (hcell 0 (by omega))
      subst hspot
      have hc : ∀ j, (hj : j < ((zs.take len).map fun z => UInt8.ofNat z.toNat).length) → w.cell? ⟨b, off + j, none⟩ = some (.int .u8 ((((zs.take len).map fun z => UInt8.ofNat z.toNat)[j]).toNat : Int)) := fun j hj => by
        rw [List.length_map, List.length_take] at hj
        rw [← add_plain, List.getElem_map, List.getElem_take]
        have := hcell j (by omega)
        rw [getD_at (by omega)] at this
        have hb := bounds_u8 (hwf (zs[j]'(by omega)) (List.getElem_mem _))
        rw [this, byte_of (by omega), Int.toNat_of_nonneg hb.1]
      exact .inr ⟨b, off, rfl, block_lt (hc 0 (by rw [List.length_map, List.length_take]; omega)), Lib.hid hc⟩
/-- An argument reads as before in a world in which nothing of the old has turned. -/
theorem laidOut : laidOutB Try.prog = true := by kernel_rfl
theorem arg_back {W W' : World} {v : Value} {d : DataW H} {ps : List MemPlace} {t : TypeId} (hr : Try.prog.readableRec t = true) (ht : t < Try.prog.types.size) (h : DataW.Trod enc Try.prog W 0 (fun _ => true) true t v d ps) (hb : Below W.heap.size W W') (hlt : ∀ y ∈ ps, y.block < W.heap.size) :
    DataW.Trod enc Try.prog W' 0 (fun k => decide (k < W.heap.size)) true t v d ps := Below.trod laidOut hr ht h hb hlt
end
def fewB (n m k : Nat) : Bool := decide (n ≤ 300 ∧ m ≤ 300 ∧ k ≤ 300)
theorem few_any (p : Option Addr) (n c : Nat) (s : ByteArray) (q : Option Addr) (m d : Nat) (w : World) : Calls Try.prog 10 #[.slice p n c, .string s, .slice q m d] w fun e w' => e = .returned (.bool (fewB n s.size m)) ∧ w = w' := by
  by_cases h1 : n ≤ 300
  · have t1 : decide ((n : Int) ≤ 300) = true := decide_eq_true (by omega)
    by_cases h2 : s.size ≤ 300
    · have t2 : decide ((s.size : Int) ≤ 300) = true := decide_eq_true (by omega)
      by_cases h3 : m ≤ 300
      · have t3 : decide ((m : Int) ≤ 300) = true := decide_eq_true (by omega)
        have HR : Hid (fewB n s.size m = true) := Lib.hid (decide_eq_true ⟨h1, h2, h3⟩)
        go_enter Try.func10, Try.ntmps10
        go_wp2_with fail
        go_ret
        exact ⟨ret_bool HR.out.symm, rfl⟩
      · have t3 : decide ((m : Int) ≤ 300) = false := decide_eq_false (by omega)
        have HR : Hid (fewB n s.size m = false) := Lib.hid (decide_eq_false (by omega))
        go_enter Try.func10, Try.ntmps10
        go_wp2_with fail
        go_ret
        exact ⟨ret_bool HR.out.symm, rfl⟩
    · have t2 : decide ((s.size : Int) ≤ 300) = false := decide_eq_false (by omega)
      have HR : Hid (fewB n s.size m = false) := Lib.hid (decide_eq_false (by omega))
      go_enter Try.func10, Try.ntmps10
      go_wp2_with fail
      go_ret
      exact ⟨ret_bool HR.out.symm, rfl⟩
  · have t1 : decide ((n : Int) ≤ 300) = false := decide_eq_false (by omega)
    have HR : Hid (fewB n s.size m = false) := Lib.hid (decide_eq_false (by omega))
    go_enter Try.func10, Try.ntmps10
    go_wp2_with fail
    go_ret
    exact ⟨ret_bool HR.out.symm, rfl⟩
end Go.Proofs.Ytnfddeoddjmpkaa.Co
