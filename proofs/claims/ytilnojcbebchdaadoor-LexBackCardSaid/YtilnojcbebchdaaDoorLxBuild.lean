/-
  The contracts of the builder that Text writes into, and of strings.Repeat.
-/
import Derived.Test.YtilnojcbebchdaaDoorLxBase
import Derived.Test.YtilnojcbebchdaaDoorShelf
import Derived.Deep.DeepAppendWide
import Derived.Lib.AppendZeros
namespace Go.Proofs.YtilnojcbebchdaaDoor.Lx
open Go.RowKit Go.Lib
set_option maxHeartbeats 2000000
set_option linter.unusedVariables false
abbrev Bld (B : Nat) (l : List UInt8) (w : World) : Prop := Lib.IsBuilderF 51 5 B B (Lib.byteCells l) w
abbrev Kept (B : Nat) (w w' : World) : Prop := Below B w w' ∧ Lib.OthersKept 5 (some B) w w'
theorem u8_info : (Tryd.prog.info? 5).map (fun i => (i.zero, i.size, i.bytes)) = some (some (.int .u8 0), 1, 1) := by kernel_rfl
/-- A string behind a row of bytes, where both together are beyond 2^47 bytes by little. -/
theorem append_big {base : Nat} {w : World} {v : Value} {n : Nat} {xs : List Value} (hown : w.ownsRowF base 5 1 v n xs) (s : ByteArray) (hs : s.size ≤ 140737488355328) (hn : n ≤ 60000) (hbase : base ≤ w.heap.size) :
    ∃ v' w', (Builtin.append_ #[42, 9] 42 #[v, .string s]).run Tryd.prog w = .ok v' w' ∧ w'.ownsRowF base 5 1 v' (n + s.size) (xs ++ strCells s) ∧ w.grownBy w' v.ownBlock := by
  obtain ⟨i, hi, hz, hsize, hby⟩ := parts_of u8_info
  by_cases h : n + s.size ≤ 140737488355328
  · obtain ⟨v', w', h1, h2, h3, -⟩ := run_append_own_stringF (P := Tryd.prog) w base 42 9 42 5 i Tryd.underlying42 Tryd.underlying9 hi hz hsize hby v n xs hown s (by unfold maxLen; omega) h hbase
    exact ⟨v', w', h1, h2, h3⟩
  · have hxl : xs.length = n := by simpa using hown.1
    have hlen : (xs ++ strCells s).length = (n + s.size) * 1 := by rw [List.length_append, hxl, strCells_length, Nat.mul_one]
    obtain ⟨-, ⟨rfl, h0⟩ | ⟨g, cap, cur, fz, rfl, hbg, hg, hfz, hnc, hcm, hcs, htake⟩⟩ := id hown
    · omega
    · by_cases hroom : n + s.size ≤ cap
      · have hcs' : cur.size = cap := by simpa using hcs
        have ht' : cur.toList.take n = xs := by simpa using htake
        have hr := run_append_room_stringF (P := Tryd.prog) w 42 9 42 5 i Tryd.underlying42 Tryd.underlying9 hi hsize g n cap cur fz hg (by simpa using hfz) s hroom (by omega)
        refine ⟨_, _, hr, ⟨hlen, .inr ⟨g, cap, _, fz, rfl, hbg, setRow_heap w g cur _ _ _ hg, by omega, hroom, hcm, ?_, ?_⟩⟩, ⟨rfl, rfl, rfl, by simp, fun k _ hk => setRow_other w g k _ (fun e => hk (by simp [Value.ownBlock, e]))⟩⟩
        · have h3 := strCells_length s
          simp only [List.size_toArray, List.length_append, List.length_take, List.length_drop, Array.length_toList]
          omega
        · rw [ht', ← hlen]
          exact List.take_left
      · have holds : ∀ j u, xs[j]? = some u → w.cell? ((⟨g, 0, none⟩ : Addr).add j) = some u := hown.cells (g := g) rfl
        have hr := run_append_grow_string (P := Tryd.prog) w 42 9 42 5 i (.int .u8 0) Tryd.underlying42 Tryd.underlying9 hi hz ⟨g, 0, none⟩ n cap xs (by rw [hsize]; simpa using hxl) holds s (by omega) (by omega) (by rw [hby]; exact growslice_fits_wide (by omega) (by omega))
        have hge := grownCap_ge w (n + s.size) cap 5
        have hcm2 := grownCap_le_maxLen w (n + s.size) cap 5 (by unfold maxLen; omega)
        refine ⟨_, _, hr, ⟨hlen, .inr ⟨w.heap.size, _, _, (0, 0), rfl, hbase, heap_alloc_new w.drew _, Nat.zero_le _, hge, hcm2, ?_, ?_⟩⟩, ⟨rfl, rfl, rfl, by simp, fun k hk _ => Below.heap_alloc w.drew _ k hk⟩⟩
        · have hz1 : (Value.int IntKind.u8 0).cells.size = 1 := rfl
          have h3 := strCells_length s
          simp only [Array.size_append, List.size_toArray, size_zeroCells, hz1, hxl, h3]
          omega
        · simp only [Array.toList_append, List.append_assoc]
          rw [← List.append_assoc, ← hlen]
          exact List.take_left
set_option maxRecDepth 1000000 in
theorem ws_cells (B : Nat) (xs : List Value) (s : ByteArray) (w : World) (h : Lib.IsBuilderF 51 5 B B xs w) (hs : s.size ≤ 140737488355328) (hn : xs.length ≤ 60000) (hBw : B ≤ w.heap.size) :
    Calls Tryd.prog 29 #[.pointer (some ⟨B, 0, none⟩), .string s] w fun e w' => e = .returned (.tuple #[.int .i64 (s.size : Int), .nilIface]) ∧ (Lib.IsBuilderF 51 5 B B (xs ++ strCells s) w' ∧ Kept B w w') := by
  have I1 : Calls Tryd.prog 47 #[.pointer (some ⟨B, 0, none⟩)] w fun e w' => e = .returned (.tuple #[]) ∧ (Lib.BuilderAtF 51 5 B B (.pointer (some ⟨B, 0, none⟩)) xs w' ∧ Below B w w' ∧ Lib.OthersKept 5 (some B) w w') := Any.Builder_copyCheck_k { Tryd.lays105 with } Tryd.Builder_Extra_105.toX72 B B xs w h
  have hs' : (s.size : Int) ≤ 140737488355328 := by omega
  go_enter Tryd.func29, Tryd.ntmps29
  go_wp2_with fail
  refine I1.mono ?_
  rintro e w1 ⟨rfl, h1, hb1, hk1⟩
  obtain ⟨hB, v, hbk, hown, hne⟩ := h1
  have c0 : w1.cell? ⟨B, 0, none⟩ = some (.pointer (some ⟨B, 0, none⟩)) := by rw [Lib.cell_of_heap hbk]; rfl
  have c1 : w1.cell? ⟨B, 1, none⟩ = some v := by rw [Lib.cell_of_heap hbk]; rfl
  obtain ⟨v2, w2, hrun, hown2, hg2⟩ := append_big hown s hs hn (by have := hb1.size; omega)
  have hlt : B < w1.heap.size := by
    rcases Nat.lt_or_ge B w1.heap.size with g | g
    · exact g
    · rw [Array.getElem?_eq_none g] at hbk; cases hbk
  have hb2 : w2.heap[B]? = some (.cells #[.pointer (some ⟨B, 0, none⟩), v] 51 (0, 0)) := by
    rw [hg2.block B hlt (fun e => hne e.symm)]
    exact hbk
  have d0 : w2.cell? ⟨B, 0, none⟩ = some (.pointer (some ⟨B, 0, none⟩)) := by rw [Lib.cell_of_heap hb2]; rfl
  have d1 : w2.cell? ⟨B, 1, none⟩ = some v := by rw [Lib.cell_of_heap hb2]; rfl
  have f1 : w2.frozen? ⟨B, 1, none⟩ = false := Lib.frozen_of_heap hb2 1
  have HF : Hid (Lib.IsBuilderF 51 5 B B (xs ++ strCells s) (w2.setCell ⟨B, 1, none⟩ v2) ∧ Kept B w (w2.setCell ⟨B, 1, none⟩ v2)) := Lib.hid ⟨.inr (Lib.BuilderAtF.put hB hb2 (bs' := xs ++ strCells s) (by rw [List.length_append, strCells_length]; exact hown2) (by decide)), (hb1.grown hg2 (by have := hb1.size; omega) (fun k hk => (hown.lt k hk).1)).setCell (p := ⟨B, 1, none⟩) (Nat.le_refl _) _, (hk1.grown hg2 (Lib.ownsRowF_kind hown)).setCell ⟨B, 1, none⟩ rfl _⟩
  obtain ⟨ao, n', cap, rfl⟩ : ∃ ao n' cap, v2 = .slice ao n' cap := by
    rcases hown2.2 with ⟨hv, _⟩ | ⟨g, cap, cur, fz, hv, _⟩
    · exact ⟨_, _, _, hv⟩
    · exact ⟨_, _, _, hv⟩
  clear hown hown2 hg2 hb2 hbk hne
  go_wp2_with (at_builtin; refine Lib.wpList_append_run _ rfl _ _ _ _ rfl _ _ rfl rfl _ _ hrun ?_)
  go_ret2
  exact ⟨rfl, HF.out⟩
theorem cells_str (s : ByteArray) : strCells s = Lib.byteCells (bs s) := Lib.strCells_eq s
theorem writestring_any (B : Nat) (l : List UInt8) (s : ByteArray) (w : World) (h : Bld B l w) (hs : s.size ≤ 140737488355328) (hn : l.length ≤ 60000) (hBw : B ≤ w.heap.size) :
    Calls Tryd.prog 29 #[.pointer (some ⟨B, 0, none⟩), .string s] w fun e w' => e = .returned (.tuple #[.int .i64 (s.size : Int), .nilIface]) ∧ Bld B (l ++ bs s) w' ∧ Kept B w w' := by
  refine (ws_cells B (Lib.byteCells l) s w h hs (by rw [Lib.byteCells_length]; exact hn) hBw).mono fun e w' ⟨h1, h2, h3⟩ => ⟨h1, ?_, h3⟩
  rw [cells_str, ← Lib.byteCells_append] at h2
  exact h2
theorem writebyte_any (B : Nat) (l : List UInt8) (c : UInt8) (w : World) (h : Bld B l w) (hn : l.length ≤ 60000) (hBw : B ≤ w.heap.size) :
    Calls Tryd.prog 32 #[.pointer (some ⟨B, 0, none⟩), .int .u8 ((c.toNat : Nat) : Int)] w fun e w' => e = .returned .nilIface ∧ Bld B (l ++ [c]) w' ∧ Kept B w w' := by
  have I : Calls Tryd.prog 32 #[.pointer (some ⟨B, 0, none⟩), .int .u8 ((c.toNat : Nat) : Int)] w fun e w' => e = .returned .nilIface ∧ (Lib.BuilderAtF 51 5 B B (.pointer (some ⟨B, 0, none⟩)) (Lib.byteCells l ++ [.int .u8 ((c.toNat : Nat) : Int)]) w' ∧ Below B w w' ∧ Lib.OthersKept 5 (some B) w w') := Any.Builder_WriteByte_k Tryd.laysW Tryd.Builder_Extra_W B B (Lib.byteCells l) ((c.toNat : Nat) : Int) w h (by rw [Lib.byteCells_length]; omega) hBw
  refine I.mono fun e w' ⟨h1, h2, h3, h4⟩ => ⟨h1, ?_, h3, h4⟩
  show Lib.IsBuilderF _ _ _ _ (Lib.byteCells (l ++ [c])) _
  rw [Lib.byteCells_append]
  exact .inr h2
theorem len_any (B : Nat) (l : List UInt8) (w : World) (h : Bld B l w) : Calls Tryd.prog 34 #[.pointer (some ⟨B, 0, none⟩)] w fun e w' => e = .returned (.int .i64 ((l.length : Nat) : Int)) ∧ w' = w := by
  have I : Calls Tryd.prog 34 #[.pointer (some ⟨B, 0, none⟩)] w fun e w' => e = .returned (.int .i64 (((Lib.byteCells l).length : Nat) : Int)) ∧ w' = w := Any.Builder_Len_f { Tryd.lays105 with } B B (Lib.byteCells l) w h
  rw [Lib.byteCells_length] at I
  exact I
theorem string_any (B : Nat) (l : List UInt8) (w : World) (h : Bld B l w) (hBw : B ≤ w.heap.size) : Calls Tryd.prog 35 #[.pointer (some ⟨B, 0, none⟩)] w fun e w' => e = .returned (.string (mkS l)) ∧ Below B w w' :=
  (show Calls Tryd.prog 35 #[.pointer (some ⟨B, 0, none⟩)] w fun e w' => e = .returned (.string ⟨l.toArray⟩) ∧ (Lib.IsBuilderF 51 5 B B (Lib.byteCells l) w' ∧ Below B w w' ∧ Lib.OthersKept 5 (some B) w w') from Any.Builder_String_any_k { Tryd.lays105 with } Tryd.Builder_Extra_105 B B l w h hBw).mono fun _ _ ⟨h1, _, h2, _⟩ => ⟨h1, h2⟩
theorem repeat_ten (d : Nat) : Lib.repeatL [10] d = List.replicate d 10 := by
  have h := Lib.repeatL_replicate 10 1 d
  rw [Nat.mul_one] at h
  exact h
theorem repeat_any (d : Nat) (w : World) (hd : d ≤ 60000) : Calls Tryd.prog 30 #[.string ⟨#[10]⟩, .int .i64 (d : Int)] w (Gives (.string (mkS (List.replicate d 10))) w) := by
  have I : Calls Tryd.prog 30 #[.string ⟨#[10]⟩, .int .i64 (d : Int)] w fun e w' => e = .returned (.string ⟨(Lib.repeatL [10] d).toArray⟩) ∧ Below w.heap.size w w' := Any.strings_Repeat Tryd.lays105 Tryd.Builder_Extra_105 ⟨#[10]⟩ d w (by omega) (by show 1 * d ≤ _; omega)
  rw [repeat_ten] at I
  exact I
theorem Bld.fresh {w : World} : Bld w.heap.size [] (w.alloc (.cells #[.pointer none, .slice none 0 0] 51)) := Lib.IsBuilderF.of (Lib.fresh_isBuilder 51 5 w)
theorem Kept.box {B g : Nat} {w w2 : World} {cs : Array Value} (h : Kept B w w2) (hg : w.heap[g]? = some (.cells cs 31 (0, 0))) (hne : g ≠ B) : w2.heap[g]? = some (.cells cs 31 (0, 0)) :=
  h.2 g _ hg (fun e => hne (Option.some.inj e)) (fun c fz e => by
    simp only [Obj.cells.injEq] at e
    exact absurd e.2.1 (by decide))
end Go.Proofs.YtilnojcbebchdaaDoor.Lx
