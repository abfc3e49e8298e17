/-
  Parts of this proof: Mathematics of models. What the chapter's examples are.
-/
import Derived.Test.YtaaffmbnhjaebaaGreatZDCheck2
import Derived.Great.BuildSlice
import Derived.ChangeKeysEq
namespace Go.Proofs.YtaaffmbnhjaebaaGreat.Md
set_option linter.unusedVariables false
theorem mdB_comm (x y : Mdl) : mdB x y = mdB y x := by
 rw [Bool.eq_iff_iff, mdB_iff, mdB_iff]
 exact ⟨Eq.symm, Eq.symm⟩
end Go.Proofs.YtaaffmbnhjaebaaGreat.Md
namespace Go.Proofs.YtaaffmbnhjaebaaGreat.Sm
open Go.RowKit
attribute [local go_sem] cs0 cs1 cs2 cs3 cs4 cs5 cs6 cs7 cs8 cs9 cs10 cs11 cs12 cs13 cs14 cs15 cs16 cs17 cs18 cs19 cs20
set_option maxHeartbeats 2000000
set_option linter.unusedVariables false
set_option linter.unusedSimpArgs false
abbrev P0 : Pl := ⟨none, 0, 0, none, 0, 0, none, 0, 0, none, 0, 0, none, 0, 0, none, 0, 0, none, 0, 0⟩
theorem parts_of' {o : Option TypeInfo} {z : Value} {s b : Nat} (h : o.map (fun i => (i.zero, i.size, i.bytes)) = some (some z, s, b)) : ∃ i, o = some i ∧ i.zero = some z ∧ i.size = s ∧ i.bytes = b := by
 cases o with
 | none => cases h
 | some i => simp only [Option.map_some, Option.some.injEq, Prod.mk.injEq] at h; exact ⟨i, rfl, h.1, h.2.1, h.2.2⟩
theorem fld_info : (Tryz.prog.info? 173).map (fun i => (i.zero, i.size, i.bytes)) = some (some (.agg #[.int .i64 0, .string ⟨#[]⟩, .string ⟨#[]⟩, .int .i64 0, .string ⟨#[]⟩, .int .i64 0, .slice none 0 0, .int .i64 0, .string ⟨#[]⟩, .int .i64 0, .slice none 0 0, .slice none 0 0, .int .i64 0, .int .i64 0, .int .i64 0, .int .i64 0, .slice none 0 0, .slice none 0 0, .bool false, .slice none 0 0, .slice none 0 0]), 21, 312) := by kernel_rfl
theorem st_anyC (x : St) (P : Pl) (z : Array Value) (hz : z.size = 21) (W : World) (B : Nat) (hB : W.heap.size = B) : (storeCells ⟨B, 0, none⟩ (cs x P).toList 0).run Tryz.prog (W.alloc (.cells z 173)) = .ok () (W.alloc (.cells (cs x P) 173)) := by subst hB; exact st_store x P z hz W
theorem st_anyV (x : St) (P : Pl) (z : Array Value) (hz : z.size = 21) (W : World) (B : Nat) (hB : W.heap.size = B) : (storeVar 173 ⟨B, 0, none⟩ (.agg (cs x P))).run Tryz.prog (W.alloc (.cells z 173)) = .ok () (W.alloc (.cells (cs x P) 173)) := by subst hB; exact st_storeVar x P z hz W
theorem st_anyA (x : St) (P : Pl) (z : Array Value) (hz : z.size = 21) (W : World) (B : Nat) (hB : W.heap.size = B) : (Instr.storeAt 173 (.pointer (some ⟨B, 0, none⟩)) (.agg (cs x P))).run Tryz.prog (W.alloc (.cells z 173)) = .ok () (W.alloc (.cells (cs x P) 173)) := by subst hB; exact st_storeAt x P z hz W
end Go.Proofs.YtaaffmbnhjaebaaGreat.Sm
