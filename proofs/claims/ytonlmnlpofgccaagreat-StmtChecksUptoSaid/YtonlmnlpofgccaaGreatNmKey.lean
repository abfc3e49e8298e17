/-
  The contract of Keyword.
-/
import Derived.Test.YtonlmnlpofgccaaGreatNmBase
namespace Go.Proofs.YtonlmnlpofgccaaGreat.Na
open Go.RowKit
set_option maxHeartbeats 4000000
theorem clash {x : Bool} (h : x = true) (g : x = false) : False := by rw [h] at g; cases g
theorem kw_yes {s : ByteArray} {c : List UInt8} (h : (s.toList == c) = true) (hc : kwl.contains c = true) : true = isKw (bs s) := by
  have e : bs s = c := by
    have g := eq_of_beq h
    rw [Lib.toList_data] at g
    exact g
  unfold isKw
  rw [e, hc]
theorem kw_any (s : ByteArray) : isKw (bs s) = kwl.any fun c => s.toList == c := by
  unfold isKw
  simp only [Lib.toList_data]
  rw [List.contains_eq_any_beq]
set_option maxRecDepth 100000 in
theorem keyword_any (s : ByteArray) (w : World) : Calls Tryz.prog 46 #[.string s] w fun e w' => e = .returned (.bool (isKw (bs s))) ∧ w' = w := by
  go_enter Tryz.func46, Tryz.ntmps46
  go_wp2_with fail
  all_goals first
    | exact (clash (by assumption) (by assumption)).elim
    | (go_ret; exact ⟨ret_bool (kw_yes (by assumption) (by decide)), rfl⟩)
    | (go_ret; exact ⟨ret_bool (by rw [kw_any]; simp only [kwl, List.any_cons, List.any_nil, Bool.or_false, *]), rfl⟩)
theorem keyword_at {s : ByteArray} {b : Bool} (h : isKw (bs s) = b) (w : World) : Calls Tryz.prog 46 #[.string s] w fun e w' => e = .returned (.bool b) ∧ w' = w := by rw [← h]; exact keyword_any s w
end Go.Proofs.YtonlmnlpofgccaaGreat.Na
