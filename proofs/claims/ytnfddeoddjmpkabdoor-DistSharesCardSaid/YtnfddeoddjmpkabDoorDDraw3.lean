/-
  Draw at every distribution and stream.
-/
import Derived.Test.YtnfddeoddjmpkabDoorDDraw2
namespace Go.Proofs.YtnfddeoddjmpkabDoor.Di
open Go.RowKit
open St (nextU errS tri nextU_lt okS hasS errS_no errS_yes okS_true)
set_option maxHeartbeats 4000000
def valF (op a b : Int) (lv : Nat) (V W : Nat → Int) (k : Nat) (anti : Bool) (Q : Nat) : Int := sglV op a b lv V W (nextU k Q anti)
def drwE (E pos op n : Int) : Int := if E = 0 then (if errS pos = 0 then (if 1000000000000 - tkV op n < pos then 2 else 0) else errS pos) else E
def drwV (E op a b n : Int) (lv : Nat) (V W : Nat → Int) (k : Nat) (pos : Int) (anti : Bool) : Int := if drwE E pos op n = 0 then drawS (valF op a b lv V W k anti) pos.toNat (tkV op n).toNat else 0
def drwK (e : Int) (k : Nat) : Nat := if e = 0 then k else 0
def drwP (e pos op n : Int) : Int := if e = 0 then pos + tkV op n else 0
def drwA (e : Int) (anti : Bool) : Bool := if e = 0 then anti else false
/-- What Draw answers. -/
def drwR (E op a b n : Int) (lv : Nat) (V W : Nat → Int) (k : Nat) (pos : Int) (anti : Bool) : Value :=
  .tuple #[.int .i64 (drwV E op a b n lv V W k pos anti), .agg #[.int .u64 (drwK (drwE E pos op n) k : Nat), .int .i64 (drwP (drwE E pos op n) pos op n), .bool (drwA (drwE E pos op n) anti)], .int .i64 (drwE E pos op n)]
theorem drw_bad {E op a b n : Int} {lv : Nat} {V W : Nat → Int} {k : Nat} {pos : Int} {anti : Bool} {e : Int} (h : drwE E pos op n = e) (he : e ≠ 0) : drwR E op a b n lv V W k pos anti = .tuple #[.int .i64 0, .agg #[.int .u64 0, .int .i64 0, .bool false], .int .i64 e] := by
  unfold drwR drwV drwK drwP drwA
  rw [h, if_neg he, if_neg he, if_neg he, if_neg he]; rfl
theorem drw_good {E op a b n : Int} {lv : Nat} {V W : Nat → Int} {k P T : Nat} {anti : Bool} (h : drwE E (P : Int) op n = 0) (ht : tkV op n = (T : Int)) : drwR E op a b n lv V W k (P : Int) anti = .tuple #[.int .i64 (drawS (valF op a b lv V W k anti) P T), .agg #[.int .u64 (k : Nat), .int .i64 (P + T : Nat), .bool anti], .int .i64 0] := by
  unfold drwR drwV drwK drwP drwA
  rw [h, if_pos rfl, if_pos rfl, if_pos rfl, if_pos rfl, ht]; rfl
theorem errS_01 (pos : Int) : (errS pos = 0 ∧ 0 ≤ pos ∧ pos ≤ 1000000000000) ∨ errS pos = 2 := by
  cases h : okS pos
  · exact .inr (errS_no h)
  · exact .inl ⟨errS_yes h, okS_true h⟩
end Go.Proofs.YtnfddeoddjmpkabDoor.Di
