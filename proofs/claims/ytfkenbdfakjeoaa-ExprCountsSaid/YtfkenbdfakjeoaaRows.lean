/-
  NARROWER THAN 'FOR EVERY INPUT', by the rows' own cells (each row's printed sentence says how): ExprChecks: loops · ExprKids: loops · ExprSame: loops · ExprNames: loops · ExprReplaces: loops · ExprCounts: loops.
  DERIVED. THE GIVEN ROWS OF THIS SEAT. 7 by the template 'for every input the law returns true; each argument reads behind the call as it read before'; 0 by the template 'total and deterministic' (their statements: YtfkenbdfakjeoaaTotals.lean).
  GIVEN WITH THE SEED: the statements are not yours to turn. If you find one false, say at which input.
  Laid BY PROGRAM, IN A SANDBOX (cutbox-rows.mjs): the forced cells as the released guide's own fill.sh prints them over the translation 7c9b15b8f19dc472… (all of the seat's roots in one cut). By AI agents, Wed Nov 11 2026. No macro, syntax, notation, axiom, sorry.
-/
import Derived.Test.YtfkenbdfakjeoaaChecked
import GoSem.Claim
import GoSem.ClaimJoined
import GoSem.ClaimMapViews
import Derived.JoinedTies
import Derived.KernelRfl
namespace Go.Proofs.Ytfkenbdfakjeoaa
/- THE CELL 'sum', in the pinned program and in every row, IS THE sha256 OF THE DUMP (.gsa) THAT YtfkenbdfakjeoaaProg.lean LOADS. Nothing in Lean hashes anything: it is a label: what it is worth is what the hold of that sum in a sandbox is worth. -/
noncomputable def Try.pinned : Pinned := { name := "ytfkenbdfakjeoaa", sum := "7c9b15b8f19dc4729d7e82509d71fc73205b0e1444baae64e1e548e2e9435ec7", checked := Try.checked }
namespace Rows
def none {H : Type} : Left H := { results := [], args := [] }

/-- 'simulatorlaw09.ExprChecks': WHATEVER THE INPUT: true; the input reads as it did. -/
def exprChecksSpec : ChangeSpec := { name := "exprChecks", fn := fun _ => fun
  | [d] => { results := [.lit (.bool true)], args := [d] }
  | _ => none }
def exprChecksRow : OpenClaim := { program := "ytfkenbdfakjeoaa", sum := "7c9b15b8f19dc4729d7e82509d71fc73205b0e1444baae64e1e548e2e9435ec7", func := "simulator/simulatorlaw09.ExprChecks", spec := "exprChecks", unfollowed := true, recurses := true, loops := true, apart := false }
def ExprChecksSaid : Prop := exprChecksRow.holds Try.pinned (OpenSpec.ofChange exprChecksSpec)

/-- ITS FALSE NEIGHBOUR: 'it returns false'. Refute it at one input. -/
def exprChecksWrong : ChangeSpec := { name := "exprChecks", fn := fun _ => fun
  | [d] => { results := [.lit (.bool false)], args := [d] }
  | _ => none }
def ExprChecksWrongFalsely : Prop := exprChecksRow.holds Try.pinned (OpenSpec.ofChange exprChecksWrong)

/-- 'simulatorlaw09.ExprKids': WHATEVER THE INPUT: true; the input reads as it did. -/
def exprKidsSpec : ChangeSpec := { name := "exprKids", fn := fun _ => fun
  | [d] => { results := [.lit (.bool true)], args := [d] }
  | _ => none }
def exprKidsRow : OpenClaim := { program := "ytfkenbdfakjeoaa", sum := "7c9b15b8f19dc4729d7e82509d71fc73205b0e1444baae64e1e548e2e9435ec7", func := "simulator/simulatorlaw09.ExprKids", spec := "exprKids", unfollowed := true, recurses := true, loops := true, apart := false }
def ExprKidsSaid : Prop := exprKidsRow.holds Try.pinned (OpenSpec.ofChange exprKidsSpec)

/-- ITS FALSE NEIGHBOUR: 'it returns false'. Refute it at one input. -/
def exprKidsWrong : ChangeSpec := { name := "exprKids", fn := fun _ => fun
  | [d] => { results := [.lit (.bool false)], args := [d] }
  | _ => none }
def ExprKidsWrongFalsely : Prop := exprKidsRow.holds Try.pinned (OpenSpec.ofChange exprKidsWrong)

/-- 'simulatorlaw09.ExprSame': WHATEVER THE INPUT: true; the input reads as it did. -/
def exprSameSpec : ChangeSpec := { name := "exprSame", fn := fun _ => fun
  | [d1, d2] => { results := [.lit (.bool true)], args := [d1, d2] }
  | _ => none }
def exprSameRow : OpenClaim := { program := "ytfkenbdfakjeoaa", sum := "7c9b15b8f19dc4729d7e82509d71fc73205b0e1444baae64e1e548e2e9435ec7", func := "simulator/simulatorlaw09.ExprSame", spec := "exprSame", unfollowed := true, recurses := true, loops := true, apart := false }
def ExprSameSaid : Prop := exprSameRow.holds Try.pinned (OpenSpec.ofChange exprSameSpec)

/-- ITS FALSE NEIGHBOUR: 'it returns false'. Refute it at one input. -/
def exprSameWrong : ChangeSpec := { name := "exprSame", fn := fun _ => fun
  | [d1, d2] => { results := [.lit (.bool false)], args := [d1, d2] }
  | _ => none }
def ExprSameWrongFalsely : Prop := exprSameRow.holds Try.pinned (OpenSpec.ofChange exprSameWrong)

/-- 'simulatorlaw09.ExprNames': WHATEVER THE INPUT: true; the input reads as it did. -/
def exprNamesSpec : ChangeSpec := { name := "exprNames", fn := fun _ => fun
  | [d] => { results := [.lit (.bool true)], args := [d] }
  | _ => none }
def exprNamesRow : OpenClaim := { program := "ytfkenbdfakjeoaa", sum := "7c9b15b8f19dc4729d7e82509d71fc73205b0e1444baae64e1e548e2e9435ec7", func := "simulator/simulatorlaw09.ExprNames", spec := "exprNames", unfollowed := true, recurses := true, loops := true, apart := false }
def ExprNamesSaid : Prop := exprNamesRow.holds Try.pinned (OpenSpec.ofChange exprNamesSpec)

/-- ITS FALSE NEIGHBOUR: 'it returns false'. Refute it at one input. -/
def exprNamesWrong : ChangeSpec := { name := "exprNames", fn := fun _ => fun
  | [d] => { results := [.lit (.bool false)], args := [d] }
  | _ => none }
def ExprNamesWrongFalsely : Prop := exprNamesRow.holds Try.pinned (OpenSpec.ofChange exprNamesWrong)

/-- 'simulatorlaw09.ExprReplaces': WHATEVER THE INPUT: true; the input reads as it did. -/
def exprReplacesSpec : ChangeSpec := { name := "exprReplaces", fn := fun _ => fun
  | [d1, d2, d3] => { results := [.lit (.bool true)], args := [d1, d2, d3] }
  | _ => none }
def exprReplacesRow : OpenClaim := { program := "ytfkenbdfakjeoaa", sum := "7c9b15b8f19dc4729d7e82509d71fc73205b0e1444baae64e1e548e2e9435ec7", func := "simulator/simulatorlaw09.ExprReplaces", spec := "exprReplaces", unfollowed := true, recurses := true, loops := true, apart := false }
def ExprReplacesSaid : Prop := exprReplacesRow.holds Try.pinned (OpenSpec.ofChange exprReplacesSpec)

/-- ITS FALSE NEIGHBOUR: 'it returns false'. Refute it at one input. -/
def exprReplacesWrong : ChangeSpec := { name := "exprReplaces", fn := fun _ => fun
  | [d1, d2, d3] => { results := [.lit (.bool false)], args := [d1, d2, d3] }
  | _ => none }
def ExprReplacesWrongFalsely : Prop := exprReplacesRow.holds Try.pinned (OpenSpec.ofChange exprReplacesWrong)

/-- 'simulatorlaw09.ExprCounts': WHATEVER THE INPUT: true; the input reads as it did. -/
def exprCountsSpec : ChangeSpec := { name := "exprCounts", fn := fun _ => fun
  | [d1, d2, d3] => { results := [.lit (.bool true)], args := [d1, d2, d3] }
  | _ => none }
def exprCountsRow : OpenClaim := { program := "ytfkenbdfakjeoaa", sum := "7c9b15b8f19dc4729d7e82509d71fc73205b0e1444baae64e1e548e2e9435ec7", func := "simulator/simulatorlaw09.ExprCounts", spec := "exprCounts", unfollowed := true, recurses := true, loops := true, apart := false }
def ExprCountsSaid : Prop := exprCountsRow.holds Try.pinned (OpenSpec.ofChange exprCountsSpec)

/-- ITS FALSE NEIGHBOUR: 'it returns false'. Refute it at one input. -/
def exprCountsWrong : ChangeSpec := { name := "exprCounts", fn := fun _ => fun
  | [d1, d2, d3] => { results := [.lit (.bool false)], args := [d1, d2, d3] }
  | _ => none }
def ExprCountsWrongFalsely : Prop := exprCountsRow.holds Try.pinned (OpenSpec.ofChange exprCountsWrong)

/-- 'simulatorlaw09.ExprConsts': WHATEVER THE INPUT: true; the input reads as it did. -/
def exprConstsSpec : ChangeSpec := { name := "exprConsts", fn := fun _ => fun
  | [d1, d2] => { results := [.lit (.bool true)], args := [d1, d2] }
  | _ => none }
def exprConstsRow : OpenClaim := { program := "ytfkenbdfakjeoaa", sum := "7c9b15b8f19dc4729d7e82509d71fc73205b0e1444baae64e1e548e2e9435ec7", func := "simulator/simulatorlaw09.ExprConsts", spec := "exprConsts", unfollowed := true, recurses := true, apart := false }
def ExprConstsSaid : Prop := exprConstsRow.holds Try.pinned (OpenSpec.ofChange exprConstsSpec)

/-- ITS FALSE NEIGHBOUR: 'it returns false'. Refute it at one input. -/
def exprConstsWrong : ChangeSpec := { name := "exprConsts", fn := fun _ => fun
  | [d1, d2] => { results := [.lit (.bool false)], args := [d1, d2] }
  | _ => none }
def ExprConstsWrongFalsely : Prop := exprConstsRow.holds Try.pinned (OpenSpec.ofChange exprConstsWrong)

/- THE SECOND FORM. 'bulk': how many values and letters a reading holds, each counted each time it is reached (what is shared counts as often as it is met; a slice's spare places count too). A statement '..UptoSaid' is the law's where the arguments, and the package variables that the reading takes, are together of bulk at most 1048576: NARROWER than '..Said'. Prove '..Said' where nothing that the law and all that it calls make is longer than what came in: it says more and counts as full. Else prove '..UptoSaid'. A law counts once. -/
mutual
def uptoBulk {H : Type} : DataW H → Nat
  | .lit (.string bytes) => bytes.length + 1
  | .lit _ => 1
  | .nil => 1
  | .ptr d => uptoBulk d + 1
  | .slice elems spare => uptoBulkAll elems + uptoBulkAll spare + 1
  | .agg parts => uptoBulkAll parts + 1
  | .iface _ d => uptoBulk d + 1
  | .map entries => uptoBulkEntries entries + 1
  | .held _ => 1
def uptoBulkAll {H : Type} : List (DataW H) → Nat
  | [] => 0
  | d :: r => uptoBulk d + uptoBulkAll r
def uptoBulkEntries {H : Type} : List (Lit × DataW H) → Nat
  | [] => 0
  | x :: r => uptoBulkEntry x + uptoBulkEntries r
def uptoBulkEntry {H : Type} : Lit × DataW H → Nat
  | (.string bytes, d) => bytes.length + uptoBulk d + 1
  | (_, d) => uptoBulk d + 1
 end
def uptoSmall : (H : Type) → List (DataW H) → Bool := fun _ ds => decide (uptoBulkAll ds ≤ 1048576)
def OpenSpec.upto (s : _root_.Go.ChangeSpec) : _root_.Go.OpenSpec := { _root_.Go.OpenSpec.ofChange s with cond := some uptoSmall }

/-- 'simulatorlaw09.ExprChecks', WHERE WHAT IT READS IS OF BULK AT MOST 1048576: true; the input reads as it did. -/
def exprChecksUptoRow : OpenClaim := { program := "ytfkenbdfakjeoaa", sum := "7c9b15b8f19dc4729d7e82509d71fc73205b0e1444baae64e1e548e2e9435ec7", func := "simulator/simulatorlaw09.ExprChecks", spec := "exprChecks", unfollowed := true, recurses := true, loops := true, apart := false, narrowed := true }
def ExprChecksUptoSaid : Prop := exprChecksUptoRow.holds Try.pinned (OpenSpec.upto exprChecksSpec)

/-- 'simulatorlaw09.ExprKids', WHERE WHAT IT READS IS OF BULK AT MOST 1048576: true; the input reads as it did. -/
def exprKidsUptoRow : OpenClaim := { program := "ytfkenbdfakjeoaa", sum := "7c9b15b8f19dc4729d7e82509d71fc73205b0e1444baae64e1e548e2e9435ec7", func := "simulator/simulatorlaw09.ExprKids", spec := "exprKids", unfollowed := true, recurses := true, loops := true, apart := false, narrowed := true }
def ExprKidsUptoSaid : Prop := exprKidsUptoRow.holds Try.pinned (OpenSpec.upto exprKidsSpec)

/-- 'simulatorlaw09.ExprSame', WHERE WHAT IT READS IS OF BULK AT MOST 1048576: true; the input reads as it did. -/
def exprSameUptoRow : OpenClaim := { program := "ytfkenbdfakjeoaa", sum := "7c9b15b8f19dc4729d7e82509d71fc73205b0e1444baae64e1e548e2e9435ec7", func := "simulator/simulatorlaw09.ExprSame", spec := "exprSame", unfollowed := true, recurses := true, loops := true, apart := false, narrowed := true }
def ExprSameUptoSaid : Prop := exprSameUptoRow.holds Try.pinned (OpenSpec.upto exprSameSpec)

/-- 'simulatorlaw09.ExprNames', WHERE WHAT IT READS IS OF BULK AT MOST 1048576: true; the input reads as it did. -/
def exprNamesUptoRow : OpenClaim := { program := "ytfkenbdfakjeoaa", sum := "7c9b15b8f19dc4729d7e82509d71fc73205b0e1444baae64e1e548e2e9435ec7", func := "simulator/simulatorlaw09.ExprNames", spec := "exprNames", unfollowed := true, recurses := true, loops := true, apart := false, narrowed := true }
def ExprNamesUptoSaid : Prop := exprNamesUptoRow.holds Try.pinned (OpenSpec.upto exprNamesSpec)

/-- 'simulatorlaw09.ExprReplaces', WHERE WHAT IT READS IS OF BULK AT MOST 1048576: true; the input reads as it did. -/
def exprReplacesUptoRow : OpenClaim := { program := "ytfkenbdfakjeoaa", sum := "7c9b15b8f19dc4729d7e82509d71fc73205b0e1444baae64e1e548e2e9435ec7", func := "simulator/simulatorlaw09.ExprReplaces", spec := "exprReplaces", unfollowed := true, recurses := true, loops := true, apart := false, narrowed := true }
def ExprReplacesUptoSaid : Prop := exprReplacesUptoRow.holds Try.pinned (OpenSpec.upto exprReplacesSpec)

/-- 'simulatorlaw09.ExprCounts', WHERE WHAT IT READS IS OF BULK AT MOST 1048576: true; the input reads as it did. -/
def exprCountsUptoRow : OpenClaim := { program := "ytfkenbdfakjeoaa", sum := "7c9b15b8f19dc4729d7e82509d71fc73205b0e1444baae64e1e548e2e9435ec7", func := "simulator/simulatorlaw09.ExprCounts", spec := "exprCounts", unfollowed := true, recurses := true, loops := true, apart := false, narrowed := true }
def ExprCountsUptoSaid : Prop := exprCountsUptoRow.holds Try.pinned (OpenSpec.upto exprCountsSpec)

/-- 'simulatorlaw09.ExprConsts', WHERE WHAT IT READS IS OF BULK AT MOST 1048576: true; the input reads as it did. -/
def exprConstsUptoRow : OpenClaim := { program := "ytfkenbdfakjeoaa", sum := "7c9b15b8f19dc4729d7e82509d71fc73205b0e1444baae64e1e548e2e9435ec7", func := "simulator/simulatorlaw09.ExprConsts", spec := "exprConsts", unfollowed := true, recurses := true, apart := false, narrowed := true }
def ExprConstsUptoSaid : Prop := exprConstsUptoRow.holds Try.pinned (OpenSpec.upto exprConstsSpec)

end Rows
end Go.Proofs.Ytfkenbdfakjeoaa
