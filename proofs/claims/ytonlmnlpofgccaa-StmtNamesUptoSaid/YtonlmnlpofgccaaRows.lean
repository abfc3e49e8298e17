/-
  NARROWER THAN 'FOR EVERY INPUT', by the rows' own cells (each row's printed sentence says how): StmtNames: loops · StmtSame: loops · StmtJoins: loops · StmtParts: loops · StmtFields: loops.
  DERIVED. THE GIVEN ROWS OF THIS SEAT. 5 by the template 'for every input the law returns true; each argument reads behind the call as it read before'; 0 by the template 'total and deterministic' (their statements: YtonlmnlpofgccaaTotals.lean).
  GIVEN WITH THE SEED: the statements are not yours to turn. If you find one false, say at which input.
  Laid BY PROGRAM, IN A SANDBOX (cutbox-rows.mjs): the forced cells as the released guide's own fill.sh prints them over the translation 0d183b49faeb4cd9… (all of the seat's roots in one cut). By AI agents, Wed Nov 11 2026. No macro, syntax, notation, axiom, sorry.
-/
import Derived.Test.YtonlmnlpofgccaaChecked
import GoSem.Claim
import GoSem.ClaimJoined
import GoSem.ClaimMapViews
import Derived.JoinedTies
import Derived.KernelRfl
namespace Go.Proofs.Ytonlmnlpofgccaa
/- THE CELL 'sum', in the pinned program and in every row, IS THE sha256 OF THE DUMP (.gsa) THAT YtonlmnlpofgccaaProg.lean LOADS. Nothing in Lean hashes anything: it is a label: what it is worth is what the hold of that sum in a sandbox is worth. -/
noncomputable def Try.pinned : Pinned := { name := "ytonlmnlpofgccaa", sum := "0d183b49faeb4cd9819fc2f55a0bd217e6fafce6097bc084f88a72ba610a350e", checked := Try.checked }
namespace Rows
def none {H : Type} : Left H := { results := [], args := [] }

/-- 'simulatorlaw10.StmtNames': WHATEVER THE INPUT: true; the input reads as it did. -/
def stmtNamesSpec : ChangeSpec := { name := "stmtNames", fn := fun _ => fun
  | [d] => { results := [.lit (.bool true)], args := [d] }
  | _ => none }
def stmtNamesRow : OpenClaim := { program := "ytonlmnlpofgccaa", sum := "0d183b49faeb4cd9819fc2f55a0bd217e6fafce6097bc084f88a72ba610a350e", func := "simulator/simulatorlaw10.StmtNames", spec := "stmtNames", unfollowed := true, recurses := true, loops := true, apart := false }
def StmtNamesSaid : Prop := stmtNamesRow.holds Try.pinned (OpenSpec.ofChange stmtNamesSpec)

/-- ITS FALSE NEIGHBOUR: 'it returns false'. Refute it at one input. -/
def stmtNamesWrong : ChangeSpec := { name := "stmtNames", fn := fun _ => fun
  | [d] => { results := [.lit (.bool false)], args := [d] }
  | _ => none }
def StmtNamesWrongFalsely : Prop := stmtNamesRow.holds Try.pinned (OpenSpec.ofChange stmtNamesWrong)

/-- 'simulatorlaw10.StmtSame': WHATEVER THE INPUT: true; the input reads as it did. -/
def stmtSameSpec : ChangeSpec := { name := "stmtSame", fn := fun _ => fun
  | [d1, d2] => { results := [.lit (.bool true)], args := [d1, d2] }
  | _ => none }
def stmtSameRow : OpenClaim := { program := "ytonlmnlpofgccaa", sum := "0d183b49faeb4cd9819fc2f55a0bd217e6fafce6097bc084f88a72ba610a350e", func := "simulator/simulatorlaw10.StmtSame", spec := "stmtSame", unfollowed := true, recurses := true, loops := true, apart := false }
def StmtSameSaid : Prop := stmtSameRow.holds Try.pinned (OpenSpec.ofChange stmtSameSpec)

/-- ITS FALSE NEIGHBOUR: 'it returns false'. Refute it at one input. -/
def stmtSameWrong : ChangeSpec := { name := "stmtSame", fn := fun _ => fun
  | [d1, d2] => { results := [.lit (.bool false)], args := [d1, d2] }
  | _ => none }
def StmtSameWrongFalsely : Prop := stmtSameRow.holds Try.pinned (OpenSpec.ofChange stmtSameWrong)

/-- 'simulatorlaw10.StmtJoins': WHATEVER THE INPUT: true; the input reads as it did. -/
def stmtJoinsSpec : ChangeSpec := { name := "stmtJoins", fn := fun _ => fun
  | [d1, d2, d3] => { results := [.lit (.bool true)], args := [d1, d2, d3] }
  | _ => none }
def stmtJoinsRow : OpenClaim := { program := "ytonlmnlpofgccaa", sum := "0d183b49faeb4cd9819fc2f55a0bd217e6fafce6097bc084f88a72ba610a350e", func := "simulator/simulatorlaw10.StmtJoins", spec := "stmtJoins", unfollowed := true, recurses := true, loops := true, apart := false }
def StmtJoinsSaid : Prop := stmtJoinsRow.holds Try.pinned (OpenSpec.ofChange stmtJoinsSpec)

/-- ITS FALSE NEIGHBOUR: 'it returns false'. Refute it at one input. -/
def stmtJoinsWrong : ChangeSpec := { name := "stmtJoins", fn := fun _ => fun
  | [d1, d2, d3] => { results := [.lit (.bool false)], args := [d1, d2, d3] }
  | _ => none }
def StmtJoinsWrongFalsely : Prop := stmtJoinsRow.holds Try.pinned (OpenSpec.ofChange stmtJoinsWrong)

/-- 'simulatorlaw10.StmtParts': WHATEVER THE INPUT: true; the input reads as it did. -/
def stmtPartsSpec : ChangeSpec := { name := "stmtParts", fn := fun _ => fun
  | [d1, d2] => { results := [.lit (.bool true)], args := [d1, d2] }
  | _ => none }
def stmtPartsRow : OpenClaim := { program := "ytonlmnlpofgccaa", sum := "0d183b49faeb4cd9819fc2f55a0bd217e6fafce6097bc084f88a72ba610a350e", func := "simulator/simulatorlaw10.StmtParts", spec := "stmtParts", unfollowed := true, recurses := true, loops := true, apart := false }
def StmtPartsSaid : Prop := stmtPartsRow.holds Try.pinned (OpenSpec.ofChange stmtPartsSpec)

/-- ITS FALSE NEIGHBOUR: 'it returns false'. Refute it at one input. -/
def stmtPartsWrong : ChangeSpec := { name := "stmtParts", fn := fun _ => fun
  | [d1, d2] => { results := [.lit (.bool false)], args := [d1, d2] }
  | _ => none }
def StmtPartsWrongFalsely : Prop := stmtPartsRow.holds Try.pinned (OpenSpec.ofChange stmtPartsWrong)

/-- 'simulatorlaw10.StmtFields': WHATEVER THE INPUT: true; the input reads as it did. -/
def stmtFieldsSpec : ChangeSpec := { name := "stmtFields", fn := fun _ => fun
  | [d1, d2, d3] => { results := [.lit (.bool true)], args := [d1, d2, d3] }
  | _ => none }
def stmtFieldsRow : OpenClaim := { program := "ytonlmnlpofgccaa", sum := "0d183b49faeb4cd9819fc2f55a0bd217e6fafce6097bc084f88a72ba610a350e", func := "simulator/simulatorlaw10.StmtFields", spec := "stmtFields", unfollowed := true, recurses := true, loops := true, apart := false }
def StmtFieldsSaid : Prop := stmtFieldsRow.holds Try.pinned (OpenSpec.ofChange stmtFieldsSpec)

/-- ITS FALSE NEIGHBOUR: 'it returns false'. Refute it at one input. -/
def stmtFieldsWrong : ChangeSpec := { name := "stmtFields", fn := fun _ => fun
  | [d1, d2, d3] => { results := [.lit (.bool false)], args := [d1, d2, d3] }
  | _ => none }
def StmtFieldsWrongFalsely : Prop := stmtFieldsRow.holds Try.pinned (OpenSpec.ofChange stmtFieldsWrong)

/- THE SECOND FORM. 'bulk': how many values and letters a reading holds, each counted each time it is reached (what is shared counts as often as it is met; a slice's spare places count too). A statement '..UptoSaid' is the law's where the arguments, and the package variables that the reading takes, are together of bulk at most 1048576: NARROWER than '..Said'. Prove '..Said' where nothing that the law and all that it calls make is longer than what came in: it says more and counts as full. Else prove '..UptoSaid'. A law counts once. -/
mutual
def uptoBulk {H : Type} : DataW H → Nat
  | .lit (.string bytes) => bytes.length + 1
  | .lit _ => 1
  | .nil => 1
  | .ptr d => uptoBulk d + 1
  | .slice elems spare => uptoBulkAll elems + uptoBulkAll spare + 1
  | .agg parts => uptoBulkAll parts + 1
  | .iface _ d => uptoBulk d + 1
  | .map entries => uptoBulkEntries entries + 1
  | .held _ => 1
def uptoBulkAll {H : Type} : List (DataW H) → Nat
  | [] => 0
  | d :: r => uptoBulk d + uptoBulkAll r
def uptoBulkEntries {H : Type} : List (Lit × DataW H) → Nat
  | [] => 0
  | x :: r => uptoBulkEntry x + uptoBulkEntries r
def uptoBulkEntry {H : Type} : Lit × DataW H → Nat
  | (.string bytes, d) => bytes.length + uptoBulk d + 1
  | (_, d) => uptoBulk d + 1
 end
def uptoSmall : (H : Type) → List (DataW H) → Bool := fun _ ds => decide (uptoBulkAll ds ≤ 1048576)
def OpenSpec.upto (s : _root_.Go.ChangeSpec) : _root_.Go.OpenSpec := { _root_.Go.OpenSpec.ofChange s with cond := some uptoSmall }

/-- 'simulatorlaw10.StmtNames', WHERE WHAT IT READS IS OF BULK AT MOST 1048576: true; the input reads as it did. -/
def stmtNamesUptoRow : OpenClaim := { program := "ytonlmnlpofgccaa", sum := "0d183b49faeb4cd9819fc2f55a0bd217e6fafce6097bc084f88a72ba610a350e", func := "simulator/simulatorlaw10.StmtNames", spec := "stmtNames", unfollowed := true, recurses := true, loops := true, apart := false, narrowed := true }
def StmtNamesUptoSaid : Prop := stmtNamesUptoRow.holds Try.pinned (OpenSpec.upto stmtNamesSpec)

/-- 'simulatorlaw10.StmtSame', WHERE WHAT IT READS IS OF BULK AT MOST 1048576: true; the input reads as it did. -/
def stmtSameUptoRow : OpenClaim := { program := "ytonlmnlpofgccaa", sum := "0d183b49faeb4cd9819fc2f55a0bd217e6fafce6097bc084f88a72ba610a350e", func := "simulator/simulatorlaw10.StmtSame", spec := "stmtSame", unfollowed := true, recurses := true, loops := true, apart := false, narrowed := true }
def StmtSameUptoSaid : Prop := stmtSameUptoRow.holds Try.pinned (OpenSpec.upto stmtSameSpec)

/-- 'simulatorlaw10.StmtJoins', WHERE WHAT IT READS IS OF BULK AT MOST 1048576: true; the input reads as it did. -/
def stmtJoinsUptoRow : OpenClaim := { program := "ytonlmnlpofgccaa", sum := "0d183b49faeb4cd9819fc2f55a0bd217e6fafce6097bc084f88a72ba610a350e", func := "simulator/simulatorlaw10.StmtJoins", spec := "stmtJoins", unfollowed := true, recurses := true, loops := true, apart := false, narrowed := true }
def StmtJoinsUptoSaid : Prop := stmtJoinsUptoRow.holds Try.pinned (OpenSpec.upto stmtJoinsSpec)

/-- 'simulatorlaw10.StmtParts', WHERE WHAT IT READS IS OF BULK AT MOST 1048576: true; the input reads as it did. -/
def stmtPartsUptoRow : OpenClaim := { program := "ytonlmnlpofgccaa", sum := "0d183b49faeb4cd9819fc2f55a0bd217e6fafce6097bc084f88a72ba610a350e", func := "simulator/simulatorlaw10.StmtParts", spec := "stmtParts", unfollowed := true, recurses := true, loops := true, apart := false, narrowed := true }
def StmtPartsUptoSaid : Prop := stmtPartsUptoRow.holds Try.pinned (OpenSpec.upto stmtPartsSpec)

/-- 'simulatorlaw10.StmtFields', WHERE WHAT IT READS IS OF BULK AT MOST 1048576: true; the input reads as it did. -/
def stmtFieldsUptoRow : OpenClaim := { program := "ytonlmnlpofgccaa", sum := "0d183b49faeb4cd9819fc2f55a0bd217e6fafce6097bc084f88a72ba610a350e", func := "simulator/simulatorlaw10.StmtFields", spec := "stmtFields", unfollowed := true, recurses := true, loops := true, apart := false, narrowed := true }
def StmtFieldsUptoSaid : Prop := stmtFieldsUptoRow.holds Try.pinned (OpenSpec.upto stmtFieldsSpec)

end Rows
end Go.Proofs.Ytonlmnlpofgccaa
