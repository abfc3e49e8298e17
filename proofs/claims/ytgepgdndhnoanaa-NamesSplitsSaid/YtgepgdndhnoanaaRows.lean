/-
  No cell of these rows narrows 'for every input' (looked for: loops, veiled, ifaces, maps, wideKeys, modest, calm, conditions, laid).
  DERIVED. THE GIVEN ROWS OF THIS SEAT. 6 by the template 'for every input the law returns true; each argument reads behind the call as it read before'; 0 by the template 'total and deterministic' (their statements: YtgepgdndhnoanaaTotals.lean).
  GIVEN WITH THE SEED: the statements are not yours to turn. If you find one false, say at which input.
  Laid BY PROGRAM, IN A SANDBOX (cutbox-rows.mjs): the forced cells as the released guide's own fill.sh prints them over the translation 4232f6e685b1bd69… (all of the seat's roots in one cut). By AI agents, Wed Nov 11 2026. No macro, syntax, notation, axiom, sorry.
-/
import Derived.Test.YtgepgdndhnoanaaChecked
import GoSem.Claim
import GoSem.ClaimJoined
import GoSem.ClaimMapViews
import Derived.JoinedTies
import Derived.KernelRfl
namespace Go.Proofs.Ytgepgdndhnoanaa
/- THE CELL 'sum', in the pinned program and in every row, IS THE sha256 OF THE DUMP (.gsa) THAT YtgepgdndhnoanaaProg.lean LOADS. Nothing in Lean hashes anything: it is a label: what it is worth is what the hold of that sum in a sandbox is worth. -/
noncomputable def Try.pinned : Pinned := { name := "ytgepgdndhnoanaa", sum := "4232f6e685b1bd6965b7a2f9de6fd56dff65628663f2afc782d70572f32ae0ba", checked := Try.checked }
namespace Rows
def none {H : Type} : Left H := { results := [], args := [] }

/-- 'simulatorlaw07.NamesWords': WHATEVER THE INPUT: true; the input reads as it did. -/
def namesWordsSpec : ChangeSpec := { name := "namesWords", fn := fun _ => fun
  | [d] => { results := [.lit (.bool true)], args := [d] }
  | _ => none }
def namesWordsRow : OpenClaim := { program := "ytgepgdndhnoanaa", sum := "4232f6e685b1bd6965b7a2f9de6fd56dff65628663f2afc782d70572f32ae0ba", func := "simulator/simulatorlaw07.NamesWords", spec := "namesWords", inPlace := ["internal/bytealg.IndexByteString", "internal/bytealg.IndexString"], named := ["internal/bytealg.MaxLen"], apart := false }
def NamesWordsSaid : Prop := namesWordsRow.holds Try.pinned (OpenSpec.ofChange namesWordsSpec)

/-- ITS FALSE NEIGHBOUR: 'it returns false'. Refute it at one input. -/
def namesWordsWrong : ChangeSpec := { name := "namesWords", fn := fun _ => fun
  | [d] => { results := [.lit (.bool false)], args := [d] }
  | _ => none }
def NamesWordsWrongFalsely : Prop := namesWordsRow.holds Try.pinned (OpenSpec.ofChange namesWordsWrong)

/-- 'simulatorlaw07.NamesForm': WHATEVER THE INPUT: true; the input reads as it did. -/
def namesFormSpec : ChangeSpec := { name := "namesForm", fn := fun _ => fun
  | [d1, d2] => { results := [.lit (.bool true)], args := [d1, d2] }
  | _ => none }
def namesFormRow : OpenClaim := { program := "ytgepgdndhnoanaa", sum := "4232f6e685b1bd6965b7a2f9de6fd56dff65628663f2afc782d70572f32ae0ba", func := "simulator/simulatorlaw07.NamesForm", spec := "namesForm", inPlace := ["internal/bytealg.IndexByteString", "internal/bytealg.IndexString"], named := ["internal/bytealg.MaxLen"], apart := false }
def NamesFormSaid : Prop := namesFormRow.holds Try.pinned (OpenSpec.ofChange namesFormSpec)

/-- ITS FALSE NEIGHBOUR: 'it returns false'. Refute it at one input. -/
def namesFormWrong : ChangeSpec := { name := "namesForm", fn := fun _ => fun
  | [d1, d2] => { results := [.lit (.bool false)], args := [d1, d2] }
  | _ => none }
def NamesFormWrongFalsely : Prop := namesFormRow.holds Try.pinned (OpenSpec.ofChange namesFormWrong)

/-- 'simulatorlaw07.NamesFinds': WHATEVER THE INPUT: true; the input reads as it did. -/
def namesFindsSpec : ChangeSpec := { name := "namesFinds", fn := fun _ => fun
  | [d1, d2] => { results := [.lit (.bool true)], args := [d1, d2] }
  | _ => none }
def namesFindsRow : OpenClaim := { program := "ytgepgdndhnoanaa", sum := "4232f6e685b1bd6965b7a2f9de6fd56dff65628663f2afc782d70572f32ae0ba", func := "simulator/simulatorlaw07.NamesFinds", spec := "namesFinds", inPlace := ["internal/bytealg.IndexByteString", "internal/bytealg.IndexString"], named := ["internal/bytealg.MaxLen"], apart := false }
def NamesFindsSaid : Prop := namesFindsRow.holds Try.pinned (OpenSpec.ofChange namesFindsSpec)

/-- ITS FALSE NEIGHBOUR: 'it returns false'. Refute it at one input. -/
def namesFindsWrong : ChangeSpec := { name := "namesFinds", fn := fun _ => fun
  | [d1, d2] => { results := [.lit (.bool false)], args := [d1, d2] }
  | _ => none }
def NamesFindsWrongFalsely : Prop := namesFindsRow.holds Try.pinned (OpenSpec.ofChange namesFindsWrong)

/-- 'simulatorlaw07.NamesDistinct': WHATEVER THE INPUT: true; the input reads as it did. -/
def namesDistinctSpec : ChangeSpec := { name := "namesDistinct", fn := fun _ => fun
  | [d] => { results := [.lit (.bool true)], args := [d] }
  | _ => none }
def namesDistinctRow : OpenClaim := { program := "ytgepgdndhnoanaa", sum := "4232f6e685b1bd6965b7a2f9de6fd56dff65628663f2afc782d70572f32ae0ba", func := "simulator/simulatorlaw07.NamesDistinct", spec := "namesDistinct", inPlace := ["internal/bytealg.IndexByteString", "internal/bytealg.IndexString"], named := ["internal/bytealg.MaxLen"], apart := false }
def NamesDistinctSaid : Prop := namesDistinctRow.holds Try.pinned (OpenSpec.ofChange namesDistinctSpec)

/-- ITS FALSE NEIGHBOUR: 'it returns false'. Refute it at one input. -/
def namesDistinctWrong : ChangeSpec := { name := "namesDistinct", fn := fun _ => fun
  | [d] => { results := [.lit (.bool false)], args := [d] }
  | _ => none }
def NamesDistinctWrongFalsely : Prop := namesDistinctRow.holds Try.pinned (OpenSpec.ofChange namesDistinctWrong)

/-- 'simulatorlaw07.NamesPaths': WHATEVER THE INPUT: true; the input reads as it did. -/
def namesPathsSpec : ChangeSpec := { name := "namesPaths", fn := fun _ => fun
  | [d1, d2] => { results := [.lit (.bool true)], args := [d1, d2] }
  | _ => none }
def namesPathsRow : OpenClaim := { program := "ytgepgdndhnoanaa", sum := "4232f6e685b1bd6965b7a2f9de6fd56dff65628663f2afc782d70572f32ae0ba", func := "simulator/simulatorlaw07.NamesPaths", spec := "namesPaths", inPlace := ["internal/bytealg.IndexByteString", "internal/bytealg.IndexString"], named := ["internal/bytealg.MaxLen"], apart := false }
def NamesPathsSaid : Prop := namesPathsRow.holds Try.pinned (OpenSpec.ofChange namesPathsSpec)

/-- ITS FALSE NEIGHBOUR: 'it returns false'. Refute it at one input. -/
def namesPathsWrong : ChangeSpec := { name := "namesPaths", fn := fun _ => fun
  | [d1, d2] => { results := [.lit (.bool false)], args := [d1, d2] }
  | _ => none }
def NamesPathsWrongFalsely : Prop := namesPathsRow.holds Try.pinned (OpenSpec.ofChange namesPathsWrong)

/-- 'simulatorlaw07.NamesSplits': WHATEVER THE INPUT: true; the input reads as it did. -/
def namesSplitsSpec : ChangeSpec := { name := "namesSplits", fn := fun _ => fun
  | [d] => { results := [.lit (.bool true)], args := [d] }
  | _ => none }
def namesSplitsRow : OpenClaim := { program := "ytgepgdndhnoanaa", sum := "4232f6e685b1bd6965b7a2f9de6fd56dff65628663f2afc782d70572f32ae0ba", func := "simulator/simulatorlaw07.NamesSplits", spec := "namesSplits", inPlace := ["internal/bytealg.IndexByteString", "internal/bytealg.IndexString"], named := ["internal/bytealg.MaxLen"], apart := false }
def NamesSplitsSaid : Prop := namesSplitsRow.holds Try.pinned (OpenSpec.ofChange namesSplitsSpec)

/-- ITS FALSE NEIGHBOUR: 'it returns false'. Refute it at one input. -/
def namesSplitsWrong : ChangeSpec := { name := "namesSplits", fn := fun _ => fun
  | [d] => { results := [.lit (.bool false)], args := [d] }
  | _ => none }
def NamesSplitsWrongFalsely : Prop := namesSplitsRow.holds Try.pinned (OpenSpec.ofChange namesSplitsWrong)

/- THE SECOND FORM. 'bulk': how many values and letters a reading holds, each counted each time it is reached (what is shared counts as often as it is met; a slice's spare places count too). A statement '..UptoSaid' is the law's where the arguments, and the package variables that the reading takes, are together of bulk at most 1048576: NARROWER than '..Said'. Prove '..Said' where nothing that the law and all that it calls make is longer than what came in: it says more and counts as full. Else prove '..UptoSaid'. A law counts once. -/
mutual
def uptoBulk {H : Type} : DataW H → Nat
  | .lit (.string bytes) => bytes.length + 1
  | .lit _ => 1
  | .nil => 1
  | .ptr d => uptoBulk d + 1
  | .slice elems spare => uptoBulkAll elems + uptoBulkAll spare + 1
  | .agg parts => uptoBulkAll parts + 1
  | .iface _ d => uptoBulk d + 1
  | .map entries => uptoBulkEntries entries + 1
  | .held _ => 1
def uptoBulkAll {H : Type} : List (DataW H) → Nat
  | [] => 0
  | d :: r => uptoBulk d + uptoBulkAll r
def uptoBulkEntries {H : Type} : List (Lit × DataW H) → Nat
  | [] => 0
  | x :: r => uptoBulkEntry x + uptoBulkEntries r
def uptoBulkEntry {H : Type} : Lit × DataW H → Nat
  | (.string bytes, d) => bytes.length + uptoBulk d + 1
  | (_, d) => uptoBulk d + 1
 end
def uptoSmall : (H : Type) → List (DataW H) → Bool := fun _ ds => decide (uptoBulkAll ds ≤ 1048576)
def OpenSpec.upto (s : _root_.Go.ChangeSpec) : _root_.Go.OpenSpec := { _root_.Go.OpenSpec.ofChange s with cond := some uptoSmall }

/-- 'simulatorlaw07.NamesWords', WHERE WHAT IT READS IS OF BULK AT MOST 1048576: true; the input reads as it did. -/
def namesWordsUptoRow : OpenClaim := { program := "ytgepgdndhnoanaa", sum := "4232f6e685b1bd6965b7a2f9de6fd56dff65628663f2afc782d70572f32ae0ba", func := "simulator/simulatorlaw07.NamesWords", spec := "namesWords", inPlace := ["internal/bytealg.IndexByteString", "internal/bytealg.IndexString"], named := ["internal/bytealg.MaxLen"], apart := false, narrowed := true }
def NamesWordsUptoSaid : Prop := namesWordsUptoRow.holds Try.pinned (OpenSpec.upto namesWordsSpec)

/-- 'simulatorlaw07.NamesForm', WHERE WHAT IT READS IS OF BULK AT MOST 1048576: true; the input reads as it did. -/
def namesFormUptoRow : OpenClaim := { program := "ytgepgdndhnoanaa", sum := "4232f6e685b1bd6965b7a2f9de6fd56dff65628663f2afc782d70572f32ae0ba", func := "simulator/simulatorlaw07.NamesForm", spec := "namesForm", inPlace := ["internal/bytealg.IndexByteString", "internal/bytealg.IndexString"], named := ["internal/bytealg.MaxLen"], apart := false, narrowed := true }
def NamesFormUptoSaid : Prop := namesFormUptoRow.holds Try.pinned (OpenSpec.upto namesFormSpec)

/-- 'simulatorlaw07.NamesFinds', WHERE WHAT IT READS IS OF BULK AT MOST 1048576: true; the input reads as it did. -/
def namesFindsUptoRow : OpenClaim := { program := "ytgepgdndhnoanaa", sum := "4232f6e685b1bd6965b7a2f9de6fd56dff65628663f2afc782d70572f32ae0ba", func := "simulator/simulatorlaw07.NamesFinds", spec := "namesFinds", inPlace := ["internal/bytealg.IndexByteString", "internal/bytealg.IndexString"], named := ["internal/bytealg.MaxLen"], apart := false, narrowed := true }
def NamesFindsUptoSaid : Prop := namesFindsUptoRow.holds Try.pinned (OpenSpec.upto namesFindsSpec)

/-- 'simulatorlaw07.NamesDistinct', WHERE WHAT IT READS IS OF BULK AT MOST 1048576: true; the input reads as it did. -/
def namesDistinctUptoRow : OpenClaim := { program := "ytgepgdndhnoanaa", sum := "4232f6e685b1bd6965b7a2f9de6fd56dff65628663f2afc782d70572f32ae0ba", func := "simulator/simulatorlaw07.NamesDistinct", spec := "namesDistinct", inPlace := ["internal/bytealg.IndexByteString", "internal/bytealg.IndexString"], named := ["internal/bytealg.MaxLen"], apart := false, narrowed := true }
def NamesDistinctUptoSaid : Prop := namesDistinctUptoRow.holds Try.pinned (OpenSpec.upto namesDistinctSpec)

/-- 'simulatorlaw07.NamesPaths', WHERE WHAT IT READS IS OF BULK AT MOST 1048576: true; the input reads as it did. -/
def namesPathsUptoRow : OpenClaim := { program := "ytgepgdndhnoanaa", sum := "4232f6e685b1bd6965b7a2f9de6fd56dff65628663f2afc782d70572f32ae0ba", func := "simulator/simulatorlaw07.NamesPaths", spec := "namesPaths", inPlace := ["internal/bytealg.IndexByteString", "internal/bytealg.IndexString"], named := ["internal/bytealg.MaxLen"], apart := false, narrowed := true }
def NamesPathsUptoSaid : Prop := namesPathsUptoRow.holds Try.pinned (OpenSpec.upto namesPathsSpec)

/-- 'simulatorlaw07.NamesSplits', WHERE WHAT IT READS IS OF BULK AT MOST 1048576: true; the input reads as it did. -/
def namesSplitsUptoRow : OpenClaim := { program := "ytgepgdndhnoanaa", sum := "4232f6e685b1bd6965b7a2f9de6fd56dff65628663f2afc782d70572f32ae0ba", func := "simulator/simulatorlaw07.NamesSplits", spec := "namesSplits", inPlace := ["internal/bytealg.IndexByteString", "internal/bytealg.IndexString"], named := ["internal/bytealg.MaxLen"], apart := false, narrowed := true }
def NamesSplitsUptoSaid : Prop := namesSplitsUptoRow.holds Try.pinned (OpenSpec.upto namesSplitsSpec)

end Rows
end Go.Proofs.Ytgepgdndhnoanaa
