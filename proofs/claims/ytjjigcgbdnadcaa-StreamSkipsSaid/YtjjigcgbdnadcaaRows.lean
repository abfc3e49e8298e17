/-
  No cell of these rows narrows 'for every input' (looked for: loops, veiled, ifaces, maps, wideKeys, modest, calm, conditions, laid).
  DERIVED. THE GIVEN ROWS OF THIS SEAT. 7 by the template 'for every input the law returns true; each argument reads behind the call as it read before'; 0 by the template 'total and deterministic' (their statements: YtjjigcgbdnadcaaTotals.lean).
  GIVEN WITH THE SEED: the statements are not yours to turn. If you find one false, say at which input.
  Laid BY PROGRAM, IN A SANDBOX (cutbox-rows.mjs): the forced cells as the released guide's own fill.sh prints them over the translation b4f780b15cec5ba6… (all of the seat's roots in one cut). By AI agents, Wed Nov 11 2026. No macro, syntax, notation, axiom, sorry.
-/
import Derived.Test.YtjjigcgbdnadcaaChecked
import GoSem.Claim
import GoSem.ClaimJoined
import GoSem.ClaimMapViews
import Derived.JoinedTies
import Derived.KernelRfl
namespace Go.Proofs.Ytjjigcgbdnadcaa
/- THE CELL 'sum', in the pinned program and in every row, IS THE sha256 OF THE DUMP (.gsa) THAT YtjjigcgbdnadcaaProg.lean LOADS. Nothing in Lean hashes anything: it is a label: what it is worth is what the hold of that sum in a sandbox is worth. -/
noncomputable def Try.pinned : Pinned := { name := "ytjjigcgbdnadcaa", sum := "b4f780b15cec5ba6a0d7b2011ea0be4466557ae7d96bcfc73171d7181b057531", checked := Try.checked }
namespace Rows
def none {H : Type} : Left H := { results := [], args := [] }

/-- 'simulatorlaw03.StreamMixes': WHATEVER THE INPUT: true; the input reads as it did. -/
def streamMixesSpec : ChangeSpec := { name := "streamMixes", fn := fun _ => fun
  | [d1, d2] => { results := [.lit (.bool true)], args := [d1, d2] }
  | _ => none }
def streamMixesRow : OpenClaim := { program := "ytjjigcgbdnadcaa", sum := "b4f780b15cec5ba6a0d7b2011ea0be4466557ae7d96bcfc73171d7181b057531", func := "simulator/simulatorlaw03.StreamMixes", spec := "streamMixes", apart := false }
def StreamMixesSaid : Prop := streamMixesRow.holds Try.pinned (OpenSpec.ofChange streamMixesSpec)

/-- ITS FALSE NEIGHBOUR: 'it returns false'. Refute it at one input. -/
def streamMixesWrong : ChangeSpec := { name := "streamMixes", fn := fun _ => fun
  | [d1, d2] => { results := [.lit (.bool false)], args := [d1, d2] }
  | _ => none }
def StreamMixesWrongFalsely : Prop := streamMixesRow.holds Try.pinned (OpenSpec.ofChange streamMixesWrong)

/-- 'simulatorlaw03.StreamNews': WHATEVER THE INPUT: true; the input reads as it did. -/
def streamNewsSpec : ChangeSpec := { name := "streamNews", fn := fun _ => fun
  | [d1, d2] => { results := [.lit (.bool true)], args := [d1, d2] }
  | _ => none }
def streamNewsRow : OpenClaim := { program := "ytjjigcgbdnadcaa", sum := "b4f780b15cec5ba6a0d7b2011ea0be4466557ae7d96bcfc73171d7181b057531", func := "simulator/simulatorlaw03.StreamNews", spec := "streamNews", apart := false }
def StreamNewsSaid : Prop := streamNewsRow.holds Try.pinned (OpenSpec.ofChange streamNewsSpec)

/-- ITS FALSE NEIGHBOUR: 'it returns false'. Refute it at one input. -/
def streamNewsWrong : ChangeSpec := { name := "streamNews", fn := fun _ => fun
  | [d1, d2] => { results := [.lit (.bool false)], args := [d1, d2] }
  | _ => none }
def StreamNewsWrongFalsely : Prop := streamNewsRow.holds Try.pinned (OpenSpec.ofChange streamNewsWrong)

/-- 'simulatorlaw03.StreamExact': WHATEVER THE INPUT: true; the input reads as it did. -/
def streamExactSpec : ChangeSpec := { name := "streamExact", fn := fun _ => fun
  | [d1, d2] => { results := [.lit (.bool true)], args := [d1, d2] }
  | _ => none }
def streamExactRow : OpenClaim := { program := "ytjjigcgbdnadcaa", sum := "b4f780b15cec5ba6a0d7b2011ea0be4466557ae7d96bcfc73171d7181b057531", func := "simulator/simulatorlaw03.StreamExact", spec := "streamExact", apart := false }
def StreamExactSaid : Prop := streamExactRow.holds Try.pinned (OpenSpec.ofChange streamExactSpec)

/-- ITS FALSE NEIGHBOUR: 'it returns false'. Refute it at one input. -/
def streamExactWrong : ChangeSpec := { name := "streamExact", fn := fun _ => fun
  | [d1, d2] => { results := [.lit (.bool false)], args := [d1, d2] }
  | _ => none }
def StreamExactWrongFalsely : Prop := streamExactRow.holds Try.pinned (OpenSpec.ofChange streamExactWrong)

/-- 'simulatorlaw03.StreamSkips': WHATEVER THE INPUT: true; the input reads as it did. -/
def streamSkipsSpec : ChangeSpec := { name := "streamSkips", fn := fun _ => fun
  | [d1, d2] => { results := [.lit (.bool true)], args := [d1, d2] }
  | _ => none }
def streamSkipsRow : OpenClaim := { program := "ytjjigcgbdnadcaa", sum := "b4f780b15cec5ba6a0d7b2011ea0be4466557ae7d96bcfc73171d7181b057531", func := "simulator/simulatorlaw03.StreamSkips", spec := "streamSkips", apart := false }
def StreamSkipsSaid : Prop := streamSkipsRow.holds Try.pinned (OpenSpec.ofChange streamSkipsSpec)

/-- ITS FALSE NEIGHBOUR: 'it returns false'. Refute it at one input. -/
def streamSkipsWrong : ChangeSpec := { name := "streamSkips", fn := fun _ => fun
  | [d1, d2] => { results := [.lit (.bool false)], args := [d1, d2] }
  | _ => none }
def StreamSkipsWrongFalsely : Prop := streamSkipsRow.holds Try.pinned (OpenSpec.ofChange streamSkipsWrong)

/-- 'simulatorlaw03.StreamMirrors': WHATEVER THE INPUT: true; the input reads as it did. -/
def streamMirrorsSpec : ChangeSpec := { name := "streamMirrors", fn := fun _ => fun
  | [d1, d2] => { results := [.lit (.bool true)], args := [d1, d2] }
  | _ => none }
def streamMirrorsRow : OpenClaim := { program := "ytjjigcgbdnadcaa", sum := "b4f780b15cec5ba6a0d7b2011ea0be4466557ae7d96bcfc73171d7181b057531", func := "simulator/simulatorlaw03.StreamMirrors", spec := "streamMirrors", apart := false }
def StreamMirrorsSaid : Prop := streamMirrorsRow.holds Try.pinned (OpenSpec.ofChange streamMirrorsSpec)

/-- ITS FALSE NEIGHBOUR: 'it returns false'. Refute it at one input. -/
def streamMirrorsWrong : ChangeSpec := { name := "streamMirrors", fn := fun _ => fun
  | [d1, d2] => { results := [.lit (.bool false)], args := [d1, d2] }
  | _ => none }
def StreamMirrorsWrongFalsely : Prop := streamMirrorsRow.holds Try.pinned (OpenSpec.ofChange streamMirrorsWrong)

/-- 'simulatorlaw03.StreamSplits': WHATEVER THE INPUT: true; the input reads as it did. -/
def streamSplitsSpec : ChangeSpec := { name := "streamSplits", fn := fun _ => fun
  | [d1, d2, d3] => { results := [.lit (.bool true)], args := [d1, d2, d3] }
  | _ => none }
def streamSplitsRow : OpenClaim := { program := "ytjjigcgbdnadcaa", sum := "b4f780b15cec5ba6a0d7b2011ea0be4466557ae7d96bcfc73171d7181b057531", func := "simulator/simulatorlaw03.StreamSplits", spec := "streamSplits", apart := false }
def StreamSplitsSaid : Prop := streamSplitsRow.holds Try.pinned (OpenSpec.ofChange streamSplitsSpec)

/-- ITS FALSE NEIGHBOUR: 'it returns false'. Refute it at one input. -/
def streamSplitsWrong : ChangeSpec := { name := "streamSplits", fn := fun _ => fun
  | [d1, d2, d3] => { results := [.lit (.bool false)], args := [d1, d2, d3] }
  | _ => none }
def StreamSplitsWrongFalsely : Prop := streamSplitsRow.holds Try.pinned (OpenSpec.ofChange streamSplitsWrong)

/-- 'simulatorlaw03.StreamBelows': WHATEVER THE INPUT: true; the input reads as it did. -/
def streamBelowsSpec : ChangeSpec := { name := "streamBelows", fn := fun _ => fun
  | [d1, d2, d3] => { results := [.lit (.bool true)], args := [d1, d2, d3] }
  | _ => none }
def streamBelowsRow : OpenClaim := { program := "ytjjigcgbdnadcaa", sum := "b4f780b15cec5ba6a0d7b2011ea0be4466557ae7d96bcfc73171d7181b057531", func := "simulator/simulatorlaw03.StreamBelows", spec := "streamBelows", apart := false }
def StreamBelowsSaid : Prop := streamBelowsRow.holds Try.pinned (OpenSpec.ofChange streamBelowsSpec)

/-- ITS FALSE NEIGHBOUR: 'it returns false'. Refute it at one input. -/
def streamBelowsWrong : ChangeSpec := { name := "streamBelows", fn := fun _ => fun
  | [d1, d2, d3] => { results := [.lit (.bool false)], args := [d1, d2, d3] }
  | _ => none }
def StreamBelowsWrongFalsely : Prop := streamBelowsRow.holds Try.pinned (OpenSpec.ofChange streamBelowsWrong)

/- THE SECOND FORM. 'bulk': how many values and letters a reading holds, each counted each time it is reached (what is shared counts as often as it is met; a slice's spare places count too). A statement '..UptoSaid' is the law's where the arguments, and the package variables that the reading takes, are together of bulk at most 1048576: NARROWER than '..Said'. Prove '..Said' where nothing that the law and all that it calls make is longer than what came in: it says more and counts as full. Else prove '..UptoSaid'. A law counts once. -/
mutual
def uptoBulk {H : Type} : DataW H → Nat
  | .lit (.string bytes) => bytes.length + 1
  | .lit _ => 1
  | .nil => 1
  | .ptr d => uptoBulk d + 1
  | .slice elems spare => uptoBulkAll elems + uptoBulkAll spare + 1
  | .agg parts => uptoBulkAll parts + 1
  | .iface _ d => uptoBulk d + 1
  | .map entries => uptoBulkEntries entries + 1
  | .held _ => 1
def uptoBulkAll {H : Type} : List (DataW H) → Nat
  | [] => 0
  | d :: r => uptoBulk d + uptoBulkAll r
def uptoBulkEntries {H : Type} : List (Lit × DataW H) → Nat
  | [] => 0
  | x :: r => uptoBulkEntry x + uptoBulkEntries r
def uptoBulkEntry {H : Type} : Lit × DataW H → Nat
  | (.string bytes, d) => bytes.length + uptoBulk d + 1
  | (_, d) => uptoBulk d + 1
 end
def uptoSmall : (H : Type) → List (DataW H) → Bool := fun _ ds => decide (uptoBulkAll ds ≤ 1048576)
def OpenSpec.upto (s : _root_.Go.ChangeSpec) : _root_.Go.OpenSpec := { _root_.Go.OpenSpec.ofChange s with cond := some uptoSmall }

/-- 'simulatorlaw03.StreamMixes', WHERE WHAT IT READS IS OF BULK AT MOST 1048576: true; the input reads as it did. -/
def streamMixesUptoRow : OpenClaim := { program := "ytjjigcgbdnadcaa", sum := "b4f780b15cec5ba6a0d7b2011ea0be4466557ae7d96bcfc73171d7181b057531", func := "simulator/simulatorlaw03.StreamMixes", spec := "streamMixes", apart := false, narrowed := true }
def StreamMixesUptoSaid : Prop := streamMixesUptoRow.holds Try.pinned (OpenSpec.upto streamMixesSpec)

/-- 'simulatorlaw03.StreamNews', WHERE WHAT IT READS IS OF BULK AT MOST 1048576: true; the input reads as it did. -/
def streamNewsUptoRow : OpenClaim := { program := "ytjjigcgbdnadcaa", sum := "b4f780b15cec5ba6a0d7b2011ea0be4466557ae7d96bcfc73171d7181b057531", func := "simulator/simulatorlaw03.StreamNews", spec := "streamNews", apart := false, narrowed := true }
def StreamNewsUptoSaid : Prop := streamNewsUptoRow.holds Try.pinned (OpenSpec.upto streamNewsSpec)

/-- 'simulatorlaw03.StreamExact', WHERE WHAT IT READS IS OF BULK AT MOST 1048576: true; the input reads as it did. -/
def streamExactUptoRow : OpenClaim := { program := "ytjjigcgbdnadcaa", sum := "b4f780b15cec5ba6a0d7b2011ea0be4466557ae7d96bcfc73171d7181b057531", func := "simulator/simulatorlaw03.StreamExact", spec := "streamExact", apart := false, narrowed := true }
def StreamExactUptoSaid : Prop := streamExactUptoRow.holds Try.pinned (OpenSpec.upto streamExactSpec)

/-- 'simulatorlaw03.StreamSkips', WHERE WHAT IT READS IS OF BULK AT MOST 1048576: true; the input reads as it did. -/
def streamSkipsUptoRow : OpenClaim := { program := "ytjjigcgbdnadcaa", sum := "b4f780b15cec5ba6a0d7b2011ea0be4466557ae7d96bcfc73171d7181b057531", func := "simulator/simulatorlaw03.StreamSkips", spec := "streamSkips", apart := false, narrowed := true }
def StreamSkipsUptoSaid : Prop := streamSkipsUptoRow.holds Try.pinned (OpenSpec.upto streamSkipsSpec)

/-- 'simulatorlaw03.StreamMirrors', WHERE WHAT IT READS IS OF BULK AT MOST 1048576: true; the input reads as it did. -/
def streamMirrorsUptoRow : OpenClaim := { program := "ytjjigcgbdnadcaa", sum := "b4f780b15cec5ba6a0d7b2011ea0be4466557ae7d96bcfc73171d7181b057531", func := "simulator/simulatorlaw03.StreamMirrors", spec := "streamMirrors", apart := false, narrowed := true }
def StreamMirrorsUptoSaid : Prop := streamMirrorsUptoRow.holds Try.pinned (OpenSpec.upto streamMirrorsSpec)

/-- 'simulatorlaw03.StreamSplits', WHERE WHAT IT READS IS OF BULK AT MOST 1048576: true; the input reads as it did. -/
def streamSplitsUptoRow : OpenClaim := { program := "ytjjigcgbdnadcaa", sum := "b4f780b15cec5ba6a0d7b2011ea0be4466557ae7d96bcfc73171d7181b057531", func := "simulator/simulatorlaw03.StreamSplits", spec := "streamSplits", apart := false, narrowed := true }
def StreamSplitsUptoSaid : Prop := streamSplitsUptoRow.holds Try.pinned (OpenSpec.upto streamSplitsSpec)

/-- 'simulatorlaw03.StreamBelows', WHERE WHAT IT READS IS OF BULK AT MOST 1048576: true; the input reads as it did. -/
def streamBelowsUptoRow : OpenClaim := { program := "ytjjigcgbdnadcaa", sum := "b4f780b15cec5ba6a0d7b2011ea0be4466557ae7d96bcfc73171d7181b057531", func := "simulator/simulatorlaw03.StreamBelows", spec := "streamBelows", apart := false, narrowed := true }
def StreamBelowsUptoSaid : Prop := streamBelowsUptoRow.holds Try.pinned (OpenSpec.upto streamBelowsSpec)

end Rows
end Go.Proofs.Ytjjigcgbdnadcaa
