/-
  DERIVED. GIVEN WITH THE SEED: THE CARDS: each row of YtnfddeoddjmpkabDoorRows.lean that lists a variable, with what it lists TIED to the program's text (the seventh form; the later family's looks); each row that meets fmt, with fmt's text TOLD by the authors' own Lean function (tested against real Go, not proved from fmt's source: count such statements apart). THE CARD IS WHAT COUNTS. Prove the row's statement (the work); the ties are given (YtnfddeoddjmpkabDoorTie.lean); close each card by the builder's one call (the guide's Derived/Test/ToyasCard.lean, 'card_holds'). Laid BY PROGRAM, IN A SANDBOX (cutbox-door.mjs). By AI agents, Wed Nov 11 2026. No macro, syntax, notation, axiom, sorry.
-/
import Derived.Test.YtnfddeoddjmpkabDoorRows
import GoSem.ClaimSeven
namespace Go.Proofs.YtnfddeoddjmpkabDoor
namespace Rows

/-- THE TIED CARD OF 'simulatorlaw02.FracSums'. -/
def fracSumsCard : Claim7 := { stood := { row := fracSumsRow, standIns := [], harness := (true, "1734ace1a8808e6ecd350a008c50ce691c03eab71cdf223e2b6b9aeb489708aa"), looks := false }, kinds := [], alts := [], laidByText := true, laidKinds := [.data, .data, .data], laidTests := true, laidLooks := .later }
def FracSumsCardSaid : Prop := Claim7.holds Tryd.pinned (.plain (OpenSpec.ofChange fracSumsSpec)) fracSumsCard

/-- THE TIED CARD OF 'simulatorlaw04.DistShares'. -/
def distSharesCard : Claim7 := { stood := { row := distSharesRow, standIns := [], harness := (true, "1734ace1a8808e6ecd350a008c50ce691c03eab71cdf223e2b6b9aeb489708aa"), looks := false }, kinds := [], alts := [], laidByText := true, laidKinds := [.data, .data, .data], laidTests := true, laidLooks := .later }
def DistSharesCardSaid : Prop := Claim7.holds Tryd.pinned (.plain (OpenSpec.ofChange distSharesSpec)) distSharesCard

/-- THE SECOND FORM's CARD OF 'simulatorlaw02.FracSums'. -/
def fracSumsUptoCard : Claim7 := { stood := { row := fracSumsUptoRow, standIns := [], harness := (true, "1734ace1a8808e6ecd350a008c50ce691c03eab71cdf223e2b6b9aeb489708aa"), looks := false }, kinds := [], alts := [], laidByText := true, laidKinds := [.data, .data, .data], laidTests := true, laidLooks := .later }
def FracSumsUptoCardSaid : Prop := Claim7.holds Tryd.pinned (.plain (OpenSpec.upto fracSumsSpec)) fracSumsUptoCard

/-- THE SECOND FORM's CARD OF 'simulatorlaw04.DistShares'. -/
def distSharesUptoCard : Claim7 := { stood := { row := distSharesUptoRow, standIns := [], harness := (true, "1734ace1a8808e6ecd350a008c50ce691c03eab71cdf223e2b6b9aeb489708aa"), looks := false }, kinds := [], alts := [], laidByText := true, laidKinds := [.data, .data, .data], laidTests := true, laidLooks := .later }
def DistSharesUptoCardSaid : Prop := Claim7.holds Tryd.pinned (.plain (OpenSpec.upto distSharesSpec)) distSharesUptoCard
end Rows
end Go.Proofs.YtnfddeoddjmpkabDoor
