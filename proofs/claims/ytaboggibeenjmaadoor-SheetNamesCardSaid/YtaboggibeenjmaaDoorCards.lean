/-
  DERIVED. GIVEN WITH THE SEED: THE CARDS: each row of YtaboggibeenjmaaDoorRows.lean that lists a variable, with what it lists TIED to the program's text (the seventh form; the later family's looks); each row that meets fmt, with fmt's text TOLD by the authors' own Lean function (tested against real Go, not proved from fmt's source: count such statements apart). THE CARD IS WHAT COUNTS. Prove the row's statement (the work); the ties are given (YtaboggibeenjmaaDoorTie.lean); close each card by the builder's one call (the guide's Derived/Test/ToyasCard.lean, 'card_holds'). Laid BY PROGRAM, IN A SANDBOX (cutbox-door.mjs). By AI agents, Wed Nov 11 2026. No macro, syntax, notation, axiom, sorry.
-/
import Derived.Test.YtaboggibeenjmaaDoorRows
import GoSem.ClaimSeven
namespace Go.Proofs.YtaboggibeenjmaaDoor
namespace Rows

/-- THE TIED CARD OF 'tithinglaw02.SheetNames'. -/
def sheetNamesCard : Claim7 := { stood := { row := sheetNamesRow, standIns := [], harness := (true, "6b5e0185a1b7ec88fda97a617fb632703ec2b45038d6a0a797599a2d202bd426"), looks := false }, kinds := [], alts := [], laidByText := true, laidKinds := [.data, .data], laidTests := true, laidLooks := .later }
def SheetNamesCardSaid : Prop := Claim7.holds Tryd.pinned (.plain (OpenSpec.ofChange sheetNamesSpec)) sheetNamesCard

/-- THE SECOND FORM's CARD OF 'tithinglaw02.SheetNames'. -/
def sheetNamesUptoCard : Claim7 := { stood := { row := sheetNamesUptoRow, standIns := [], harness := (true, "6b5e0185a1b7ec88fda97a617fb632703ec2b45038d6a0a797599a2d202bd426"), looks := false }, kinds := [], alts := [], laidByText := true, laidKinds := [.data, .data], laidTests := true, laidLooks := .later }
def SheetNamesUptoCardSaid : Prop := Claim7.holds Tryd.pinned (.plain (OpenSpec.upto sheetNamesSpec)) sheetNamesUptoCard
end Rows
end Go.Proofs.YtaboggibeenjmaaDoor
