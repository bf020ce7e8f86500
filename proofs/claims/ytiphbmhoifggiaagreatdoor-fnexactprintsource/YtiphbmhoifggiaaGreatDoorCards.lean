/-
  DERIVED. GIVEN WITH THE SEED: THE CARDS: each row of YtiphbmhoifggiaaGreatDoorRows.lean that lists a variable, with what it lists TIED to the program's text (the seventh form; the later family's looks); each row that meets fmt, with fmt's text TOLD by the authors' own Lean function (tested against real Go, not proved from fmt's source: count such statements apart). THE CARD IS WHAT COUNTS. Prove the row's statement (the work); the ties are given (YtiphbmhoifggiaaGreatDoorTie.lean); close each card by the builder's one call (the guide's Derived/Test/ToyasCard.lean, 'card_holds'). Laid BY PROGRAM, IN A SANDBOX (cutbox-door.mjs). By AI agents, Wed Nov 11 2026. No macro, syntax, notation, axiom, sorry.
-/
import Derived.Test.YtiphbmhoifggiaaGreatDoorRows
import GoSem.ClaimSeven
namespace Go.Proofs.YtiphbmhoifggiaaGreatDoor
namespace Rows

/-- THE TIED CARD OF 'laws.FnExactPrintSource'. -/
def fnExactPrintSourceCard : Claim7 := { stood := { row := fnExactPrintSourceRow, standIns := [], harness := (true, "8d130ff3bde23b9d6659d0ff0ad238e6c303880e9d831dd29db9fab1eeb083ff"), looks := true }, kinds := [], alts := [], laidByText := true, laidKinds := [.data, .data, .data, .listed, .data], laidTests := true, laidLooks := .later }
def FnExactPrintSourceCardSaid : Prop := Claim7.holds Tryz.pinned (.plain (OpenSpec.ofChange fnExactPrintSourceSpec)) fnExactPrintSourceCard

/-- THE SECOND FORM's CARD OF 'laws.FnExactPrintSource'. -/
def fnExactPrintSourceUptoCard : Claim7 := { stood := { row := fnExactPrintSourceUptoRow, standIns := [], harness := (true, "8d130ff3bde23b9d6659d0ff0ad238e6c303880e9d831dd29db9fab1eeb083ff"), looks := true }, kinds := [], alts := [], laidByText := true, laidKinds := [.data, .data, .data, .listed, .data], laidTests := true, laidLooks := .later }
def FnExactPrintSourceUptoCardSaid : Prop := Claim7.holds Tryz.pinned (.plain (OpenSpec.upto fnExactPrintSourceSpec)) fnExactPrintSourceUptoCard
end Rows
end Go.Proofs.YtiphbmhoifggiaaGreatDoor
