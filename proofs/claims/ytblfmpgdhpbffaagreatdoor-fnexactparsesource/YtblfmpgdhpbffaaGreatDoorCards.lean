/-
  DERIVED. GIVEN WITH THE SEED: THE CARDS: each row of YtblfmpgdhpbffaaGreatDoorRows.lean that lists a variable, with what it lists TIED to the program's text (the seventh form; the later family's looks); each row that meets fmt, with fmt's text TOLD by the authors' own Lean function (tested against real Go, not proved from fmt's source: count such statements apart). THE CARD IS WHAT COUNTS. Prove the row's statement (the work); the ties are given (YtblfmpgdhpbffaaGreatDoorTie.lean); close each card by the builder's one call (the guide's Derived/Test/ToyasCard.lean, 'card_holds'). Laid BY PROGRAM, IN A SANDBOX (cutbox-door.mjs). By AI agents, Wed Nov 11 2026. No macro, syntax, notation, axiom, sorry.
-/
import Derived.Test.YtblfmpgdhpbffaaGreatDoorRows
import GoSem.ClaimSeven
namespace Go.Proofs.YtblfmpgdhpbffaaGreatDoor
namespace Rows

/-- THE TIED CARD OF 'laws.FnExactParseSource'. -/
def fnExactParseSourceCard : Claim7 := { stood := { row := fnExactParseSourceRow, standIns := [], harness := (true, "3cd5675cb39175e07b61540fcc7d8f50a3506f9d9720f104d236c7669b0818d6"), looks := true }, kinds := [], alts := [], laidByText := true, laidKinds := [.data, .data, .data, .data, .sentinel, .sentinel, .listed, .data, .pinned], laidTests := true, laidLooks := .later }
def FnExactParseSourceCardSaid : Prop := Claim7.holds Tryz.pinned (.plain (OpenSpec.ofChange fnExactParseSourceSpec)) fnExactParseSourceCard

/-- THE SECOND FORM's CARD OF 'laws.FnExactParseSource'. -/
def fnExactParseSourceUptoCard : Claim7 := { stood := { row := fnExactParseSourceUptoRow, standIns := [], harness := (true, "3cd5675cb39175e07b61540fcc7d8f50a3506f9d9720f104d236c7669b0818d6"), looks := true }, kinds := [], alts := [], laidByText := true, laidKinds := [.data, .data, .data, .data, .sentinel, .sentinel, .listed, .data, .pinned], laidTests := true, laidLooks := .later }
def FnExactParseSourceUptoCardSaid : Prop := Claim7.holds Tryz.pinned (.plain (OpenSpec.upto fnExactParseSourceSpec)) fnExactParseSourceUptoCard
end Rows
end Go.Proofs.YtblfmpgdhpbffaaGreatDoor
