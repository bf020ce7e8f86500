/-
  DERIVED. GIVEN WITH THE SEED: THE CARDS: each row of YtcjnmdgomocpgaaGreatDoorRows.lean that lists a variable, with what it lists TIED to the program's text (the seventh form; the later family's looks); each row that meets fmt, with fmt's text TOLD by the authors' own Lean function (tested against real Go, not proved from fmt's source: count such statements apart). THE CARD IS WHAT COUNTS. Prove the row's statement (the work); the ties are given (YtcjnmdgomocpgaaGreatDoorTie.lean); close each card by the builder's one call (the guide's Derived/Test/ToyasCard.lean, 'card_holds'). Laid BY PROGRAM, IN A SANDBOX (cutbox-door.mjs). By AI agents, Wed Nov 11 2026. No macro, syntax, notation, axiom, sorry.
-/
import Derived.Test.YtcjnmdgomocpgaaGreatDoorRows
import GoSem.ClaimSeven
namespace Go.Proofs.YtcjnmdgomocpgaaGreatDoor
namespace Rows

/-- THE TIED CARD OF 'laws.FnSecret'. -/
def fnSecretCard : Claim7 := { stood := { row := fnSecretRow, standIns := [], harness := (true, "3353621390c82a1af402b0d102e0f314727153d56633ee0a918e59a1890d4b25"), looks := true }, kinds := [], alts := [], laidByText := true, laidKinds := [.handle], laidTests := true, laidLooks := .later }
def FnSecretCardSaid : Prop := Claim7.holds Tryz.pinned (.plain (OpenSpec.ofChange fnSecretSpec)) fnSecretCard

/-- THE SECOND FORM's CARD OF 'laws.FnSecret'. -/
def fnSecretUptoCard : Claim7 := { stood := { row := fnSecretUptoRow, standIns := [], harness := (true, "3353621390c82a1af402b0d102e0f314727153d56633ee0a918e59a1890d4b25"), looks := true }, kinds := [], alts := [], laidByText := true, laidKinds := [.handle], laidTests := true, laidLooks := .later }
def FnSecretUptoCardSaid : Prop := Claim7.holds Tryz.pinned (.plain (OpenSpec.upto fnSecretSpec)) fnSecretUptoCard
end Rows
end Go.Proofs.YtcjnmdgomocpgaaGreatDoor
