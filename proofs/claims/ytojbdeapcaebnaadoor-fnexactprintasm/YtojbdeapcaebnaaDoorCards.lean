/-
  DERIVED. GIVEN WITH THE SEED: THE CARDS: each row of YtojbdeapcaebnaaDoorRows.lean that lists a variable, with what it lists TIED to the program's text (the seventh form; the later family's looks); each row that meets fmt, with fmt's text TOLD by the authors' own Lean function (tested against real Go, not proved from fmt's source: count such statements apart). THE CARD IS WHAT COUNTS. Prove the row's statement (the work); the ties are given (YtojbdeapcaebnaaDoorTie.lean); close each card by the builder's one call (the guide's Derived/Test/ToyasCard.lean, 'card_holds'). Laid BY PROGRAM, IN A SANDBOX (cutbox-door.mjs). By AI agents, Wed Nov 11 2026. No macro, syntax, notation, axiom, sorry.
-/
import Derived.Test.YtojbdeapcaebnaaDoorRows
import GoSem.ClaimSeven
namespace Go.Proofs.YtojbdeapcaebnaaDoor
namespace Rows

/-- THE TIED CARD OF 'laws.FnExactPrintAsm'. -/
def fnExactPrintAsmCard : Claim7 := { stood := { row := fnExactPrintAsmRow, standIns := [], harness := (true, "1cccedbb3c3ef5132ea9a3b95c34e34cdd9f9a4e3bfcade917f4d5894a3c04b1"), looks := false }, kinds := [], alts := [], laidByText := true, laidKinds := [.data, .data, .data, .listed, .data], laidTests := true, laidLooks := .later }
def FnExactPrintAsmCardSaid : Prop := Claim7.holds Tryd.pinned (.plain (OpenSpec.ofChange fnExactPrintAsmSpec)) fnExactPrintAsmCard

/-- THE SECOND FORM's CARD OF 'laws.FnExactPrintAsm'. -/
def fnExactPrintAsmUptoCard : Claim7 := { stood := { row := fnExactPrintAsmUptoRow, standIns := [], harness := (true, "1cccedbb3c3ef5132ea9a3b95c34e34cdd9f9a4e3bfcade917f4d5894a3c04b1"), looks := false }, kinds := [], alts := [], laidByText := true, laidKinds := [.data, .data, .data, .listed, .data], laidTests := true, laidLooks := .later }
def FnExactPrintAsmUptoCardSaid : Prop := Claim7.holds Tryd.pinned (.plain (OpenSpec.upto fnExactPrintAsmSpec)) fnExactPrintAsmUptoCard
end Rows
end Go.Proofs.YtojbdeapcaebnaaDoor
