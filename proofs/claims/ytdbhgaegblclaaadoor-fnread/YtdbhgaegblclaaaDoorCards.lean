/-
  DERIVED. GIVEN WITH THE SEED: THE CARDS: each row of YtdbhgaegblclaaaDoorRows.lean that lists a variable, with what it lists TIED to the program's text (the seventh form; the later family's looks); each row that meets fmt, with fmt's text TOLD by the authors' own Lean function (tested against real Go, not proved from fmt's source: count such statements apart). THE CARD IS WHAT COUNTS. Prove the row's statement (the work); the ties are given (YtdbhgaegblclaaaDoorTie.lean); close each card by the builder's one call (the guide's Derived/Test/ToyasCard.lean, 'card_holds'). Laid BY PROGRAM, IN A SANDBOX (cutbox-door.mjs). By AI agents, Wed Nov 11 2026. No macro, syntax, notation, axiom, sorry.
-/
import Derived.Test.YtdbhgaegblclaaaDoorRows
import GoSem.ClaimSeven
namespace Go.Proofs.YtdbhgaegblclaaaDoor
namespace Rows

/-- THE TIED CARD OF 'laws.FnText'. -/
def fnTextCard : Claim7 := { stood := { row := fnTextRow, standIns := [], harness := (true, "526a9e8472aaa462521bd2fe3cf1c21a57e56d06059a78feaaf6406b119f1658"), looks := false }, kinds := [], alts := [], laidByText := true, laidKinds := [.data, .data, .data, .listed, .data], laidTests := true, laidLooks := .later }
def FnTextCardSaid : Prop := Claim7.holds Tryd.pinned (.plain (OpenSpec.ofChange fnTextSpec)) fnTextCard

/-- THE TIED CARD OF 'laws.FnRead'. -/
def fnReadCard : Claim7 := { stood := { row := fnReadRow, standIns := [], harness := (true, "526a9e8472aaa462521bd2fe3cf1c21a57e56d06059a78feaaf6406b119f1658"), looks := false }, kinds := [], alts := [], laidByText := true, laidKinds := [.data, .data, .data, .listed, .data], laidTests := true, laidLooks := .later }
def FnReadCardSaid : Prop := Claim7.holds Tryd.pinned (.plain (OpenSpec.ofChange fnReadSpec)) fnReadCard

/-- THE TIED CARD OF 'laws.FnExactPrintAsm'. -/
def fnExactPrintAsmCard : Claim7 := { stood := { row := fnExactPrintAsmRow, standIns := [], harness := (true, "526a9e8472aaa462521bd2fe3cf1c21a57e56d06059a78feaaf6406b119f1658"), looks := false }, kinds := [], alts := [], laidByText := true, laidKinds := [.data, .data, .data, .listed, .data], laidTests := true, laidLooks := .later }
def FnExactPrintAsmCardSaid : Prop := Claim7.holds Tryd.pinned (.plain (OpenSpec.ofChange fnExactPrintAsmSpec)) fnExactPrintAsmCard

/-- THE TIED CARD OF 'laws.FnExactReadAsm'. -/
def fnExactReadAsmCard : Claim7 := { stood := { row := fnExactReadAsmRow, standIns := [], harness := (true, "526a9e8472aaa462521bd2fe3cf1c21a57e56d06059a78feaaf6406b119f1658"), looks := false }, kinds := [], alts := [], laidByText := true, laidKinds := [.listed, .data], laidTests := true, laidLooks := .later }
def FnExactReadAsmCardSaid : Prop := Claim7.holds Tryd.pinned (.plain (OpenSpec.ofChange fnExactReadAsmSpec)) fnExactReadAsmCard

/-- THE SECOND FORM's CARD OF 'laws.FnText'. -/
def fnTextUptoCard : Claim7 := { stood := { row := fnTextUptoRow, standIns := [], harness := (true, "526a9e8472aaa462521bd2fe3cf1c21a57e56d06059a78feaaf6406b119f1658"), looks := false }, kinds := [], alts := [], laidByText := true, laidKinds := [.data, .data, .data, .listed, .data], laidTests := true, laidLooks := .later }
def FnTextUptoCardSaid : Prop := Claim7.holds Tryd.pinned (.plain (OpenSpec.upto fnTextSpec)) fnTextUptoCard

/-- THE SECOND FORM's CARD OF 'laws.FnRead'. -/
def fnReadUptoCard : Claim7 := { stood := { row := fnReadUptoRow, standIns := [], harness := (true, "526a9e8472aaa462521bd2fe3cf1c21a57e56d06059a78feaaf6406b119f1658"), looks := false }, kinds := [], alts := [], laidByText := true, laidKinds := [.data, .data, .data, .listed, .data], laidTests := true, laidLooks := .later }
def FnReadUptoCardSaid : Prop := Claim7.holds Tryd.pinned (.plain (OpenSpec.upto fnReadSpec)) fnReadUptoCard

/-- THE SECOND FORM's CARD OF 'laws.FnExactPrintAsm'. -/
def fnExactPrintAsmUptoCard : Claim7 := { stood := { row := fnExactPrintAsmUptoRow, standIns := [], harness := (true, "526a9e8472aaa462521bd2fe3cf1c21a57e56d06059a78feaaf6406b119f1658"), looks := false }, kinds := [], alts := [], laidByText := true, laidKinds := [.data, .data, .data, .listed, .data], laidTests := true, laidLooks := .later }
def FnExactPrintAsmUptoCardSaid : Prop := Claim7.holds Tryd.pinned (.plain (OpenSpec.upto fnExactPrintAsmSpec)) fnExactPrintAsmUptoCard

/-- THE SECOND FORM's CARD OF 'laws.FnExactReadAsm'. -/
def fnExactReadAsmUptoCard : Claim7 := { stood := { row := fnExactReadAsmUptoRow, standIns := [], harness := (true, "526a9e8472aaa462521bd2fe3cf1c21a57e56d06059a78feaaf6406b119f1658"), looks := false }, kinds := [], alts := [], laidByText := true, laidKinds := [.listed, .data], laidTests := true, laidLooks := .later }
def FnExactReadAsmUptoCardSaid : Prop := Claim7.holds Tryd.pinned (.plain (OpenSpec.upto fnExactReadAsmSpec)) fnExactReadAsmUptoCard
end Rows
end Go.Proofs.YtdbhgaegblclaaaDoor
