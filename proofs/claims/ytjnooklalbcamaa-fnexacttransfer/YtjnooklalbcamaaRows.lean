/-
  No cell of these rows narrows 'for every input' (looked for: loops, veiled, ifaces, maps, wideKeys, modest, calm, conditions, laid).
  DERIVED. THE GIVEN ROWS OF THIS SEAT. 7 by the template 'for every input the law returns true; each argument reads behind the call as it read before'; 0 by the template 'total and deterministic' (their statements: YtjnooklalbcamaaTotals.lean).
  GIVEN WITH THE SEED: the statements are not yours to turn. If you find one false, say at which input.
  Laid BY PROGRAM, IN A SANDBOX (cutbox-rows.mjs): the forced cells as the released guide's own fill.sh prints them over the translation e035f7884453c485… (all of the seat's roots in one cut). By AI agents, Wed Nov 11 2026. No macro, syntax, notation, axiom, sorry.
-/
import Derived.Test.YtjnooklalbcamaaChecked
import GoSem.Claim
import GoSem.ClaimJoined
import GoSem.ClaimMapViews
import Derived.JoinedTies
import Derived.KernelRfl
namespace Go.Proofs.Ytjnooklalbcamaa
/- THE CELL 'sum', in the pinned program and in every row, IS THE sha256 OF THE DUMP (.gsa) THAT YtjnooklalbcamaaProg.lean LOADS. Nothing in Lean hashes anything: it is a label: what it is worth is what the hold of that sum in a sandbox is worth. -/
noncomputable def Try.pinned : Pinned := { name := "ytjnooklalbcamaa", sum := "e035f7884453c4857ffe893d007bb054348d9f93476dd41742c897cdd18a2f1b", checked := Try.checked }
namespace Rows
def none {H : Type} : Left H := { results := [], args := [] }

/-- 'laws.FnJoin': WHATEVER THE INPUT: true; the input reads as it did. -/
def fnJoinSpec : ChangeSpec := { name := "fnJoin", fn := fun _ => fun
  | [d1, d2] => { results := [.lit (.bool true)], args := [d1, d2] }
  | _ => none }
def fnJoinRow : OpenClaim := { program := "ytjnooklalbcamaa", sum := "e035f7884453c4857ffe893d007bb054348d9f93476dd41742c897cdd18a2f1b", func := "loop.example/s01319/laws.FnJoin", spec := "fnJoin", apart := false }
def FnJoinSaid : Prop := fnJoinRow.holds Try.pinned (OpenSpec.ofChange fnJoinSpec)

/-- ITS FALSE NEIGHBOUR: 'it returns false'. Refute it at one input. -/
def fnJoinWrong : ChangeSpec := { name := "fnJoin", fn := fun _ => fun
  | [d1, d2] => { results := [.lit (.bool false)], args := [d1, d2] }
  | _ => none }
def FnJoinWrongFalsely : Prop := fnJoinRow.holds Try.pinned (OpenSpec.ofChange fnJoinWrong)

/-- 'laws.FnExactValidSig': WHATEVER THE INPUT: true; the input reads as it did. -/
def fnExactValidSigSpec : ChangeSpec := { name := "fnExactValidSig", fn := fun _ => fun
  | [d] => { results := [.lit (.bool true)], args := [d] }
  | _ => none }
def fnExactValidSigRow : OpenClaim := { program := "ytjnooklalbcamaa", sum := "e035f7884453c4857ffe893d007bb054348d9f93476dd41742c897cdd18a2f1b", func := "loop.example/s01319/laws.FnExactValidSig", spec := "fnExactValidSig", apart := false }
def FnExactValidSigSaid : Prop := fnExactValidSigRow.holds Try.pinned (OpenSpec.ofChange fnExactValidSigSpec)

/-- ITS FALSE NEIGHBOUR: 'it returns false'. Refute it at one input. -/
def fnExactValidSigWrong : ChangeSpec := { name := "fnExactValidSig", fn := fun _ => fun
  | [d] => { results := [.lit (.bool false)], args := [d] }
  | _ => none }
def FnExactValidSigWrongFalsely : Prop := fnExactValidSigRow.holds Try.pinned (OpenSpec.ofChange fnExactValidSigWrong)

/-- 'laws.FnExactFits': WHATEVER THE INPUT: true; the input reads as it did. -/
def fnExactFitsSpec : ChangeSpec := { name := "fnExactFits", fn := fun _ => fun
  | [d1, d2] => { results := [.lit (.bool true)], args := [d1, d2] }
  | _ => none }
def fnExactFitsRow : OpenClaim := { program := "ytjnooklalbcamaa", sum := "e035f7884453c4857ffe893d007bb054348d9f93476dd41742c897cdd18a2f1b", func := "loop.example/s01319/laws.FnExactFits", spec := "fnExactFits", unfollowed := true, recurses := true, apart := false }
def FnExactFitsSaid : Prop := fnExactFitsRow.holds Try.pinned (OpenSpec.ofChange fnExactFitsSpec)

/-- ITS FALSE NEIGHBOUR: 'it returns false'. Refute it at one input. -/
def fnExactFitsWrong : ChangeSpec := { name := "fnExactFits", fn := fun _ => fun
  | [d1, d2] => { results := [.lit (.bool false)], args := [d1, d2] }
  | _ => none }
def FnExactFitsWrongFalsely : Prop := fnExactFitsRow.holds Try.pinned (OpenSpec.ofChange fnExactFitsWrong)

/-- 'laws.FnExactValidAbs': WHATEVER THE INPUT: true; the input reads as it did. -/
def fnExactValidAbsSpec : ChangeSpec := { name := "fnExactValidAbs", fn := fun _ => fun
  | [d1, d2] => { results := [.lit (.bool true)], args := [d1, d2] }
  | _ => none }
def fnExactValidAbsRow : OpenClaim := { program := "ytjnooklalbcamaa", sum := "e035f7884453c4857ffe893d007bb054348d9f93476dd41742c897cdd18a2f1b", func := "loop.example/s01319/laws.FnExactValidAbs", spec := "fnExactValidAbs", apart := false }
def FnExactValidAbsSaid : Prop := fnExactValidAbsRow.holds Try.pinned (OpenSpec.ofChange fnExactValidAbsSpec)

/-- ITS FALSE NEIGHBOUR: 'it returns false'. Refute it at one input. -/
def fnExactValidAbsWrong : ChangeSpec := { name := "fnExactValidAbs", fn := fun _ => fun
  | [d1, d2] => { results := [.lit (.bool false)], args := [d1, d2] }
  | _ => none }
def FnExactValidAbsWrongFalsely : Prop := fnExactValidAbsRow.holds Try.pinned (OpenSpec.ofChange fnExactValidAbsWrong)

/-- 'laws.FnExactJoinVals': WHATEVER THE INPUT: true; the input reads as it did. -/
def fnExactJoinValsSpec : ChangeSpec := { name := "fnExactJoinVals", fn := fun _ => fun
  | [d1, d2] => { results := [.lit (.bool true)], args := [d1, d2] }
  | _ => none }
def fnExactJoinValsRow : OpenClaim := { program := "ytjnooklalbcamaa", sum := "e035f7884453c4857ffe893d007bb054348d9f93476dd41742c897cdd18a2f1b", func := "loop.example/s01319/laws.FnExactJoinVals", spec := "fnExactJoinVals", apart := false }
def FnExactJoinValsSaid : Prop := fnExactJoinValsRow.holds Try.pinned (OpenSpec.ofChange fnExactJoinValsSpec)

/-- ITS FALSE NEIGHBOUR: 'it returns false'. Refute it at one input. -/
def fnExactJoinValsWrong : ChangeSpec := { name := "fnExactJoinVals", fn := fun _ => fun
  | [d1, d2] => { results := [.lit (.bool false)], args := [d1, d2] }
  | _ => none }
def FnExactJoinValsWrongFalsely : Prop := fnExactJoinValsRow.holds Try.pinned (OpenSpec.ofChange fnExactJoinValsWrong)

/-- 'laws.FnExactTransfer': WHATEVER THE INPUT: true; the input reads as it did. -/
def fnExactTransferSpec : ChangeSpec := { name := "fnExactTransfer", fn := fun _ => fun
  | [d1, d2, d3] => { results := [.lit (.bool true)], args := [d1, d2, d3] }
  | _ => none }
def fnExactTransferRow : OpenClaim := { program := "ytjnooklalbcamaa", sum := "e035f7884453c4857ffe893d007bb054348d9f93476dd41742c897cdd18a2f1b", func := "loop.example/s01319/laws.FnExactTransfer", spec := "fnExactTransfer", apart := false }
def FnExactTransferSaid : Prop := fnExactTransferRow.holds Try.pinned (OpenSpec.ofChange fnExactTransferSpec)

/-- ITS FALSE NEIGHBOUR: 'it returns false'. Refute it at one input. -/
def fnExactTransferWrong : ChangeSpec := { name := "fnExactTransfer", fn := fun _ => fun
  | [d1, d2, d3] => { results := [.lit (.bool false)], args := [d1, d2, d3] }
  | _ => none }
def FnExactTransferWrongFalsely : Prop := fnExactTransferRow.holds Try.pinned (OpenSpec.ofChange fnExactTransferWrong)

/-- 'laws.FnExactSamePublic': WHATEVER THE INPUT: true; the input reads as it did. -/
def fnExactSamePublicSpec : ChangeSpec := { name := "fnExactSamePublic", fn := fun _ => fun
  | [d1, d2, d3] => { results := [.lit (.bool true)], args := [d1, d2, d3] }
  | _ => none }
def fnExactSamePublicRow : OpenClaim := { program := "ytjnooklalbcamaa", sum := "e035f7884453c4857ffe893d007bb054348d9f93476dd41742c897cdd18a2f1b", func := "loop.example/s01319/laws.FnExactSamePublic", spec := "fnExactSamePublic", unfollowed := true, recurses := true, apart := false }
def FnExactSamePublicSaid : Prop := fnExactSamePublicRow.holds Try.pinned (OpenSpec.ofChange fnExactSamePublicSpec)

/-- ITS FALSE NEIGHBOUR: 'it returns false'. Refute it at one input. -/
def fnExactSamePublicWrong : ChangeSpec := { name := "fnExactSamePublic", fn := fun _ => fun
  | [d1, d2, d3] => { results := [.lit (.bool false)], args := [d1, d2, d3] }
  | _ => none }
def FnExactSamePublicWrongFalsely : Prop := fnExactSamePublicRow.holds Try.pinned (OpenSpec.ofChange fnExactSamePublicWrong)

/- THE SECOND FORM. 'bulk': how many values and letters a reading holds, each counted each time it is reached (what is shared counts as often as it is met; a slice's spare places count too). A statement '..UptoSaid' is the law's where the arguments, and the package variables that the reading takes, are together of bulk at most 1048576: NARROWER than '..Said'. Prove '..Said' where nothing that the law and all that it calls make is longer than what came in: it says more and counts as full. Else prove '..UptoSaid'. A law counts once. -/
mutual
def uptoBulk {H : Type} : DataW H → Nat
  | .lit (.string bytes) => bytes.length + 1
  | .lit _ => 1
  | .nil => 1
  | .ptr d => uptoBulk d + 1
  | .slice elems spare => uptoBulkAll elems + uptoBulkAll spare + 1
  | .agg parts => uptoBulkAll parts + 1
  | .iface _ d => uptoBulk d + 1
  | .map entries => uptoBulkEntries entries + 1
  | .held _ => 1
def uptoBulkAll {H : Type} : List (DataW H) → Nat
  | [] => 0
  | d :: r => uptoBulk d + uptoBulkAll r
def uptoBulkEntries {H : Type} : List (Lit × DataW H) → Nat
  | [] => 0
  | x :: r => uptoBulkEntry x + uptoBulkEntries r
def uptoBulkEntry {H : Type} : Lit × DataW H → Nat
  | (.string bytes, d) => bytes.length + uptoBulk d + 1
  | (_, d) => uptoBulk d + 1
 end
def uptoSmall : (H : Type) → List (DataW H) → Bool := fun _ ds => decide (uptoBulkAll ds ≤ 1048576)
def OpenSpec.upto (s : _root_.Go.ChangeSpec) : _root_.Go.OpenSpec := { _root_.Go.OpenSpec.ofChange s with cond := some uptoSmall }

/-- 'laws.FnJoin', WHERE WHAT IT READS IS OF BULK AT MOST 1048576: true; the input reads as it did. -/
def fnJoinUptoRow : OpenClaim := { program := "ytjnooklalbcamaa", sum := "e035f7884453c4857ffe893d007bb054348d9f93476dd41742c897cdd18a2f1b", func := "loop.example/s01319/laws.FnJoin", spec := "fnJoin", apart := false, narrowed := true }
def FnJoinUptoSaid : Prop := fnJoinUptoRow.holds Try.pinned (OpenSpec.upto fnJoinSpec)

/-- 'laws.FnExactValidSig', WHERE WHAT IT READS IS OF BULK AT MOST 1048576: true; the input reads as it did. -/
def fnExactValidSigUptoRow : OpenClaim := { program := "ytjnooklalbcamaa", sum := "e035f7884453c4857ffe893d007bb054348d9f93476dd41742c897cdd18a2f1b", func := "loop.example/s01319/laws.FnExactValidSig", spec := "fnExactValidSig", apart := false, narrowed := true }
def FnExactValidSigUptoSaid : Prop := fnExactValidSigUptoRow.holds Try.pinned (OpenSpec.upto fnExactValidSigSpec)

/-- 'laws.FnExactFits', WHERE WHAT IT READS IS OF BULK AT MOST 1048576: true; the input reads as it did. -/
def fnExactFitsUptoRow : OpenClaim := { program := "ytjnooklalbcamaa", sum := "e035f7884453c4857ffe893d007bb054348d9f93476dd41742c897cdd18a2f1b", func := "loop.example/s01319/laws.FnExactFits", spec := "fnExactFits", unfollowed := true, recurses := true, apart := false, narrowed := true }
def FnExactFitsUptoSaid : Prop := fnExactFitsUptoRow.holds Try.pinned (OpenSpec.upto fnExactFitsSpec)

/-- 'laws.FnExactValidAbs', WHERE WHAT IT READS IS OF BULK AT MOST 1048576: true; the input reads as it did. -/
def fnExactValidAbsUptoRow : OpenClaim := { program := "ytjnooklalbcamaa", sum := "e035f7884453c4857ffe893d007bb054348d9f93476dd41742c897cdd18a2f1b", func := "loop.example/s01319/laws.FnExactValidAbs", spec := "fnExactValidAbs", apart := false, narrowed := true }
def FnExactValidAbsUptoSaid : Prop := fnExactValidAbsUptoRow.holds Try.pinned (OpenSpec.upto fnExactValidAbsSpec)

/-- 'laws.FnExactJoinVals', WHERE WHAT IT READS IS OF BULK AT MOST 1048576: true; the input reads as it did. -/
def fnExactJoinValsUptoRow : OpenClaim := { program := "ytjnooklalbcamaa", sum := "e035f7884453c4857ffe893d007bb054348d9f93476dd41742c897cdd18a2f1b", func := "loop.example/s01319/laws.FnExactJoinVals", spec := "fnExactJoinVals", apart := false, narrowed := true }
def FnExactJoinValsUptoSaid : Prop := fnExactJoinValsUptoRow.holds Try.pinned (OpenSpec.upto fnExactJoinValsSpec)

/-- 'laws.FnExactTransfer', WHERE WHAT IT READS IS OF BULK AT MOST 1048576: true; the input reads as it did. -/
def fnExactTransferUptoRow : OpenClaim := { program := "ytjnooklalbcamaa", sum := "e035f7884453c4857ffe893d007bb054348d9f93476dd41742c897cdd18a2f1b", func := "loop.example/s01319/laws.FnExactTransfer", spec := "fnExactTransfer", apart := false, narrowed := true }
def FnExactTransferUptoSaid : Prop := fnExactTransferUptoRow.holds Try.pinned (OpenSpec.upto fnExactTransferSpec)

/-- 'laws.FnExactSamePublic', WHERE WHAT IT READS IS OF BULK AT MOST 1048576: true; the input reads as it did. -/
def fnExactSamePublicUptoRow : OpenClaim := { program := "ytjnooklalbcamaa", sum := "e035f7884453c4857ffe893d007bb054348d9f93476dd41742c897cdd18a2f1b", func := "loop.example/s01319/laws.FnExactSamePublic", spec := "fnExactSamePublic", unfollowed := true, recurses := true, apart := false, narrowed := true }
def FnExactSamePublicUptoSaid : Prop := fnExactSamePublicUptoRow.holds Try.pinned (OpenSpec.upto fnExactSamePublicSpec)

end Rows
end Go.Proofs.Ytjnooklalbcamaa
