/-
  No cell of these rows narrows 'for every input' (looked for: loops, veiled, ifaces, maps, wideKeys, modest, calm, conditions, laid).
  DERIVED. THE GIVEN ROWS OF THIS SEAT. 3 by the template 'for every input the law returns true; each argument reads behind the call as it read before'; 0 by the template 'total and deterministic' (their statements: YtfbofiheacgcdaaTotals.lean).
  GIVEN WITH THE SEED: the statements are not yours to turn. If you find one false, say at which input.
  Laid BY PROGRAM, IN A SANDBOX (cutbox-rows.mjs): the forced cells as the released guide's own fill.sh prints them over the translation e4695788488a33a8… (all of the seat's roots in one cut). By AI agents, Wed Nov 11 2026. No macro, syntax, notation, axiom, sorry.
-/
import Derived.Test.YtfbofiheacgcdaaChecked
import GoSem.Claim
import GoSem.ClaimJoined
import GoSem.ClaimMapViews
import Derived.JoinedTies
import Derived.KernelRfl
namespace Go.Proofs.Ytfbofiheacgcdaa
/- THE CELL 'sum', in the pinned program and in every row, IS THE sha256 OF THE DUMP (.gsa) THAT YtfbofiheacgcdaaProg.lean LOADS. Nothing in Lean hashes anything: it is a label: what it is worth is what the hold of that sum in a sandbox is worth. -/
noncomputable def Try.pinned : Pinned := { name := "ytfbofiheacgcdaa", sum := "e4695788488a33a800514408684195e303ac1e40f5f9562c4f594ec0ac4bcf89", checked := Try.checked }
namespace Rows
def none {H : Type} : Left H := { results := [], args := [] }

/-- 'laws.FnExactValidIns': WHATEVER THE INPUT: true; the input reads as it did. -/
def fnExactValidInsSpec : ChangeSpec := { name := "fnExactValidIns", fn := fun _ => fun
  | [d] => { results := [.lit (.bool true)], args := [d] }
  | _ => none }
def fnExactValidInsRow : OpenClaim := { program := "ytfbofiheacgcdaa", sum := "e4695788488a33a800514408684195e303ac1e40f5f9562c4f594ec0ac4bcf89", func := "loop.example/s01319/laws.FnExactValidIns", spec := "fnExactValidIns", apart := false }
def FnExactValidInsSaid : Prop := fnExactValidInsRow.holds Try.pinned (OpenSpec.ofChange fnExactValidInsSpec)

/-- ITS FALSE NEIGHBOUR: 'it returns false'. Refute it at one input. -/
def fnExactValidInsWrong : ChangeSpec := { name := "fnExactValidIns", fn := fun _ => fun
  | [d] => { results := [.lit (.bool false)], args := [d] }
  | _ => none }
def FnExactValidInsWrongFalsely : Prop := fnExactValidInsRow.holds Try.pinned (OpenSpec.ofChange fnExactValidInsWrong)

/-- 'laws.FnExactValidFlat': WHATEVER THE INPUT: true; the input reads as it did. -/
def fnExactValidFlatSpec : ChangeSpec := { name := "fnExactValidFlat", fn := fun _ => fun
  | [d] => { results := [.lit (.bool true)], args := [d] }
  | _ => none }
def fnExactValidFlatRow : OpenClaim := { program := "ytfbofiheacgcdaa", sum := "e4695788488a33a800514408684195e303ac1e40f5f9562c4f594ec0ac4bcf89", func := "loop.example/s01319/laws.FnExactValidFlat", spec := "fnExactValidFlat", apart := false }
def FnExactValidFlatSaid : Prop := fnExactValidFlatRow.holds Try.pinned (OpenSpec.ofChange fnExactValidFlatSpec)

/-- ITS FALSE NEIGHBOUR: 'it returns false'. Refute it at one input. -/
def fnExactValidFlatWrong : ChangeSpec := { name := "fnExactValidFlat", fn := fun _ => fun
  | [d] => { results := [.lit (.bool false)], args := [d] }
  | _ => none }
def FnExactValidFlatWrongFalsely : Prop := fnExactValidFlatRow.holds Try.pinned (OpenSpec.ofChange fnExactValidFlatWrong)

/-- 'laws.FnExactValidMach': WHATEVER THE INPUT: true; the input reads as it did. -/
def fnExactValidMachSpec : ChangeSpec := { name := "fnExactValidMach", fn := fun _ => fun
  | [d] => { results := [.lit (.bool true)], args := [d] }
  | _ => none }
def fnExactValidMachRow : OpenClaim := { program := "ytfbofiheacgcdaa", sum := "e4695788488a33a800514408684195e303ac1e40f5f9562c4f594ec0ac4bcf89", func := "loop.example/s01319/laws.FnExactValidMach", spec := "fnExactValidMach", apart := false }
def FnExactValidMachSaid : Prop := fnExactValidMachRow.holds Try.pinned (OpenSpec.ofChange fnExactValidMachSpec)

/-- ITS FALSE NEIGHBOUR: 'it returns false'. Refute it at one input. -/
def fnExactValidMachWrong : ChangeSpec := { name := "fnExactValidMach", fn := fun _ => fun
  | [d] => { results := [.lit (.bool false)], args := [d] }
  | _ => none }
def FnExactValidMachWrongFalsely : Prop := fnExactValidMachRow.holds Try.pinned (OpenSpec.ofChange fnExactValidMachWrong)

/- THE SECOND FORM. 'bulk': how many values and letters a reading holds, each counted each time it is reached (what is shared counts as often as it is met; a slice's spare places count too). A statement '..UptoSaid' is the law's where the arguments, and the package variables that the reading takes, are together of bulk at most 1048576: NARROWER than '..Said'. Prove '..Said' where nothing that the law and all that it calls make is longer than what came in: it says more and counts as full. Else prove '..UptoSaid'. A law counts once. -/
mutual
def uptoBulk {H : Type} : DataW H → Nat
  | .lit (.string bytes) => bytes.length + 1
  | .lit _ => 1
  | .nil => 1
  | .ptr d => uptoBulk d + 1
  | .slice elems spare => uptoBulkAll elems + uptoBulkAll spare + 1
  | .agg parts => uptoBulkAll parts + 1
  | .iface _ d => uptoBulk d + 1
  | .map entries => uptoBulkEntries entries + 1
  | .held _ => 1
def uptoBulkAll {H : Type} : List (DataW H) → Nat
  | [] => 0
  | d :: r => uptoBulk d + uptoBulkAll r
def uptoBulkEntries {H : Type} : List (Lit × DataW H) → Nat
  | [] => 0
  | x :: r => uptoBulkEntry x + uptoBulkEntries r
def uptoBulkEntry {H : Type} : Lit × DataW H → Nat
  | (.string bytes, d) => bytes.length + uptoBulk d + 1
  | (_, d) => uptoBulk d + 1
 end
def uptoSmall : (H : Type) → List (DataW H) → Bool := fun _ ds => decide (uptoBulkAll ds ≤ 1048576)
def OpenSpec.upto (s : _root_.Go.ChangeSpec) : _root_.Go.OpenSpec := { _root_.Go.OpenSpec.ofChange s with cond := some uptoSmall }

/-- 'laws.FnExactValidIns', WHERE WHAT IT READS IS OF BULK AT MOST 1048576: true; the input reads as it did. -/
def fnExactValidInsUptoRow : OpenClaim := { program := "ytfbofiheacgcdaa", sum := "e4695788488a33a800514408684195e303ac1e40f5f9562c4f594ec0ac4bcf89", func := "loop.example/s01319/laws.FnExactValidIns", spec := "fnExactValidIns", apart := false, narrowed := true }
def FnExactValidInsUptoSaid : Prop := fnExactValidInsUptoRow.holds Try.pinned (OpenSpec.upto fnExactValidInsSpec)

/-- 'laws.FnExactValidFlat', WHERE WHAT IT READS IS OF BULK AT MOST 1048576: true; the input reads as it did. -/
def fnExactValidFlatUptoRow : OpenClaim := { program := "ytfbofiheacgcdaa", sum := "e4695788488a33a800514408684195e303ac1e40f5f9562c4f594ec0ac4bcf89", func := "loop.example/s01319/laws.FnExactValidFlat", spec := "fnExactValidFlat", apart := false, narrowed := true }
def FnExactValidFlatUptoSaid : Prop := fnExactValidFlatUptoRow.holds Try.pinned (OpenSpec.upto fnExactValidFlatSpec)

/-- 'laws.FnExactValidMach', WHERE WHAT IT READS IS OF BULK AT MOST 1048576: true; the input reads as it did. -/
def fnExactValidMachUptoRow : OpenClaim := { program := "ytfbofiheacgcdaa", sum := "e4695788488a33a800514408684195e303ac1e40f5f9562c4f594ec0ac4bcf89", func := "loop.example/s01319/laws.FnExactValidMach", spec := "fnExactValidMach", apart := false, narrowed := true }
def FnExactValidMachUptoSaid : Prop := fnExactValidMachUptoRow.holds Try.pinned (OpenSpec.upto fnExactValidMachSpec)

end Rows
end Go.Proofs.Ytfbofiheacgcdaa
