/-
  No cell of these rows narrows 'for every input' (looked for: loops, veiled, ifaces, maps, wideKeys, modest, calm, conditions, laid).
  DERIVED. THE GIVEN ROWS OF THIS SEAT. 14 by the template 'for every input the law returns true; each argument reads behind the call as it read before'; 0 by the template 'total and deterministic' (their statements: YthcaiagnmmjooaaTotals.lean).
  GIVEN WITH THE SEED: the statements are not yours to turn. If you find one false, say at which input.
  Laid BY PROGRAM, IN A SANDBOX (cutbox-rows.mjs): the forced cells as the released guide's own fill.sh prints them over the translation a1db223da87ddb83… (all of the seat's roots in one cut). By AI agents, Wed Nov 11 2026. No macro, syntax, notation, axiom, sorry.
-/
import Derived.Test.YthcaiagnmmjooaaChecked
import GoSem.Claim
import GoSem.ClaimJoined
import GoSem.ClaimMapViews
import Derived.JoinedTies
import Derived.KernelRfl
namespace Go.Proofs.Ythcaiagnmmjooaa
/- THE CELL 'sum', in the pinned program and in every row, IS THE sha256 OF THE DUMP (.gsa) THAT YthcaiagnmmjooaaProg.lean LOADS. Nothing in Lean hashes anything: it is a label: what it is worth is what the hold of that sum in a sandbox is worth. -/
noncomputable def Try.pinned : Pinned := { name := "ythcaiagnmmjooaa", sum := "a1db223da87ddb83e328b95ad8def3b99142225585774215624171e3adcdd0f1", checked := Try.checked }
namespace Rows
def none {H : Type} : Left H := { results := [], args := [] }

/-- 'laws.FnMonomials': WHATEVER THE INPUT: true; the input reads as it did. -/
def fnMonomialsSpec : ChangeSpec := { name := "fnMonomials", fn := fun _ => fun
  | [d] => { results := [.lit (.bool true)], args := [d] }
  | _ => none }
def fnMonomialsRow : OpenClaim := { program := "ythcaiagnmmjooaa", sum := "a1db223da87ddb83e328b95ad8def3b99142225585774215624171e3adcdd0f1", func := "loop.example/g01219/laws.FnMonomials", spec := "fnMonomials", recurses := true, plainKeys := false, apart := false }
def FnMonomialsSaid : Prop := fnMonomialsRow.holds Try.pinned (OpenSpec.ofChange fnMonomialsSpec)

/-- ITS FALSE NEIGHBOUR: 'it returns false'. Refute it at one input. -/
def fnMonomialsWrong : ChangeSpec := { name := "fnMonomials", fn := fun _ => fun
  | [d] => { results := [.lit (.bool false)], args := [d] }
  | _ => none }
def FnMonomialsWrongFalsely : Prop := fnMonomialsRow.holds Try.pinned (OpenSpec.ofChange fnMonomialsWrong)

/-- 'laws.FnAlgebraParts': WHATEVER THE INPUT: true; the input reads as it did. -/
def fnAlgebraPartsSpec : ChangeSpec := { name := "fnAlgebraParts", fn := fun _ => fun
  | [d] => { results := [.lit (.bool true)], args := [d] }
  | _ => none }
def fnAlgebraPartsRow : OpenClaim := { program := "ythcaiagnmmjooaa", sum := "a1db223da87ddb83e328b95ad8def3b99142225585774215624171e3adcdd0f1", func := "loop.example/g01219/laws.FnAlgebraParts", spec := "fnAlgebraParts", inPlace := ["internal/bytealg.Compare"], recurses := true, plainKeys := false, apart := false }
def FnAlgebraPartsSaid : Prop := fnAlgebraPartsRow.holds Try.pinned (OpenSpec.ofChange fnAlgebraPartsSpec)

/-- ITS FALSE NEIGHBOUR: 'it returns false'. Refute it at one input. -/
def fnAlgebraPartsWrong : ChangeSpec := { name := "fnAlgebraParts", fn := fun _ => fun
  | [d] => { results := [.lit (.bool false)], args := [d] }
  | _ => none }
def FnAlgebraPartsWrongFalsely : Prop := fnAlgebraPartsRow.holds Try.pinned (OpenSpec.ofChange fnAlgebraPartsWrong)

/-- 'laws.FnExactMonomialsOf': WHATEVER THE INPUT: true; the input reads as it did. -/
def fnExactMonomialsOfSpec : ChangeSpec := { name := "fnExactMonomialsOf", fn := fun _ => fun
  | [d1, d2] => { results := [.lit (.bool true)], args := [d1, d2] }
  | _ => none }
def fnExactMonomialsOfRow : OpenClaim := { program := "ythcaiagnmmjooaa", sum := "a1db223da87ddb83e328b95ad8def3b99142225585774215624171e3adcdd0f1", func := "loop.example/g01219/laws.FnExactMonomialsOf", spec := "fnExactMonomialsOf", recurses := true, plainKeys := false, apart := false }
def FnExactMonomialsOfSaid : Prop := fnExactMonomialsOfRow.holds Try.pinned (OpenSpec.ofChange fnExactMonomialsOfSpec)

/-- ITS FALSE NEIGHBOUR: 'it returns false'. Refute it at one input. -/
def fnExactMonomialsOfWrong : ChangeSpec := { name := "fnExactMonomialsOf", fn := fun _ => fun
  | [d1, d2] => { results := [.lit (.bool false)], args := [d1, d2] }
  | _ => none }
def FnExactMonomialsOfWrongFalsely : Prop := fnExactMonomialsOfRow.holds Try.pinned (OpenSpec.ofChange fnExactMonomialsOfWrong)

/-- 'laws.FnExactIsAlgebra': WHATEVER THE INPUT: true; the input reads as it did. -/
def fnExactIsAlgebraSpec : ChangeSpec := { name := "fnExactIsAlgebra", fn := fun _ => fun
  | [d] => { results := [.lit (.bool true)], args := [d] }
  | _ => none }
def fnExactIsAlgebraRow : OpenClaim := { program := "ythcaiagnmmjooaa", sum := "a1db223da87ddb83e328b95ad8def3b99142225585774215624171e3adcdd0f1", func := "loop.example/g01219/laws.FnExactIsAlgebra", spec := "fnExactIsAlgebra", inPlace := ["internal/bytealg.Compare"], plainKeys := false, apart := false }
def FnExactIsAlgebraSaid : Prop := fnExactIsAlgebraRow.holds Try.pinned (OpenSpec.ofChange fnExactIsAlgebraSpec)

/-- ITS FALSE NEIGHBOUR: 'it returns false'. Refute it at one input. -/
def fnExactIsAlgebraWrong : ChangeSpec := { name := "fnExactIsAlgebra", fn := fun _ => fun
  | [d] => { results := [.lit (.bool false)], args := [d] }
  | _ => none }
def FnExactIsAlgebraWrongFalsely : Prop := fnExactIsAlgebraRow.holds Try.pinned (OpenSpec.ofChange fnExactIsAlgebraWrong)

/-- 'laws.FnExactDifferentialOfForm': WHATEVER THE INPUT: true; the input reads as it did. -/
def fnExactDifferentialOfFormSpec : ChangeSpec := { name := "fnExactDifferentialOfForm", fn := fun _ => fun
  | [d1, d2] => { results := [.lit (.bool true)], args := [d1, d2] }
  | _ => none }
def fnExactDifferentialOfFormRow : OpenClaim := { program := "ythcaiagnmmjooaa", sum := "a1db223da87ddb83e328b95ad8def3b99142225585774215624171e3adcdd0f1", func := "loop.example/g01219/laws.FnExactDifferentialOfForm", spec := "fnExactDifferentialOfForm", inPlace := ["internal/bytealg.Compare"], unfollowed := true, recurses := true, plainKeys := false, apart := false }
def FnExactDifferentialOfFormSaid : Prop := fnExactDifferentialOfFormRow.holds Try.pinned (OpenSpec.ofChange fnExactDifferentialOfFormSpec)

/-- ITS FALSE NEIGHBOUR: 'it returns false'. Refute it at one input. -/
def fnExactDifferentialOfFormWrong : ChangeSpec := { name := "fnExactDifferentialOfForm", fn := fun _ => fun
  | [d1, d2] => { results := [.lit (.bool false)], args := [d1, d2] }
  | _ => none }
def FnExactDifferentialOfFormWrongFalsely : Prop := fnExactDifferentialOfFormRow.holds Try.pinned (OpenSpec.ofChange fnExactDifferentialOfFormWrong)

/-- 'laws.FnExactIsClosed': WHATEVER THE INPUT: true; the input reads as it did. -/
def fnExactIsClosedSpec : ChangeSpec := { name := "fnExactIsClosed", fn := fun _ => fun
  | [d1, d2] => { results := [.lit (.bool true)], args := [d1, d2] }
  | _ => none }
def fnExactIsClosedRow : OpenClaim := { program := "ythcaiagnmmjooaa", sum := "a1db223da87ddb83e328b95ad8def3b99142225585774215624171e3adcdd0f1", func := "loop.example/g01219/laws.FnExactIsClosed", spec := "fnExactIsClosed", inPlace := ["internal/bytealg.Compare"], plainKeys := false, apart := false }
def FnExactIsClosedSaid : Prop := fnExactIsClosedRow.holds Try.pinned (OpenSpec.ofChange fnExactIsClosedSpec)

/-- ITS FALSE NEIGHBOUR: 'it returns false'. Refute it at one input. -/
def fnExactIsClosedWrong : ChangeSpec := { name := "fnExactIsClosed", fn := fun _ => fun
  | [d1, d2] => { results := [.lit (.bool false)], args := [d1, d2] }
  | _ => none }
def FnExactIsClosedWrongFalsely : Prop := fnExactIsClosedRow.holds Try.pinned (OpenSpec.ofChange fnExactIsClosedWrong)

/-- 'laws.FnExactLinearTable': WHATEVER THE INPUT: true; the input reads as it did. -/
def fnExactLinearTableSpec : ChangeSpec := { name := "fnExactLinearTable", fn := fun _ => fun
  | [d] => { results := [.lit (.bool true)], args := [d] }
  | _ => none }
def fnExactLinearTableRow : OpenClaim := { program := "ythcaiagnmmjooaa", sum := "a1db223da87ddb83e328b95ad8def3b99142225585774215624171e3adcdd0f1", func := "loop.example/g01219/laws.FnExactLinearTable", spec := "fnExactLinearTable", inPlace := ["internal/bytealg.Compare"], plainKeys := false, apart := false }
def FnExactLinearTableSaid : Prop := fnExactLinearTableRow.holds Try.pinned (OpenSpec.ofChange fnExactLinearTableSpec)

/-- ITS FALSE NEIGHBOUR: 'it returns false'. Refute it at one input. -/
def fnExactLinearTableWrong : ChangeSpec := { name := "fnExactLinearTable", fn := fun _ => fun
  | [d] => { results := [.lit (.bool false)], args := [d] }
  | _ => none }
def FnExactLinearTableWrongFalsely : Prop := fnExactLinearTableRow.holds Try.pinned (OpenSpec.ofChange fnExactLinearTableWrong)

/-- 'laws.FnExactQuadraticParts': WHATEVER THE INPUT: true; the input reads as it did. -/
def fnExactQuadraticPartsSpec : ChangeSpec := { name := "fnExactQuadraticParts", fn := fun _ => fun
  | [d] => { results := [.lit (.bool true)], args := [d] }
  | _ => none }
def fnExactQuadraticPartsRow : OpenClaim := { program := "ythcaiagnmmjooaa", sum := "a1db223da87ddb83e328b95ad8def3b99142225585774215624171e3adcdd0f1", func := "loop.example/g01219/laws.FnExactQuadraticParts", spec := "fnExactQuadraticParts", inPlace := ["internal/bytealg.Compare"], plainKeys := false, apart := false }
def FnExactQuadraticPartsSaid : Prop := fnExactQuadraticPartsRow.holds Try.pinned (OpenSpec.ofChange fnExactQuadraticPartsSpec)

/-- ITS FALSE NEIGHBOUR: 'it returns false'. Refute it at one input. -/
def fnExactQuadraticPartsWrong : ChangeSpec := { name := "fnExactQuadraticParts", fn := fun _ => fun
  | [d] => { results := [.lit (.bool false)], args := [d] }
  | _ => none }
def FnExactQuadraticPartsWrongFalsely : Prop := fnExactQuadraticPartsRow.holds Try.pinned (OpenSpec.ofChange fnExactQuadraticPartsWrong)

/-- 'laws.FnExactWordLengthOf': WHATEVER THE INPUT: true; the input reads as it did. -/
def fnExactWordLengthOfSpec : ChangeSpec := { name := "fnExactWordLengthOf", fn := fun _ => fun
  | [d1, d2] => { results := [.lit (.bool true)], args := [d1, d2] }
  | _ => none }
def fnExactWordLengthOfRow : OpenClaim := { program := "ythcaiagnmmjooaa", sum := "a1db223da87ddb83e328b95ad8def3b99142225585774215624171e3adcdd0f1", func := "loop.example/g01219/laws.FnExactWordLengthOf", spec := "fnExactWordLengthOf", inPlace := ["internal/bytealg.Compare"], plainKeys := false, apart := false }
def FnExactWordLengthOfSaid : Prop := fnExactWordLengthOfRow.holds Try.pinned (OpenSpec.ofChange fnExactWordLengthOfSpec)

/-- ITS FALSE NEIGHBOUR: 'it returns false'. Refute it at one input. -/
def fnExactWordLengthOfWrong : ChangeSpec := { name := "fnExactWordLengthOf", fn := fun _ => fun
  | [d1, d2] => { results := [.lit (.bool false)], args := [d1, d2] }
  | _ => none }
def FnExactWordLengthOfWrongFalsely : Prop := fnExactWordLengthOfRow.holds Try.pinned (OpenSpec.ofChange fnExactWordLengthOfWrong)

/-- 'laws.FnExactIsMinimal': WHATEVER THE INPUT: true; the input reads as it did. -/
def fnExactIsMinimalSpec : ChangeSpec := { name := "fnExactIsMinimal", fn := fun _ => fun
  | [d] => { results := [.lit (.bool true)], args := [d] }
  | _ => none }
def fnExactIsMinimalRow : OpenClaim := { program := "ythcaiagnmmjooaa", sum := "a1db223da87ddb83e328b95ad8def3b99142225585774215624171e3adcdd0f1", func := "loop.example/g01219/laws.FnExactIsMinimal", spec := "fnExactIsMinimal", inPlace := ["internal/bytealg.Compare"], plainKeys := false, apart := false }
def FnExactIsMinimalSaid : Prop := fnExactIsMinimalRow.holds Try.pinned (OpenSpec.ofChange fnExactIsMinimalSpec)

/-- ITS FALSE NEIGHBOUR: 'it returns false'. Refute it at one input. -/
def fnExactIsMinimalWrong : ChangeSpec := { name := "fnExactIsMinimal", fn := fun _ => fun
  | [d] => { results := [.lit (.bool false)], args := [d] }
  | _ => none }
def FnExactIsMinimalWrongFalsely : Prop := fnExactIsMinimalRow.holds Try.pinned (OpenSpec.ofChange fnExactIsMinimalWrong)

/-- 'laws.FnExactRanksOf': WHATEVER THE INPUT: true; the input reads as it did. -/
def fnExactRanksOfSpec : ChangeSpec := { name := "fnExactRanksOf", fn := fun _ => fun
  | [d] => { results := [.lit (.bool true)], args := [d] }
  | _ => none }
def fnExactRanksOfRow : OpenClaim := { program := "ythcaiagnmmjooaa", sum := "a1db223da87ddb83e328b95ad8def3b99142225585774215624171e3adcdd0f1", func := "loop.example/g01219/laws.FnExactRanksOf", spec := "fnExactRanksOf", inPlace := ["internal/bytealg.Compare"], plainKeys := false, apart := false }
def FnExactRanksOfSaid : Prop := fnExactRanksOfRow.holds Try.pinned (OpenSpec.ofChange fnExactRanksOfSpec)

/-- ITS FALSE NEIGHBOUR: 'it returns false'. Refute it at one input. -/
def fnExactRanksOfWrong : ChangeSpec := { name := "fnExactRanksOf", fn := fun _ => fun
  | [d] => { results := [.lit (.bool false)], args := [d] }
  | _ => none }
def FnExactRanksOfWrongFalsely : Prop := fnExactRanksOfRow.holds Try.pinned (OpenSpec.ofChange fnExactRanksOfWrong)

/-- 'laws.FnExactFreeAlgebra': WHATEVER THE INPUT: true; the input reads as it did. -/
def fnExactFreeAlgebraSpec : ChangeSpec := { name := "fnExactFreeAlgebra", fn := fun _ => fun
  | [d] => { results := [.lit (.bool true)], args := [d] }
  | _ => none }
def fnExactFreeAlgebraRow : OpenClaim := { program := "ythcaiagnmmjooaa", sum := "a1db223da87ddb83e328b95ad8def3b99142225585774215624171e3adcdd0f1", func := "loop.example/g01219/laws.FnExactFreeAlgebra", spec := "fnExactFreeAlgebra", plainKeys := false, apart := false }
def FnExactFreeAlgebraSaid : Prop := fnExactFreeAlgebraRow.holds Try.pinned (OpenSpec.ofChange fnExactFreeAlgebraSpec)

/-- ITS FALSE NEIGHBOUR: 'it returns false'. Refute it at one input. -/
def fnExactFreeAlgebraWrong : ChangeSpec := { name := "fnExactFreeAlgebra", fn := fun _ => fun
  | [d] => { results := [.lit (.bool false)], args := [d] }
  | _ => none }
def FnExactFreeAlgebraWrongFalsely : Prop := fnExactFreeAlgebraRow.holds Try.pinned (OpenSpec.ofChange fnExactFreeAlgebraWrong)

/-- 'laws.FnExactProductOfAlgebras': WHATEVER THE INPUT: true; the input reads as it did. -/
def fnExactProductOfAlgebrasSpec : ChangeSpec := { name := "fnExactProductOfAlgebras", fn := fun _ => fun
  | [d1, d2] => { results := [.lit (.bool true)], args := [d1, d2] }
  | _ => none }
def fnExactProductOfAlgebrasRow : OpenClaim := { program := "ythcaiagnmmjooaa", sum := "a1db223da87ddb83e328b95ad8def3b99142225585774215624171e3adcdd0f1", func := "loop.example/g01219/laws.FnExactProductOfAlgebras", spec := "fnExactProductOfAlgebras", inPlace := ["internal/bytealg.Compare"], plainKeys := false, apart := false }
def FnExactProductOfAlgebrasSaid : Prop := fnExactProductOfAlgebrasRow.holds Try.pinned (OpenSpec.ofChange fnExactProductOfAlgebrasSpec)

/-- ITS FALSE NEIGHBOUR: 'it returns false'. Refute it at one input. -/
def fnExactProductOfAlgebrasWrong : ChangeSpec := { name := "fnExactProductOfAlgebras", fn := fun _ => fun
  | [d1, d2] => { results := [.lit (.bool false)], args := [d1, d2] }
  | _ => none }
def FnExactProductOfAlgebrasWrongFalsely : Prop := fnExactProductOfAlgebrasRow.holds Try.pinned (OpenSpec.ofChange fnExactProductOfAlgebrasWrong)

/-- 'laws.FnExactWithGenerator': WHATEVER THE INPUT: true; the input reads as it did. -/
def fnExactWithGeneratorSpec : ChangeSpec := { name := "fnExactWithGenerator", fn := fun _ => fun
  | [d1, d2, d3] => { results := [.lit (.bool true)], args := [d1, d2, d3] }
  | _ => none }
def fnExactWithGeneratorRow : OpenClaim := { program := "ythcaiagnmmjooaa", sum := "a1db223da87ddb83e328b95ad8def3b99142225585774215624171e3adcdd0f1", func := "loop.example/g01219/laws.FnExactWithGenerator", spec := "fnExactWithGenerator", inPlace := ["internal/bytealg.Compare"], plainKeys := false, apart := false }
def FnExactWithGeneratorSaid : Prop := fnExactWithGeneratorRow.holds Try.pinned (OpenSpec.ofChange fnExactWithGeneratorSpec)

/-- ITS FALSE NEIGHBOUR: 'it returns false'. Refute it at one input. -/
def fnExactWithGeneratorWrong : ChangeSpec := { name := "fnExactWithGenerator", fn := fun _ => fun
  | [d1, d2, d3] => { results := [.lit (.bool false)], args := [d1, d2, d3] }
  | _ => none }
def FnExactWithGeneratorWrongFalsely : Prop := fnExactWithGeneratorRow.holds Try.pinned (OpenSpec.ofChange fnExactWithGeneratorWrong)

/- THE SECOND FORM. 'bulk': how many values and letters a reading holds, each counted each time it is reached (what is shared counts as often as it is met; a slice's spare places count too). A statement '..UptoSaid' is the law's where the arguments, and the package variables that the reading takes, are together of bulk at most 1048576: NARROWER than '..Said'. Prove '..Said' where nothing that the law and all that it calls make is longer than what came in: it says more and counts as full. Else prove '..UptoSaid'. A law counts once. -/
mutual
def uptoBulk {H : Type} : DataW H → Nat
  | .lit (.string bytes) => bytes.length + 1
  | .lit _ => 1
  | .nil => 1
  | .ptr d => uptoBulk d + 1
  | .slice elems spare => uptoBulkAll elems + uptoBulkAll spare + 1
  | .agg parts => uptoBulkAll parts + 1
  | .iface _ d => uptoBulk d + 1
  | .map entries => uptoBulkEntries entries + 1
  | .held _ => 1
def uptoBulkAll {H : Type} : List (DataW H) → Nat
  | [] => 0
  | d :: r => uptoBulk d + uptoBulkAll r
def uptoBulkEntries {H : Type} : List (Lit × DataW H) → Nat
  | [] => 0
  | x :: r => uptoBulkEntry x + uptoBulkEntries r
def uptoBulkEntry {H : Type} : Lit × DataW H → Nat
  | (.string bytes, d) => bytes.length + uptoBulk d + 1
  | (_, d) => uptoBulk d + 1
 end
def uptoSmall : (H : Type) → List (DataW H) → Bool := fun _ ds => decide (uptoBulkAll ds ≤ 1048576)
def OpenSpec.upto (s : _root_.Go.ChangeSpec) : _root_.Go.OpenSpec := { _root_.Go.OpenSpec.ofChange s with cond := some uptoSmall }

/-- 'laws.FnMonomials', WHERE WHAT IT READS IS OF BULK AT MOST 1048576: true; the input reads as it did. -/
def fnMonomialsUptoRow : OpenClaim := { program := "ythcaiagnmmjooaa", sum := "a1db223da87ddb83e328b95ad8def3b99142225585774215624171e3adcdd0f1", func := "loop.example/g01219/laws.FnMonomials", spec := "fnMonomials", recurses := true, plainKeys := false, apart := false, narrowed := true }
def FnMonomialsUptoSaid : Prop := fnMonomialsUptoRow.holds Try.pinned (OpenSpec.upto fnMonomialsSpec)

/-- 'laws.FnAlgebraParts', WHERE WHAT IT READS IS OF BULK AT MOST 1048576: true; the input reads as it did. -/
def fnAlgebraPartsUptoRow : OpenClaim := { program := "ythcaiagnmmjooaa", sum := "a1db223da87ddb83e328b95ad8def3b99142225585774215624171e3adcdd0f1", func := "loop.example/g01219/laws.FnAlgebraParts", spec := "fnAlgebraParts", inPlace := ["internal/bytealg.Compare"], recurses := true, plainKeys := false, apart := false, narrowed := true }
def FnAlgebraPartsUptoSaid : Prop := fnAlgebraPartsUptoRow.holds Try.pinned (OpenSpec.upto fnAlgebraPartsSpec)

/-- 'laws.FnExactMonomialsOf', WHERE WHAT IT READS IS OF BULK AT MOST 1048576: true; the input reads as it did. -/
def fnExactMonomialsOfUptoRow : OpenClaim := { program := "ythcaiagnmmjooaa", sum := "a1db223da87ddb83e328b95ad8def3b99142225585774215624171e3adcdd0f1", func := "loop.example/g01219/laws.FnExactMonomialsOf", spec := "fnExactMonomialsOf", recurses := true, plainKeys := false, apart := false, narrowed := true }
def FnExactMonomialsOfUptoSaid : Prop := fnExactMonomialsOfUptoRow.holds Try.pinned (OpenSpec.upto fnExactMonomialsOfSpec)

/-- 'laws.FnExactIsAlgebra', WHERE WHAT IT READS IS OF BULK AT MOST 1048576: true; the input reads as it did. -/
def fnExactIsAlgebraUptoRow : OpenClaim := { program := "ythcaiagnmmjooaa", sum := "a1db223da87ddb83e328b95ad8def3b99142225585774215624171e3adcdd0f1", func := "loop.example/g01219/laws.FnExactIsAlgebra", spec := "fnExactIsAlgebra", inPlace := ["internal/bytealg.Compare"], plainKeys := false, apart := false, narrowed := true }
def FnExactIsAlgebraUptoSaid : Prop := fnExactIsAlgebraUptoRow.holds Try.pinned (OpenSpec.upto fnExactIsAlgebraSpec)

/-- 'laws.FnExactDifferentialOfForm', WHERE WHAT IT READS IS OF BULK AT MOST 1048576: true; the input reads as it did. -/
def fnExactDifferentialOfFormUptoRow : OpenClaim := { program := "ythcaiagnmmjooaa", sum := "a1db223da87ddb83e328b95ad8def3b99142225585774215624171e3adcdd0f1", func := "loop.example/g01219/laws.FnExactDifferentialOfForm", spec := "fnExactDifferentialOfForm", inPlace := ["internal/bytealg.Compare"], unfollowed := true, recurses := true, plainKeys := false, apart := false, narrowed := true }
def FnExactDifferentialOfFormUptoSaid : Prop := fnExactDifferentialOfFormUptoRow.holds Try.pinned (OpenSpec.upto fnExactDifferentialOfFormSpec)

/-- 'laws.FnExactIsClosed', WHERE WHAT IT READS IS OF BULK AT MOST 1048576: true; the input reads as it did. -/
def fnExactIsClosedUptoRow : OpenClaim := { program := "ythcaiagnmmjooaa", sum := "a1db223da87ddb83e328b95ad8def3b99142225585774215624171e3adcdd0f1", func := "loop.example/g01219/laws.FnExactIsClosed", spec := "fnExactIsClosed", inPlace := ["internal/bytealg.Compare"], plainKeys := false, apart := false, narrowed := true }
def FnExactIsClosedUptoSaid : Prop := fnExactIsClosedUptoRow.holds Try.pinned (OpenSpec.upto fnExactIsClosedSpec)

/-- 'laws.FnExactLinearTable', WHERE WHAT IT READS IS OF BULK AT MOST 1048576: true; the input reads as it did. -/
def fnExactLinearTableUptoRow : OpenClaim := { program := "ythcaiagnmmjooaa", sum := "a1db223da87ddb83e328b95ad8def3b99142225585774215624171e3adcdd0f1", func := "loop.example/g01219/laws.FnExactLinearTable", spec := "fnExactLinearTable", inPlace := ["internal/bytealg.Compare"], plainKeys := false, apart := false, narrowed := true }
def FnExactLinearTableUptoSaid : Prop := fnExactLinearTableUptoRow.holds Try.pinned (OpenSpec.upto fnExactLinearTableSpec)

/-- 'laws.FnExactQuadraticParts', WHERE WHAT IT READS IS OF BULK AT MOST 1048576: true; the input reads as it did. -/
def fnExactQuadraticPartsUptoRow : OpenClaim := { program := "ythcaiagnmmjooaa", sum := "a1db223da87ddb83e328b95ad8def3b99142225585774215624171e3adcdd0f1", func := "loop.example/g01219/laws.FnExactQuadraticParts", spec := "fnExactQuadraticParts", inPlace := ["internal/bytealg.Compare"], plainKeys := false, apart := false, narrowed := true }
def FnExactQuadraticPartsUptoSaid : Prop := fnExactQuadraticPartsUptoRow.holds Try.pinned (OpenSpec.upto fnExactQuadraticPartsSpec)

/-- 'laws.FnExactWordLengthOf', WHERE WHAT IT READS IS OF BULK AT MOST 1048576: true; the input reads as it did. -/
def fnExactWordLengthOfUptoRow : OpenClaim := { program := "ythcaiagnmmjooaa", sum := "a1db223da87ddb83e328b95ad8def3b99142225585774215624171e3adcdd0f1", func := "loop.example/g01219/laws.FnExactWordLengthOf", spec := "fnExactWordLengthOf", inPlace := ["internal/bytealg.Compare"], plainKeys := false, apart := false, narrowed := true }
def FnExactWordLengthOfUptoSaid : Prop := fnExactWordLengthOfUptoRow.holds Try.pinned (OpenSpec.upto fnExactWordLengthOfSpec)

/-- 'laws.FnExactIsMinimal', WHERE WHAT IT READS IS OF BULK AT MOST 1048576: true; the input reads as it did. -/
def fnExactIsMinimalUptoRow : OpenClaim := { program := "ythcaiagnmmjooaa", sum := "a1db223da87ddb83e328b95ad8def3b99142225585774215624171e3adcdd0f1", func := "loop.example/g01219/laws.FnExactIsMinimal", spec := "fnExactIsMinimal", inPlace := ["internal/bytealg.Compare"], plainKeys := false, apart := false, narrowed := true }
def FnExactIsMinimalUptoSaid : Prop := fnExactIsMinimalUptoRow.holds Try.pinned (OpenSpec.upto fnExactIsMinimalSpec)

/-- 'laws.FnExactRanksOf', WHERE WHAT IT READS IS OF BULK AT MOST 1048576: true; the input reads as it did. -/
def fnExactRanksOfUptoRow : OpenClaim := { program := "ythcaiagnmmjooaa", sum := "a1db223da87ddb83e328b95ad8def3b99142225585774215624171e3adcdd0f1", func := "loop.example/g01219/laws.FnExactRanksOf", spec := "fnExactRanksOf", inPlace := ["internal/bytealg.Compare"], plainKeys := false, apart := false, narrowed := true }
def FnExactRanksOfUptoSaid : Prop := fnExactRanksOfUptoRow.holds Try.pinned (OpenSpec.upto fnExactRanksOfSpec)

/-- 'laws.FnExactFreeAlgebra', WHERE WHAT IT READS IS OF BULK AT MOST 1048576: true; the input reads as it did. -/
def fnExactFreeAlgebraUptoRow : OpenClaim := { program := "ythcaiagnmmjooaa", sum := "a1db223da87ddb83e328b95ad8def3b99142225585774215624171e3adcdd0f1", func := "loop.example/g01219/laws.FnExactFreeAlgebra", spec := "fnExactFreeAlgebra", plainKeys := false, apart := false, narrowed := true }
def FnExactFreeAlgebraUptoSaid : Prop := fnExactFreeAlgebraUptoRow.holds Try.pinned (OpenSpec.upto fnExactFreeAlgebraSpec)

/-- 'laws.FnExactProductOfAlgebras', WHERE WHAT IT READS IS OF BULK AT MOST 1048576: true; the input reads as it did. -/
def fnExactProductOfAlgebrasUptoRow : OpenClaim := { program := "ythcaiagnmmjooaa", sum := "a1db223da87ddb83e328b95ad8def3b99142225585774215624171e3adcdd0f1", func := "loop.example/g01219/laws.FnExactProductOfAlgebras", spec := "fnExactProductOfAlgebras", inPlace := ["internal/bytealg.Compare"], plainKeys := false, apart := false, narrowed := true }
def FnExactProductOfAlgebrasUptoSaid : Prop := fnExactProductOfAlgebrasUptoRow.holds Try.pinned (OpenSpec.upto fnExactProductOfAlgebrasSpec)

/-- 'laws.FnExactWithGenerator', WHERE WHAT IT READS IS OF BULK AT MOST 1048576: true; the input reads as it did. -/
def fnExactWithGeneratorUptoRow : OpenClaim := { program := "ythcaiagnmmjooaa", sum := "a1db223da87ddb83e328b95ad8def3b99142225585774215624171e3adcdd0f1", func := "loop.example/g01219/laws.FnExactWithGenerator", spec := "fnExactWithGenerator", inPlace := ["internal/bytealg.Compare"], plainKeys := false, apart := false, narrowed := true }
def FnExactWithGeneratorUptoSaid : Prop := fnExactWithGeneratorUptoRow.holds Try.pinned (OpenSpec.upto fnExactWithGeneratorSpec)

end Rows
end Go.Proofs.Ythcaiagnmmjooaa
