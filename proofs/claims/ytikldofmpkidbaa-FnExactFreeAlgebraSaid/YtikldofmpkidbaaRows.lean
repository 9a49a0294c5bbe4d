/-
  No cell of these rows narrows 'for every input' (looked for: loops, veiled, ifaces, maps, wideKeys, modest, calm, conditions, laid).
  DERIVED. THE GIVEN ROWS OF THIS SEAT. 12 by the template 'for every input the law returns true; each argument reads behind the call as it read before'; 0 by the template 'total and deterministic' (their statements: YtikldofmpkidbaaTotals.lean).
  GIVEN WITH THE SEED: the statements are not yours to turn. If you find one false, say at which input.
  Laid BY PROGRAM, IN A SANDBOX (cutbox-rows.mjs): the forced cells as the released guide's own fill.sh prints them over the translation 961bca678ad21e2e… (all of the seat's roots in one cut). By AI agents, Wed Nov 11 2026. No macro, syntax, notation, axiom, sorry.
-/
import Derived.Test.YtikldofmpkidbaaChecked
import GoSem.Claim
import GoSem.ClaimJoined
import GoSem.ClaimMapViews
import Derived.JoinedTies
import Derived.KernelRfl
namespace Go.Proofs.Ytikldofmpkidbaa
/- THE CELL 'sum', in the pinned program and in every row, IS THE sha256 OF THE DUMP (.gsa) THAT YtikldofmpkidbaaProg.lean LOADS. Nothing in Lean hashes anything: it is a label: what it is worth is what the hold of that sum in a sandbox is worth. -/
noncomputable def Try.pinned : Pinned := { name := "ytikldofmpkidbaa", sum := "961bca678ad21e2e969db42df2dd32d5e433710d50ae755f5b3c7b7d9a8eabdd", checked := Try.checked }
namespace Rows
def none {H : Type} : Left H := { results := [], args := [] }

/-- 'laws.FnExactIsDerivation': WHATEVER THE INPUT: true; the input reads as it did. -/
def fnExactIsDerivationSpec : ChangeSpec := { name := "fnExactIsDerivation", fn := fun _ => fun
  | [d1, d2] => { results := [.lit (.bool true)], args := [d1, d2] }
  | _ => none }
def fnExactIsDerivationRow : OpenClaim := { program := "ytikldofmpkidbaa", sum := "961bca678ad21e2e969db42df2dd32d5e433710d50ae755f5b3c7b7d9a8eabdd", func := "loop.example/g01219/laws.FnExactIsDerivation", spec := "fnExactIsDerivation", inPlace := ["internal/bytealg.Compare"], plainKeys := false, apart := false }
def FnExactIsDerivationSaid : Prop := fnExactIsDerivationRow.holds Try.pinned (OpenSpec.ofChange fnExactIsDerivationSpec)

/-- ITS FALSE NEIGHBOUR: 'it returns false'. Refute it at one input. -/
def fnExactIsDerivationWrong : ChangeSpec := { name := "fnExactIsDerivation", fn := fun _ => fun
  | [d1, d2] => { results := [.lit (.bool false)], args := [d1, d2] }
  | _ => none }
def FnExactIsDerivationWrongFalsely : Prop := fnExactIsDerivationRow.holds Try.pinned (OpenSpec.ofChange fnExactIsDerivationWrong)

/-- 'laws.FnExactConstantsOf': WHATEVER THE INPUT: true; the input reads as it did. -/
def fnExactConstantsOfSpec : ChangeSpec := { name := "fnExactConstantsOf", fn := fun _ => fun
  | [d] => { results := [.lit (.bool true)], args := [d] }
  | _ => none }
def fnExactConstantsOfRow : OpenClaim := { program := "ytikldofmpkidbaa", sum := "961bca678ad21e2e969db42df2dd32d5e433710d50ae755f5b3c7b7d9a8eabdd", func := "loop.example/g01219/laws.FnExactConstantsOf", spec := "fnExactConstantsOf", inPlace := ["internal/bytealg.Compare"], plainKeys := false, apart := false }
def FnExactConstantsOfSaid : Prop := fnExactConstantsOfRow.holds Try.pinned (OpenSpec.ofChange fnExactConstantsOfSpec)

/-- ITS FALSE NEIGHBOUR: 'it returns false'. Refute it at one input. -/
def fnExactConstantsOfWrong : ChangeSpec := { name := "fnExactConstantsOf", fn := fun _ => fun
  | [d] => { results := [.lit (.bool false)], args := [d] }
  | _ => none }
def FnExactConstantsOfWrongFalsely : Prop := fnExactConstantsOfRow.holds Try.pinned (OpenSpec.ofChange fnExactConstantsOfWrong)

/-- 'laws.FnExactAddDerivations': WHATEVER THE INPUT: true; the input reads as it did. -/
def fnExactAddDerivationsSpec : ChangeSpec := { name := "fnExactAddDerivations", fn := fun _ => fun
  | [d1, d2, d3] => { results := [.lit (.bool true)], args := [d1, d2, d3] }
  | _ => none }
def fnExactAddDerivationsRow : OpenClaim := { program := "ytikldofmpkidbaa", sum := "961bca678ad21e2e969db42df2dd32d5e433710d50ae755f5b3c7b7d9a8eabdd", func := "loop.example/g01219/laws.FnExactAddDerivations", spec := "fnExactAddDerivations", inPlace := ["internal/bytealg.Compare"], plainKeys := false, apart := false }
def FnExactAddDerivationsSaid : Prop := fnExactAddDerivationsRow.holds Try.pinned (OpenSpec.ofChange fnExactAddDerivationsSpec)

/-- ITS FALSE NEIGHBOUR: 'it returns false'. Refute it at one input. -/
def fnExactAddDerivationsWrong : ChangeSpec := { name := "fnExactAddDerivations", fn := fun _ => fun
  | [d1, d2, d3] => { results := [.lit (.bool false)], args := [d1, d2, d3] }
  | _ => none }
def FnExactAddDerivationsWrongFalsely : Prop := fnExactAddDerivationsRow.holds Try.pinned (OpenSpec.ofChange fnExactAddDerivationsWrong)

/-- 'laws.FnExactIsAlgebra': WHATEVER THE INPUT: true; the input reads as it did. -/
def fnExactIsAlgebraSpec : ChangeSpec := { name := "fnExactIsAlgebra", fn := fun _ => fun
  | [d] => { results := [.lit (.bool true)], args := [d] }
  | _ => none }
def fnExactIsAlgebraRow : OpenClaim := { program := "ytikldofmpkidbaa", sum := "961bca678ad21e2e969db42df2dd32d5e433710d50ae755f5b3c7b7d9a8eabdd", func := "loop.example/g01219/laws.FnExactIsAlgebra", spec := "fnExactIsAlgebra", inPlace := ["internal/bytealg.Compare"], plainKeys := false, apart := false }
def FnExactIsAlgebraSaid : Prop := fnExactIsAlgebraRow.holds Try.pinned (OpenSpec.ofChange fnExactIsAlgebraSpec)

/-- ITS FALSE NEIGHBOUR: 'it returns false'. Refute it at one input. -/
def fnExactIsAlgebraWrong : ChangeSpec := { name := "fnExactIsAlgebra", fn := fun _ => fun
  | [d] => { results := [.lit (.bool false)], args := [d] }
  | _ => none }
def FnExactIsAlgebraWrongFalsely : Prop := fnExactIsAlgebraRow.holds Try.pinned (OpenSpec.ofChange fnExactIsAlgebraWrong)

/-- 'laws.FnExactIsClosed': WHATEVER THE INPUT: true; the input reads as it did. -/
def fnExactIsClosedSpec : ChangeSpec := { name := "fnExactIsClosed", fn := fun _ => fun
  | [d1, d2] => { results := [.lit (.bool true)], args := [d1, d2] }
  | _ => none }
def fnExactIsClosedRow : OpenClaim := { program := "ytikldofmpkidbaa", sum := "961bca678ad21e2e969db42df2dd32d5e433710d50ae755f5b3c7b7d9a8eabdd", func := "loop.example/g01219/laws.FnExactIsClosed", spec := "fnExactIsClosed", inPlace := ["internal/bytealg.Compare"], plainKeys := false, apart := false }
def FnExactIsClosedSaid : Prop := fnExactIsClosedRow.holds Try.pinned (OpenSpec.ofChange fnExactIsClosedSpec)

/-- ITS FALSE NEIGHBOUR: 'it returns false'. Refute it at one input. -/
def fnExactIsClosedWrong : ChangeSpec := { name := "fnExactIsClosed", fn := fun _ => fun
  | [d1, d2] => { results := [.lit (.bool false)], args := [d1, d2] }
  | _ => none }
def FnExactIsClosedWrongFalsely : Prop := fnExactIsClosedRow.holds Try.pinned (OpenSpec.ofChange fnExactIsClosedWrong)

/-- 'laws.FnExactIsMinimal': WHATEVER THE INPUT: true; the input reads as it did. -/
def fnExactIsMinimalSpec : ChangeSpec := { name := "fnExactIsMinimal", fn := fun _ => fun
  | [d] => { results := [.lit (.bool true)], args := [d] }
  | _ => none }
def fnExactIsMinimalRow : OpenClaim := { program := "ytikldofmpkidbaa", sum := "961bca678ad21e2e969db42df2dd32d5e433710d50ae755f5b3c7b7d9a8eabdd", func := "loop.example/g01219/laws.FnExactIsMinimal", spec := "fnExactIsMinimal", inPlace := ["internal/bytealg.Compare"], plainKeys := false, apart := false }
def FnExactIsMinimalSaid : Prop := fnExactIsMinimalRow.holds Try.pinned (OpenSpec.ofChange fnExactIsMinimalSpec)

/-- ITS FALSE NEIGHBOUR: 'it returns false'. Refute it at one input. -/
def fnExactIsMinimalWrong : ChangeSpec := { name := "fnExactIsMinimal", fn := fun _ => fun
  | [d] => { results := [.lit (.bool false)], args := [d] }
  | _ => none }
def FnExactIsMinimalWrongFalsely : Prop := fnExactIsMinimalRow.holds Try.pinned (OpenSpec.ofChange fnExactIsMinimalWrong)

/-- 'laws.FnExactWordLengthOf': WHATEVER THE INPUT: true; the input reads as it did. -/
def fnExactWordLengthOfSpec : ChangeSpec := { name := "fnExactWordLengthOf", fn := fun _ => fun
  | [d1, d2] => { results := [.lit (.bool true)], args := [d1, d2] }
  | _ => none }
def fnExactWordLengthOfRow : OpenClaim := { program := "ytikldofmpkidbaa", sum := "961bca678ad21e2e969db42df2dd32d5e433710d50ae755f5b3c7b7d9a8eabdd", func := "loop.example/g01219/laws.FnExactWordLengthOf", spec := "fnExactWordLengthOf", inPlace := ["internal/bytealg.Compare"], plainKeys := false, apart := false }
def FnExactWordLengthOfSaid : Prop := fnExactWordLengthOfRow.holds Try.pinned (OpenSpec.ofChange fnExactWordLengthOfSpec)

/-- ITS FALSE NEIGHBOUR: 'it returns false'. Refute it at one input. -/
def fnExactWordLengthOfWrong : ChangeSpec := { name := "fnExactWordLengthOf", fn := fun _ => fun
  | [d1, d2] => { results := [.lit (.bool false)], args := [d1, d2] }
  | _ => none }
def FnExactWordLengthOfWrongFalsely : Prop := fnExactWordLengthOfRow.holds Try.pinned (OpenSpec.ofChange fnExactWordLengthOfWrong)

/-- 'laws.FnExactRanksOf': WHATEVER THE INPUT: true; the input reads as it did. -/
def fnExactRanksOfSpec : ChangeSpec := { name := "fnExactRanksOf", fn := fun _ => fun
  | [d] => { results := [.lit (.bool true)], args := [d] }
  | _ => none }
def fnExactRanksOfRow : OpenClaim := { program := "ytikldofmpkidbaa", sum := "961bca678ad21e2e969db42df2dd32d5e433710d50ae755f5b3c7b7d9a8eabdd", func := "loop.example/g01219/laws.FnExactRanksOf", spec := "fnExactRanksOf", inPlace := ["internal/bytealg.Compare"], plainKeys := false, apart := false }
def FnExactRanksOfSaid : Prop := fnExactRanksOfRow.holds Try.pinned (OpenSpec.ofChange fnExactRanksOfSpec)

/-- ITS FALSE NEIGHBOUR: 'it returns false'. Refute it at one input. -/
def fnExactRanksOfWrong : ChangeSpec := { name := "fnExactRanksOf", fn := fun _ => fun
  | [d] => { results := [.lit (.bool false)], args := [d] }
  | _ => none }
def FnExactRanksOfWrongFalsely : Prop := fnExactRanksOfRow.holds Try.pinned (OpenSpec.ofChange fnExactRanksOfWrong)

/-- 'laws.FnExactLinearTable': WHATEVER THE INPUT: true; the input reads as it did. -/
def fnExactLinearTableSpec : ChangeSpec := { name := "fnExactLinearTable", fn := fun _ => fun
  | [d] => { results := [.lit (.bool true)], args := [d] }
  | _ => none }
def fnExactLinearTableRow : OpenClaim := { program := "ytikldofmpkidbaa", sum := "961bca678ad21e2e969db42df2dd32d5e433710d50ae755f5b3c7b7d9a8eabdd", func := "loop.example/g01219/laws.FnExactLinearTable", spec := "fnExactLinearTable", inPlace := ["internal/bytealg.Compare"], plainKeys := false, apart := false }
def FnExactLinearTableSaid : Prop := fnExactLinearTableRow.holds Try.pinned (OpenSpec.ofChange fnExactLinearTableSpec)

/-- ITS FALSE NEIGHBOUR: 'it returns false'. Refute it at one input. -/
def fnExactLinearTableWrong : ChangeSpec := { name := "fnExactLinearTable", fn := fun _ => fun
  | [d] => { results := [.lit (.bool false)], args := [d] }
  | _ => none }
def FnExactLinearTableWrongFalsely : Prop := fnExactLinearTableRow.holds Try.pinned (OpenSpec.ofChange fnExactLinearTableWrong)

/-- 'laws.FnExactQuadraticParts': WHATEVER THE INPUT: true; the input reads as it did. -/
def fnExactQuadraticPartsSpec : ChangeSpec := { name := "fnExactQuadraticParts", fn := fun _ => fun
  | [d] => { results := [.lit (.bool true)], args := [d] }
  | _ => none }
def fnExactQuadraticPartsRow : OpenClaim := { program := "ytikldofmpkidbaa", sum := "961bca678ad21e2e969db42df2dd32d5e433710d50ae755f5b3c7b7d9a8eabdd", func := "loop.example/g01219/laws.FnExactQuadraticParts", spec := "fnExactQuadraticParts", inPlace := ["internal/bytealg.Compare"], plainKeys := false, apart := false }
def FnExactQuadraticPartsSaid : Prop := fnExactQuadraticPartsRow.holds Try.pinned (OpenSpec.ofChange fnExactQuadraticPartsSpec)

/-- ITS FALSE NEIGHBOUR: 'it returns false'. Refute it at one input. -/
def fnExactQuadraticPartsWrong : ChangeSpec := { name := "fnExactQuadraticParts", fn := fun _ => fun
  | [d] => { results := [.lit (.bool false)], args := [d] }
  | _ => none }
def FnExactQuadraticPartsWrongFalsely : Prop := fnExactQuadraticPartsRow.holds Try.pinned (OpenSpec.ofChange fnExactQuadraticPartsWrong)

/-- 'laws.FnExactFreeAlgebra': WHATEVER THE INPUT: true; the input reads as it did. -/
def fnExactFreeAlgebraSpec : ChangeSpec := { name := "fnExactFreeAlgebra", fn := fun _ => fun
  | [d] => { results := [.lit (.bool true)], args := [d] }
  | _ => none }
def fnExactFreeAlgebraRow : OpenClaim := { program := "ytikldofmpkidbaa", sum := "961bca678ad21e2e969db42df2dd32d5e433710d50ae755f5b3c7b7d9a8eabdd", func := "loop.example/g01219/laws.FnExactFreeAlgebra", spec := "fnExactFreeAlgebra", plainKeys := false, apart := false }
def FnExactFreeAlgebraSaid : Prop := fnExactFreeAlgebraRow.holds Try.pinned (OpenSpec.ofChange fnExactFreeAlgebraSpec)

/-- ITS FALSE NEIGHBOUR: 'it returns false'. Refute it at one input. -/
def fnExactFreeAlgebraWrong : ChangeSpec := { name := "fnExactFreeAlgebra", fn := fun _ => fun
  | [d] => { results := [.lit (.bool false)], args := [d] }
  | _ => none }
def FnExactFreeAlgebraWrongFalsely : Prop := fnExactFreeAlgebraRow.holds Try.pinned (OpenSpec.ofChange fnExactFreeAlgebraWrong)

/-- 'laws.FnExactFormalDimension': WHATEVER THE INPUT: true; the input reads as it did. -/
def fnExactFormalDimensionSpec : ChangeSpec := { name := "fnExactFormalDimension", fn := fun _ => fun
  | [d] => { results := [.lit (.bool true)], args := [d] }
  | _ => none }
def fnExactFormalDimensionRow : OpenClaim := { program := "ytikldofmpkidbaa", sum := "961bca678ad21e2e969db42df2dd32d5e433710d50ae755f5b3c7b7d9a8eabdd", func := "loop.example/g01219/laws.FnExactFormalDimension", spec := "fnExactFormalDimension", inPlace := ["internal/bytealg.Compare"], plainKeys := false, apart := false }
def FnExactFormalDimensionSaid : Prop := fnExactFormalDimensionRow.holds Try.pinned (OpenSpec.ofChange fnExactFormalDimensionSpec)

/-- ITS FALSE NEIGHBOUR: 'it returns false'. Refute it at one input. -/
def fnExactFormalDimensionWrong : ChangeSpec := { name := "fnExactFormalDimension", fn := fun _ => fun
  | [d] => { results := [.lit (.bool false)], args := [d] }
  | _ => none }
def FnExactFormalDimensionWrongFalsely : Prop := fnExactFormalDimensionRow.holds Try.pinned (OpenSpec.ofChange fnExactFormalDimensionWrong)

/- THE SECOND FORM. 'bulk': how many values and letters a reading holds, each counted each time it is reached (what is shared counts as often as it is met; a slice's spare places count too). A statement '..UptoSaid' is the law's where the arguments, and the package variables that the reading takes, are together of bulk at most 1048576: NARROWER than '..Said'. Prove '..Said' where nothing that the law and all that it calls make is longer than what came in: it says more and counts as full. Else prove '..UptoSaid'. A law counts once. -/
mutual
def uptoBulk {H : Type} : DataW H → Nat
  | .lit (.string bytes) => bytes.length + 1
  | .lit _ => 1
  | .nil => 1
  | .ptr d => uptoBulk d + 1
  | .slice elems spare => uptoBulkAll elems + uptoBulkAll spare + 1
  | .agg parts => uptoBulkAll parts + 1
  | .iface _ d => uptoBulk d + 1
  | .map entries => uptoBulkEntries entries + 1
  | .held _ => 1
def uptoBulkAll {H : Type} : List (DataW H) → Nat
  | [] => 0
  | d :: r => uptoBulk d + uptoBulkAll r
def uptoBulkEntries {H : Type} : List (Lit × DataW H) → Nat
  | [] => 0
  | x :: r => uptoBulkEntry x + uptoBulkEntries r
def uptoBulkEntry {H : Type} : Lit × DataW H → Nat
  | (.string bytes, d) => bytes.length + uptoBulk d + 1
  | (_, d) => uptoBulk d + 1
 end
def uptoSmall : (H : Type) → List (DataW H) → Bool := fun _ ds => decide (uptoBulkAll ds ≤ 1048576)
def OpenSpec.upto (s : _root_.Go.ChangeSpec) : _root_.Go.OpenSpec := { _root_.Go.OpenSpec.ofChange s with cond := some uptoSmall }

/-- 'laws.FnExactIsDerivation', WHERE WHAT IT READS IS OF BULK AT MOST 1048576: true; the input reads as it did. -/
def fnExactIsDerivationUptoRow : OpenClaim := { program := "ytikldofmpkidbaa", sum := "961bca678ad21e2e969db42df2dd32d5e433710d50ae755f5b3c7b7d9a8eabdd", func := "loop.example/g01219/laws.FnExactIsDerivation", spec := "fnExactIsDerivation", inPlace := ["internal/bytealg.Compare"], plainKeys := false, apart := false, narrowed := true }
def FnExactIsDerivationUptoSaid : Prop := fnExactIsDerivationUptoRow.holds Try.pinned (OpenSpec.upto fnExactIsDerivationSpec)

/-- 'laws.FnExactConstantsOf', WHERE WHAT IT READS IS OF BULK AT MOST 1048576: true; the input reads as it did. -/
def fnExactConstantsOfUptoRow : OpenClaim := { program := "ytikldofmpkidbaa", sum := "961bca678ad21e2e969db42df2dd32d5e433710d50ae755f5b3c7b7d9a8eabdd", func := "loop.example/g01219/laws.FnExactConstantsOf", spec := "fnExactConstantsOf", inPlace := ["internal/bytealg.Compare"], plainKeys := false, apart := false, narrowed := true }
def FnExactConstantsOfUptoSaid : Prop := fnExactConstantsOfUptoRow.holds Try.pinned (OpenSpec.upto fnExactConstantsOfSpec)

/-- 'laws.FnExactAddDerivations', WHERE WHAT IT READS IS OF BULK AT MOST 1048576: true; the input reads as it did. -/
def fnExactAddDerivationsUptoRow : OpenClaim := { program := "ytikldofmpkidbaa", sum := "961bca678ad21e2e969db42df2dd32d5e433710d50ae755f5b3c7b7d9a8eabdd", func := "loop.example/g01219/laws.FnExactAddDerivations", spec := "fnExactAddDerivations", inPlace := ["internal/bytealg.Compare"], plainKeys := false, apart := false, narrowed := true }
def FnExactAddDerivationsUptoSaid : Prop := fnExactAddDerivationsUptoRow.holds Try.pinned (OpenSpec.upto fnExactAddDerivationsSpec)

/-- 'laws.FnExactIsAlgebra', WHERE WHAT IT READS IS OF BULK AT MOST 1048576: true; the input reads as it did. -/
def fnExactIsAlgebraUptoRow : OpenClaim := { program := "ytikldofmpkidbaa", sum := "961bca678ad21e2e969db42df2dd32d5e433710d50ae755f5b3c7b7d9a8eabdd", func := "loop.example/g01219/laws.FnExactIsAlgebra", spec := "fnExactIsAlgebra", inPlace := ["internal/bytealg.Compare"], plainKeys := false, apart := false, narrowed := true }
def FnExactIsAlgebraUptoSaid : Prop := fnExactIsAlgebraUptoRow.holds Try.pinned (OpenSpec.upto fnExactIsAlgebraSpec)

/-- 'laws.FnExactIsClosed', WHERE WHAT IT READS IS OF BULK AT MOST 1048576: true; the input reads as it did. -/
def fnExactIsClosedUptoRow : OpenClaim := { program := "ytikldofmpkidbaa", sum := "961bca678ad21e2e969db42df2dd32d5e433710d50ae755f5b3c7b7d9a8eabdd", func := "loop.example/g01219/laws.FnExactIsClosed", spec := "fnExactIsClosed", inPlace := ["internal/bytealg.Compare"], plainKeys := false, apart := false, narrowed := true }
def FnExactIsClosedUptoSaid : Prop := fnExactIsClosedUptoRow.holds Try.pinned (OpenSpec.upto fnExactIsClosedSpec)

/-- 'laws.FnExactIsMinimal', WHERE WHAT IT READS IS OF BULK AT MOST 1048576: true; the input reads as it did. -/
def fnExactIsMinimalUptoRow : OpenClaim := { program := "ytikldofmpkidbaa", sum := "961bca678ad21e2e969db42df2dd32d5e433710d50ae755f5b3c7b7d9a8eabdd", func := "loop.example/g01219/laws.FnExactIsMinimal", spec := "fnExactIsMinimal", inPlace := ["internal/bytealg.Compare"], plainKeys := false, apart := false, narrowed := true }
def FnExactIsMinimalUptoSaid : Prop := fnExactIsMinimalUptoRow.holds Try.pinned (OpenSpec.upto fnExactIsMinimalSpec)

/-- 'laws.FnExactWordLengthOf', WHERE WHAT IT READS IS OF BULK AT MOST 1048576: true; the input reads as it did. -/
def fnExactWordLengthOfUptoRow : OpenClaim := { program := "ytikldofmpkidbaa", sum := "961bca678ad21e2e969db42df2dd32d5e433710d50ae755f5b3c7b7d9a8eabdd", func := "loop.example/g01219/laws.FnExactWordLengthOf", spec := "fnExactWordLengthOf", inPlace := ["internal/bytealg.Compare"], plainKeys := false, apart := false, narrowed := true }
def FnExactWordLengthOfUptoSaid : Prop := fnExactWordLengthOfUptoRow.holds Try.pinned (OpenSpec.upto fnExactWordLengthOfSpec)

/-- 'laws.FnExactRanksOf', WHERE WHAT IT READS IS OF BULK AT MOST 1048576: true; the input reads as it did. -/
def fnExactRanksOfUptoRow : OpenClaim := { program := "ytikldofmpkidbaa", sum := "961bca678ad21e2e969db42df2dd32d5e433710d50ae755f5b3c7b7d9a8eabdd", func := "loop.example/g01219/laws.FnExactRanksOf", spec := "fnExactRanksOf", inPlace := ["internal/bytealg.Compare"], plainKeys := false, apart := false, narrowed := true }
def FnExactRanksOfUptoSaid : Prop := fnExactRanksOfUptoRow.holds Try.pinned (OpenSpec.upto fnExactRanksOfSpec)

/-- 'laws.FnExactLinearTable', WHERE WHAT IT READS IS OF BULK AT MOST 1048576: true; the input reads as it did. -/
def fnExactLinearTableUptoRow : OpenClaim := { program := "ytikldofmpkidbaa", sum := "961bca678ad21e2e969db42df2dd32d5e433710d50ae755f5b3c7b7d9a8eabdd", func := "loop.example/g01219/laws.FnExactLinearTable", spec := "fnExactLinearTable", inPlace := ["internal/bytealg.Compare"], plainKeys := false, apart := false, narrowed := true }
def FnExactLinearTableUptoSaid : Prop := fnExactLinearTableUptoRow.holds Try.pinned (OpenSpec.upto fnExactLinearTableSpec)

/-- 'laws.FnExactQuadraticParts', WHERE WHAT IT READS IS OF BULK AT MOST 1048576: true; the input reads as it did. -/
def fnExactQuadraticPartsUptoRow : OpenClaim := { program := "ytikldofmpkidbaa", sum := "961bca678ad21e2e969db42df2dd32d5e433710d50ae755f5b3c7b7d9a8eabdd", func := "loop.example/g01219/laws.FnExactQuadraticParts", spec := "fnExactQuadraticParts", inPlace := ["internal/bytealg.Compare"], plainKeys := false, apart := false, narrowed := true }
def FnExactQuadraticPartsUptoSaid : Prop := fnExactQuadraticPartsUptoRow.holds Try.pinned (OpenSpec.upto fnExactQuadraticPartsSpec)

/-- 'laws.FnExactFreeAlgebra', WHERE WHAT IT READS IS OF BULK AT MOST 1048576: true; the input reads as it did. -/
def fnExactFreeAlgebraUptoRow : OpenClaim := { program := "ytikldofmpkidbaa", sum := "961bca678ad21e2e969db42df2dd32d5e433710d50ae755f5b3c7b7d9a8eabdd", func := "loop.example/g01219/laws.FnExactFreeAlgebra", spec := "fnExactFreeAlgebra", plainKeys := false, apart := false, narrowed := true }
def FnExactFreeAlgebraUptoSaid : Prop := fnExactFreeAlgebraUptoRow.holds Try.pinned (OpenSpec.upto fnExactFreeAlgebraSpec)

/-- 'laws.FnExactFormalDimension', WHERE WHAT IT READS IS OF BULK AT MOST 1048576: true; the input reads as it did. -/
def fnExactFormalDimensionUptoRow : OpenClaim := { program := "ytikldofmpkidbaa", sum := "961bca678ad21e2e969db42df2dd32d5e433710d50ae755f5b3c7b7d9a8eabdd", func := "loop.example/g01219/laws.FnExactFormalDimension", spec := "fnExactFormalDimension", inPlace := ["internal/bytealg.Compare"], plainKeys := false, apart := false, narrowed := true }
def FnExactFormalDimensionUptoSaid : Prop := fnExactFormalDimensionUptoRow.holds Try.pinned (OpenSpec.upto fnExactFormalDimensionSpec)

end Rows
end Go.Proofs.Ytikldofmpkidbaa
