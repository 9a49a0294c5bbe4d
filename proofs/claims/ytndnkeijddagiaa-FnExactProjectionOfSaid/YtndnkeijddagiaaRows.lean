/-
  No cell of these rows narrows 'for every input' (looked for: loops, veiled, ifaces, maps, wideKeys, modest, calm, conditions, laid).
  DERIVED. THE GIVEN ROWS OF THIS SEAT. 11 by the template 'for every input the law returns true; each argument reads behind the call as it read before'; 0 by the template 'total and deterministic' (their statements: YtndnkeijddagiaaTotals.lean).
  GIVEN WITH THE SEED: the statements are not yours to turn. If you find one false, say at which input.
  Laid BY PROGRAM, IN A SANDBOX (cutbox-rows.mjs): the forced cells as the released guide's own fill.sh prints them over the translation 87db06380892f920… (all of the seat's roots in one cut). By AI agents, Wed Nov 11 2026. No macro, syntax, notation, axiom, sorry.
-/
import Derived.Test.YtndnkeijddagiaaChecked
import GoSem.Claim
import GoSem.ClaimJoined
import GoSem.ClaimMapViews
import Derived.JoinedTies
import Derived.KernelRfl
namespace Go.Proofs.Ytndnkeijddagiaa
/- THE CELL 'sum', in the pinned program and in every row, IS THE sha256 OF THE DUMP (.gsa) THAT YtndnkeijddagiaaProg.lean LOADS. Nothing in Lean hashes anything: it is a label: what it is worth is what the hold of that sum in a sandbox is worth. -/
noncomputable def Try.pinned : Pinned := { name := "ytndnkeijddagiaa", sum := "87db06380892f920e6c495f9a49afc5ca0a9e588f71f0f4b4f36b7c18e834c25", checked := Try.checked }
namespace Rows
def none {H : Type} : Left H := { results := [], args := [] }

/-- 'laws.FnExactQuadraticAlgebra': WHATEVER THE INPUT: true; the input reads as it did. -/
def fnExactQuadraticAlgebraSpec : ChangeSpec := { name := "fnExactQuadraticAlgebra", fn := fun _ => fun
  | [d] => { results := [.lit (.bool true)], args := [d] }
  | _ => none }
def fnExactQuadraticAlgebraRow : OpenClaim := { program := "ytndnkeijddagiaa", sum := "87db06380892f920e6c495f9a49afc5ca0a9e588f71f0f4b4f36b7c18e834c25", func := "loop.example/g01219/laws.FnExactQuadraticAlgebra", spec := "fnExactQuadraticAlgebra", inPlace := ["internal/bytealg.Compare"], plainKeys := false, apart := false }
def FnExactQuadraticAlgebraSaid : Prop := fnExactQuadraticAlgebraRow.holds Try.pinned (OpenSpec.ofChange fnExactQuadraticAlgebraSpec)

/-- ITS FALSE NEIGHBOUR: 'it returns false'. Refute it at one input. -/
def fnExactQuadraticAlgebraWrong : ChangeSpec := { name := "fnExactQuadraticAlgebra", fn := fun _ => fun
  | [d] => { results := [.lit (.bool false)], args := [d] }
  | _ => none }
def FnExactQuadraticAlgebraWrongFalsely : Prop := fnExactQuadraticAlgebraRow.holds Try.pinned (OpenSpec.ofChange fnExactQuadraticAlgebraWrong)

/-- 'laws.FnExactIsCoformal': WHATEVER THE INPUT: true; the input reads as it did. -/
def fnExactIsCoformalSpec : ChangeSpec := { name := "fnExactIsCoformal", fn := fun _ => fun
  | [d] => { results := [.lit (.bool true)], args := [d] }
  | _ => none }
def fnExactIsCoformalRow : OpenClaim := { program := "ytndnkeijddagiaa", sum := "87db06380892f920e6c495f9a49afc5ca0a9e588f71f0f4b4f36b7c18e834c25", func := "loop.example/g01219/laws.FnExactIsCoformal", spec := "fnExactIsCoformal", inPlace := ["internal/bytealg.Compare"], plainKeys := false, apart := false }
def FnExactIsCoformalSaid : Prop := fnExactIsCoformalRow.holds Try.pinned (OpenSpec.ofChange fnExactIsCoformalSpec)

/-- ITS FALSE NEIGHBOUR: 'it returns false'. Refute it at one input. -/
def fnExactIsCoformalWrong : ChangeSpec := { name := "fnExactIsCoformal", fn := fun _ => fun
  | [d] => { results := [.lit (.bool false)], args := [d] }
  | _ => none }
def FnExactIsCoformalWrongFalsely : Prop := fnExactIsCoformalRow.holds Try.pinned (OpenSpec.ofChange fnExactIsCoformalWrong)

/-- 'laws.FnExactIsPure': WHATEVER THE INPUT: true; the input reads as it did. -/
def fnExactIsPureSpec : ChangeSpec := { name := "fnExactIsPure", fn := fun _ => fun
  | [d] => { results := [.lit (.bool true)], args := [d] }
  | _ => none }
def fnExactIsPureRow : OpenClaim := { program := "ytndnkeijddagiaa", sum := "87db06380892f920e6c495f9a49afc5ca0a9e588f71f0f4b4f36b7c18e834c25", func := "loop.example/g01219/laws.FnExactIsPure", spec := "fnExactIsPure", inPlace := ["internal/bytealg.Compare"], unfollowed := true, recurses := true, plainKeys := false, apart := false }
def FnExactIsPureSaid : Prop := fnExactIsPureRow.holds Try.pinned (OpenSpec.ofChange fnExactIsPureSpec)

/-- ITS FALSE NEIGHBOUR: 'it returns false'. Refute it at one input. -/
def fnExactIsPureWrong : ChangeSpec := { name := "fnExactIsPure", fn := fun _ => fun
  | [d] => { results := [.lit (.bool false)], args := [d] }
  | _ => none }
def FnExactIsPureWrongFalsely : Prop := fnExactIsPureRow.holds Try.pinned (OpenSpec.ofChange fnExactIsPureWrong)

/-- 'laws.FnExactEulerOfGenerators': WHATEVER THE INPUT: true; the input reads as it did. -/
def fnExactEulerOfGeneratorsSpec : ChangeSpec := { name := "fnExactEulerOfGenerators", fn := fun _ => fun
  | [d] => { results := [.lit (.bool true)], args := [d] }
  | _ => none }
def fnExactEulerOfGeneratorsRow : OpenClaim := { program := "ytndnkeijddagiaa", sum := "87db06380892f920e6c495f9a49afc5ca0a9e588f71f0f4b4f36b7c18e834c25", func := "loop.example/g01219/laws.FnExactEulerOfGenerators", spec := "fnExactEulerOfGenerators", inPlace := ["internal/bytealg.Compare"], plainKeys := false, apart := false }
def FnExactEulerOfGeneratorsSaid : Prop := fnExactEulerOfGeneratorsRow.holds Try.pinned (OpenSpec.ofChange fnExactEulerOfGeneratorsSpec)

/-- ITS FALSE NEIGHBOUR: 'it returns false'. Refute it at one input. -/
def fnExactEulerOfGeneratorsWrong : ChangeSpec := { name := "fnExactEulerOfGenerators", fn := fun _ => fun
  | [d] => { results := [.lit (.bool false)], args := [d] }
  | _ => none }
def FnExactEulerOfGeneratorsWrongFalsely : Prop := fnExactEulerOfGeneratorsRow.holds Try.pinned (OpenSpec.ofChange fnExactEulerOfGeneratorsWrong)

/-- 'laws.FnExactWithGenerator': WHATEVER THE INPUT: true; the input reads as it did. -/
def fnExactWithGeneratorSpec : ChangeSpec := { name := "fnExactWithGenerator", fn := fun _ => fun
  | [d1, d2, d3] => { results := [.lit (.bool true)], args := [d1, d2, d3] }
  | _ => none }
def fnExactWithGeneratorRow : OpenClaim := { program := "ytndnkeijddagiaa", sum := "87db06380892f920e6c495f9a49afc5ca0a9e588f71f0f4b4f36b7c18e834c25", func := "loop.example/g01219/laws.FnExactWithGenerator", spec := "fnExactWithGenerator", inPlace := ["internal/bytealg.Compare"], plainKeys := false, apart := false }
def FnExactWithGeneratorSaid : Prop := fnExactWithGeneratorRow.holds Try.pinned (OpenSpec.ofChange fnExactWithGeneratorSpec)

/-- ITS FALSE NEIGHBOUR: 'it returns false'. Refute it at one input. -/
def fnExactWithGeneratorWrong : ChangeSpec := { name := "fnExactWithGenerator", fn := fun _ => fun
  | [d1, d2, d3] => { results := [.lit (.bool false)], args := [d1, d2, d3] }
  | _ => none }
def FnExactWithGeneratorWrongFalsely : Prop := fnExactWithGeneratorRow.holds Try.pinned (OpenSpec.ofChange fnExactWithGeneratorWrong)

/-- 'laws.FnExactProductOfAlgebras': WHATEVER THE INPUT: true; the input reads as it did. -/
def fnExactProductOfAlgebrasSpec : ChangeSpec := { name := "fnExactProductOfAlgebras", fn := fun _ => fun
  | [d1, d2] => { results := [.lit (.bool true)], args := [d1, d2] }
  | _ => none }
def fnExactProductOfAlgebrasRow : OpenClaim := { program := "ytndnkeijddagiaa", sum := "87db06380892f920e6c495f9a49afc5ca0a9e588f71f0f4b4f36b7c18e834c25", func := "loop.example/g01219/laws.FnExactProductOfAlgebras", spec := "fnExactProductOfAlgebras", inPlace := ["internal/bytealg.Compare"], plainKeys := false, apart := false }
def FnExactProductOfAlgebrasSaid : Prop := fnExactProductOfAlgebrasRow.holds Try.pinned (OpenSpec.ofChange fnExactProductOfAlgebrasSpec)

/-- ITS FALSE NEIGHBOUR: 'it returns false'. Refute it at one input. -/
def fnExactProductOfAlgebrasWrong : ChangeSpec := { name := "fnExactProductOfAlgebras", fn := fun _ => fun
  | [d1, d2] => { results := [.lit (.bool false)], args := [d1, d2] }
  | _ => none }
def FnExactProductOfAlgebrasWrongFalsely : Prop := fnExactProductOfAlgebrasRow.holds Try.pinned (OpenSpec.ofChange fnExactProductOfAlgebrasWrong)

/-- 'laws.FnExactIdentityMap': WHATEVER THE INPUT: true; the input reads as it did. -/
def fnExactIdentityMapSpec : ChangeSpec := { name := "fnExactIdentityMap", fn := fun _ => fun
  | [d] => { results := [.lit (.bool true)], args := [d] }
  | _ => none }
def fnExactIdentityMapRow : OpenClaim := { program := "ytndnkeijddagiaa", sum := "87db06380892f920e6c495f9a49afc5ca0a9e588f71f0f4b4f36b7c18e834c25", func := "loop.example/g01219/laws.FnExactIdentityMap", spec := "fnExactIdentityMap", inPlace := ["internal/bytealg.Compare"], plainKeys := false, apart := false }
def FnExactIdentityMapSaid : Prop := fnExactIdentityMapRow.holds Try.pinned (OpenSpec.ofChange fnExactIdentityMapSpec)

/-- ITS FALSE NEIGHBOUR: 'it returns false'. Refute it at one input. -/
def fnExactIdentityMapWrong : ChangeSpec := { name := "fnExactIdentityMap", fn := fun _ => fun
  | [d] => { results := [.lit (.bool false)], args := [d] }
  | _ => none }
def FnExactIdentityMapWrongFalsely : Prop := fnExactIdentityMapRow.holds Try.pinned (OpenSpec.ofChange fnExactIdentityMapWrong)

/-- 'laws.FnExactInclusionOf': WHATEVER THE INPUT: true; the input reads as it did. -/
def fnExactInclusionOfSpec : ChangeSpec := { name := "fnExactInclusionOf", fn := fun _ => fun
  | [d1, d2, d3] => { results := [.lit (.bool true)], args := [d1, d2, d3] }
  | _ => none }
def fnExactInclusionOfRow : OpenClaim := { program := "ytndnkeijddagiaa", sum := "87db06380892f920e6c495f9a49afc5ca0a9e588f71f0f4b4f36b7c18e834c25", func := "loop.example/g01219/laws.FnExactInclusionOf", spec := "fnExactInclusionOf", inPlace := ["internal/bytealg.Compare"], plainKeys := false, apart := false }
def FnExactInclusionOfSaid : Prop := fnExactInclusionOfRow.holds Try.pinned (OpenSpec.ofChange fnExactInclusionOfSpec)

/-- ITS FALSE NEIGHBOUR: 'it returns false'. Refute it at one input. -/
def fnExactInclusionOfWrong : ChangeSpec := { name := "fnExactInclusionOf", fn := fun _ => fun
  | [d1, d2, d3] => { results := [.lit (.bool false)], args := [d1, d2, d3] }
  | _ => none }
def FnExactInclusionOfWrongFalsely : Prop := fnExactInclusionOfRow.holds Try.pinned (OpenSpec.ofChange fnExactInclusionOfWrong)

/-- 'laws.FnExactProjectionOf': WHATEVER THE INPUT: true; the input reads as it did. -/
def fnExactProjectionOfSpec : ChangeSpec := { name := "fnExactProjectionOf", fn := fun _ => fun
  | [d1, d2, d3] => { results := [.lit (.bool true)], args := [d1, d2, d3] }
  | _ => none }
def fnExactProjectionOfRow : OpenClaim := { program := "ytndnkeijddagiaa", sum := "87db06380892f920e6c495f9a49afc5ca0a9e588f71f0f4b4f36b7c18e834c25", func := "loop.example/g01219/laws.FnExactProjectionOf", spec := "fnExactProjectionOf", inPlace := ["internal/bytealg.Compare"], plainKeys := false, apart := false }
def FnExactProjectionOfSaid : Prop := fnExactProjectionOfRow.holds Try.pinned (OpenSpec.ofChange fnExactProjectionOfSpec)

/-- ITS FALSE NEIGHBOUR: 'it returns false'. Refute it at one input. -/
def fnExactProjectionOfWrong : ChangeSpec := { name := "fnExactProjectionOf", fn := fun _ => fun
  | [d1, d2, d3] => { results := [.lit (.bool false)], args := [d1, d2, d3] }
  | _ => none }
def FnExactProjectionOfWrongFalsely : Prop := fnExactProjectionOfRow.holds Try.pinned (OpenSpec.ofChange fnExactProjectionOfWrong)

/-- 'laws.FnExactFirstPair': WHATEVER THE INPUT: true; the input reads as it did. -/
def fnExactFirstPairSpec : ChangeSpec := { name := "fnExactFirstPair", fn := fun _ => fun
  | [d] => { results := [.lit (.bool true)], args := [d] }
  | _ => none }
def fnExactFirstPairRow : OpenClaim := { program := "ytndnkeijddagiaa", sum := "87db06380892f920e6c495f9a49afc5ca0a9e588f71f0f4b4f36b7c18e834c25", func := "loop.example/g01219/laws.FnExactFirstPair", spec := "fnExactFirstPair", inPlace := ["internal/bytealg.Compare"], plainKeys := false, apart := false }
def FnExactFirstPairSaid : Prop := fnExactFirstPairRow.holds Try.pinned (OpenSpec.ofChange fnExactFirstPairSpec)

/-- ITS FALSE NEIGHBOUR: 'it returns false'. Refute it at one input. -/
def fnExactFirstPairWrong : ChangeSpec := { name := "fnExactFirstPair", fn := fun _ => fun
  | [d] => { results := [.lit (.bool false)], args := [d] }
  | _ => none }
def FnExactFirstPairWrongFalsely : Prop := fnExactFirstPairRow.holds Try.pinned (OpenSpec.ofChange fnExactFirstPairWrong)

/-- 'laws.FnExactSubAlgebra': WHATEVER THE INPUT: true; the input reads as it did. -/
def fnExactSubAlgebraSpec : ChangeSpec := { name := "fnExactSubAlgebra", fn := fun _ => fun
  | [d1, d2] => { results := [.lit (.bool true)], args := [d1, d2] }
  | _ => none }
def fnExactSubAlgebraRow : OpenClaim := { program := "ytndnkeijddagiaa", sum := "87db06380892f920e6c495f9a49afc5ca0a9e588f71f0f4b4f36b7c18e834c25", func := "loop.example/g01219/laws.FnExactSubAlgebra", spec := "fnExactSubAlgebra", inPlace := ["internal/bytealg.Compare"], unfollowed := true, recurses := true, plainKeys := false, apart := false }
def FnExactSubAlgebraSaid : Prop := fnExactSubAlgebraRow.holds Try.pinned (OpenSpec.ofChange fnExactSubAlgebraSpec)

/-- ITS FALSE NEIGHBOUR: 'it returns false'. Refute it at one input. -/
def fnExactSubAlgebraWrong : ChangeSpec := { name := "fnExactSubAlgebra", fn := fun _ => fun
  | [d1, d2] => { results := [.lit (.bool false)], args := [d1, d2] }
  | _ => none }
def FnExactSubAlgebraWrongFalsely : Prop := fnExactSubAlgebraRow.holds Try.pinned (OpenSpec.ofChange fnExactSubAlgebraWrong)

/- THE SECOND FORM. 'bulk': how many values and letters a reading holds, each counted each time it is reached (what is shared counts as often as it is met; a slice's spare places count too). A statement '..UptoSaid' is the law's where the arguments, and the package variables that the reading takes, are together of bulk at most 1048576: NARROWER than '..Said'. Prove '..Said' where nothing that the law and all that it calls make is longer than what came in: it says more and counts as full. Else prove '..UptoSaid'. A law counts once. -/
mutual
def uptoBulk {H : Type} : DataW H → Nat
  | .lit (.string bytes) => bytes.length + 1
  | .lit _ => 1
  | .nil => 1
  | .ptr d => uptoBulk d + 1
  | .slice elems spare => uptoBulkAll elems + uptoBulkAll spare + 1
  | .agg parts => uptoBulkAll parts + 1
  | .iface _ d => uptoBulk d + 1
  | .map entries => uptoBulkEntries entries + 1
  | .held _ => 1
def uptoBulkAll {H : Type} : List (DataW H) → Nat
  | [] => 0
  | d :: r => uptoBulk d + uptoBulkAll r
def uptoBulkEntries {H : Type} : List (Lit × DataW H) → Nat
  | [] => 0
  | x :: r => uptoBulkEntry x + uptoBulkEntries r
def uptoBulkEntry {H : Type} : Lit × DataW H → Nat
  | (.string bytes, d) => bytes.length + uptoBulk d + 1
  | (_, d) => uptoBulk d + 1
 end
def uptoSmall : (H : Type) → List (DataW H) → Bool := fun _ ds => decide (uptoBulkAll ds ≤ 1048576)
def OpenSpec.upto (s : _root_.Go.ChangeSpec) : _root_.Go.OpenSpec := { _root_.Go.OpenSpec.ofChange s with cond := some uptoSmall }

/-- 'laws.FnExactQuadraticAlgebra', WHERE WHAT IT READS IS OF BULK AT MOST 1048576: true; the input reads as it did. -/
def fnExactQuadraticAlgebraUptoRow : OpenClaim := { program := "ytndnkeijddagiaa", sum := "87db06380892f920e6c495f9a49afc5ca0a9e588f71f0f4b4f36b7c18e834c25", func := "loop.example/g01219/laws.FnExactQuadraticAlgebra", spec := "fnExactQuadraticAlgebra", inPlace := ["internal/bytealg.Compare"], plainKeys := false, apart := false, narrowed := true }
def FnExactQuadraticAlgebraUptoSaid : Prop := fnExactQuadraticAlgebraUptoRow.holds Try.pinned (OpenSpec.upto fnExactQuadraticAlgebraSpec)

/-- 'laws.FnExactIsCoformal', WHERE WHAT IT READS IS OF BULK AT MOST 1048576: true; the input reads as it did. -/
def fnExactIsCoformalUptoRow : OpenClaim := { program := "ytndnkeijddagiaa", sum := "87db06380892f920e6c495f9a49afc5ca0a9e588f71f0f4b4f36b7c18e834c25", func := "loop.example/g01219/laws.FnExactIsCoformal", spec := "fnExactIsCoformal", inPlace := ["internal/bytealg.Compare"], plainKeys := false, apart := false, narrowed := true }
def FnExactIsCoformalUptoSaid : Prop := fnExactIsCoformalUptoRow.holds Try.pinned (OpenSpec.upto fnExactIsCoformalSpec)

/-- 'laws.FnExactIsPure', WHERE WHAT IT READS IS OF BULK AT MOST 1048576: true; the input reads as it did. -/
def fnExactIsPureUptoRow : OpenClaim := { program := "ytndnkeijddagiaa", sum := "87db06380892f920e6c495f9a49afc5ca0a9e588f71f0f4b4f36b7c18e834c25", func := "loop.example/g01219/laws.FnExactIsPure", spec := "fnExactIsPure", inPlace := ["internal/bytealg.Compare"], unfollowed := true, recurses := true, plainKeys := false, apart := false, narrowed := true }
def FnExactIsPureUptoSaid : Prop := fnExactIsPureUptoRow.holds Try.pinned (OpenSpec.upto fnExactIsPureSpec)

/-- 'laws.FnExactEulerOfGenerators', WHERE WHAT IT READS IS OF BULK AT MOST 1048576: true; the input reads as it did. -/
def fnExactEulerOfGeneratorsUptoRow : OpenClaim := { program := "ytndnkeijddagiaa", sum := "87db06380892f920e6c495f9a49afc5ca0a9e588f71f0f4b4f36b7c18e834c25", func := "loop.example/g01219/laws.FnExactEulerOfGenerators", spec := "fnExactEulerOfGenerators", inPlace := ["internal/bytealg.Compare"], plainKeys := false, apart := false, narrowed := true }
def FnExactEulerOfGeneratorsUptoSaid : Prop := fnExactEulerOfGeneratorsUptoRow.holds Try.pinned (OpenSpec.upto fnExactEulerOfGeneratorsSpec)

/-- 'laws.FnExactWithGenerator', WHERE WHAT IT READS IS OF BULK AT MOST 1048576: true; the input reads as it did. -/
def fnExactWithGeneratorUptoRow : OpenClaim := { program := "ytndnkeijddagiaa", sum := "87db06380892f920e6c495f9a49afc5ca0a9e588f71f0f4b4f36b7c18e834c25", func := "loop.example/g01219/laws.FnExactWithGenerator", spec := "fnExactWithGenerator", inPlace := ["internal/bytealg.Compare"], plainKeys := false, apart := false, narrowed := true }
def FnExactWithGeneratorUptoSaid : Prop := fnExactWithGeneratorUptoRow.holds Try.pinned (OpenSpec.upto fnExactWithGeneratorSpec)

/-- 'laws.FnExactProductOfAlgebras', WHERE WHAT IT READS IS OF BULK AT MOST 1048576: true; the input reads as it did. -/
def fnExactProductOfAlgebrasUptoRow : OpenClaim := { program := "ytndnkeijddagiaa", sum := "87db06380892f920e6c495f9a49afc5ca0a9e588f71f0f4b4f36b7c18e834c25", func := "loop.example/g01219/laws.FnExactProductOfAlgebras", spec := "fnExactProductOfAlgebras", inPlace := ["internal/bytealg.Compare"], plainKeys := false, apart := false, narrowed := true }
def FnExactProductOfAlgebrasUptoSaid : Prop := fnExactProductOfAlgebrasUptoRow.holds Try.pinned (OpenSpec.upto fnExactProductOfAlgebrasSpec)

/-- 'laws.FnExactIdentityMap', WHERE WHAT IT READS IS OF BULK AT MOST 1048576: true; the input reads as it did. -/
def fnExactIdentityMapUptoRow : OpenClaim := { program := "ytndnkeijddagiaa", sum := "87db06380892f920e6c495f9a49afc5ca0a9e588f71f0f4b4f36b7c18e834c25", func := "loop.example/g01219/laws.FnExactIdentityMap", spec := "fnExactIdentityMap", inPlace := ["internal/bytealg.Compare"], plainKeys := false, apart := false, narrowed := true }
def FnExactIdentityMapUptoSaid : Prop := fnExactIdentityMapUptoRow.holds Try.pinned (OpenSpec.upto fnExactIdentityMapSpec)

/-- 'laws.FnExactInclusionOf', WHERE WHAT IT READS IS OF BULK AT MOST 1048576: true; the input reads as it did. -/
def fnExactInclusionOfUptoRow : OpenClaim := { program := "ytndnkeijddagiaa", sum := "87db06380892f920e6c495f9a49afc5ca0a9e588f71f0f4b4f36b7c18e834c25", func := "loop.example/g01219/laws.FnExactInclusionOf", spec := "fnExactInclusionOf", inPlace := ["internal/bytealg.Compare"], plainKeys := false, apart := false, narrowed := true }
def FnExactInclusionOfUptoSaid : Prop := fnExactInclusionOfUptoRow.holds Try.pinned (OpenSpec.upto fnExactInclusionOfSpec)

/-- 'laws.FnExactProjectionOf', WHERE WHAT IT READS IS OF BULK AT MOST 1048576: true; the input reads as it did. -/
def fnExactProjectionOfUptoRow : OpenClaim := { program := "ytndnkeijddagiaa", sum := "87db06380892f920e6c495f9a49afc5ca0a9e588f71f0f4b4f36b7c18e834c25", func := "loop.example/g01219/laws.FnExactProjectionOf", spec := "fnExactProjectionOf", inPlace := ["internal/bytealg.Compare"], plainKeys := false, apart := false, narrowed := true }
def FnExactProjectionOfUptoSaid : Prop := fnExactProjectionOfUptoRow.holds Try.pinned (OpenSpec.upto fnExactProjectionOfSpec)

/-- 'laws.FnExactFirstPair', WHERE WHAT IT READS IS OF BULK AT MOST 1048576: true; the input reads as it did. -/
def fnExactFirstPairUptoRow : OpenClaim := { program := "ytndnkeijddagiaa", sum := "87db06380892f920e6c495f9a49afc5ca0a9e588f71f0f4b4f36b7c18e834c25", func := "loop.example/g01219/laws.FnExactFirstPair", spec := "fnExactFirstPair", inPlace := ["internal/bytealg.Compare"], plainKeys := false, apart := false, narrowed := true }
def FnExactFirstPairUptoSaid : Prop := fnExactFirstPairUptoRow.holds Try.pinned (OpenSpec.upto fnExactFirstPairSpec)

/-- 'laws.FnExactSubAlgebra', WHERE WHAT IT READS IS OF BULK AT MOST 1048576: true; the input reads as it did. -/
def fnExactSubAlgebraUptoRow : OpenClaim := { program := "ytndnkeijddagiaa", sum := "87db06380892f920e6c495f9a49afc5ca0a9e588f71f0f4b4f36b7c18e834c25", func := "loop.example/g01219/laws.FnExactSubAlgebra", spec := "fnExactSubAlgebra", inPlace := ["internal/bytealg.Compare"], unfollowed := true, recurses := true, plainKeys := false, apart := false, narrowed := true }
def FnExactSubAlgebraUptoSaid : Prop := fnExactSubAlgebraUptoRow.holds Try.pinned (OpenSpec.upto fnExactSubAlgebraSpec)

end Rows
end Go.Proofs.Ytndnkeijddagiaa
