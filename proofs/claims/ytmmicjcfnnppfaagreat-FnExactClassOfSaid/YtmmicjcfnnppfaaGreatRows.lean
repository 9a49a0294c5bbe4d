/-
  No cell of these rows narrows 'for every input' (looked for: loops, veiled, ifaces, maps, wideKeys, modest, calm, conditions, laid).
  DERIVED. THE GIVEN ROWS OF THIS SEAT. 10 by the template 'for every input the law returns true; each argument reads behind the call as it read before'; 0 by the template 'total and deterministic' (their statements: YtmmicjcfnnppfaaGreatTotals.lean).
  GIVEN WITH THE SEED: the statements are not yours to turn. If you find one false, say at which input.
  Laid BY PROGRAM, IN A SANDBOX (cutbox-rows.mjs): the forced cells as the released guide's own fill.sh prints them over the translation 7871329e944633f2… (all of the seat's roots in one cut). By AI agents, Wed Nov 11 2026. No macro, syntax, notation, axiom, sorry.
-/
import Derived.Test.YtmmicjcfnnppfaaGreatChecked
import GoSem.Claim
import GoSem.ClaimJoined
import GoSem.ClaimMapViews
import Derived.JoinedTies
import Derived.KernelRfl
namespace Go.Proofs.YtmmicjcfnnppfaaGreat
/- THE CELL 'sum', in the pinned program and in every row, IS THE sha256 OF THE DUMP (.gsa) THAT YtmmicjcfnnppfaaGreatProg.lean LOADS. Nothing in Lean hashes anything: it is a label: what it is worth is what the hold of that sum in a sandbox is worth. -/
noncomputable def Tryz.pinned : Pinned := { name := "ytmmicjcfnnppfaagreat", sum := "7871329e944633f2c85f1e6a918eabc85848fc9c26d797f9a974841f85733f6f", checked := Tryz.checked }
namespace Rows
def none {H : Type} : Left H := { results := [], args := [] }

/-- 'laws.FnExactClosedForms': WHATEVER THE INPUT: true; the input reads as it did. -/
def fnExactClosedFormsSpec : ChangeSpec := { name := "fnExactClosedForms", fn := fun _ => fun
  | [d1, d2] => { results := [.lit (.bool true)], args := [d1, d2] }
  | _ => none }
def fnExactClosedFormsRow : OpenClaim := { program := "ytmmicjcfnnppfaagreat", sum := "7871329e944633f2c85f1e6a918eabc85848fc9c26d797f9a974841f85733f6f", func := "loop.example/g01219/laws.FnExactClosedForms", spec := "fnExactClosedForms", inPlace := ["internal/bytealg.Compare"], unfollowed := true, recurses := true, plainKeys := false, apart := false }
def FnExactClosedFormsSaid : Prop := fnExactClosedFormsRow.holds Tryz.pinned (OpenSpec.ofChange fnExactClosedFormsSpec)

/-- ITS FALSE NEIGHBOUR: 'it returns false'. Refute it at one input. -/
def fnExactClosedFormsWrong : ChangeSpec := { name := "fnExactClosedForms", fn := fun _ => fun
  | [d1, d2] => { results := [.lit (.bool false)], args := [d1, d2] }
  | _ => none }
def FnExactClosedFormsWrongFalsely : Prop := fnExactClosedFormsRow.holds Tryz.pinned (OpenSpec.ofChange fnExactClosedFormsWrong)

/-- 'laws.FnExactBoundaryForms': WHATEVER THE INPUT: true; the input reads as it did. -/
def fnExactBoundaryFormsSpec : ChangeSpec := { name := "fnExactBoundaryForms", fn := fun _ => fun
  | [d1, d2] => { results := [.lit (.bool true)], args := [d1, d2] }
  | _ => none }
def fnExactBoundaryFormsRow : OpenClaim := { program := "ytmmicjcfnnppfaagreat", sum := "7871329e944633f2c85f1e6a918eabc85848fc9c26d797f9a974841f85733f6f", func := "loop.example/g01219/laws.FnExactBoundaryForms", spec := "fnExactBoundaryForms", inPlace := ["internal/bytealg.Compare"], unfollowed := true, recurses := true, plainKeys := false, apart := false }
def FnExactBoundaryFormsSaid : Prop := fnExactBoundaryFormsRow.holds Tryz.pinned (OpenSpec.ofChange fnExactBoundaryFormsSpec)

/-- ITS FALSE NEIGHBOUR: 'it returns false'. Refute it at one input. -/
def fnExactBoundaryFormsWrong : ChangeSpec := { name := "fnExactBoundaryForms", fn := fun _ => fun
  | [d1, d2] => { results := [.lit (.bool false)], args := [d1, d2] }
  | _ => none }
def FnExactBoundaryFormsWrongFalsely : Prop := fnExactBoundaryFormsRow.holds Tryz.pinned (OpenSpec.ofChange fnExactBoundaryFormsWrong)

/-- 'laws.FnExactClassForms': WHATEVER THE INPUT: true; the input reads as it did. -/
def fnExactClassFormsSpec : ChangeSpec := { name := "fnExactClassForms", fn := fun _ => fun
  | [d1, d2] => { results := [.lit (.bool true)], args := [d1, d2] }
  | _ => none }
def fnExactClassFormsRow : OpenClaim := { program := "ytmmicjcfnnppfaagreat", sum := "7871329e944633f2c85f1e6a918eabc85848fc9c26d797f9a974841f85733f6f", func := "loop.example/g01219/laws.FnExactClassForms", spec := "fnExactClassForms", inPlace := ["internal/bytealg.Compare"], unfollowed := true, recurses := true, plainKeys := false, apart := false }
def FnExactClassFormsSaid : Prop := fnExactClassFormsRow.holds Tryz.pinned (OpenSpec.ofChange fnExactClassFormsSpec)

/-- ITS FALSE NEIGHBOUR: 'it returns false'. Refute it at one input. -/
def fnExactClassFormsWrong : ChangeSpec := { name := "fnExactClassForms", fn := fun _ => fun
  | [d1, d2] => { results := [.lit (.bool false)], args := [d1, d2] }
  | _ => none }
def FnExactClassFormsWrongFalsely : Prop := fnExactClassFormsRow.holds Tryz.pinned (OpenSpec.ofChange fnExactClassFormsWrong)

/-- 'laws.FnExactClassOf': WHATEVER THE INPUT: true; the input reads as it did. -/
def fnExactClassOfSpec : ChangeSpec := { name := "fnExactClassOf", fn := fun _ => fun
  | [d1, d2] => { results := [.lit (.bool true)], args := [d1, d2] }
  | _ => none }
def fnExactClassOfRow : OpenClaim := { program := "ytmmicjcfnnppfaagreat", sum := "7871329e944633f2c85f1e6a918eabc85848fc9c26d797f9a974841f85733f6f", func := "loop.example/g01219/laws.FnExactClassOf", spec := "fnExactClassOf", inPlace := ["internal/bytealg.Compare"], unfollowed := true, recurses := true, plainKeys := false, apart := false }
def FnExactClassOfSaid : Prop := fnExactClassOfRow.holds Tryz.pinned (OpenSpec.ofChange fnExactClassOfSpec)

/-- ITS FALSE NEIGHBOUR: 'it returns false'. Refute it at one input. -/
def fnExactClassOfWrong : ChangeSpec := { name := "fnExactClassOf", fn := fun _ => fun
  | [d1, d2] => { results := [.lit (.bool false)], args := [d1, d2] }
  | _ => none }
def FnExactClassOfWrongFalsely : Prop := fnExactClassOfRow.holds Tryz.pinned (OpenSpec.ofChange fnExactClassOfWrong)

/-- 'laws.FnExactIsBoundary': WHATEVER THE INPUT: true; the input reads as it did. -/
def fnExactIsBoundarySpec : ChangeSpec := { name := "fnExactIsBoundary", fn := fun _ => fun
  | [d1, d2] => { results := [.lit (.bool true)], args := [d1, d2] }
  | _ => none }
def fnExactIsBoundaryRow : OpenClaim := { program := "ytmmicjcfnnppfaagreat", sum := "7871329e944633f2c85f1e6a918eabc85848fc9c26d797f9a974841f85733f6f", func := "loop.example/g01219/laws.FnExactIsBoundary", spec := "fnExactIsBoundary", inPlace := ["internal/bytealg.Compare"], unfollowed := true, recurses := true, plainKeys := false, apart := false }
def FnExactIsBoundarySaid : Prop := fnExactIsBoundaryRow.holds Tryz.pinned (OpenSpec.ofChange fnExactIsBoundarySpec)

/-- ITS FALSE NEIGHBOUR: 'it returns false'. Refute it at one input. -/
def fnExactIsBoundaryWrong : ChangeSpec := { name := "fnExactIsBoundary", fn := fun _ => fun
  | [d1, d2] => { results := [.lit (.bool false)], args := [d1, d2] }
  | _ => none }
def FnExactIsBoundaryWrongFalsely : Prop := fnExactIsBoundaryRow.holds Tryz.pinned (OpenSpec.ofChange fnExactIsBoundaryWrong)

/-- 'laws.FnExactPrimitiveOf': WHATEVER THE INPUT: true; the input reads as it did. -/
def fnExactPrimitiveOfSpec : ChangeSpec := { name := "fnExactPrimitiveOf", fn := fun _ => fun
  | [d1, d2] => { results := [.lit (.bool true)], args := [d1, d2] }
  | _ => none }
def fnExactPrimitiveOfRow : OpenClaim := { program := "ytmmicjcfnnppfaagreat", sum := "7871329e944633f2c85f1e6a918eabc85848fc9c26d797f9a974841f85733f6f", func := "loop.example/g01219/laws.FnExactPrimitiveOf", spec := "fnExactPrimitiveOf", inPlace := ["internal/bytealg.Compare"], unfollowed := true, recurses := true, plainKeys := false, apart := false }
def FnExactPrimitiveOfSaid : Prop := fnExactPrimitiveOfRow.holds Tryz.pinned (OpenSpec.ofChange fnExactPrimitiveOfSpec)

/-- ITS FALSE NEIGHBOUR: 'it returns false'. Refute it at one input. -/
def fnExactPrimitiveOfWrong : ChangeSpec := { name := "fnExactPrimitiveOf", fn := fun _ => fun
  | [d1, d2] => { results := [.lit (.bool false)], args := [d1, d2] }
  | _ => none }
def FnExactPrimitiveOfWrongFalsely : Prop := fnExactPrimitiveOfRow.holds Tryz.pinned (OpenSpec.ofChange fnExactPrimitiveOfWrong)

/-- 'laws.FnExactScaleGenerator': WHATEVER THE INPUT: true; the input reads as it did. -/
def fnExactScaleGeneratorSpec : ChangeSpec := { name := "fnExactScaleGenerator", fn := fun _ => fun
  | [d1, d2, d3] => { results := [.lit (.bool true)], args := [d1, d2, d3] }
  | _ => none }
def fnExactScaleGeneratorRow : OpenClaim := { program := "ytmmicjcfnnppfaagreat", sum := "7871329e944633f2c85f1e6a918eabc85848fc9c26d797f9a974841f85733f6f", func := "loop.example/g01219/laws.FnExactScaleGenerator", spec := "fnExactScaleGenerator", inPlace := ["internal/bytealg.Compare"], unfollowed := true, recurses := true, plainKeys := false, apart := false }
def FnExactScaleGeneratorSaid : Prop := fnExactScaleGeneratorRow.holds Tryz.pinned (OpenSpec.ofChange fnExactScaleGeneratorSpec)

/-- ITS FALSE NEIGHBOUR: 'it returns false'. Refute it at one input. -/
def fnExactScaleGeneratorWrong : ChangeSpec := { name := "fnExactScaleGenerator", fn := fun _ => fun
  | [d1, d2, d3] => { results := [.lit (.bool false)], args := [d1, d2, d3] }
  | _ => none }
def FnExactScaleGeneratorWrongFalsely : Prop := fnExactScaleGeneratorRow.holds Tryz.pinned (OpenSpec.ofChange fnExactScaleGeneratorWrong)

/-- 'laws.FnExactExchangeGenerators': WHATEVER THE INPUT: true; the input reads as it did. -/
def fnExactExchangeGeneratorsSpec : ChangeSpec := { name := "fnExactExchangeGenerators", fn := fun _ => fun
  | [d1, d2] => { results := [.lit (.bool true)], args := [d1, d2] }
  | _ => none }
def fnExactExchangeGeneratorsRow : OpenClaim := { program := "ytmmicjcfnnppfaagreat", sum := "7871329e944633f2c85f1e6a918eabc85848fc9c26d797f9a974841f85733f6f", func := "loop.example/g01219/laws.FnExactExchangeGenerators", spec := "fnExactExchangeGenerators", inPlace := ["internal/bytealg.Compare"], unfollowed := true, recurses := true, plainKeys := false, apart := false }
def FnExactExchangeGeneratorsSaid : Prop := fnExactExchangeGeneratorsRow.holds Tryz.pinned (OpenSpec.ofChange fnExactExchangeGeneratorsSpec)

/-- ITS FALSE NEIGHBOUR: 'it returns false'. Refute it at one input. -/
def fnExactExchangeGeneratorsWrong : ChangeSpec := { name := "fnExactExchangeGenerators", fn := fun _ => fun
  | [d1, d2] => { results := [.lit (.bool false)], args := [d1, d2] }
  | _ => none }
def FnExactExchangeGeneratorsWrongFalsely : Prop := fnExactExchangeGeneratorsRow.holds Tryz.pinned (OpenSpec.ofChange fnExactExchangeGeneratorsWrong)

/-- 'laws.FnExactSortGenerators': WHATEVER THE INPUT: true; the input reads as it did. -/
def fnExactSortGeneratorsSpec : ChangeSpec := { name := "fnExactSortGenerators", fn := fun _ => fun
  | [d] => { results := [.lit (.bool true)], args := [d] }
  | _ => none }
def fnExactSortGeneratorsRow : OpenClaim := { program := "ytmmicjcfnnppfaagreat", sum := "7871329e944633f2c85f1e6a918eabc85848fc9c26d797f9a974841f85733f6f", func := "loop.example/g01219/laws.FnExactSortGenerators", spec := "fnExactSortGenerators", inPlace := ["internal/bytealg.Compare"], unfollowed := true, recurses := true, plainKeys := false, apart := false }
def FnExactSortGeneratorsSaid : Prop := fnExactSortGeneratorsRow.holds Tryz.pinned (OpenSpec.ofChange fnExactSortGeneratorsSpec)

/-- ITS FALSE NEIGHBOUR: 'it returns false'. Refute it at one input. -/
def fnExactSortGeneratorsWrong : ChangeSpec := { name := "fnExactSortGenerators", fn := fun _ => fun
  | [d] => { results := [.lit (.bool false)], args := [d] }
  | _ => none }
def FnExactSortGeneratorsWrongFalsely : Prop := fnExactSortGeneratorsRow.holds Tryz.pinned (OpenSpec.ofChange fnExactSortGeneratorsWrong)

/-- 'laws.FnExactDropGenerator': WHATEVER THE INPUT: true; the input reads as it did. -/
def fnExactDropGeneratorSpec : ChangeSpec := { name := "fnExactDropGenerator", fn := fun _ => fun
  | [d1, d2] => { results := [.lit (.bool true)], args := [d1, d2] }
  | _ => none }
def fnExactDropGeneratorRow : OpenClaim := { program := "ytmmicjcfnnppfaagreat", sum := "7871329e944633f2c85f1e6a918eabc85848fc9c26d797f9a974841f85733f6f", func := "loop.example/g01219/laws.FnExactDropGenerator", spec := "fnExactDropGenerator", inPlace := ["internal/bytealg.Compare"], unfollowed := true, recurses := true, plainKeys := false, apart := false }
def FnExactDropGeneratorSaid : Prop := fnExactDropGeneratorRow.holds Tryz.pinned (OpenSpec.ofChange fnExactDropGeneratorSpec)

/-- ITS FALSE NEIGHBOUR: 'it returns false'. Refute it at one input. -/
def fnExactDropGeneratorWrong : ChangeSpec := { name := "fnExactDropGenerator", fn := fun _ => fun
  | [d1, d2] => { results := [.lit (.bool false)], args := [d1, d2] }
  | _ => none }
def FnExactDropGeneratorWrongFalsely : Prop := fnExactDropGeneratorRow.holds Tryz.pinned (OpenSpec.ofChange fnExactDropGeneratorWrong)

/- THE SECOND FORM. 'bulk': how many values and letters a reading holds, each counted each time it is reached (what is shared counts as often as it is met; a slice's spare places count too). A statement '..UptoSaid' is the law's where the arguments, and the package variables that the reading takes, are together of bulk at most 1048576: NARROWER than '..Said'. Prove '..Said' where nothing that the law and all that it calls make is longer than what came in: it says more and counts as full. Else prove '..UptoSaid'. A law counts once. -/
mutual
def uptoBulk {H : Type} : DataW H → Nat
  | .lit (.string bytes) => bytes.length + 1
  | .lit _ => 1
  | .nil => 1
  | .ptr d => uptoBulk d + 1
  | .slice elems spare => uptoBulkAll elems + uptoBulkAll spare + 1
  | .agg parts => uptoBulkAll parts + 1
  | .iface _ d => uptoBulk d + 1
  | .map entries => uptoBulkEntries entries + 1
  | .held _ => 1
def uptoBulkAll {H : Type} : List (DataW H) → Nat
  | [] => 0
  | d :: r => uptoBulk d + uptoBulkAll r
def uptoBulkEntries {H : Type} : List (Lit × DataW H) → Nat
  | [] => 0
  | x :: r => uptoBulkEntry x + uptoBulkEntries r
def uptoBulkEntry {H : Type} : Lit × DataW H → Nat
  | (.string bytes, d) => bytes.length + uptoBulk d + 1
  | (_, d) => uptoBulk d + 1
 end
def uptoSmall : (H : Type) → List (DataW H) → Bool := fun _ ds => decide (uptoBulkAll ds ≤ 1048576)
def OpenSpec.upto (s : _root_.Go.ChangeSpec) : _root_.Go.OpenSpec := { _root_.Go.OpenSpec.ofChange s with cond := some uptoSmall }

/-- 'laws.FnExactClosedForms', WHERE WHAT IT READS IS OF BULK AT MOST 1048576: true; the input reads as it did. -/
def fnExactClosedFormsUptoRow : OpenClaim := { program := "ytmmicjcfnnppfaagreat", sum := "7871329e944633f2c85f1e6a918eabc85848fc9c26d797f9a974841f85733f6f", func := "loop.example/g01219/laws.FnExactClosedForms", spec := "fnExactClosedForms", inPlace := ["internal/bytealg.Compare"], unfollowed := true, recurses := true, plainKeys := false, apart := false, narrowed := true }
def FnExactClosedFormsUptoSaid : Prop := fnExactClosedFormsUptoRow.holds Tryz.pinned (OpenSpec.upto fnExactClosedFormsSpec)

/-- 'laws.FnExactBoundaryForms', WHERE WHAT IT READS IS OF BULK AT MOST 1048576: true; the input reads as it did. -/
def fnExactBoundaryFormsUptoRow : OpenClaim := { program := "ytmmicjcfnnppfaagreat", sum := "7871329e944633f2c85f1e6a918eabc85848fc9c26d797f9a974841f85733f6f", func := "loop.example/g01219/laws.FnExactBoundaryForms", spec := "fnExactBoundaryForms", inPlace := ["internal/bytealg.Compare"], unfollowed := true, recurses := true, plainKeys := false, apart := false, narrowed := true }
def FnExactBoundaryFormsUptoSaid : Prop := fnExactBoundaryFormsUptoRow.holds Tryz.pinned (OpenSpec.upto fnExactBoundaryFormsSpec)

/-- 'laws.FnExactClassForms', WHERE WHAT IT READS IS OF BULK AT MOST 1048576: true; the input reads as it did. -/
def fnExactClassFormsUptoRow : OpenClaim := { program := "ytmmicjcfnnppfaagreat", sum := "7871329e944633f2c85f1e6a918eabc85848fc9c26d797f9a974841f85733f6f", func := "loop.example/g01219/laws.FnExactClassForms", spec := "fnExactClassForms", inPlace := ["internal/bytealg.Compare"], unfollowed := true, recurses := true, plainKeys := false, apart := false, narrowed := true }
def FnExactClassFormsUptoSaid : Prop := fnExactClassFormsUptoRow.holds Tryz.pinned (OpenSpec.upto fnExactClassFormsSpec)

/-- 'laws.FnExactClassOf', WHERE WHAT IT READS IS OF BULK AT MOST 1048576: true; the input reads as it did. -/
def fnExactClassOfUptoRow : OpenClaim := { program := "ytmmicjcfnnppfaagreat", sum := "7871329e944633f2c85f1e6a918eabc85848fc9c26d797f9a974841f85733f6f", func := "loop.example/g01219/laws.FnExactClassOf", spec := "fnExactClassOf", inPlace := ["internal/bytealg.Compare"], unfollowed := true, recurses := true, plainKeys := false, apart := false, narrowed := true }
def FnExactClassOfUptoSaid : Prop := fnExactClassOfUptoRow.holds Tryz.pinned (OpenSpec.upto fnExactClassOfSpec)

/-- 'laws.FnExactIsBoundary', WHERE WHAT IT READS IS OF BULK AT MOST 1048576: true; the input reads as it did. -/
def fnExactIsBoundaryUptoRow : OpenClaim := { program := "ytmmicjcfnnppfaagreat", sum := "7871329e944633f2c85f1e6a918eabc85848fc9c26d797f9a974841f85733f6f", func := "loop.example/g01219/laws.FnExactIsBoundary", spec := "fnExactIsBoundary", inPlace := ["internal/bytealg.Compare"], unfollowed := true, recurses := true, plainKeys := false, apart := false, narrowed := true }
def FnExactIsBoundaryUptoSaid : Prop := fnExactIsBoundaryUptoRow.holds Tryz.pinned (OpenSpec.upto fnExactIsBoundarySpec)

/-- 'laws.FnExactPrimitiveOf', WHERE WHAT IT READS IS OF BULK AT MOST 1048576: true; the input reads as it did. -/
def fnExactPrimitiveOfUptoRow : OpenClaim := { program := "ytmmicjcfnnppfaagreat", sum := "7871329e944633f2c85f1e6a918eabc85848fc9c26d797f9a974841f85733f6f", func := "loop.example/g01219/laws.FnExactPrimitiveOf", spec := "fnExactPrimitiveOf", inPlace := ["internal/bytealg.Compare"], unfollowed := true, recurses := true, plainKeys := false, apart := false, narrowed := true }
def FnExactPrimitiveOfUptoSaid : Prop := fnExactPrimitiveOfUptoRow.holds Tryz.pinned (OpenSpec.upto fnExactPrimitiveOfSpec)

/-- 'laws.FnExactScaleGenerator', WHERE WHAT IT READS IS OF BULK AT MOST 1048576: true; the input reads as it did. -/
def fnExactScaleGeneratorUptoRow : OpenClaim := { program := "ytmmicjcfnnppfaagreat", sum := "7871329e944633f2c85f1e6a918eabc85848fc9c26d797f9a974841f85733f6f", func := "loop.example/g01219/laws.FnExactScaleGenerator", spec := "fnExactScaleGenerator", inPlace := ["internal/bytealg.Compare"], unfollowed := true, recurses := true, plainKeys := false, apart := false, narrowed := true }
def FnExactScaleGeneratorUptoSaid : Prop := fnExactScaleGeneratorUptoRow.holds Tryz.pinned (OpenSpec.upto fnExactScaleGeneratorSpec)

/-- 'laws.FnExactExchangeGenerators', WHERE WHAT IT READS IS OF BULK AT MOST 1048576: true; the input reads as it did. -/
def fnExactExchangeGeneratorsUptoRow : OpenClaim := { program := "ytmmicjcfnnppfaagreat", sum := "7871329e944633f2c85f1e6a918eabc85848fc9c26d797f9a974841f85733f6f", func := "loop.example/g01219/laws.FnExactExchangeGenerators", spec := "fnExactExchangeGenerators", inPlace := ["internal/bytealg.Compare"], unfollowed := true, recurses := true, plainKeys := false, apart := false, narrowed := true }
def FnExactExchangeGeneratorsUptoSaid : Prop := fnExactExchangeGeneratorsUptoRow.holds Tryz.pinned (OpenSpec.upto fnExactExchangeGeneratorsSpec)

/-- 'laws.FnExactSortGenerators', WHERE WHAT IT READS IS OF BULK AT MOST 1048576: true; the input reads as it did. -/
def fnExactSortGeneratorsUptoRow : OpenClaim := { program := "ytmmicjcfnnppfaagreat", sum := "7871329e944633f2c85f1e6a918eabc85848fc9c26d797f9a974841f85733f6f", func := "loop.example/g01219/laws.FnExactSortGenerators", spec := "fnExactSortGenerators", inPlace := ["internal/bytealg.Compare"], unfollowed := true, recurses := true, plainKeys := false, apart := false, narrowed := true }
def FnExactSortGeneratorsUptoSaid : Prop := fnExactSortGeneratorsUptoRow.holds Tryz.pinned (OpenSpec.upto fnExactSortGeneratorsSpec)

/-- 'laws.FnExactDropGenerator', WHERE WHAT IT READS IS OF BULK AT MOST 1048576: true; the input reads as it did. -/
def fnExactDropGeneratorUptoRow : OpenClaim := { program := "ytmmicjcfnnppfaagreat", sum := "7871329e944633f2c85f1e6a918eabc85848fc9c26d797f9a974841f85733f6f", func := "loop.example/g01219/laws.FnExactDropGenerator", spec := "fnExactDropGenerator", inPlace := ["internal/bytealg.Compare"], unfollowed := true, recurses := true, plainKeys := false, apart := false, narrowed := true }
def FnExactDropGeneratorUptoSaid : Prop := fnExactDropGeneratorUptoRow.holds Tryz.pinned (OpenSpec.upto fnExactDropGeneratorSpec)

end Rows
end Go.Proofs.YtmmicjcfnnppfaaGreat
