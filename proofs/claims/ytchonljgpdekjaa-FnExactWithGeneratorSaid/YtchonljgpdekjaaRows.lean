/-
  No cell of these rows narrows 'for every input' (looked for: loops, veiled, ifaces, maps, wideKeys, modest, calm, conditions, laid).
  DERIVED. THE GIVEN ROWS OF THIS SEAT. 12 by the template 'for every input the law returns true; each argument reads behind the call as it read before'; 0 by the template 'total and deterministic' (their statements: YtchonljgpdekjaaTotals.lean).
  GIVEN WITH THE SEED: the statements are not yours to turn. If you find one false, say at which input.
  Laid BY PROGRAM, IN A SANDBOX (cutbox-rows.mjs): the forced cells as the released guide's own fill.sh prints them over the translation 9dde4ff9c77387d4… (all of the seat's roots in one cut). By AI agents, Wed Nov 11 2026. No macro, syntax, notation, axiom, sorry.
-/
import Derived.Test.YtchonljgpdekjaaChecked
import GoSem.Claim
import GoSem.ClaimJoined
import GoSem.ClaimMapViews
import Derived.JoinedTies
import Derived.KernelRfl
namespace Go.Proofs.Ytchonljgpdekjaa
/- THE CELL 'sum', in the pinned program and in every row, IS THE sha256 OF THE DUMP (.gsa) THAT YtchonljgpdekjaaProg.lean LOADS. Nothing in Lean hashes anything: it is a label: what it is worth is what the hold of that sum in a sandbox is worth. -/
noncomputable def Try.pinned : Pinned := { name := "ytchonljgpdekjaa", sum := "9dde4ff9c77387d46d0987941ffc4ca434e06e52faa115ab8613018e63a63948", checked := Try.checked }
namespace Rows
def none {H : Type} : Left H := { results := [], args := [] }

/-- 'laws.FnMonomials': WHATEVER THE INPUT: true; the input reads as it did. -/
def fnMonomialsSpec : ChangeSpec := { name := "fnMonomials", fn := fun _ => fun
  | [d] => { results := [.lit (.bool true)], args := [d] }
  | _ => none }
def fnMonomialsRow : OpenClaim := { program := "ytchonljgpdekjaa", sum := "9dde4ff9c77387d46d0987941ffc4ca434e06e52faa115ab8613018e63a63948", func := "loop.example/g01219/laws.FnMonomials", spec := "fnMonomials", recurses := true, plainKeys := false, apart := false }
def FnMonomialsSaid : Prop := fnMonomialsRow.holds Try.pinned (OpenSpec.ofChange fnMonomialsSpec)

/-- ITS FALSE NEIGHBOUR: 'it returns false'. Refute it at one input. -/
def fnMonomialsWrong : ChangeSpec := { name := "fnMonomials", fn := fun _ => fun
  | [d] => { results := [.lit (.bool false)], args := [d] }
  | _ => none }
def FnMonomialsWrongFalsely : Prop := fnMonomialsRow.holds Try.pinned (OpenSpec.ofChange fnMonomialsWrong)

/-- 'laws.FnExactAddForms': WHATEVER THE INPUT: true; the input reads as it did. -/
def fnExactAddFormsSpec : ChangeSpec := { name := "fnExactAddForms", fn := fun _ => fun
  | [d1, d2, d3] => { results := [.lit (.bool true)], args := [d1, d2, d3] }
  | _ => none }
def fnExactAddFormsRow : OpenClaim := { program := "ytchonljgpdekjaa", sum := "9dde4ff9c77387d46d0987941ffc4ca434e06e52faa115ab8613018e63a63948", func := "loop.example/g01219/laws.FnExactAddForms", spec := "fnExactAddForms", inPlace := ["internal/bytealg.Compare"], unfollowed := true, recurses := true, plainKeys := false, apart := false }
def FnExactAddFormsSaid : Prop := fnExactAddFormsRow.holds Try.pinned (OpenSpec.ofChange fnExactAddFormsSpec)

/-- ITS FALSE NEIGHBOUR: 'it returns false'. Refute it at one input. -/
def fnExactAddFormsWrong : ChangeSpec := { name := "fnExactAddForms", fn := fun _ => fun
  | [d1, d2, d3] => { results := [.lit (.bool false)], args := [d1, d2, d3] }
  | _ => none }
def FnExactAddFormsWrongFalsely : Prop := fnExactAddFormsRow.holds Try.pinned (OpenSpec.ofChange fnExactAddFormsWrong)

/-- 'laws.FnExactMultiplyForms': WHATEVER THE INPUT: true; the input reads as it did. -/
def fnExactMultiplyFormsSpec : ChangeSpec := { name := "fnExactMultiplyForms", fn := fun _ => fun
  | [d1, d2, d3] => { results := [.lit (.bool true)], args := [d1, d2, d3] }
  | _ => none }
def fnExactMultiplyFormsRow : OpenClaim := { program := "ytchonljgpdekjaa", sum := "9dde4ff9c77387d46d0987941ffc4ca434e06e52faa115ab8613018e63a63948", func := "loop.example/g01219/laws.FnExactMultiplyForms", spec := "fnExactMultiplyForms", inPlace := ["internal/bytealg.Compare"], unfollowed := true, recurses := true, plainKeys := false, apart := false }
def FnExactMultiplyFormsSaid : Prop := fnExactMultiplyFormsRow.holds Try.pinned (OpenSpec.ofChange fnExactMultiplyFormsSpec)

/-- ITS FALSE NEIGHBOUR: 'it returns false'. Refute it at one input. -/
def fnExactMultiplyFormsWrong : ChangeSpec := { name := "fnExactMultiplyForms", fn := fun _ => fun
  | [d1, d2, d3] => { results := [.lit (.bool false)], args := [d1, d2, d3] }
  | _ => none }
def FnExactMultiplyFormsWrongFalsely : Prop := fnExactMultiplyFormsRow.holds Try.pinned (OpenSpec.ofChange fnExactMultiplyFormsWrong)

/-- 'laws.FnExactMonomialsOf': WHATEVER THE INPUT: true; the input reads as it did. -/
def fnExactMonomialsOfSpec : ChangeSpec := { name := "fnExactMonomialsOf", fn := fun _ => fun
  | [d1, d2] => { results := [.lit (.bool true)], args := [d1, d2] }
  | _ => none }
def fnExactMonomialsOfRow : OpenClaim := { program := "ytchonljgpdekjaa", sum := "9dde4ff9c77387d46d0987941ffc4ca434e06e52faa115ab8613018e63a63948", func := "loop.example/g01219/laws.FnExactMonomialsOf", spec := "fnExactMonomialsOf", recurses := true, plainKeys := false, apart := false }
def FnExactMonomialsOfSaid : Prop := fnExactMonomialsOfRow.holds Try.pinned (OpenSpec.ofChange fnExactMonomialsOfSpec)

/-- ITS FALSE NEIGHBOUR: 'it returns false'. Refute it at one input. -/
def fnExactMonomialsOfWrong : ChangeSpec := { name := "fnExactMonomialsOf", fn := fun _ => fun
  | [d1, d2] => { results := [.lit (.bool false)], args := [d1, d2] }
  | _ => none }
def FnExactMonomialsOfWrongFalsely : Prop := fnExactMonomialsOfRow.holds Try.pinned (OpenSpec.ofChange fnExactMonomialsOfWrong)

/-- 'laws.FnExactDifferentialOfForm': WHATEVER THE INPUT: true; the input reads as it did. -/
def fnExactDifferentialOfFormSpec : ChangeSpec := { name := "fnExactDifferentialOfForm", fn := fun _ => fun
  | [d1, d2] => { results := [.lit (.bool true)], args := [d1, d2] }
  | _ => none }
def fnExactDifferentialOfFormRow : OpenClaim := { program := "ytchonljgpdekjaa", sum := "9dde4ff9c77387d46d0987941ffc4ca434e06e52faa115ab8613018e63a63948", func := "loop.example/g01219/laws.FnExactDifferentialOfForm", spec := "fnExactDifferentialOfForm", inPlace := ["internal/bytealg.Compare"], unfollowed := true, recurses := true, plainKeys := false, apart := false }
def FnExactDifferentialOfFormSaid : Prop := fnExactDifferentialOfFormRow.holds Try.pinned (OpenSpec.ofChange fnExactDifferentialOfFormSpec)

/-- ITS FALSE NEIGHBOUR: 'it returns false'. Refute it at one input. -/
def fnExactDifferentialOfFormWrong : ChangeSpec := { name := "fnExactDifferentialOfForm", fn := fun _ => fun
  | [d1, d2] => { results := [.lit (.bool false)], args := [d1, d2] }
  | _ => none }
def FnExactDifferentialOfFormWrongFalsely : Prop := fnExactDifferentialOfFormRow.holds Try.pinned (OpenSpec.ofChange fnExactDifferentialOfFormWrong)

/-- 'laws.FnExactLinearTable': WHATEVER THE INPUT: true; the input reads as it did. -/
def fnExactLinearTableSpec : ChangeSpec := { name := "fnExactLinearTable", fn := fun _ => fun
  | [d] => { results := [.lit (.bool true)], args := [d] }
  | _ => none }
def fnExactLinearTableRow : OpenClaim := { program := "ytchonljgpdekjaa", sum := "9dde4ff9c77387d46d0987941ffc4ca434e06e52faa115ab8613018e63a63948", func := "loop.example/g01219/laws.FnExactLinearTable", spec := "fnExactLinearTable", inPlace := ["internal/bytealg.Compare"], plainKeys := false, apart := false }
def FnExactLinearTableSaid : Prop := fnExactLinearTableRow.holds Try.pinned (OpenSpec.ofChange fnExactLinearTableSpec)

/-- ITS FALSE NEIGHBOUR: 'it returns false'. Refute it at one input. -/
def fnExactLinearTableWrong : ChangeSpec := { name := "fnExactLinearTable", fn := fun _ => fun
  | [d] => { results := [.lit (.bool false)], args := [d] }
  | _ => none }
def FnExactLinearTableWrongFalsely : Prop := fnExactLinearTableRow.holds Try.pinned (OpenSpec.ofChange fnExactLinearTableWrong)

/-- 'laws.FnExactQuadraticParts': WHATEVER THE INPUT: true; the input reads as it did. -/
def fnExactQuadraticPartsSpec : ChangeSpec := { name := "fnExactQuadraticParts", fn := fun _ => fun
  | [d] => { results := [.lit (.bool true)], args := [d] }
  | _ => none }
def fnExactQuadraticPartsRow : OpenClaim := { program := "ytchonljgpdekjaa", sum := "9dde4ff9c77387d46d0987941ffc4ca434e06e52faa115ab8613018e63a63948", func := "loop.example/g01219/laws.FnExactQuadraticParts", spec := "fnExactQuadraticParts", inPlace := ["internal/bytealg.Compare"], plainKeys := false, apart := false }
def FnExactQuadraticPartsSaid : Prop := fnExactQuadraticPartsRow.holds Try.pinned (OpenSpec.ofChange fnExactQuadraticPartsSpec)

/-- ITS FALSE NEIGHBOUR: 'it returns false'. Refute it at one input. -/
def fnExactQuadraticPartsWrong : ChangeSpec := { name := "fnExactQuadraticParts", fn := fun _ => fun
  | [d] => { results := [.lit (.bool false)], args := [d] }
  | _ => none }
def FnExactQuadraticPartsWrongFalsely : Prop := fnExactQuadraticPartsRow.holds Try.pinned (OpenSpec.ofChange fnExactQuadraticPartsWrong)

/-- 'laws.FnExactProductOfAlgebras': WHATEVER THE INPUT: true; the input reads as it did. -/
def fnExactProductOfAlgebrasSpec : ChangeSpec := { name := "fnExactProductOfAlgebras", fn := fun _ => fun
  | [d1, d2] => { results := [.lit (.bool true)], args := [d1, d2] }
  | _ => none }
def fnExactProductOfAlgebrasRow : OpenClaim := { program := "ytchonljgpdekjaa", sum := "9dde4ff9c77387d46d0987941ffc4ca434e06e52faa115ab8613018e63a63948", func := "loop.example/g01219/laws.FnExactProductOfAlgebras", spec := "fnExactProductOfAlgebras", inPlace := ["internal/bytealg.Compare"], plainKeys := false, apart := false }
def FnExactProductOfAlgebrasSaid : Prop := fnExactProductOfAlgebrasRow.holds Try.pinned (OpenSpec.ofChange fnExactProductOfAlgebrasSpec)

/-- ITS FALSE NEIGHBOUR: 'it returns false'. Refute it at one input. -/
def fnExactProductOfAlgebrasWrong : ChangeSpec := { name := "fnExactProductOfAlgebras", fn := fun _ => fun
  | [d1, d2] => { results := [.lit (.bool false)], args := [d1, d2] }
  | _ => none }
def FnExactProductOfAlgebrasWrongFalsely : Prop := fnExactProductOfAlgebrasRow.holds Try.pinned (OpenSpec.ofChange fnExactProductOfAlgebrasWrong)

/-- 'laws.FnExactWithGenerator': WHATEVER THE INPUT: true; the input reads as it did. -/
def fnExactWithGeneratorSpec : ChangeSpec := { name := "fnExactWithGenerator", fn := fun _ => fun
  | [d1, d2, d3] => { results := [.lit (.bool true)], args := [d1, d2, d3] }
  | _ => none }
def fnExactWithGeneratorRow : OpenClaim := { program := "ytchonljgpdekjaa", sum := "9dde4ff9c77387d46d0987941ffc4ca434e06e52faa115ab8613018e63a63948", func := "loop.example/g01219/laws.FnExactWithGenerator", spec := "fnExactWithGenerator", inPlace := ["internal/bytealg.Compare"], plainKeys := false, apart := false }
def FnExactWithGeneratorSaid : Prop := fnExactWithGeneratorRow.holds Try.pinned (OpenSpec.ofChange fnExactWithGeneratorSpec)

/-- ITS FALSE NEIGHBOUR: 'it returns false'. Refute it at one input. -/
def fnExactWithGeneratorWrong : ChangeSpec := { name := "fnExactWithGenerator", fn := fun _ => fun
  | [d1, d2, d3] => { results := [.lit (.bool false)], args := [d1, d2, d3] }
  | _ => none }
def FnExactWithGeneratorWrongFalsely : Prop := fnExactWithGeneratorRow.holds Try.pinned (OpenSpec.ofChange fnExactWithGeneratorWrong)

/-- 'laws.FnExactIdentityMap': WHATEVER THE INPUT: true; the input reads as it did. -/
def fnExactIdentityMapSpec : ChangeSpec := { name := "fnExactIdentityMap", fn := fun _ => fun
  | [d] => { results := [.lit (.bool true)], args := [d] }
  | _ => none }
def fnExactIdentityMapRow : OpenClaim := { program := "ytchonljgpdekjaa", sum := "9dde4ff9c77387d46d0987941ffc4ca434e06e52faa115ab8613018e63a63948", func := "loop.example/g01219/laws.FnExactIdentityMap", spec := "fnExactIdentityMap", inPlace := ["internal/bytealg.Compare"], plainKeys := false, apart := false }
def FnExactIdentityMapSaid : Prop := fnExactIdentityMapRow.holds Try.pinned (OpenSpec.ofChange fnExactIdentityMapSpec)

/-- ITS FALSE NEIGHBOUR: 'it returns false'. Refute it at one input. -/
def fnExactIdentityMapWrong : ChangeSpec := { name := "fnExactIdentityMap", fn := fun _ => fun
  | [d] => { results := [.lit (.bool false)], args := [d] }
  | _ => none }
def FnExactIdentityMapWrongFalsely : Prop := fnExactIdentityMapRow.holds Try.pinned (OpenSpec.ofChange fnExactIdentityMapWrong)

/-- 'laws.FnExactInclusionOf': WHATEVER THE INPUT: true; the input reads as it did. -/
def fnExactInclusionOfSpec : ChangeSpec := { name := "fnExactInclusionOf", fn := fun _ => fun
  | [d1, d2, d3] => { results := [.lit (.bool true)], args := [d1, d2, d3] }
  | _ => none }
def fnExactInclusionOfRow : OpenClaim := { program := "ytchonljgpdekjaa", sum := "9dde4ff9c77387d46d0987941ffc4ca434e06e52faa115ab8613018e63a63948", func := "loop.example/g01219/laws.FnExactInclusionOf", spec := "fnExactInclusionOf", inPlace := ["internal/bytealg.Compare"], plainKeys := false, apart := false }
def FnExactInclusionOfSaid : Prop := fnExactInclusionOfRow.holds Try.pinned (OpenSpec.ofChange fnExactInclusionOfSpec)

/-- ITS FALSE NEIGHBOUR: 'it returns false'. Refute it at one input. -/
def fnExactInclusionOfWrong : ChangeSpec := { name := "fnExactInclusionOf", fn := fun _ => fun
  | [d1, d2, d3] => { results := [.lit (.bool false)], args := [d1, d2, d3] }
  | _ => none }
def FnExactInclusionOfWrongFalsely : Prop := fnExactInclusionOfRow.holds Try.pinned (OpenSpec.ofChange fnExactInclusionOfWrong)

/-- 'laws.FnExactProjectionOf': WHATEVER THE INPUT: true; the input reads as it did. -/
def fnExactProjectionOfSpec : ChangeSpec := { name := "fnExactProjectionOf", fn := fun _ => fun
  | [d1, d2, d3] => { results := [.lit (.bool true)], args := [d1, d2, d3] }
  | _ => none }
def fnExactProjectionOfRow : OpenClaim := { program := "ytchonljgpdekjaa", sum := "9dde4ff9c77387d46d0987941ffc4ca434e06e52faa115ab8613018e63a63948", func := "loop.example/g01219/laws.FnExactProjectionOf", spec := "fnExactProjectionOf", inPlace := ["internal/bytealg.Compare"], plainKeys := false, apart := false }
def FnExactProjectionOfSaid : Prop := fnExactProjectionOfRow.holds Try.pinned (OpenSpec.ofChange fnExactProjectionOfSpec)

/-- ITS FALSE NEIGHBOUR: 'it returns false'. Refute it at one input. -/
def fnExactProjectionOfWrong : ChangeSpec := { name := "fnExactProjectionOf", fn := fun _ => fun
  | [d1, d2, d3] => { results := [.lit (.bool false)], args := [d1, d2, d3] }
  | _ => none }
def FnExactProjectionOfWrongFalsely : Prop := fnExactProjectionOfRow.holds Try.pinned (OpenSpec.ofChange fnExactProjectionOfWrong)

/- THE SECOND FORM. 'bulk': how many values and letters a reading holds, each counted each time it is reached (what is shared counts as often as it is met; a slice's spare places count too). A statement '..UptoSaid' is the law's where the arguments, and the package variables that the reading takes, are together of bulk at most 1048576: NARROWER than '..Said'. Prove '..Said' where nothing that the law and all that it calls make is longer than what came in: it says more and counts as full. Else prove '..UptoSaid'. A law counts once. -/
mutual
def uptoBulk {H : Type} : DataW H → Nat
  | .lit (.string bytes) => bytes.length + 1
  | .lit _ => 1
  | .nil => 1
  | .ptr d => uptoBulk d + 1
  | .slice elems spare => uptoBulkAll elems + uptoBulkAll spare + 1
  | .agg parts => uptoBulkAll parts + 1
  | .iface _ d => uptoBulk d + 1
  | .map entries => uptoBulkEntries entries + 1
  | .held _ => 1
def uptoBulkAll {H : Type} : List (DataW H) → Nat
  | [] => 0
  | d :: r => uptoBulk d + uptoBulkAll r
def uptoBulkEntries {H : Type} : List (Lit × DataW H) → Nat
  | [] => 0
  | x :: r => uptoBulkEntry x + uptoBulkEntries r
def uptoBulkEntry {H : Type} : Lit × DataW H → Nat
  | (.string bytes, d) => bytes.length + uptoBulk d + 1
  | (_, d) => uptoBulk d + 1
 end
def uptoSmall : (H : Type) → List (DataW H) → Bool := fun _ ds => decide (uptoBulkAll ds ≤ 1048576)
def OpenSpec.upto (s : _root_.Go.ChangeSpec) : _root_.Go.OpenSpec := { _root_.Go.OpenSpec.ofChange s with cond := some uptoSmall }

/-- 'laws.FnMonomials', WHERE WHAT IT READS IS OF BULK AT MOST 1048576: true; the input reads as it did. -/
def fnMonomialsUptoRow : OpenClaim := { program := "ytchonljgpdekjaa", sum := "9dde4ff9c77387d46d0987941ffc4ca434e06e52faa115ab8613018e63a63948", func := "loop.example/g01219/laws.FnMonomials", spec := "fnMonomials", recurses := true, plainKeys := false, apart := false, narrowed := true }
def FnMonomialsUptoSaid : Prop := fnMonomialsUptoRow.holds Try.pinned (OpenSpec.upto fnMonomialsSpec)

/-- 'laws.FnExactAddForms', WHERE WHAT IT READS IS OF BULK AT MOST 1048576: true; the input reads as it did. -/
def fnExactAddFormsUptoRow : OpenClaim := { program := "ytchonljgpdekjaa", sum := "9dde4ff9c77387d46d0987941ffc4ca434e06e52faa115ab8613018e63a63948", func := "loop.example/g01219/laws.FnExactAddForms", spec := "fnExactAddForms", inPlace := ["internal/bytealg.Compare"], unfollowed := true, recurses := true, plainKeys := false, apart := false, narrowed := true }
def FnExactAddFormsUptoSaid : Prop := fnExactAddFormsUptoRow.holds Try.pinned (OpenSpec.upto fnExactAddFormsSpec)

/-- 'laws.FnExactMultiplyForms', WHERE WHAT IT READS IS OF BULK AT MOST 1048576: true; the input reads as it did. -/
def fnExactMultiplyFormsUptoRow : OpenClaim := { program := "ytchonljgpdekjaa", sum := "9dde4ff9c77387d46d0987941ffc4ca434e06e52faa115ab8613018e63a63948", func := "loop.example/g01219/laws.FnExactMultiplyForms", spec := "fnExactMultiplyForms", inPlace := ["internal/bytealg.Compare"], unfollowed := true, recurses := true, plainKeys := false, apart := false, narrowed := true }
def FnExactMultiplyFormsUptoSaid : Prop := fnExactMultiplyFormsUptoRow.holds Try.pinned (OpenSpec.upto fnExactMultiplyFormsSpec)

/-- 'laws.FnExactMonomialsOf', WHERE WHAT IT READS IS OF BULK AT MOST 1048576: true; the input reads as it did. -/
def fnExactMonomialsOfUptoRow : OpenClaim := { program := "ytchonljgpdekjaa", sum := "9dde4ff9c77387d46d0987941ffc4ca434e06e52faa115ab8613018e63a63948", func := "loop.example/g01219/laws.FnExactMonomialsOf", spec := "fnExactMonomialsOf", recurses := true, plainKeys := false, apart := false, narrowed := true }
def FnExactMonomialsOfUptoSaid : Prop := fnExactMonomialsOfUptoRow.holds Try.pinned (OpenSpec.upto fnExactMonomialsOfSpec)

/-- 'laws.FnExactDifferentialOfForm', WHERE WHAT IT READS IS OF BULK AT MOST 1048576: true; the input reads as it did. -/
def fnExactDifferentialOfFormUptoRow : OpenClaim := { program := "ytchonljgpdekjaa", sum := "9dde4ff9c77387d46d0987941ffc4ca434e06e52faa115ab8613018e63a63948", func := "loop.example/g01219/laws.FnExactDifferentialOfForm", spec := "fnExactDifferentialOfForm", inPlace := ["internal/bytealg.Compare"], unfollowed := true, recurses := true, plainKeys := false, apart := false, narrowed := true }
def FnExactDifferentialOfFormUptoSaid : Prop := fnExactDifferentialOfFormUptoRow.holds Try.pinned (OpenSpec.upto fnExactDifferentialOfFormSpec)

/-- 'laws.FnExactLinearTable', WHERE WHAT IT READS IS OF BULK AT MOST 1048576: true; the input reads as it did. -/
def fnExactLinearTableUptoRow : OpenClaim := { program := "ytchonljgpdekjaa", sum := "9dde4ff9c77387d46d0987941ffc4ca434e06e52faa115ab8613018e63a63948", func := "loop.example/g01219/laws.FnExactLinearTable", spec := "fnExactLinearTable", inPlace := ["internal/bytealg.Compare"], plainKeys := false, apart := false, narrowed := true }
def FnExactLinearTableUptoSaid : Prop := fnExactLinearTableUptoRow.holds Try.pinned (OpenSpec.upto fnExactLinearTableSpec)

/-- 'laws.FnExactQuadraticParts', WHERE WHAT IT READS IS OF BULK AT MOST 1048576: true; the input reads as it did. -/
def fnExactQuadraticPartsUptoRow : OpenClaim := { program := "ytchonljgpdekjaa", sum := "9dde4ff9c77387d46d0987941ffc4ca434e06e52faa115ab8613018e63a63948", func := "loop.example/g01219/laws.FnExactQuadraticParts", spec := "fnExactQuadraticParts", inPlace := ["internal/bytealg.Compare"], plainKeys := false, apart := false, narrowed := true }
def FnExactQuadraticPartsUptoSaid : Prop := fnExactQuadraticPartsUptoRow.holds Try.pinned (OpenSpec.upto fnExactQuadraticPartsSpec)

/-- 'laws.FnExactProductOfAlgebras', WHERE WHAT IT READS IS OF BULK AT MOST 1048576: true; the input reads as it did. -/
def fnExactProductOfAlgebrasUptoRow : OpenClaim := { program := "ytchonljgpdekjaa", sum := "9dde4ff9c77387d46d0987941ffc4ca434e06e52faa115ab8613018e63a63948", func := "loop.example/g01219/laws.FnExactProductOfAlgebras", spec := "fnExactProductOfAlgebras", inPlace := ["internal/bytealg.Compare"], plainKeys := false, apart := false, narrowed := true }
def FnExactProductOfAlgebrasUptoSaid : Prop := fnExactProductOfAlgebrasUptoRow.holds Try.pinned (OpenSpec.upto fnExactProductOfAlgebrasSpec)

/-- 'laws.FnExactWithGenerator', WHERE WHAT IT READS IS OF BULK AT MOST 1048576: true; the input reads as it did. -/
def fnExactWithGeneratorUptoRow : OpenClaim := { program := "ytchonljgpdekjaa", sum := "9dde4ff9c77387d46d0987941ffc4ca434e06e52faa115ab8613018e63a63948", func := "loop.example/g01219/laws.FnExactWithGenerator", spec := "fnExactWithGenerator", inPlace := ["internal/bytealg.Compare"], plainKeys := false, apart := false, narrowed := true }
def FnExactWithGeneratorUptoSaid : Prop := fnExactWithGeneratorUptoRow.holds Try.pinned (OpenSpec.upto fnExactWithGeneratorSpec)

/-- 'laws.FnExactIdentityMap', WHERE WHAT IT READS IS OF BULK AT MOST 1048576: true; the input reads as it did. -/
def fnExactIdentityMapUptoRow : OpenClaim := { program := "ytchonljgpdekjaa", sum := "9dde4ff9c77387d46d0987941ffc4ca434e06e52faa115ab8613018e63a63948", func := "loop.example/g01219/laws.FnExactIdentityMap", spec := "fnExactIdentityMap", inPlace := ["internal/bytealg.Compare"], plainKeys := false, apart := false, narrowed := true }
def FnExactIdentityMapUptoSaid : Prop := fnExactIdentityMapUptoRow.holds Try.pinned (OpenSpec.upto fnExactIdentityMapSpec)

/-- 'laws.FnExactInclusionOf', WHERE WHAT IT READS IS OF BULK AT MOST 1048576: true; the input reads as it did. -/
def fnExactInclusionOfUptoRow : OpenClaim := { program := "ytchonljgpdekjaa", sum := "9dde4ff9c77387d46d0987941ffc4ca434e06e52faa115ab8613018e63a63948", func := "loop.example/g01219/laws.FnExactInclusionOf", spec := "fnExactInclusionOf", inPlace := ["internal/bytealg.Compare"], plainKeys := false, apart := false, narrowed := true }
def FnExactInclusionOfUptoSaid : Prop := fnExactInclusionOfUptoRow.holds Try.pinned (OpenSpec.upto fnExactInclusionOfSpec)

/-- 'laws.FnExactProjectionOf', WHERE WHAT IT READS IS OF BULK AT MOST 1048576: true; the input reads as it did. -/
def fnExactProjectionOfUptoRow : OpenClaim := { program := "ytchonljgpdekjaa", sum := "9dde4ff9c77387d46d0987941ffc4ca434e06e52faa115ab8613018e63a63948", func := "loop.example/g01219/laws.FnExactProjectionOf", spec := "fnExactProjectionOf", inPlace := ["internal/bytealg.Compare"], plainKeys := false, apart := false, narrowed := true }
def FnExactProjectionOfUptoSaid : Prop := fnExactProjectionOfUptoRow.holds Try.pinned (OpenSpec.upto fnExactProjectionOfSpec)

end Rows
end Go.Proofs.Ytchonljgpdekjaa
