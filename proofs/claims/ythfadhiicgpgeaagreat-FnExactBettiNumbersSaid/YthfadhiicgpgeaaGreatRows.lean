/-
  No cell of these rows narrows 'for every input' (looked for: loops, veiled, ifaces, maps, wideKeys, modest, calm, conditions, laid).
  DERIVED. THE GIVEN ROWS OF THIS SEAT. 7 by the template 'for every input the law returns true; each argument reads behind the call as it read before'; 0 by the template 'total and deterministic' (their statements: YthfadhiicgpgeaaGreatTotals.lean).
  GIVEN WITH THE SEED: the statements are not yours to turn. If you find one false, say at which input.
  Laid BY PROGRAM, IN A SANDBOX (cutbox-rows.mjs): the forced cells as the released guide's own fill.sh prints them over the translation 5f7c9d468ea727c2… (all of the seat's roots in one cut). By AI agents, Wed Nov 11 2026. No macro, syntax, notation, axiom, sorry.
-/
import Derived.Test.YthfadhiicgpgeaaGreatChecked
import GoSem.Claim
import GoSem.ClaimJoined
import GoSem.ClaimMapViews
import Derived.JoinedTies
import Derived.KernelRfl
namespace Go.Proofs.YthfadhiicgpgeaaGreat
/- THE CELL 'sum', in the pinned program and in every row, IS THE sha256 OF THE DUMP (.gsa) THAT YthfadhiicgpgeaaGreatProg.lean LOADS. Nothing in Lean hashes anything: it is a label: what it is worth is what the hold of that sum in a sandbox is worth. -/
noncomputable def Tryz.pinned : Pinned := { name := "ythfadhiicgpgeaagreat", sum := "5f7c9d468ea727c2ff75906f5e8c1e1f8fe71b73f256220f633e6b010f375164", checked := Tryz.checked }
namespace Rows
def none {H : Type} : Left H := { results := [], args := [] }

/-- 'laws.FnExactBettiNumbers': WHATEVER THE INPUT: true; the input reads as it did. -/
def fnExactBettiNumbersSpec : ChangeSpec := { name := "fnExactBettiNumbers", fn := fun _ => fun
  | [d1, d2] => { results := [.lit (.bool true)], args := [d1, d2] }
  | _ => none }
def fnExactBettiNumbersRow : OpenClaim := { program := "ythfadhiicgpgeaagreat", sum := "5f7c9d468ea727c2ff75906f5e8c1e1f8fe71b73f256220f633e6b010f375164", func := "loop.example/g01219/laws.FnExactBettiNumbers", spec := "fnExactBettiNumbers", inPlace := ["internal/bytealg.Compare"], unfollowed := true, recurses := true, plainKeys := false, apart := false }
def FnExactBettiNumbersSaid : Prop := fnExactBettiNumbersRow.holds Tryz.pinned (OpenSpec.ofChange fnExactBettiNumbersSpec)

/-- ITS FALSE NEIGHBOUR: 'it returns false'. Refute it at one input. -/
def fnExactBettiNumbersWrong : ChangeSpec := { name := "fnExactBettiNumbers", fn := fun _ => fun
  | [d1, d2] => { results := [.lit (.bool false)], args := [d1, d2] }
  | _ => none }
def FnExactBettiNumbersWrongFalsely : Prop := fnExactBettiNumbersRow.holds Tryz.pinned (OpenSpec.ofChange fnExactBettiNumbersWrong)

/-- 'laws.FnExactClosedForms': WHATEVER THE INPUT: true; the input reads as it did. -/
def fnExactClosedFormsSpec : ChangeSpec := { name := "fnExactClosedForms", fn := fun _ => fun
  | [d1, d2] => { results := [.lit (.bool true)], args := [d1, d2] }
  | _ => none }
def fnExactClosedFormsRow : OpenClaim := { program := "ythfadhiicgpgeaagreat", sum := "5f7c9d468ea727c2ff75906f5e8c1e1f8fe71b73f256220f633e6b010f375164", func := "loop.example/g01219/laws.FnExactClosedForms", spec := "fnExactClosedForms", inPlace := ["internal/bytealg.Compare"], unfollowed := true, recurses := true, plainKeys := false, apart := false }
def FnExactClosedFormsSaid : Prop := fnExactClosedFormsRow.holds Tryz.pinned (OpenSpec.ofChange fnExactClosedFormsSpec)

/-- ITS FALSE NEIGHBOUR: 'it returns false'. Refute it at one input. -/
def fnExactClosedFormsWrong : ChangeSpec := { name := "fnExactClosedForms", fn := fun _ => fun
  | [d1, d2] => { results := [.lit (.bool false)], args := [d1, d2] }
  | _ => none }
def FnExactClosedFormsWrongFalsely : Prop := fnExactClosedFormsRow.holds Tryz.pinned (OpenSpec.ofChange fnExactClosedFormsWrong)

/-- 'laws.FnExactBoundaryForms': WHATEVER THE INPUT: true; the input reads as it did. -/
def fnExactBoundaryFormsSpec : ChangeSpec := { name := "fnExactBoundaryForms", fn := fun _ => fun
  | [d1, d2] => { results := [.lit (.bool true)], args := [d1, d2] }
  | _ => none }
def fnExactBoundaryFormsRow : OpenClaim := { program := "ythfadhiicgpgeaagreat", sum := "5f7c9d468ea727c2ff75906f5e8c1e1f8fe71b73f256220f633e6b010f375164", func := "loop.example/g01219/laws.FnExactBoundaryForms", spec := "fnExactBoundaryForms", inPlace := ["internal/bytealg.Compare"], unfollowed := true, recurses := true, plainKeys := false, apart := false }
def FnExactBoundaryFormsSaid : Prop := fnExactBoundaryFormsRow.holds Tryz.pinned (OpenSpec.ofChange fnExactBoundaryFormsSpec)

/-- ITS FALSE NEIGHBOUR: 'it returns false'. Refute it at one input. -/
def fnExactBoundaryFormsWrong : ChangeSpec := { name := "fnExactBoundaryForms", fn := fun _ => fun
  | [d1, d2] => { results := [.lit (.bool false)], args := [d1, d2] }
  | _ => none }
def FnExactBoundaryFormsWrongFalsely : Prop := fnExactBoundaryFormsRow.holds Tryz.pinned (OpenSpec.ofChange fnExactBoundaryFormsWrong)

/-- 'laws.FnExactClassForms': WHATEVER THE INPUT: true; the input reads as it did. -/
def fnExactClassFormsSpec : ChangeSpec := { name := "fnExactClassForms", fn := fun _ => fun
  | [d1, d2] => { results := [.lit (.bool true)], args := [d1, d2] }
  | _ => none }
def fnExactClassFormsRow : OpenClaim := { program := "ythfadhiicgpgeaagreat", sum := "5f7c9d468ea727c2ff75906f5e8c1e1f8fe71b73f256220f633e6b010f375164", func := "loop.example/g01219/laws.FnExactClassForms", spec := "fnExactClassForms", inPlace := ["internal/bytealg.Compare"], unfollowed := true, recurses := true, plainKeys := false, apart := false }
def FnExactClassFormsSaid : Prop := fnExactClassFormsRow.holds Tryz.pinned (OpenSpec.ofChange fnExactClassFormsSpec)

/-- ITS FALSE NEIGHBOUR: 'it returns false'. Refute it at one input. -/
def fnExactClassFormsWrong : ChangeSpec := { name := "fnExactClassForms", fn := fun _ => fun
  | [d1, d2] => { results := [.lit (.bool false)], args := [d1, d2] }
  | _ => none }
def FnExactClassFormsWrongFalsely : Prop := fnExactClassFormsRow.holds Tryz.pinned (OpenSpec.ofChange fnExactClassFormsWrong)

/-- 'laws.FnExactClassOf': WHATEVER THE INPUT: true; the input reads as it did. -/
def fnExactClassOfSpec : ChangeSpec := { name := "fnExactClassOf", fn := fun _ => fun
  | [d1, d2] => { results := [.lit (.bool true)], args := [d1, d2] }
  | _ => none }
def fnExactClassOfRow : OpenClaim := { program := "ythfadhiicgpgeaagreat", sum := "5f7c9d468ea727c2ff75906f5e8c1e1f8fe71b73f256220f633e6b010f375164", func := "loop.example/g01219/laws.FnExactClassOf", spec := "fnExactClassOf", inPlace := ["internal/bytealg.Compare"], unfollowed := true, recurses := true, plainKeys := false, apart := false }
def FnExactClassOfSaid : Prop := fnExactClassOfRow.holds Tryz.pinned (OpenSpec.ofChange fnExactClassOfSpec)

/-- ITS FALSE NEIGHBOUR: 'it returns false'. Refute it at one input. -/
def fnExactClassOfWrong : ChangeSpec := { name := "fnExactClassOf", fn := fun _ => fun
  | [d1, d2] => { results := [.lit (.bool false)], args := [d1, d2] }
  | _ => none }
def FnExactClassOfWrongFalsely : Prop := fnExactClassOfRow.holds Tryz.pinned (OpenSpec.ofChange fnExactClassOfWrong)

/-- 'laws.FnExactIsBoundary': WHATEVER THE INPUT: true; the input reads as it did. -/
def fnExactIsBoundarySpec : ChangeSpec := { name := "fnExactIsBoundary", fn := fun _ => fun
  | [d1, d2] => { results := [.lit (.bool true)], args := [d1, d2] }
  | _ => none }
def fnExactIsBoundaryRow : OpenClaim := { program := "ythfadhiicgpgeaagreat", sum := "5f7c9d468ea727c2ff75906f5e8c1e1f8fe71b73f256220f633e6b010f375164", func := "loop.example/g01219/laws.FnExactIsBoundary", spec := "fnExactIsBoundary", inPlace := ["internal/bytealg.Compare"], unfollowed := true, recurses := true, plainKeys := false, apart := false }
def FnExactIsBoundarySaid : Prop := fnExactIsBoundaryRow.holds Tryz.pinned (OpenSpec.ofChange fnExactIsBoundarySpec)

/-- ITS FALSE NEIGHBOUR: 'it returns false'. Refute it at one input. -/
def fnExactIsBoundaryWrong : ChangeSpec := { name := "fnExactIsBoundary", fn := fun _ => fun
  | [d1, d2] => { results := [.lit (.bool false)], args := [d1, d2] }
  | _ => none }
def FnExactIsBoundaryWrongFalsely : Prop := fnExactIsBoundaryRow.holds Tryz.pinned (OpenSpec.ofChange fnExactIsBoundaryWrong)

/-- 'laws.FnExactPrimitiveOf': WHATEVER THE INPUT: true; the input reads as it did. -/
def fnExactPrimitiveOfSpec : ChangeSpec := { name := "fnExactPrimitiveOf", fn := fun _ => fun
  | [d1, d2] => { results := [.lit (.bool true)], args := [d1, d2] }
  | _ => none }
def fnExactPrimitiveOfRow : OpenClaim := { program := "ythfadhiicgpgeaagreat", sum := "5f7c9d468ea727c2ff75906f5e8c1e1f8fe71b73f256220f633e6b010f375164", func := "loop.example/g01219/laws.FnExactPrimitiveOf", spec := "fnExactPrimitiveOf", inPlace := ["internal/bytealg.Compare"], unfollowed := true, recurses := true, plainKeys := false, apart := false }
def FnExactPrimitiveOfSaid : Prop := fnExactPrimitiveOfRow.holds Tryz.pinned (OpenSpec.ofChange fnExactPrimitiveOfSpec)

/-- ITS FALSE NEIGHBOUR: 'it returns false'. Refute it at one input. -/
def fnExactPrimitiveOfWrong : ChangeSpec := { name := "fnExactPrimitiveOf", fn := fun _ => fun
  | [d1, d2] => { results := [.lit (.bool false)], args := [d1, d2] }
  | _ => none }
def FnExactPrimitiveOfWrongFalsely : Prop := fnExactPrimitiveOfRow.holds Tryz.pinned (OpenSpec.ofChange fnExactPrimitiveOfWrong)

/- THE SECOND FORM. 'bulk': how many values and letters a reading holds, each counted each time it is reached (what is shared counts as often as it is met; a slice's spare places count too). A statement '..UptoSaid' is the law's where the arguments, and the package variables that the reading takes, are together of bulk at most 1048576: NARROWER than '..Said'. Prove '..Said' where nothing that the law and all that it calls make is longer than what came in: it says more and counts as full. Else prove '..UptoSaid'. A law counts once. -/
mutual
def uptoBulk {H : Type} : DataW H → Nat
  | .lit (.string bytes) => bytes.length + 1
  | .lit _ => 1
  | .nil => 1
  | .ptr d => uptoBulk d + 1
  | .slice elems spare => uptoBulkAll elems + uptoBulkAll spare + 1
  | .agg parts => uptoBulkAll parts + 1
  | .iface _ d => uptoBulk d + 1
  | .map entries => uptoBulkEntries entries + 1
  | .held _ => 1
def uptoBulkAll {H : Type} : List (DataW H) → Nat
  | [] => 0
  | d :: r => uptoBulk d + uptoBulkAll r
def uptoBulkEntries {H : Type} : List (Lit × DataW H) → Nat
  | [] => 0
  | x :: r => uptoBulkEntry x + uptoBulkEntries r
def uptoBulkEntry {H : Type} : Lit × DataW H → Nat
  | (.string bytes, d) => bytes.length + uptoBulk d + 1
  | (_, d) => uptoBulk d + 1
 end
def uptoSmall : (H : Type) → List (DataW H) → Bool := fun _ ds => decide (uptoBulkAll ds ≤ 1048576)
def OpenSpec.upto (s : _root_.Go.ChangeSpec) : _root_.Go.OpenSpec := { _root_.Go.OpenSpec.ofChange s with cond := some uptoSmall }

/-- 'laws.FnExactBettiNumbers', WHERE WHAT IT READS IS OF BULK AT MOST 1048576: true; the input reads as it did. -/
def fnExactBettiNumbersUptoRow : OpenClaim := { program := "ythfadhiicgpgeaagreat", sum := "5f7c9d468ea727c2ff75906f5e8c1e1f8fe71b73f256220f633e6b010f375164", func := "loop.example/g01219/laws.FnExactBettiNumbers", spec := "fnExactBettiNumbers", inPlace := ["internal/bytealg.Compare"], unfollowed := true, recurses := true, plainKeys := false, apart := false, narrowed := true }
def FnExactBettiNumbersUptoSaid : Prop := fnExactBettiNumbersUptoRow.holds Tryz.pinned (OpenSpec.upto fnExactBettiNumbersSpec)

/-- 'laws.FnExactClosedForms', WHERE WHAT IT READS IS OF BULK AT MOST 1048576: true; the input reads as it did. -/
def fnExactClosedFormsUptoRow : OpenClaim := { program := "ythfadhiicgpgeaagreat", sum := "5f7c9d468ea727c2ff75906f5e8c1e1f8fe71b73f256220f633e6b010f375164", func := "loop.example/g01219/laws.FnExactClosedForms", spec := "fnExactClosedForms", inPlace := ["internal/bytealg.Compare"], unfollowed := true, recurses := true, plainKeys := false, apart := false, narrowed := true }
def FnExactClosedFormsUptoSaid : Prop := fnExactClosedFormsUptoRow.holds Tryz.pinned (OpenSpec.upto fnExactClosedFormsSpec)

/-- 'laws.FnExactBoundaryForms', WHERE WHAT IT READS IS OF BULK AT MOST 1048576: true; the input reads as it did. -/
def fnExactBoundaryFormsUptoRow : OpenClaim := { program := "ythfadhiicgpgeaagreat", sum := "5f7c9d468ea727c2ff75906f5e8c1e1f8fe71b73f256220f633e6b010f375164", func := "loop.example/g01219/laws.FnExactBoundaryForms", spec := "fnExactBoundaryForms", inPlace := ["internal/bytealg.Compare"], unfollowed := true, recurses := true, plainKeys := false, apart := false, narrowed := true }
def FnExactBoundaryFormsUptoSaid : Prop := fnExactBoundaryFormsUptoRow.holds Tryz.pinned (OpenSpec.upto fnExactBoundaryFormsSpec)

/-- 'laws.FnExactClassForms', WHERE WHAT IT READS IS OF BULK AT MOST 1048576: true; the input reads as it did. -/
def fnExactClassFormsUptoRow : OpenClaim := { program := "ythfadhiicgpgeaagreat", sum := "5f7c9d468ea727c2ff75906f5e8c1e1f8fe71b73f256220f633e6b010f375164", func := "loop.example/g01219/laws.FnExactClassForms", spec := "fnExactClassForms", inPlace := ["internal/bytealg.Compare"], unfollowed := true, recurses := true, plainKeys := false, apart := false, narrowed := true }
def FnExactClassFormsUptoSaid : Prop := fnExactClassFormsUptoRow.holds Tryz.pinned (OpenSpec.upto fnExactClassFormsSpec)

/-- 'laws.FnExactClassOf', WHERE WHAT IT READS IS OF BULK AT MOST 1048576: true; the input reads as it did. -/
def fnExactClassOfUptoRow : OpenClaim := { program := "ythfadhiicgpgeaagreat", sum := "5f7c9d468ea727c2ff75906f5e8c1e1f8fe71b73f256220f633e6b010f375164", func := "loop.example/g01219/laws.FnExactClassOf", spec := "fnExactClassOf", inPlace := ["internal/bytealg.Compare"], unfollowed := true, recurses := true, plainKeys := false, apart := false, narrowed := true }
def FnExactClassOfUptoSaid : Prop := fnExactClassOfUptoRow.holds Tryz.pinned (OpenSpec.upto fnExactClassOfSpec)

/-- 'laws.FnExactIsBoundary', WHERE WHAT IT READS IS OF BULK AT MOST 1048576: true; the input reads as it did. -/
def fnExactIsBoundaryUptoRow : OpenClaim := { program := "ythfadhiicgpgeaagreat", sum := "5f7c9d468ea727c2ff75906f5e8c1e1f8fe71b73f256220f633e6b010f375164", func := "loop.example/g01219/laws.FnExactIsBoundary", spec := "fnExactIsBoundary", inPlace := ["internal/bytealg.Compare"], unfollowed := true, recurses := true, plainKeys := false, apart := false, narrowed := true }
def FnExactIsBoundaryUptoSaid : Prop := fnExactIsBoundaryUptoRow.holds Tryz.pinned (OpenSpec.upto fnExactIsBoundarySpec)

/-- 'laws.FnExactPrimitiveOf', WHERE WHAT IT READS IS OF BULK AT MOST 1048576: true; the input reads as it did. -/
def fnExactPrimitiveOfUptoRow : OpenClaim := { program := "ythfadhiicgpgeaagreat", sum := "5f7c9d468ea727c2ff75906f5e8c1e1f8fe71b73f256220f633e6b010f375164", func := "loop.example/g01219/laws.FnExactPrimitiveOf", spec := "fnExactPrimitiveOf", inPlace := ["internal/bytealg.Compare"], unfollowed := true, recurses := true, plainKeys := false, apart := false, narrowed := true }
def FnExactPrimitiveOfUptoSaid : Prop := fnExactPrimitiveOfUptoRow.holds Tryz.pinned (OpenSpec.upto fnExactPrimitiveOfSpec)

end Rows
end Go.Proofs.YthfadhiicgpgeaaGreat
