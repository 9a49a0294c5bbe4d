/-
  No cell of these rows narrows 'for every input' (looked for: loops, veiled, ifaces, maps, wideKeys, modest, calm, conditions, laid).
  DERIVED. THE GIVEN ROWS OF THIS SEAT. 6 by the template 'for every input the law returns true; each argument reads behind the call as it read before'; 0 by the template 'total and deterministic' (their statements: YteocfhflclnkhaaTotals.lean).
  GIVEN WITH THE SEED: the statements are not yours to turn. If you find one false, say at which input.
  Laid BY PROGRAM, IN A SANDBOX (cutbox-rows.mjs): the forced cells as the released guide's own fill.sh prints them over the translation feae061b25451682… (all of the seat's roots in one cut). By AI agents, Wed Nov 11 2026. No macro, syntax, notation, axiom, sorry.
-/
import Derived.Test.YteocfhflclnkhaaChecked
import GoSem.Claim
import GoSem.ClaimJoined
import GoSem.ClaimMapViews
import Derived.JoinedTies
import Derived.KernelRfl
namespace Go.Proofs.Yteocfhflclnkhaa
/- THE CELL 'sum', in the pinned program and in every row, IS THE sha256 OF THE DUMP (.gsa) THAT YteocfhflclnkhaaProg.lean LOADS. Nothing in Lean hashes anything: it is a label: what it is worth is what the hold of that sum in a sandbox is worth. -/
noncomputable def Try.pinned : Pinned := { name := "yteocfhflclnkhaa", sum := "feae061b25451682166a9a4e4349e35f72a533c85b0e9a207f3cbc051fedb44f", checked := Try.checked }
namespace Rows
def none {H : Type} : Left H := { results := [], args := [] }

/-- 'laws.FnMonomials': WHATEVER THE INPUT: true; the input reads as it did. -/
def fnMonomialsSpec : ChangeSpec := { name := "fnMonomials", fn := fun _ => fun
  | [d] => { results := [.lit (.bool true)], args := [d] }
  | _ => none }
def fnMonomialsRow : OpenClaim := { program := "yteocfhflclnkhaa", sum := "feae061b25451682166a9a4e4349e35f72a533c85b0e9a207f3cbc051fedb44f", func := "loop.example/g01219/laws.FnMonomials", spec := "fnMonomials", recurses := true, plainKeys := false, apart := false }
def FnMonomialsSaid : Prop := fnMonomialsRow.holds Try.pinned (OpenSpec.ofChange fnMonomialsSpec)

/-- ITS FALSE NEIGHBOUR: 'it returns false'. Refute it at one input. -/
def fnMonomialsWrong : ChangeSpec := { name := "fnMonomials", fn := fun _ => fun
  | [d] => { results := [.lit (.bool false)], args := [d] }
  | _ => none }
def FnMonomialsWrongFalsely : Prop := fnMonomialsRow.holds Try.pinned (OpenSpec.ofChange fnMonomialsWrong)

/-- 'laws.FnExactAddForms': WHATEVER THE INPUT: true; the input reads as it did. -/
def fnExactAddFormsSpec : ChangeSpec := { name := "fnExactAddForms", fn := fun _ => fun
  | [d1, d2, d3] => { results := [.lit (.bool true)], args := [d1, d2, d3] }
  | _ => none }
def fnExactAddFormsRow : OpenClaim := { program := "yteocfhflclnkhaa", sum := "feae061b25451682166a9a4e4349e35f72a533c85b0e9a207f3cbc051fedb44f", func := "loop.example/g01219/laws.FnExactAddForms", spec := "fnExactAddForms", inPlace := ["internal/bytealg.Compare"], unfollowed := true, recurses := true, plainKeys := false, apart := false }
def FnExactAddFormsSaid : Prop := fnExactAddFormsRow.holds Try.pinned (OpenSpec.ofChange fnExactAddFormsSpec)

/-- ITS FALSE NEIGHBOUR: 'it returns false'. Refute it at one input. -/
def fnExactAddFormsWrong : ChangeSpec := { name := "fnExactAddForms", fn := fun _ => fun
  | [d1, d2, d3] => { results := [.lit (.bool false)], args := [d1, d2, d3] }
  | _ => none }
def FnExactAddFormsWrongFalsely : Prop := fnExactAddFormsRow.holds Try.pinned (OpenSpec.ofChange fnExactAddFormsWrong)

/-- 'laws.FnExactMonomialsOf': WHATEVER THE INPUT: true; the input reads as it did. -/
def fnExactMonomialsOfSpec : ChangeSpec := { name := "fnExactMonomialsOf", fn := fun _ => fun
  | [d1, d2] => { results := [.lit (.bool true)], args := [d1, d2] }
  | _ => none }
def fnExactMonomialsOfRow : OpenClaim := { program := "yteocfhflclnkhaa", sum := "feae061b25451682166a9a4e4349e35f72a533c85b0e9a207f3cbc051fedb44f", func := "loop.example/g01219/laws.FnExactMonomialsOf", spec := "fnExactMonomialsOf", recurses := true, plainKeys := false, apart := false }
def FnExactMonomialsOfSaid : Prop := fnExactMonomialsOfRow.holds Try.pinned (OpenSpec.ofChange fnExactMonomialsOfSpec)

/-- ITS FALSE NEIGHBOUR: 'it returns false'. Refute it at one input. -/
def fnExactMonomialsOfWrong : ChangeSpec := { name := "fnExactMonomialsOf", fn := fun _ => fun
  | [d1, d2] => { results := [.lit (.bool false)], args := [d1, d2] }
  | _ => none }
def FnExactMonomialsOfWrongFalsely : Prop := fnExactMonomialsOfRow.holds Try.pinned (OpenSpec.ofChange fnExactMonomialsOfWrong)

/-- 'laws.FnExactProductOfAlgebras': WHATEVER THE INPUT: true; the input reads as it did. -/
def fnExactProductOfAlgebrasSpec : ChangeSpec := { name := "fnExactProductOfAlgebras", fn := fun _ => fun
  | [d1, d2] => { results := [.lit (.bool true)], args := [d1, d2] }
  | _ => none }
def fnExactProductOfAlgebrasRow : OpenClaim := { program := "yteocfhflclnkhaa", sum := "feae061b25451682166a9a4e4349e35f72a533c85b0e9a207f3cbc051fedb44f", func := "loop.example/g01219/laws.FnExactProductOfAlgebras", spec := "fnExactProductOfAlgebras", inPlace := ["internal/bytealg.Compare"], plainKeys := false, apart := false }
def FnExactProductOfAlgebrasSaid : Prop := fnExactProductOfAlgebrasRow.holds Try.pinned (OpenSpec.ofChange fnExactProductOfAlgebrasSpec)

/-- ITS FALSE NEIGHBOUR: 'it returns false'. Refute it at one input. -/
def fnExactProductOfAlgebrasWrong : ChangeSpec := { name := "fnExactProductOfAlgebras", fn := fun _ => fun
  | [d1, d2] => { results := [.lit (.bool false)], args := [d1, d2] }
  | _ => none }
def FnExactProductOfAlgebrasWrongFalsely : Prop := fnExactProductOfAlgebrasRow.holds Try.pinned (OpenSpec.ofChange fnExactProductOfAlgebrasWrong)

/-- 'laws.FnExactInclusionOf': WHATEVER THE INPUT: true; the input reads as it did. -/
def fnExactInclusionOfSpec : ChangeSpec := { name := "fnExactInclusionOf", fn := fun _ => fun
  | [d1, d2, d3] => { results := [.lit (.bool true)], args := [d1, d2, d3] }
  | _ => none }
def fnExactInclusionOfRow : OpenClaim := { program := "yteocfhflclnkhaa", sum := "feae061b25451682166a9a4e4349e35f72a533c85b0e9a207f3cbc051fedb44f", func := "loop.example/g01219/laws.FnExactInclusionOf", spec := "fnExactInclusionOf", inPlace := ["internal/bytealg.Compare"], plainKeys := false, apart := false }
def FnExactInclusionOfSaid : Prop := fnExactInclusionOfRow.holds Try.pinned (OpenSpec.ofChange fnExactInclusionOfSpec)

/-- ITS FALSE NEIGHBOUR: 'it returns false'. Refute it at one input. -/
def fnExactInclusionOfWrong : ChangeSpec := { name := "fnExactInclusionOf", fn := fun _ => fun
  | [d1, d2, d3] => { results := [.lit (.bool false)], args := [d1, d2, d3] }
  | _ => none }
def FnExactInclusionOfWrongFalsely : Prop := fnExactInclusionOfRow.holds Try.pinned (OpenSpec.ofChange fnExactInclusionOfWrong)

/-- 'laws.FnExactProjectionOf': WHATEVER THE INPUT: true; the input reads as it did. -/
def fnExactProjectionOfSpec : ChangeSpec := { name := "fnExactProjectionOf", fn := fun _ => fun
  | [d1, d2, d3] => { results := [.lit (.bool true)], args := [d1, d2, d3] }
  | _ => none }
def fnExactProjectionOfRow : OpenClaim := { program := "yteocfhflclnkhaa", sum := "feae061b25451682166a9a4e4349e35f72a533c85b0e9a207f3cbc051fedb44f", func := "loop.example/g01219/laws.FnExactProjectionOf", spec := "fnExactProjectionOf", inPlace := ["internal/bytealg.Compare"], plainKeys := false, apart := false }
def FnExactProjectionOfSaid : Prop := fnExactProjectionOfRow.holds Try.pinned (OpenSpec.ofChange fnExactProjectionOfSpec)

/-- ITS FALSE NEIGHBOUR: 'it returns false'. Refute it at one input. -/
def fnExactProjectionOfWrong : ChangeSpec := { name := "fnExactProjectionOf", fn := fun _ => fun
  | [d1, d2, d3] => { results := [.lit (.bool false)], args := [d1, d2, d3] }
  | _ => none }
def FnExactProjectionOfWrongFalsely : Prop := fnExactProjectionOfRow.holds Try.pinned (OpenSpec.ofChange fnExactProjectionOfWrong)

/- THE SECOND FORM. 'bulk': how many values and letters a reading holds, each counted each time it is reached (what is shared counts as often as it is met; a slice's spare places count too). A statement '..UptoSaid' is the law's where the arguments, and the package variables that the reading takes, are together of bulk at most 1048576: NARROWER than '..Said'. Prove '..Said' where nothing that the law and all that it calls make is longer than what came in: it says more and counts as full. Else prove '..UptoSaid'. A law counts once. -/
mutual
def uptoBulk {H : Type} : DataW H → Nat
  | .lit (.string bytes) => bytes.length + 1
  | .lit _ => 1
  | .nil => 1
  | .ptr d => uptoBulk d + 1
  | .slice elems spare => uptoBulkAll elems + uptoBulkAll spare + 1
  | .agg parts => uptoBulkAll parts + 1
  | .iface _ d => uptoBulk d + 1
  | .map entries => uptoBulkEntries entries + 1
  | .held _ => 1
def uptoBulkAll {H : Type} : List (DataW H) → Nat
  | [] => 0
  | d :: r => uptoBulk d + uptoBulkAll r
def uptoBulkEntries {H : Type} : List (Lit × DataW H) → Nat
  | [] => 0
  | x :: r => uptoBulkEntry x + uptoBulkEntries r
def uptoBulkEntry {H : Type} : Lit × DataW H → Nat
  | (.string bytes, d) => bytes.length + uptoBulk d + 1
  | (_, d) => uptoBulk d + 1
 end
def uptoSmall : (H : Type) → List (DataW H) → Bool := fun _ ds => decide (uptoBulkAll ds ≤ 1048576)
def OpenSpec.upto (s : _root_.Go.ChangeSpec) : _root_.Go.OpenSpec := { _root_.Go.OpenSpec.ofChange s with cond := some uptoSmall }

/-- 'laws.FnMonomials', WHERE WHAT IT READS IS OF BULK AT MOST 1048576: true; the input reads as it did. -/
def fnMonomialsUptoRow : OpenClaim := { program := "yteocfhflclnkhaa", sum := "feae061b25451682166a9a4e4349e35f72a533c85b0e9a207f3cbc051fedb44f", func := "loop.example/g01219/laws.FnMonomials", spec := "fnMonomials", recurses := true, plainKeys := false, apart := false, narrowed := true }
def FnMonomialsUptoSaid : Prop := fnMonomialsUptoRow.holds Try.pinned (OpenSpec.upto fnMonomialsSpec)

/-- 'laws.FnExactAddForms', WHERE WHAT IT READS IS OF BULK AT MOST 1048576: true; the input reads as it did. -/
def fnExactAddFormsUptoRow : OpenClaim := { program := "yteocfhflclnkhaa", sum := "feae061b25451682166a9a4e4349e35f72a533c85b0e9a207f3cbc051fedb44f", func := "loop.example/g01219/laws.FnExactAddForms", spec := "fnExactAddForms", inPlace := ["internal/bytealg.Compare"], unfollowed := true, recurses := true, plainKeys := false, apart := false, narrowed := true }
def FnExactAddFormsUptoSaid : Prop := fnExactAddFormsUptoRow.holds Try.pinned (OpenSpec.upto fnExactAddFormsSpec)

/-- 'laws.FnExactMonomialsOf', WHERE WHAT IT READS IS OF BULK AT MOST 1048576: true; the input reads as it did. -/
def fnExactMonomialsOfUptoRow : OpenClaim := { program := "yteocfhflclnkhaa", sum := "feae061b25451682166a9a4e4349e35f72a533c85b0e9a207f3cbc051fedb44f", func := "loop.example/g01219/laws.FnExactMonomialsOf", spec := "fnExactMonomialsOf", recurses := true, plainKeys := false, apart := false, narrowed := true }
def FnExactMonomialsOfUptoSaid : Prop := fnExactMonomialsOfUptoRow.holds Try.pinned (OpenSpec.upto fnExactMonomialsOfSpec)

/-- 'laws.FnExactProductOfAlgebras', WHERE WHAT IT READS IS OF BULK AT MOST 1048576: true; the input reads as it did. -/
def fnExactProductOfAlgebrasUptoRow : OpenClaim := { program := "yteocfhflclnkhaa", sum := "feae061b25451682166a9a4e4349e35f72a533c85b0e9a207f3cbc051fedb44f", func := "loop.example/g01219/laws.FnExactProductOfAlgebras", spec := "fnExactProductOfAlgebras", inPlace := ["internal/bytealg.Compare"], plainKeys := false, apart := false, narrowed := true }
def FnExactProductOfAlgebrasUptoSaid : Prop := fnExactProductOfAlgebrasUptoRow.holds Try.pinned (OpenSpec.upto fnExactProductOfAlgebrasSpec)

/-- 'laws.FnExactInclusionOf', WHERE WHAT IT READS IS OF BULK AT MOST 1048576: true; the input reads as it did. -/
def fnExactInclusionOfUptoRow : OpenClaim := { program := "yteocfhflclnkhaa", sum := "feae061b25451682166a9a4e4349e35f72a533c85b0e9a207f3cbc051fedb44f", func := "loop.example/g01219/laws.FnExactInclusionOf", spec := "fnExactInclusionOf", inPlace := ["internal/bytealg.Compare"], plainKeys := false, apart := false, narrowed := true }
def FnExactInclusionOfUptoSaid : Prop := fnExactInclusionOfUptoRow.holds Try.pinned (OpenSpec.upto fnExactInclusionOfSpec)

/-- 'laws.FnExactProjectionOf', WHERE WHAT IT READS IS OF BULK AT MOST 1048576: true; the input reads as it did. -/
def fnExactProjectionOfUptoRow : OpenClaim := { program := "yteocfhflclnkhaa", sum := "feae061b25451682166a9a4e4349e35f72a533c85b0e9a207f3cbc051fedb44f", func := "loop.example/g01219/laws.FnExactProjectionOf", spec := "fnExactProjectionOf", inPlace := ["internal/bytealg.Compare"], plainKeys := false, apart := false, narrowed := true }
def FnExactProjectionOfUptoSaid : Prop := fnExactProjectionOfUptoRow.holds Try.pinned (OpenSpec.upto fnExactProjectionOfSpec)

end Rows
end Go.Proofs.Yteocfhflclnkhaa
