/-
  No cell of these rows narrows 'for every input' (looked for: loops, veiled, ifaces, maps, wideKeys, modest, calm, conditions, laid).
  DERIVED. THE GIVEN ROWS OF THIS SEAT. 4 by the template 'for every input the law returns true; each argument reads behind the call as it read before'; 0 by the template 'total and deterministic' (their statements: YtbokloflbldikaaTotals.lean).
  GIVEN WITH THE SEED: the statements are not yours to turn. If you find one false, say at which input.
  Laid BY PROGRAM, IN A SANDBOX (cutbox-rows.mjs): the forced cells as the released guide's own fill.sh prints them over the translation 5946c750d7ba116d… (all of the seat's roots in one cut). By AI agents, Wed Nov 11 2026. No macro, syntax, notation, axiom, sorry.
-/
import Derived.Test.YtbokloflbldikaaChecked
import GoSem.Claim
import GoSem.ClaimJoined
import GoSem.ClaimMapViews
import Derived.JoinedTies
import Derived.KernelRfl
namespace Go.Proofs.Ytbokloflbldikaa
/- THE CELL 'sum', in the pinned program and in every row, IS THE sha256 OF THE DUMP (.gsa) THAT YtbokloflbldikaaProg.lean LOADS. Nothing in Lean hashes anything: it is a label: what it is worth is what the hold of that sum in a sandbox is worth. -/
noncomputable def Try.pinned : Pinned := { name := "ytbokloflbldikaa", sum := "5946c750d7ba116d19d7c8c904d9183004eca7f086733b1f95b1d1b5aaec048a", checked := Try.checked }
namespace Rows
def none {H : Type} : Left H := { results := [], args := [] }

/-- 'laws.FnExactMultiplyForms': WHATEVER THE INPUT: true; the input reads as it did. -/
def fnExactMultiplyFormsSpec : ChangeSpec := { name := "fnExactMultiplyForms", fn := fun _ => fun
  | [d1, d2, d3] => { results := [.lit (.bool true)], args := [d1, d2, d3] }
  | _ => none }
def fnExactMultiplyFormsRow : OpenClaim := { program := "ytbokloflbldikaa", sum := "5946c750d7ba116d19d7c8c904d9183004eca7f086733b1f95b1d1b5aaec048a", func := "loop.example/g01219/laws.FnExactMultiplyForms", spec := "fnExactMultiplyForms", inPlace := ["internal/bytealg.Compare"], unfollowed := true, recurses := true, plainKeys := false, apart := false }
def FnExactMultiplyFormsSaid : Prop := fnExactMultiplyFormsRow.holds Try.pinned (OpenSpec.ofChange fnExactMultiplyFormsSpec)

/-- ITS FALSE NEIGHBOUR: 'it returns false'. Refute it at one input. -/
def fnExactMultiplyFormsWrong : ChangeSpec := { name := "fnExactMultiplyForms", fn := fun _ => fun
  | [d1, d2, d3] => { results := [.lit (.bool false)], args := [d1, d2, d3] }
  | _ => none }
def FnExactMultiplyFormsWrongFalsely : Prop := fnExactMultiplyFormsRow.holds Try.pinned (OpenSpec.ofChange fnExactMultiplyFormsWrong)

/-- 'laws.FnExactDifferentialOfForm': WHATEVER THE INPUT: true; the input reads as it did. -/
def fnExactDifferentialOfFormSpec : ChangeSpec := { name := "fnExactDifferentialOfForm", fn := fun _ => fun
  | [d1, d2] => { results := [.lit (.bool true)], args := [d1, d2] }
  | _ => none }
def fnExactDifferentialOfFormRow : OpenClaim := { program := "ytbokloflbldikaa", sum := "5946c750d7ba116d19d7c8c904d9183004eca7f086733b1f95b1d1b5aaec048a", func := "loop.example/g01219/laws.FnExactDifferentialOfForm", spec := "fnExactDifferentialOfForm", inPlace := ["internal/bytealg.Compare"], unfollowed := true, recurses := true, plainKeys := false, apart := false }
def FnExactDifferentialOfFormSaid : Prop := fnExactDifferentialOfFormRow.holds Try.pinned (OpenSpec.ofChange fnExactDifferentialOfFormSpec)

/-- ITS FALSE NEIGHBOUR: 'it returns false'. Refute it at one input. -/
def fnExactDifferentialOfFormWrong : ChangeSpec := { name := "fnExactDifferentialOfForm", fn := fun _ => fun
  | [d1, d2] => { results := [.lit (.bool false)], args := [d1, d2] }
  | _ => none }
def FnExactDifferentialOfFormWrongFalsely : Prop := fnExactDifferentialOfFormRow.holds Try.pinned (OpenSpec.ofChange fnExactDifferentialOfFormWrong)

/-- 'laws.FnExactFirstPair': WHATEVER THE INPUT: true; the input reads as it did. -/
def fnExactFirstPairSpec : ChangeSpec := { name := "fnExactFirstPair", fn := fun _ => fun
  | [d] => { results := [.lit (.bool true)], args := [d] }
  | _ => none }
def fnExactFirstPairRow : OpenClaim := { program := "ytbokloflbldikaa", sum := "5946c750d7ba116d19d7c8c904d9183004eca7f086733b1f95b1d1b5aaec048a", func := "loop.example/g01219/laws.FnExactFirstPair", spec := "fnExactFirstPair", inPlace := ["internal/bytealg.Compare"], plainKeys := false, apart := false }
def FnExactFirstPairSaid : Prop := fnExactFirstPairRow.holds Try.pinned (OpenSpec.ofChange fnExactFirstPairSpec)

/-- ITS FALSE NEIGHBOUR: 'it returns false'. Refute it at one input. -/
def fnExactFirstPairWrong : ChangeSpec := { name := "fnExactFirstPair", fn := fun _ => fun
  | [d] => { results := [.lit (.bool false)], args := [d] }
  | _ => none }
def FnExactFirstPairWrongFalsely : Prop := fnExactFirstPairRow.holds Try.pinned (OpenSpec.ofChange fnExactFirstPairWrong)

/-- 'laws.FnExactSubAlgebra': WHATEVER THE INPUT: true; the input reads as it did. -/
def fnExactSubAlgebraSpec : ChangeSpec := { name := "fnExactSubAlgebra", fn := fun _ => fun
  | [d1, d2] => { results := [.lit (.bool true)], args := [d1, d2] }
  | _ => none }
def fnExactSubAlgebraRow : OpenClaim := { program := "ytbokloflbldikaa", sum := "5946c750d7ba116d19d7c8c904d9183004eca7f086733b1f95b1d1b5aaec048a", func := "loop.example/g01219/laws.FnExactSubAlgebra", spec := "fnExactSubAlgebra", inPlace := ["internal/bytealg.Compare"], unfollowed := true, recurses := true, plainKeys := false, apart := false }
def FnExactSubAlgebraSaid : Prop := fnExactSubAlgebraRow.holds Try.pinned (OpenSpec.ofChange fnExactSubAlgebraSpec)

/-- ITS FALSE NEIGHBOUR: 'it returns false'. Refute it at one input. -/
def fnExactSubAlgebraWrong : ChangeSpec := { name := "fnExactSubAlgebra", fn := fun _ => fun
  | [d1, d2] => { results := [.lit (.bool false)], args := [d1, d2] }
  | _ => none }
def FnExactSubAlgebraWrongFalsely : Prop := fnExactSubAlgebraRow.holds Try.pinned (OpenSpec.ofChange fnExactSubAlgebraWrong)

/- THE SECOND FORM. 'bulk': how many values and letters a reading holds, each counted each time it is reached (what is shared counts as often as it is met; a slice's spare places count too). A statement '..UptoSaid' is the law's where the arguments, and the package variables that the reading takes, are together of bulk at most 1048576: NARROWER than '..Said'. Prove '..Said' where nothing that the law and all that it calls make is longer than what came in: it says more and counts as full. Else prove '..UptoSaid'. A law counts once. -/
mutual
def uptoBulk {H : Type} : DataW H → Nat
  | .lit (.string bytes) => bytes.length + 1
  | .lit _ => 1
  | .nil => 1
  | .ptr d => uptoBulk d + 1
  | .slice elems spare => uptoBulkAll elems + uptoBulkAll spare + 1
  | .agg parts => uptoBulkAll parts + 1
  | .iface _ d => uptoBulk d + 1
  | .map entries => uptoBulkEntries entries + 1
  | .held _ => 1
def uptoBulkAll {H : Type} : List (DataW H) → Nat
  | [] => 0
  | d :: r => uptoBulk d + uptoBulkAll r
def uptoBulkEntries {H : Type} : List (Lit × DataW H) → Nat
  | [] => 0
  | x :: r => uptoBulkEntry x + uptoBulkEntries r
def uptoBulkEntry {H : Type} : Lit × DataW H → Nat
  | (.string bytes, d) => bytes.length + uptoBulk d + 1
  | (_, d) => uptoBulk d + 1
 end
def uptoSmall : (H : Type) → List (DataW H) → Bool := fun _ ds => decide (uptoBulkAll ds ≤ 1048576)
def OpenSpec.upto (s : _root_.Go.ChangeSpec) : _root_.Go.OpenSpec := { _root_.Go.OpenSpec.ofChange s with cond := some uptoSmall }

/-- 'laws.FnExactMultiplyForms', WHERE WHAT IT READS IS OF BULK AT MOST 1048576: true; the input reads as it did. -/
def fnExactMultiplyFormsUptoRow : OpenClaim := { program := "ytbokloflbldikaa", sum := "5946c750d7ba116d19d7c8c904d9183004eca7f086733b1f95b1d1b5aaec048a", func := "loop.example/g01219/laws.FnExactMultiplyForms", spec := "fnExactMultiplyForms", inPlace := ["internal/bytealg.Compare"], unfollowed := true, recurses := true, plainKeys := false, apart := false, narrowed := true }
def FnExactMultiplyFormsUptoSaid : Prop := fnExactMultiplyFormsUptoRow.holds Try.pinned (OpenSpec.upto fnExactMultiplyFormsSpec)

/-- 'laws.FnExactDifferentialOfForm', WHERE WHAT IT READS IS OF BULK AT MOST 1048576: true; the input reads as it did. -/
def fnExactDifferentialOfFormUptoRow : OpenClaim := { program := "ytbokloflbldikaa", sum := "5946c750d7ba116d19d7c8c904d9183004eca7f086733b1f95b1d1b5aaec048a", func := "loop.example/g01219/laws.FnExactDifferentialOfForm", spec := "fnExactDifferentialOfForm", inPlace := ["internal/bytealg.Compare"], unfollowed := true, recurses := true, plainKeys := false, apart := false, narrowed := true }
def FnExactDifferentialOfFormUptoSaid : Prop := fnExactDifferentialOfFormUptoRow.holds Try.pinned (OpenSpec.upto fnExactDifferentialOfFormSpec)

/-- 'laws.FnExactFirstPair', WHERE WHAT IT READS IS OF BULK AT MOST 1048576: true; the input reads as it did. -/
def fnExactFirstPairUptoRow : OpenClaim := { program := "ytbokloflbldikaa", sum := "5946c750d7ba116d19d7c8c904d9183004eca7f086733b1f95b1d1b5aaec048a", func := "loop.example/g01219/laws.FnExactFirstPair", spec := "fnExactFirstPair", inPlace := ["internal/bytealg.Compare"], plainKeys := false, apart := false, narrowed := true }
def FnExactFirstPairUptoSaid : Prop := fnExactFirstPairUptoRow.holds Try.pinned (OpenSpec.upto fnExactFirstPairSpec)

/-- 'laws.FnExactSubAlgebra', WHERE WHAT IT READS IS OF BULK AT MOST 1048576: true; the input reads as it did. -/
def fnExactSubAlgebraUptoRow : OpenClaim := { program := "ytbokloflbldikaa", sum := "5946c750d7ba116d19d7c8c904d9183004eca7f086733b1f95b1d1b5aaec048a", func := "loop.example/g01219/laws.FnExactSubAlgebra", spec := "fnExactSubAlgebra", inPlace := ["internal/bytealg.Compare"], unfollowed := true, recurses := true, plainKeys := false, apart := false, narrowed := true }
def FnExactSubAlgebraUptoSaid : Prop := fnExactSubAlgebraUptoRow.holds Try.pinned (OpenSpec.upto fnExactSubAlgebraSpec)

end Rows
end Go.Proofs.Ytbokloflbldikaa
