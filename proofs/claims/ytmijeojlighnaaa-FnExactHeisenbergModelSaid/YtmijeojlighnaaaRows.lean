/-
  No cell of these rows narrows 'for every input' (looked for: loops, veiled, ifaces, maps, wideKeys, modest, calm, conditions, laid).
  DERIVED. THE GIVEN ROWS OF THIS SEAT. 8 by the template 'for every input the law returns true; each argument reads behind the call as it read before'; 0 by the template 'total and deterministic' (their statements: YtmijeojlighnaaaTotals.lean).
  GIVEN WITH THE SEED: the statements are not yours to turn. If you find one false, say at which input.
  Laid BY PROGRAM, IN A SANDBOX (cutbox-rows.mjs): the forced cells as the released guide's own fill.sh prints them over the translation 0a3c3925cfb894cb… (all of the seat's roots in one cut). By AI agents, Wed Nov 11 2026. No macro, syntax, notation, axiom, sorry.
-/
import Derived.Test.YtmijeojlighnaaaChecked
import GoSem.Claim
import GoSem.ClaimJoined
import GoSem.ClaimMapViews
import Derived.JoinedTies
import Derived.KernelRfl
namespace Go.Proofs.Ytmijeojlighnaaa
/- THE CELL 'sum', in the pinned program and in every row, IS THE sha256 OF THE DUMP (.gsa) THAT YtmijeojlighnaaaProg.lean LOADS. Nothing in Lean hashes anything: it is a label: what it is worth is what the hold of that sum in a sandbox is worth. -/
noncomputable def Try.pinned : Pinned := { name := "ytmijeojlighnaaa", sum := "0a3c3925cfb894cb7c3eb9658651e0fb7f1af690f8d2f5b92c5efa4e67da07dd", checked := Try.checked }
namespace Rows
def none {H : Type} : Left H := { results := [], args := [] }

/-- 'laws.FnExactSphereModel': WHATEVER THE INPUT: true; the input reads as it did. -/
def fnExactSphereModelSpec : ChangeSpec := { name := "fnExactSphereModel", fn := fun _ => fun
  | [d] => { results := [.lit (.bool true)], args := [d] }
  | _ => none }
def fnExactSphereModelRow : OpenClaim := { program := "ytmijeojlighnaaa", sum := "0a3c3925cfb894cb7c3eb9658651e0fb7f1af690f8d2f5b92c5efa4e67da07dd", func := "loop.example/g01219/laws.FnExactSphereModel", spec := "fnExactSphereModel", unfollowed := true, recurses := true, plainKeys := false, apart := false }
def FnExactSphereModelSaid : Prop := fnExactSphereModelRow.holds Try.pinned (OpenSpec.ofChange fnExactSphereModelSpec)

/-- ITS FALSE NEIGHBOUR: 'it returns false'. Refute it at one input. -/
def fnExactSphereModelWrong : ChangeSpec := { name := "fnExactSphereModel", fn := fun _ => fun
  | [d] => { results := [.lit (.bool false)], args := [d] }
  | _ => none }
def FnExactSphereModelWrongFalsely : Prop := fnExactSphereModelRow.holds Try.pinned (OpenSpec.ofChange fnExactSphereModelWrong)

/-- 'laws.FnExactProjectiveModel': WHATEVER THE INPUT: true; the input reads as it did. -/
def fnExactProjectiveModelSpec : ChangeSpec := { name := "fnExactProjectiveModel", fn := fun _ => fun
  | [d1, d2] => { results := [.lit (.bool true)], args := [d1, d2] }
  | _ => none }
def fnExactProjectiveModelRow : OpenClaim := { program := "ytmijeojlighnaaa", sum := "0a3c3925cfb894cb7c3eb9658651e0fb7f1af690f8d2f5b92c5efa4e67da07dd", func := "loop.example/g01219/laws.FnExactProjectiveModel", spec := "fnExactProjectiveModel", unfollowed := true, recurses := true, plainKeys := false, apart := false }
def FnExactProjectiveModelSaid : Prop := fnExactProjectiveModelRow.holds Try.pinned (OpenSpec.ofChange fnExactProjectiveModelSpec)

/-- ITS FALSE NEIGHBOUR: 'it returns false'. Refute it at one input. -/
def fnExactProjectiveModelWrong : ChangeSpec := { name := "fnExactProjectiveModel", fn := fun _ => fun
  | [d1, d2] => { results := [.lit (.bool false)], args := [d1, d2] }
  | _ => none }
def FnExactProjectiveModelWrongFalsely : Prop := fnExactProjectiveModelRow.holds Try.pinned (OpenSpec.ofChange fnExactProjectiveModelWrong)

/-- 'laws.FnExactUnitaryModel': WHATEVER THE INPUT: true; the input reads as it did. -/
def fnExactUnitaryModelSpec : ChangeSpec := { name := "fnExactUnitaryModel", fn := fun _ => fun
  | [d] => { results := [.lit (.bool true)], args := [d] }
  | _ => none }
def fnExactUnitaryModelRow : OpenClaim := { program := "ytmijeojlighnaaa", sum := "0a3c3925cfb894cb7c3eb9658651e0fb7f1af690f8d2f5b92c5efa4e67da07dd", func := "loop.example/g01219/laws.FnExactUnitaryModel", spec := "fnExactUnitaryModel", unfollowed := true, recurses := true, plainKeys := false, apart := false }
def FnExactUnitaryModelSaid : Prop := fnExactUnitaryModelRow.holds Try.pinned (OpenSpec.ofChange fnExactUnitaryModelSpec)

/-- ITS FALSE NEIGHBOUR: 'it returns false'. Refute it at one input. -/
def fnExactUnitaryModelWrong : ChangeSpec := { name := "fnExactUnitaryModel", fn := fun _ => fun
  | [d] => { results := [.lit (.bool false)], args := [d] }
  | _ => none }
def FnExactUnitaryModelWrongFalsely : Prop := fnExactUnitaryModelRow.holds Try.pinned (OpenSpec.ofChange fnExactUnitaryModelWrong)

/-- 'laws.FnExactTorusModel': WHATEVER THE INPUT: true; the input reads as it did. -/
def fnExactTorusModelSpec : ChangeSpec := { name := "fnExactTorusModel", fn := fun _ => fun
  | [d] => { results := [.lit (.bool true)], args := [d] }
  | _ => none }
def fnExactTorusModelRow : OpenClaim := { program := "ytmijeojlighnaaa", sum := "0a3c3925cfb894cb7c3eb9658651e0fb7f1af690f8d2f5b92c5efa4e67da07dd", func := "loop.example/g01219/laws.FnExactTorusModel", spec := "fnExactTorusModel", unfollowed := true, recurses := true, plainKeys := false, apart := false }
def FnExactTorusModelSaid : Prop := fnExactTorusModelRow.holds Try.pinned (OpenSpec.ofChange fnExactTorusModelSpec)

/-- ITS FALSE NEIGHBOUR: 'it returns false'. Refute it at one input. -/
def fnExactTorusModelWrong : ChangeSpec := { name := "fnExactTorusModel", fn := fun _ => fun
  | [d] => { results := [.lit (.bool false)], args := [d] }
  | _ => none }
def FnExactTorusModelWrongFalsely : Prop := fnExactTorusModelRow.holds Try.pinned (OpenSpec.ofChange fnExactTorusModelWrong)

/-- 'laws.FnExactHeisenbergModel': WHATEVER THE INPUT: true; the input reads as it did. -/
def fnExactHeisenbergModelSpec : ChangeSpec := { name := "fnExactHeisenbergModel", fn := fun _ => fun
  | [d] => { results := [.lit (.bool true)], args := [d] }
  | _ => none }
def fnExactHeisenbergModelRow : OpenClaim := { program := "ytmijeojlighnaaa", sum := "0a3c3925cfb894cb7c3eb9658651e0fb7f1af690f8d2f5b92c5efa4e67da07dd", func := "loop.example/g01219/laws.FnExactHeisenbergModel", spec := "fnExactHeisenbergModel", unfollowed := true, recurses := true, plainKeys := false, apart := false }
def FnExactHeisenbergModelSaid : Prop := fnExactHeisenbergModelRow.holds Try.pinned (OpenSpec.ofChange fnExactHeisenbergModelSpec)

/-- ITS FALSE NEIGHBOUR: 'it returns false'. Refute it at one input. -/
def fnExactHeisenbergModelWrong : ChangeSpec := { name := "fnExactHeisenbergModel", fn := fun _ => fun
  | [d] => { results := [.lit (.bool false)], args := [d] }
  | _ => none }
def FnExactHeisenbergModelWrongFalsely : Prop := fnExactHeisenbergModelRow.holds Try.pinned (OpenSpec.ofChange fnExactHeisenbergModelWrong)

/-- 'laws.FnExactIsPure': WHATEVER THE INPUT: true; the input reads as it did. -/
def fnExactIsPureSpec : ChangeSpec := { name := "fnExactIsPure", fn := fun _ => fun
  | [d] => { results := [.lit (.bool true)], args := [d] }
  | _ => none }
def fnExactIsPureRow : OpenClaim := { program := "ytmijeojlighnaaa", sum := "0a3c3925cfb894cb7c3eb9658651e0fb7f1af690f8d2f5b92c5efa4e67da07dd", func := "loop.example/g01219/laws.FnExactIsPure", spec := "fnExactIsPure", inPlace := ["internal/bytealg.Compare"], unfollowed := true, recurses := true, plainKeys := false, apart := false }
def FnExactIsPureSaid : Prop := fnExactIsPureRow.holds Try.pinned (OpenSpec.ofChange fnExactIsPureSpec)

/-- ITS FALSE NEIGHBOUR: 'it returns false'. Refute it at one input. -/
def fnExactIsPureWrong : ChangeSpec := { name := "fnExactIsPure", fn := fun _ => fun
  | [d] => { results := [.lit (.bool false)], args := [d] }
  | _ => none }
def FnExactIsPureWrongFalsely : Prop := fnExactIsPureRow.holds Try.pinned (OpenSpec.ofChange fnExactIsPureWrong)

/-- 'laws.FnExactEulerOfGenerators': WHATEVER THE INPUT: true; the input reads as it did. -/
def fnExactEulerOfGeneratorsSpec : ChangeSpec := { name := "fnExactEulerOfGenerators", fn := fun _ => fun
  | [d] => { results := [.lit (.bool true)], args := [d] }
  | _ => none }
def fnExactEulerOfGeneratorsRow : OpenClaim := { program := "ytmijeojlighnaaa", sum := "0a3c3925cfb894cb7c3eb9658651e0fb7f1af690f8d2f5b92c5efa4e67da07dd", func := "loop.example/g01219/laws.FnExactEulerOfGenerators", spec := "fnExactEulerOfGenerators", inPlace := ["internal/bytealg.Compare"], plainKeys := false, apart := false }
def FnExactEulerOfGeneratorsSaid : Prop := fnExactEulerOfGeneratorsRow.holds Try.pinned (OpenSpec.ofChange fnExactEulerOfGeneratorsSpec)

/-- ITS FALSE NEIGHBOUR: 'it returns false'. Refute it at one input. -/
def fnExactEulerOfGeneratorsWrong : ChangeSpec := { name := "fnExactEulerOfGenerators", fn := fun _ => fun
  | [d] => { results := [.lit (.bool false)], args := [d] }
  | _ => none }
def FnExactEulerOfGeneratorsWrongFalsely : Prop := fnExactEulerOfGeneratorsRow.holds Try.pinned (OpenSpec.ofChange fnExactEulerOfGeneratorsWrong)

/-- 'laws.FnExactFormalDimension': WHATEVER THE INPUT: true; the input reads as it did. -/
def fnExactFormalDimensionSpec : ChangeSpec := { name := "fnExactFormalDimension", fn := fun _ => fun
  | [d] => { results := [.lit (.bool true)], args := [d] }
  | _ => none }
def fnExactFormalDimensionRow : OpenClaim := { program := "ytmijeojlighnaaa", sum := "0a3c3925cfb894cb7c3eb9658651e0fb7f1af690f8d2f5b92c5efa4e67da07dd", func := "loop.example/g01219/laws.FnExactFormalDimension", spec := "fnExactFormalDimension", inPlace := ["internal/bytealg.Compare"], plainKeys := false, apart := false }
def FnExactFormalDimensionSaid : Prop := fnExactFormalDimensionRow.holds Try.pinned (OpenSpec.ofChange fnExactFormalDimensionSpec)

/-- ITS FALSE NEIGHBOUR: 'it returns false'. Refute it at one input. -/
def fnExactFormalDimensionWrong : ChangeSpec := { name := "fnExactFormalDimension", fn := fun _ => fun
  | [d] => { results := [.lit (.bool false)], args := [d] }
  | _ => none }
def FnExactFormalDimensionWrongFalsely : Prop := fnExactFormalDimensionRow.holds Try.pinned (OpenSpec.ofChange fnExactFormalDimensionWrong)

/- THE SECOND FORM. 'bulk': how many values and letters a reading holds, each counted each time it is reached (what is shared counts as often as it is met; a slice's spare places count too). A statement '..UptoSaid' is the law's where the arguments, and the package variables that the reading takes, are together of bulk at most 1048576: NARROWER than '..Said'. Prove '..Said' where nothing that the law and all that it calls make is longer than what came in: it says more and counts as full. Else prove '..UptoSaid'. A law counts once. -/
mutual
def uptoBulk {H : Type} : DataW H → Nat
  | .lit (.string bytes) => bytes.length + 1
  | .lit _ => 1
  | .nil => 1
  | .ptr d => uptoBulk d + 1
  | .slice elems spare => uptoBulkAll elems + uptoBulkAll spare + 1
  | .agg parts => uptoBulkAll parts + 1
  | .iface _ d => uptoBulk d + 1
  | .map entries => uptoBulkEntries entries + 1
  | .held _ => 1
def uptoBulkAll {H : Type} : List (DataW H) → Nat
  | [] => 0
  | d :: r => uptoBulk d + uptoBulkAll r
def uptoBulkEntries {H : Type} : List (Lit × DataW H) → Nat
  | [] => 0
  | x :: r => uptoBulkEntry x + uptoBulkEntries r
def uptoBulkEntry {H : Type} : Lit × DataW H → Nat
  | (.string bytes, d) => bytes.length + uptoBulk d + 1
  | (_, d) => uptoBulk d + 1
 end
def uptoSmall : (H : Type) → List (DataW H) → Bool := fun _ ds => decide (uptoBulkAll ds ≤ 1048576)
def OpenSpec.upto (s : _root_.Go.ChangeSpec) : _root_.Go.OpenSpec := { _root_.Go.OpenSpec.ofChange s with cond := some uptoSmall }

/-- 'laws.FnExactSphereModel', WHERE WHAT IT READS IS OF BULK AT MOST 1048576: true; the input reads as it did. -/
def fnExactSphereModelUptoRow : OpenClaim := { program := "ytmijeojlighnaaa", sum := "0a3c3925cfb894cb7c3eb9658651e0fb7f1af690f8d2f5b92c5efa4e67da07dd", func := "loop.example/g01219/laws.FnExactSphereModel", spec := "fnExactSphereModel", unfollowed := true, recurses := true, plainKeys := false, apart := false, narrowed := true }
def FnExactSphereModelUptoSaid : Prop := fnExactSphereModelUptoRow.holds Try.pinned (OpenSpec.upto fnExactSphereModelSpec)

/-- 'laws.FnExactProjectiveModel', WHERE WHAT IT READS IS OF BULK AT MOST 1048576: true; the input reads as it did. -/
def fnExactProjectiveModelUptoRow : OpenClaim := { program := "ytmijeojlighnaaa", sum := "0a3c3925cfb894cb7c3eb9658651e0fb7f1af690f8d2f5b92c5efa4e67da07dd", func := "loop.example/g01219/laws.FnExactProjectiveModel", spec := "fnExactProjectiveModel", unfollowed := true, recurses := true, plainKeys := false, apart := false, narrowed := true }
def FnExactProjectiveModelUptoSaid : Prop := fnExactProjectiveModelUptoRow.holds Try.pinned (OpenSpec.upto fnExactProjectiveModelSpec)

/-- 'laws.FnExactUnitaryModel', WHERE WHAT IT READS IS OF BULK AT MOST 1048576: true; the input reads as it did. -/
def fnExactUnitaryModelUptoRow : OpenClaim := { program := "ytmijeojlighnaaa", sum := "0a3c3925cfb894cb7c3eb9658651e0fb7f1af690f8d2f5b92c5efa4e67da07dd", func := "loop.example/g01219/laws.FnExactUnitaryModel", spec := "fnExactUnitaryModel", unfollowed := true, recurses := true, plainKeys := false, apart := false, narrowed := true }
def FnExactUnitaryModelUptoSaid : Prop := fnExactUnitaryModelUptoRow.holds Try.pinned (OpenSpec.upto fnExactUnitaryModelSpec)

/-- 'laws.FnExactTorusModel', WHERE WHAT IT READS IS OF BULK AT MOST 1048576: true; the input reads as it did. -/
def fnExactTorusModelUptoRow : OpenClaim := { program := "ytmijeojlighnaaa", sum := "0a3c3925cfb894cb7c3eb9658651e0fb7f1af690f8d2f5b92c5efa4e67da07dd", func := "loop.example/g01219/laws.FnExactTorusModel", spec := "fnExactTorusModel", unfollowed := true, recurses := true, plainKeys := false, apart := false, narrowed := true }
def FnExactTorusModelUptoSaid : Prop := fnExactTorusModelUptoRow.holds Try.pinned (OpenSpec.upto fnExactTorusModelSpec)

/-- 'laws.FnExactHeisenbergModel', WHERE WHAT IT READS IS OF BULK AT MOST 1048576: true; the input reads as it did. -/
def fnExactHeisenbergModelUptoRow : OpenClaim := { program := "ytmijeojlighnaaa", sum := "0a3c3925cfb894cb7c3eb9658651e0fb7f1af690f8d2f5b92c5efa4e67da07dd", func := "loop.example/g01219/laws.FnExactHeisenbergModel", spec := "fnExactHeisenbergModel", unfollowed := true, recurses := true, plainKeys := false, apart := false, narrowed := true }
def FnExactHeisenbergModelUptoSaid : Prop := fnExactHeisenbergModelUptoRow.holds Try.pinned (OpenSpec.upto fnExactHeisenbergModelSpec)

/-- 'laws.FnExactIsPure', WHERE WHAT IT READS IS OF BULK AT MOST 1048576: true; the input reads as it did. -/
def fnExactIsPureUptoRow : OpenClaim := { program := "ytmijeojlighnaaa", sum := "0a3c3925cfb894cb7c3eb9658651e0fb7f1af690f8d2f5b92c5efa4e67da07dd", func := "loop.example/g01219/laws.FnExactIsPure", spec := "fnExactIsPure", inPlace := ["internal/bytealg.Compare"], unfollowed := true, recurses := true, plainKeys := false, apart := false, narrowed := true }
def FnExactIsPureUptoSaid : Prop := fnExactIsPureUptoRow.holds Try.pinned (OpenSpec.upto fnExactIsPureSpec)

/-- 'laws.FnExactEulerOfGenerators', WHERE WHAT IT READS IS OF BULK AT MOST 1048576: true; the input reads as it did. -/
def fnExactEulerOfGeneratorsUptoRow : OpenClaim := { program := "ytmijeojlighnaaa", sum := "0a3c3925cfb894cb7c3eb9658651e0fb7f1af690f8d2f5b92c5efa4e67da07dd", func := "loop.example/g01219/laws.FnExactEulerOfGenerators", spec := "fnExactEulerOfGenerators", inPlace := ["internal/bytealg.Compare"], plainKeys := false, apart := false, narrowed := true }
def FnExactEulerOfGeneratorsUptoSaid : Prop := fnExactEulerOfGeneratorsUptoRow.holds Try.pinned (OpenSpec.upto fnExactEulerOfGeneratorsSpec)

/-- 'laws.FnExactFormalDimension', WHERE WHAT IT READS IS OF BULK AT MOST 1048576: true; the input reads as it did. -/
def fnExactFormalDimensionUptoRow : OpenClaim := { program := "ytmijeojlighnaaa", sum := "0a3c3925cfb894cb7c3eb9658651e0fb7f1af690f8d2f5b92c5efa4e67da07dd", func := "loop.example/g01219/laws.FnExactFormalDimension", spec := "fnExactFormalDimension", inPlace := ["internal/bytealg.Compare"], plainKeys := false, apart := false, narrowed := true }
def FnExactFormalDimensionUptoSaid : Prop := fnExactFormalDimensionUptoRow.holds Try.pinned (OpenSpec.upto fnExactFormalDimensionSpec)

end Rows
end Go.Proofs.Ytmijeojlighnaaa
