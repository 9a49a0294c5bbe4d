/-
  No cell of these rows narrows 'for every input' (looked for: loops, veiled, ifaces, maps, wideKeys, modest, calm, conditions, laid).
  DERIVED. THE GIVEN ROWS OF THIS SEAT. 13 by the template 'for every input the law returns true; each argument reads behind the call as it read before'; 0 by the template 'total and deterministic' (their statements: YtjgojcolmflnoaaTotals.lean).
  GIVEN WITH THE SEED: the statements are not yours to turn. If you find one false, say at which input.
  Laid BY PROGRAM, IN A SANDBOX (cutbox-rows.mjs): the forced cells as the released guide's own fill.sh prints them over the translation d16a29fb35d27864… (all of the seat's roots in one cut). By AI agents, Wed Nov 11 2026. No macro, syntax, notation, axiom, sorry.
-/
import Derived.Test.YtjgojcolmflnoaaChecked
import GoSem.Claim
import GoSem.ClaimJoined
import GoSem.ClaimMapViews
import Derived.JoinedTies
import Derived.KernelRfl
namespace Go.Proofs.Ytjgojcolmflnoaa
/- THE CELL 'sum', in the pinned program and in every row, IS THE sha256 OF THE DUMP (.gsa) THAT YtjgojcolmflnoaaProg.lean LOADS. Nothing in Lean hashes anything: it is a label: what it is worth is what the hold of that sum in a sandbox is worth. -/
noncomputable def Try.pinned : Pinned := { name := "ytjgojcolmflnoaa", sum := "d16a29fb35d27864ab317ac31f942ce34c0acb517477bfdb94b3632b21623009", checked := Try.checked }
namespace Rows
def none {H : Type} : Left H := { results := [], args := [] }

/-- 'laws.FnMonomials': WHATEVER THE INPUT: true; the input reads as it did. -/
def fnMonomialsSpec : ChangeSpec := { name := "fnMonomials", fn := fun _ => fun
  | [d] => { results := [.lit (.bool true)], args := [d] }
  | _ => none }
def fnMonomialsRow : OpenClaim := { program := "ytjgojcolmflnoaa", sum := "d16a29fb35d27864ab317ac31f942ce34c0acb517477bfdb94b3632b21623009", func := "loop.example/g01219/laws.FnMonomials", spec := "fnMonomials", recurses := true, plainKeys := false, apart := false }
def FnMonomialsSaid : Prop := fnMonomialsRow.holds Try.pinned (OpenSpec.ofChange fnMonomialsSpec)

/-- ITS FALSE NEIGHBOUR: 'it returns false'. Refute it at one input. -/
def fnMonomialsWrong : ChangeSpec := { name := "fnMonomials", fn := fun _ => fun
  | [d] => { results := [.lit (.bool false)], args := [d] }
  | _ => none }
def FnMonomialsWrongFalsely : Prop := fnMonomialsRow.holds Try.pinned (OpenSpec.ofChange fnMonomialsWrong)

/-- 'laws.FnExactInverseNumber': WHATEVER THE INPUT: true; the input reads as it did. -/
def fnExactInverseNumberSpec : ChangeSpec := { name := "fnExactInverseNumber", fn := fun _ => fun
  | [d] => { results := [.lit (.bool true)], args := [d] }
  | _ => none }
def fnExactInverseNumberRow : OpenClaim := { program := "ytjgojcolmflnoaa", sum := "d16a29fb35d27864ab317ac31f942ce34c0acb517477bfdb94b3632b21623009", func := "loop.example/g01219/laws.FnExactInverseNumber", spec := "fnExactInverseNumber", plainKeys := false, apart := false }
def FnExactInverseNumberSaid : Prop := fnExactInverseNumberRow.holds Try.pinned (OpenSpec.ofChange fnExactInverseNumberSpec)

/-- ITS FALSE NEIGHBOUR: 'it returns false'. Refute it at one input. -/
def fnExactInverseNumberWrong : ChangeSpec := { name := "fnExactInverseNumber", fn := fun _ => fun
  | [d] => { results := [.lit (.bool false)], args := [d] }
  | _ => none }
def FnExactInverseNumberWrongFalsely : Prop := fnExactInverseNumberRow.holds Try.pinned (OpenSpec.ofChange fnExactInverseNumberWrong)

/-- 'laws.FnExactAreDegrees': WHATEVER THE INPUT: true; the input reads as it did. -/
def fnExactAreDegreesSpec : ChangeSpec := { name := "fnExactAreDegrees", fn := fun _ => fun
  | [d] => { results := [.lit (.bool true)], args := [d] }
  | _ => none }
def fnExactAreDegreesRow : OpenClaim := { program := "ytjgojcolmflnoaa", sum := "d16a29fb35d27864ab317ac31f942ce34c0acb517477bfdb94b3632b21623009", func := "loop.example/g01219/laws.FnExactAreDegrees", spec := "fnExactAreDegrees", plainKeys := false, apart := false }
def FnExactAreDegreesSaid : Prop := fnExactAreDegreesRow.holds Try.pinned (OpenSpec.ofChange fnExactAreDegreesSpec)

/-- ITS FALSE NEIGHBOUR: 'it returns false'. Refute it at one input. -/
def fnExactAreDegreesWrong : ChangeSpec := { name := "fnExactAreDegrees", fn := fun _ => fun
  | [d] => { results := [.lit (.bool false)], args := [d] }
  | _ => none }
def FnExactAreDegreesWrongFalsely : Prop := fnExactAreDegreesRow.holds Try.pinned (OpenSpec.ofChange fnExactAreDegreesWrong)

/-- 'laws.FnExactIsMonomial': WHATEVER THE INPUT: true; the input reads as it did. -/
def fnExactIsMonomialSpec : ChangeSpec := { name := "fnExactIsMonomial", fn := fun _ => fun
  | [d1, d2] => { results := [.lit (.bool true)], args := [d1, d2] }
  | _ => none }
def fnExactIsMonomialRow : OpenClaim := { program := "ytjgojcolmflnoaa", sum := "d16a29fb35d27864ab317ac31f942ce34c0acb517477bfdb94b3632b21623009", func := "loop.example/g01219/laws.FnExactIsMonomial", spec := "fnExactIsMonomial", plainKeys := false, apart := false }
def FnExactIsMonomialSaid : Prop := fnExactIsMonomialRow.holds Try.pinned (OpenSpec.ofChange fnExactIsMonomialSpec)

/-- ITS FALSE NEIGHBOUR: 'it returns false'. Refute it at one input. -/
def fnExactIsMonomialWrong : ChangeSpec := { name := "fnExactIsMonomial", fn := fun _ => fun
  | [d1, d2] => { results := [.lit (.bool false)], args := [d1, d2] }
  | _ => none }
def FnExactIsMonomialWrongFalsely : Prop := fnExactIsMonomialRow.holds Try.pinned (OpenSpec.ofChange fnExactIsMonomialWrong)

/-- 'laws.FnExactDegreeOfMonomial': WHATEVER THE INPUT: true; the input reads as it did. -/
def fnExactDegreeOfMonomialSpec : ChangeSpec := { name := "fnExactDegreeOfMonomial", fn := fun _ => fun
  | [d1, d2] => { results := [.lit (.bool true)], args := [d1, d2] }
  | _ => none }
def fnExactDegreeOfMonomialRow : OpenClaim := { program := "ytjgojcolmflnoaa", sum := "d16a29fb35d27864ab317ac31f942ce34c0acb517477bfdb94b3632b21623009", func := "loop.example/g01219/laws.FnExactDegreeOfMonomial", spec := "fnExactDegreeOfMonomial", plainKeys := false, apart := false }
def FnExactDegreeOfMonomialSaid : Prop := fnExactDegreeOfMonomialRow.holds Try.pinned (OpenSpec.ofChange fnExactDegreeOfMonomialSpec)

/-- ITS FALSE NEIGHBOUR: 'it returns false'. Refute it at one input. -/
def fnExactDegreeOfMonomialWrong : ChangeSpec := { name := "fnExactDegreeOfMonomial", fn := fun _ => fun
  | [d1, d2] => { results := [.lit (.bool false)], args := [d1, d2] }
  | _ => none }
def FnExactDegreeOfMonomialWrongFalsely : Prop := fnExactDegreeOfMonomialRow.holds Try.pinned (OpenSpec.ofChange fnExactDegreeOfMonomialWrong)

/-- 'laws.FnExactMultiplyMonomials': WHATEVER THE INPUT: true; the input reads as it did. -/
def fnExactMultiplyMonomialsSpec : ChangeSpec := { name := "fnExactMultiplyMonomials", fn := fun _ => fun
  | [d1, d2, d3] => { results := [.lit (.bool true)], args := [d1, d2, d3] }
  | _ => none }
def fnExactMultiplyMonomialsRow : OpenClaim := { program := "ytjgojcolmflnoaa", sum := "d16a29fb35d27864ab317ac31f942ce34c0acb517477bfdb94b3632b21623009", func := "loop.example/g01219/laws.FnExactMultiplyMonomials", spec := "fnExactMultiplyMonomials", plainKeys := false, apart := false }
def FnExactMultiplyMonomialsSaid : Prop := fnExactMultiplyMonomialsRow.holds Try.pinned (OpenSpec.ofChange fnExactMultiplyMonomialsSpec)

/-- ITS FALSE NEIGHBOUR: 'it returns false'. Refute it at one input. -/
def fnExactMultiplyMonomialsWrong : ChangeSpec := { name := "fnExactMultiplyMonomials", fn := fun _ => fun
  | [d1, d2, d3] => { results := [.lit (.bool false)], args := [d1, d2, d3] }
  | _ => none }
def FnExactMultiplyMonomialsWrongFalsely : Prop := fnExactMultiplyMonomialsRow.holds Try.pinned (OpenSpec.ofChange fnExactMultiplyMonomialsWrong)

/-- 'laws.FnExactIsForm': WHATEVER THE INPUT: true; the input reads as it did. -/
def fnExactIsFormSpec : ChangeSpec := { name := "fnExactIsForm", fn := fun _ => fun
  | [d1, d2] => { results := [.lit (.bool true)], args := [d1, d2] }
  | _ => none }
def fnExactIsFormRow : OpenClaim := { program := "ytjgojcolmflnoaa", sum := "d16a29fb35d27864ab317ac31f942ce34c0acb517477bfdb94b3632b21623009", func := "loop.example/g01219/laws.FnExactIsForm", spec := "fnExactIsForm", inPlace := ["internal/bytealg.Compare"], plainKeys := false, apart := false }
def FnExactIsFormSaid : Prop := fnExactIsFormRow.holds Try.pinned (OpenSpec.ofChange fnExactIsFormSpec)

/-- ITS FALSE NEIGHBOUR: 'it returns false'. Refute it at one input. -/
def fnExactIsFormWrong : ChangeSpec := { name := "fnExactIsForm", fn := fun _ => fun
  | [d1, d2] => { results := [.lit (.bool false)], args := [d1, d2] }
  | _ => none }
def FnExactIsFormWrongFalsely : Prop := fnExactIsFormRow.holds Try.pinned (OpenSpec.ofChange fnExactIsFormWrong)

/-- 'laws.FnExactDegreeOfForm': WHATEVER THE INPUT: true; the input reads as it did. -/
def fnExactDegreeOfFormSpec : ChangeSpec := { name := "fnExactDegreeOfForm", fn := fun _ => fun
  | [d1, d2] => { results := [.lit (.bool true)], args := [d1, d2] }
  | _ => none }
def fnExactDegreeOfFormRow : OpenClaim := { program := "ytjgojcolmflnoaa", sum := "d16a29fb35d27864ab317ac31f942ce34c0acb517477bfdb94b3632b21623009", func := "loop.example/g01219/laws.FnExactDegreeOfForm", spec := "fnExactDegreeOfForm", inPlace := ["internal/bytealg.Compare"], plainKeys := false, apart := false }
def FnExactDegreeOfFormSaid : Prop := fnExactDegreeOfFormRow.holds Try.pinned (OpenSpec.ofChange fnExactDegreeOfFormSpec)

/-- ITS FALSE NEIGHBOUR: 'it returns false'. Refute it at one input. -/
def fnExactDegreeOfFormWrong : ChangeSpec := { name := "fnExactDegreeOfForm", fn := fun _ => fun
  | [d1, d2] => { results := [.lit (.bool false)], args := [d1, d2] }
  | _ => none }
def FnExactDegreeOfFormWrongFalsely : Prop := fnExactDegreeOfFormRow.holds Try.pinned (OpenSpec.ofChange fnExactDegreeOfFormWrong)

/-- 'laws.FnExactAddForms': WHATEVER THE INPUT: true; the input reads as it did. -/
def fnExactAddFormsSpec : ChangeSpec := { name := "fnExactAddForms", fn := fun _ => fun
  | [d1, d2, d3] => { results := [.lit (.bool true)], args := [d1, d2, d3] }
  | _ => none }
def fnExactAddFormsRow : OpenClaim := { program := "ytjgojcolmflnoaa", sum := "d16a29fb35d27864ab317ac31f942ce34c0acb517477bfdb94b3632b21623009", func := "loop.example/g01219/laws.FnExactAddForms", spec := "fnExactAddForms", inPlace := ["internal/bytealg.Compare"], plainKeys := false, apart := false }
def FnExactAddFormsSaid : Prop := fnExactAddFormsRow.holds Try.pinned (OpenSpec.ofChange fnExactAddFormsSpec)

/-- ITS FALSE NEIGHBOUR: 'it returns false'. Refute it at one input. -/
def fnExactAddFormsWrong : ChangeSpec := { name := "fnExactAddForms", fn := fun _ => fun
  | [d1, d2, d3] => { results := [.lit (.bool false)], args := [d1, d2, d3] }
  | _ => none }
def FnExactAddFormsWrongFalsely : Prop := fnExactAddFormsRow.holds Try.pinned (OpenSpec.ofChange fnExactAddFormsWrong)

/-- 'laws.FnExactScaleForm': WHATEVER THE INPUT: true; the input reads as it did. -/
def fnExactScaleFormSpec : ChangeSpec := { name := "fnExactScaleForm", fn := fun _ => fun
  | [d1, d2, d3] => { results := [.lit (.bool true)], args := [d1, d2, d3] }
  | _ => none }
def fnExactScaleFormRow : OpenClaim := { program := "ytjgojcolmflnoaa", sum := "d16a29fb35d27864ab317ac31f942ce34c0acb517477bfdb94b3632b21623009", func := "loop.example/g01219/laws.FnExactScaleForm", spec := "fnExactScaleForm", inPlace := ["internal/bytealg.Compare"], plainKeys := false, apart := false }
def FnExactScaleFormSaid : Prop := fnExactScaleFormRow.holds Try.pinned (OpenSpec.ofChange fnExactScaleFormSpec)

/-- ITS FALSE NEIGHBOUR: 'it returns false'. Refute it at one input. -/
def fnExactScaleFormWrong : ChangeSpec := { name := "fnExactScaleForm", fn := fun _ => fun
  | [d1, d2, d3] => { results := [.lit (.bool false)], args := [d1, d2, d3] }
  | _ => none }
def FnExactScaleFormWrongFalsely : Prop := fnExactScaleFormRow.holds Try.pinned (OpenSpec.ofChange fnExactScaleFormWrong)

/-- 'laws.FnExactMultiplyForms': WHATEVER THE INPUT: true; the input reads as it did. -/
def fnExactMultiplyFormsSpec : ChangeSpec := { name := "fnExactMultiplyForms", fn := fun _ => fun
  | [d1, d2, d3] => { results := [.lit (.bool true)], args := [d1, d2, d3] }
  | _ => none }
def fnExactMultiplyFormsRow : OpenClaim := { program := "ytjgojcolmflnoaa", sum := "d16a29fb35d27864ab317ac31f942ce34c0acb517477bfdb94b3632b21623009", func := "loop.example/g01219/laws.FnExactMultiplyForms", spec := "fnExactMultiplyForms", inPlace := ["internal/bytealg.Compare"], unfollowed := true, recurses := true, plainKeys := false, apart := false }
def FnExactMultiplyFormsSaid : Prop := fnExactMultiplyFormsRow.holds Try.pinned (OpenSpec.ofChange fnExactMultiplyFormsSpec)

/-- ITS FALSE NEIGHBOUR: 'it returns false'. Refute it at one input. -/
def fnExactMultiplyFormsWrong : ChangeSpec := { name := "fnExactMultiplyForms", fn := fun _ => fun
  | [d1, d2, d3] => { results := [.lit (.bool false)], args := [d1, d2, d3] }
  | _ => none }
def FnExactMultiplyFormsWrongFalsely : Prop := fnExactMultiplyFormsRow.holds Try.pinned (OpenSpec.ofChange fnExactMultiplyFormsWrong)

/-- 'laws.FnExactPartOfForm': WHATEVER THE INPUT: true; the input reads as it did. -/
def fnExactPartOfFormSpec : ChangeSpec := { name := "fnExactPartOfForm", fn := fun _ => fun
  | [d1, d2, d3] => { results := [.lit (.bool true)], args := [d1, d2, d3] }
  | _ => none }
def fnExactPartOfFormRow : OpenClaim := { program := "ytjgojcolmflnoaa", sum := "d16a29fb35d27864ab317ac31f942ce34c0acb517477bfdb94b3632b21623009", func := "loop.example/g01219/laws.FnExactPartOfForm", spec := "fnExactPartOfForm", inPlace := ["internal/bytealg.Compare"], plainKeys := false, apart := false }
def FnExactPartOfFormSaid : Prop := fnExactPartOfFormRow.holds Try.pinned (OpenSpec.ofChange fnExactPartOfFormSpec)

/-- ITS FALSE NEIGHBOUR: 'it returns false'. Refute it at one input. -/
def fnExactPartOfFormWrong : ChangeSpec := { name := "fnExactPartOfForm", fn := fun _ => fun
  | [d1, d2, d3] => { results := [.lit (.bool false)], args := [d1, d2, d3] }
  | _ => none }
def FnExactPartOfFormWrongFalsely : Prop := fnExactPartOfFormRow.holds Try.pinned (OpenSpec.ofChange fnExactPartOfFormWrong)

/-- 'laws.FnExactMonomialsOf': WHATEVER THE INPUT: true; the input reads as it did. -/
def fnExactMonomialsOfSpec : ChangeSpec := { name := "fnExactMonomialsOf", fn := fun _ => fun
  | [d1, d2] => { results := [.lit (.bool true)], args := [d1, d2] }
  | _ => none }
def fnExactMonomialsOfRow : OpenClaim := { program := "ytjgojcolmflnoaa", sum := "d16a29fb35d27864ab317ac31f942ce34c0acb517477bfdb94b3632b21623009", func := "loop.example/g01219/laws.FnExactMonomialsOf", spec := "fnExactMonomialsOf", recurses := true, plainKeys := false, apart := false }
def FnExactMonomialsOfSaid : Prop := fnExactMonomialsOfRow.holds Try.pinned (OpenSpec.ofChange fnExactMonomialsOfSpec)

/-- ITS FALSE NEIGHBOUR: 'it returns false'. Refute it at one input. -/
def fnExactMonomialsOfWrong : ChangeSpec := { name := "fnExactMonomialsOf", fn := fun _ => fun
  | [d1, d2] => { results := [.lit (.bool false)], args := [d1, d2] }
  | _ => none }
def FnExactMonomialsOfWrongFalsely : Prop := fnExactMonomialsOfRow.holds Try.pinned (OpenSpec.ofChange fnExactMonomialsOfWrong)

/- THE SECOND FORM. 'bulk': how many values and letters a reading holds, each counted each time it is reached (what is shared counts as often as it is met; a slice's spare places count too). A statement '..UptoSaid' is the law's where the arguments, and the package variables that the reading takes, are together of bulk at most 1048576: NARROWER than '..Said'. Prove '..Said' where nothing that the law and all that it calls make is longer than what came in: it says more and counts as full. Else prove '..UptoSaid'. A law counts once. -/
mutual
def uptoBulk {H : Type} : DataW H → Nat
  | .lit (.string bytes) => bytes.length + 1
  | .lit _ => 1
  | .nil => 1
  | .ptr d => uptoBulk d + 1
  | .slice elems spare => uptoBulkAll elems + uptoBulkAll spare + 1
  | .agg parts => uptoBulkAll parts + 1
  | .iface _ d => uptoBulk d + 1
  | .map entries => uptoBulkEntries entries + 1
  | .held _ => 1
def uptoBulkAll {H : Type} : List (DataW H) → Nat
  | [] => 0
  | d :: r => uptoBulk d + uptoBulkAll r
def uptoBulkEntries {H : Type} : List (Lit × DataW H) → Nat
  | [] => 0
  | x :: r => uptoBulkEntry x + uptoBulkEntries r
def uptoBulkEntry {H : Type} : Lit × DataW H → Nat
  | (.string bytes, d) => bytes.length + uptoBulk d + 1
  | (_, d) => uptoBulk d + 1
 end
def uptoSmall : (H : Type) → List (DataW H) → Bool := fun _ ds => decide (uptoBulkAll ds ≤ 1048576)
def OpenSpec.upto (s : _root_.Go.ChangeSpec) : _root_.Go.OpenSpec := { _root_.Go.OpenSpec.ofChange s with cond := some uptoSmall }

/-- 'laws.FnMonomials', WHERE WHAT IT READS IS OF BULK AT MOST 1048576: true; the input reads as it did. -/
def fnMonomialsUptoRow : OpenClaim := { program := "ytjgojcolmflnoaa", sum := "d16a29fb35d27864ab317ac31f942ce34c0acb517477bfdb94b3632b21623009", func := "loop.example/g01219/laws.FnMonomials", spec := "fnMonomials", recurses := true, plainKeys := false, apart := false, narrowed := true }
def FnMonomialsUptoSaid : Prop := fnMonomialsUptoRow.holds Try.pinned (OpenSpec.upto fnMonomialsSpec)

/-- 'laws.FnExactInverseNumber', WHERE WHAT IT READS IS OF BULK AT MOST 1048576: true; the input reads as it did. -/
def fnExactInverseNumberUptoRow : OpenClaim := { program := "ytjgojcolmflnoaa", sum := "d16a29fb35d27864ab317ac31f942ce34c0acb517477bfdb94b3632b21623009", func := "loop.example/g01219/laws.FnExactInverseNumber", spec := "fnExactInverseNumber", plainKeys := false, apart := false, narrowed := true }
def FnExactInverseNumberUptoSaid : Prop := fnExactInverseNumberUptoRow.holds Try.pinned (OpenSpec.upto fnExactInverseNumberSpec)

/-- 'laws.FnExactAreDegrees', WHERE WHAT IT READS IS OF BULK AT MOST 1048576: true; the input reads as it did. -/
def fnExactAreDegreesUptoRow : OpenClaim := { program := "ytjgojcolmflnoaa", sum := "d16a29fb35d27864ab317ac31f942ce34c0acb517477bfdb94b3632b21623009", func := "loop.example/g01219/laws.FnExactAreDegrees", spec := "fnExactAreDegrees", plainKeys := false, apart := false, narrowed := true }
def FnExactAreDegreesUptoSaid : Prop := fnExactAreDegreesUptoRow.holds Try.pinned (OpenSpec.upto fnExactAreDegreesSpec)

/-- 'laws.FnExactIsMonomial', WHERE WHAT IT READS IS OF BULK AT MOST 1048576: true; the input reads as it did. -/
def fnExactIsMonomialUptoRow : OpenClaim := { program := "ytjgojcolmflnoaa", sum := "d16a29fb35d27864ab317ac31f942ce34c0acb517477bfdb94b3632b21623009", func := "loop.example/g01219/laws.FnExactIsMonomial", spec := "fnExactIsMonomial", plainKeys := false, apart := false, narrowed := true }
def FnExactIsMonomialUptoSaid : Prop := fnExactIsMonomialUptoRow.holds Try.pinned (OpenSpec.upto fnExactIsMonomialSpec)

/-- 'laws.FnExactDegreeOfMonomial', WHERE WHAT IT READS IS OF BULK AT MOST 1048576: true; the input reads as it did. -/
def fnExactDegreeOfMonomialUptoRow : OpenClaim := { program := "ytjgojcolmflnoaa", sum := "d16a29fb35d27864ab317ac31f942ce34c0acb517477bfdb94b3632b21623009", func := "loop.example/g01219/laws.FnExactDegreeOfMonomial", spec := "fnExactDegreeOfMonomial", plainKeys := false, apart := false, narrowed := true }
def FnExactDegreeOfMonomialUptoSaid : Prop := fnExactDegreeOfMonomialUptoRow.holds Try.pinned (OpenSpec.upto fnExactDegreeOfMonomialSpec)

/-- 'laws.FnExactMultiplyMonomials', WHERE WHAT IT READS IS OF BULK AT MOST 1048576: true; the input reads as it did. -/
def fnExactMultiplyMonomialsUptoRow : OpenClaim := { program := "ytjgojcolmflnoaa", sum := "d16a29fb35d27864ab317ac31f942ce34c0acb517477bfdb94b3632b21623009", func := "loop.example/g01219/laws.FnExactMultiplyMonomials", spec := "fnExactMultiplyMonomials", plainKeys := false, apart := false, narrowed := true }
def FnExactMultiplyMonomialsUptoSaid : Prop := fnExactMultiplyMonomialsUptoRow.holds Try.pinned (OpenSpec.upto fnExactMultiplyMonomialsSpec)

/-- 'laws.FnExactIsForm', WHERE WHAT IT READS IS OF BULK AT MOST 1048576: true; the input reads as it did. -/
def fnExactIsFormUptoRow : OpenClaim := { program := "ytjgojcolmflnoaa", sum := "d16a29fb35d27864ab317ac31f942ce34c0acb517477bfdb94b3632b21623009", func := "loop.example/g01219/laws.FnExactIsForm", spec := "fnExactIsForm", inPlace := ["internal/bytealg.Compare"], plainKeys := false, apart := false, narrowed := true }
def FnExactIsFormUptoSaid : Prop := fnExactIsFormUptoRow.holds Try.pinned (OpenSpec.upto fnExactIsFormSpec)

/-- 'laws.FnExactDegreeOfForm', WHERE WHAT IT READS IS OF BULK AT MOST 1048576: true; the input reads as it did. -/
def fnExactDegreeOfFormUptoRow : OpenClaim := { program := "ytjgojcolmflnoaa", sum := "d16a29fb35d27864ab317ac31f942ce34c0acb517477bfdb94b3632b21623009", func := "loop.example/g01219/laws.FnExactDegreeOfForm", spec := "fnExactDegreeOfForm", inPlace := ["internal/bytealg.Compare"], plainKeys := false, apart := false, narrowed := true }
def FnExactDegreeOfFormUptoSaid : Prop := fnExactDegreeOfFormUptoRow.holds Try.pinned (OpenSpec.upto fnExactDegreeOfFormSpec)

/-- 'laws.FnExactAddForms', WHERE WHAT IT READS IS OF BULK AT MOST 1048576: true; the input reads as it did. -/
def fnExactAddFormsUptoRow : OpenClaim := { program := "ytjgojcolmflnoaa", sum := "d16a29fb35d27864ab317ac31f942ce34c0acb517477bfdb94b3632b21623009", func := "loop.example/g01219/laws.FnExactAddForms", spec := "fnExactAddForms", inPlace := ["internal/bytealg.Compare"], plainKeys := false, apart := false, narrowed := true }
def FnExactAddFormsUptoSaid : Prop := fnExactAddFormsUptoRow.holds Try.pinned (OpenSpec.upto fnExactAddFormsSpec)

/-- 'laws.FnExactScaleForm', WHERE WHAT IT READS IS OF BULK AT MOST 1048576: true; the input reads as it did. -/
def fnExactScaleFormUptoRow : OpenClaim := { program := "ytjgojcolmflnoaa", sum := "d16a29fb35d27864ab317ac31f942ce34c0acb517477bfdb94b3632b21623009", func := "loop.example/g01219/laws.FnExactScaleForm", spec := "fnExactScaleForm", inPlace := ["internal/bytealg.Compare"], plainKeys := false, apart := false, narrowed := true }
def FnExactScaleFormUptoSaid : Prop := fnExactScaleFormUptoRow.holds Try.pinned (OpenSpec.upto fnExactScaleFormSpec)

/-- 'laws.FnExactMultiplyForms', WHERE WHAT IT READS IS OF BULK AT MOST 1048576: true; the input reads as it did. -/
def fnExactMultiplyFormsUptoRow : OpenClaim := { program := "ytjgojcolmflnoaa", sum := "d16a29fb35d27864ab317ac31f942ce34c0acb517477bfdb94b3632b21623009", func := "loop.example/g01219/laws.FnExactMultiplyForms", spec := "fnExactMultiplyForms", inPlace := ["internal/bytealg.Compare"], unfollowed := true, recurses := true, plainKeys := false, apart := false, narrowed := true }
def FnExactMultiplyFormsUptoSaid : Prop := fnExactMultiplyFormsUptoRow.holds Try.pinned (OpenSpec.upto fnExactMultiplyFormsSpec)

/-- 'laws.FnExactPartOfForm', WHERE WHAT IT READS IS OF BULK AT MOST 1048576: true; the input reads as it did. -/
def fnExactPartOfFormUptoRow : OpenClaim := { program := "ytjgojcolmflnoaa", sum := "d16a29fb35d27864ab317ac31f942ce34c0acb517477bfdb94b3632b21623009", func := "loop.example/g01219/laws.FnExactPartOfForm", spec := "fnExactPartOfForm", inPlace := ["internal/bytealg.Compare"], plainKeys := false, apart := false, narrowed := true }
def FnExactPartOfFormUptoSaid : Prop := fnExactPartOfFormUptoRow.holds Try.pinned (OpenSpec.upto fnExactPartOfFormSpec)

/-- 'laws.FnExactMonomialsOf', WHERE WHAT IT READS IS OF BULK AT MOST 1048576: true; the input reads as it did. -/
def fnExactMonomialsOfUptoRow : OpenClaim := { program := "ytjgojcolmflnoaa", sum := "d16a29fb35d27864ab317ac31f942ce34c0acb517477bfdb94b3632b21623009", func := "loop.example/g01219/laws.FnExactMonomialsOf", spec := "fnExactMonomialsOf", recurses := true, plainKeys := false, apart := false, narrowed := true }
def FnExactMonomialsOfUptoSaid : Prop := fnExactMonomialsOfUptoRow.holds Try.pinned (OpenSpec.upto fnExactMonomialsOfSpec)

end Rows
end Go.Proofs.Ytjgojcolmflnoaa
