/-
  No cell of these rows narrows 'for every input' (looked for: loops, veiled, ifaces, maps, wideKeys, modest, calm, conditions, laid).
  DERIVED. THE GIVEN ROWS OF THIS SEAT. 9 by the template 'for every input the law returns true; each argument reads behind the call as it read before'; 0 by the template 'total and deterministic' (their statements: YtifcfoijcodjbaaGreatTotals.lean).
  GIVEN WITH THE SEED: the statements are not yours to turn. If you find one false, say at which input.
  Laid BY PROGRAM, IN A SANDBOX (cutbox-rows.mjs): the forced cells as the released guide's own fill.sh prints them over the translation 1f849969a49510b7… (all of the seat's roots in one cut). By AI agents, Wed Nov 11 2026. No macro, syntax, notation, axiom, sorry.
-/
import Derived.Test.YtifcfoijcodjbaaGreatChecked
import GoSem.Claim
import GoSem.ClaimJoined
import GoSem.ClaimMapViews
import Derived.JoinedTies
import Derived.KernelRfl
namespace Go.Proofs.YtifcfoijcodjbaaGreat
/- THE CELL 'sum', in the pinned program and in every row, IS THE sha256 OF THE DUMP (.gsa) THAT YtifcfoijcodjbaaGreatProg.lean LOADS. Nothing in Lean hashes anything: it is a label: what it is worth is what the hold of that sum in a sandbox is worth. -/
noncomputable def Tryz.pinned : Pinned := { name := "ytifcfoijcodjbaagreat", sum := "1f849969a49510b75250466d22ba7863611ffa355e5eed97094db80aa2ebcdd2", checked := Tryz.checked }
namespace Rows
def none {H : Type} : Left H := { results := [], args := [] }

/-- 'laws.FnExactClassOf': WHATEVER THE INPUT: true; the input reads as it did. -/
def fnExactClassOfSpec : ChangeSpec := { name := "fnExactClassOf", fn := fun _ => fun
  | [d1, d2] => { results := [.lit (.bool true)], args := [d1, d2] }
  | _ => none }
def fnExactClassOfRow : OpenClaim := { program := "ytifcfoijcodjbaagreat", sum := "1f849969a49510b75250466d22ba7863611ffa355e5eed97094db80aa2ebcdd2", func := "loop.example/g01219/laws.FnExactClassOf", spec := "fnExactClassOf", inPlace := ["internal/bytealg.Compare"], unfollowed := true, recurses := true, plainKeys := false, leaving := true, apart := false }
def FnExactClassOfSaid : Prop := fnExactClassOfRow.holds Tryz.pinned (OpenSpec.ofChange fnExactClassOfSpec)

/-- ITS FALSE NEIGHBOUR: 'it returns false'. Refute it at one input. -/
def fnExactClassOfWrong : ChangeSpec := { name := "fnExactClassOf", fn := fun _ => fun
  | [d1, d2] => { results := [.lit (.bool false)], args := [d1, d2] }
  | _ => none }
def FnExactClassOfWrongFalsely : Prop := fnExactClassOfRow.holds Tryz.pinned (OpenSpec.ofChange fnExactClassOfWrong)

/-- 'laws.FnExactPrimitiveOf': WHATEVER THE INPUT: true; the input reads as it did. -/
def fnExactPrimitiveOfSpec : ChangeSpec := { name := "fnExactPrimitiveOf", fn := fun _ => fun
  | [d1, d2] => { results := [.lit (.bool true)], args := [d1, d2] }
  | _ => none }
def fnExactPrimitiveOfRow : OpenClaim := { program := "ytifcfoijcodjbaagreat", sum := "1f849969a49510b75250466d22ba7863611ffa355e5eed97094db80aa2ebcdd2", func := "loop.example/g01219/laws.FnExactPrimitiveOf", spec := "fnExactPrimitiveOf", inPlace := ["internal/bytealg.Compare"], unfollowed := true, recurses := true, plainKeys := false, leaving := true, apart := false }
def FnExactPrimitiveOfSaid : Prop := fnExactPrimitiveOfRow.holds Tryz.pinned (OpenSpec.ofChange fnExactPrimitiveOfSpec)

/-- ITS FALSE NEIGHBOUR: 'it returns false'. Refute it at one input. -/
def fnExactPrimitiveOfWrong : ChangeSpec := { name := "fnExactPrimitiveOf", fn := fun _ => fun
  | [d1, d2] => { results := [.lit (.bool false)], args := [d1, d2] }
  | _ => none }
def FnExactPrimitiveOfWrongFalsely : Prop := fnExactPrimitiveOfRow.holds Tryz.pinned (OpenSpec.ofChange fnExactPrimitiveOfWrong)

/-- 'laws.FnExactIsBoundary': WHATEVER THE INPUT: true; the input reads as it did. -/
def fnExactIsBoundarySpec : ChangeSpec := { name := "fnExactIsBoundary", fn := fun _ => fun
  | [d1, d2] => { results := [.lit (.bool true)], args := [d1, d2] }
  | _ => none }
def fnExactIsBoundaryRow : OpenClaim := { program := "ytifcfoijcodjbaagreat", sum := "1f849969a49510b75250466d22ba7863611ffa355e5eed97094db80aa2ebcdd2", func := "loop.example/g01219/laws.FnExactIsBoundary", spec := "fnExactIsBoundary", inPlace := ["internal/bytealg.Compare"], unfollowed := true, recurses := true, plainKeys := false, leaving := true, apart := false }
def FnExactIsBoundarySaid : Prop := fnExactIsBoundaryRow.holds Tryz.pinned (OpenSpec.ofChange fnExactIsBoundarySpec)

/-- ITS FALSE NEIGHBOUR: 'it returns false'. Refute it at one input. -/
def fnExactIsBoundaryWrong : ChangeSpec := { name := "fnExactIsBoundary", fn := fun _ => fun
  | [d1, d2] => { results := [.lit (.bool false)], args := [d1, d2] }
  | _ => none }
def FnExactIsBoundaryWrongFalsely : Prop := fnExactIsBoundaryRow.holds Tryz.pinned (OpenSpec.ofChange fnExactIsBoundaryWrong)

/-- 'laws.FnExactClassForms': WHATEVER THE INPUT: true; the input reads as it did. -/
def fnExactClassFormsSpec : ChangeSpec := { name := "fnExactClassForms", fn := fun _ => fun
  | [d1, d2] => { results := [.lit (.bool true)], args := [d1, d2] }
  | _ => none }
def fnExactClassFormsRow : OpenClaim := { program := "ytifcfoijcodjbaagreat", sum := "1f849969a49510b75250466d22ba7863611ffa355e5eed97094db80aa2ebcdd2", func := "loop.example/g01219/laws.FnExactClassForms", spec := "fnExactClassForms", inPlace := ["internal/bytealg.Compare"], unfollowed := true, recurses := true, plainKeys := false, leaving := true, apart := false }
def FnExactClassFormsSaid : Prop := fnExactClassFormsRow.holds Tryz.pinned (OpenSpec.ofChange fnExactClassFormsSpec)

/-- ITS FALSE NEIGHBOUR: 'it returns false'. Refute it at one input. -/
def fnExactClassFormsWrong : ChangeSpec := { name := "fnExactClassForms", fn := fun _ => fun
  | [d1, d2] => { results := [.lit (.bool false)], args := [d1, d2] }
  | _ => none }
def FnExactClassFormsWrongFalsely : Prop := fnExactClassFormsRow.holds Tryz.pinned (OpenSpec.ofChange fnExactClassFormsWrong)

/-- 'laws.FnExactLengthOfProducts': WHATEVER THE INPUT: true; the input reads as it did. -/
def fnExactLengthOfProductsSpec : ChangeSpec := { name := "fnExactLengthOfProducts", fn := fun _ => fun
  | [d1, d2] => { results := [.lit (.bool true)], args := [d1, d2] }
  | _ => none }
def fnExactLengthOfProductsRow : OpenClaim := { program := "ytifcfoijcodjbaagreat", sum := "1f849969a49510b75250466d22ba7863611ffa355e5eed97094db80aa2ebcdd2", func := "loop.example/g01219/laws.FnExactLengthOfProducts", spec := "fnExactLengthOfProducts", inPlace := ["internal/bytealg.Compare"], unfollowed := true, recurses := true, plainKeys := false, leaving := true, apart := false }
def FnExactLengthOfProductsSaid : Prop := fnExactLengthOfProductsRow.holds Tryz.pinned (OpenSpec.ofChange fnExactLengthOfProductsSpec)

/-- ITS FALSE NEIGHBOUR: 'it returns false'. Refute it at one input. -/
def fnExactLengthOfProductsWrong : ChangeSpec := { name := "fnExactLengthOfProducts", fn := fun _ => fun
  | [d1, d2] => { results := [.lit (.bool false)], args := [d1, d2] }
  | _ => none }
def FnExactLengthOfProductsWrongFalsely : Prop := fnExactLengthOfProductsRow.holds Tryz.pinned (OpenSpec.ofChange fnExactLengthOfProductsWrong)

/-- 'laws.FnExactProductOfClasses': WHATEVER THE INPUT: true; the input reads as it did. -/
def fnExactProductOfClassesSpec : ChangeSpec := { name := "fnExactProductOfClasses", fn := fun _ => fun
  | [d1, d2, d3, d4, d5] => { results := [.lit (.bool true)], args := [d1, d2, d3, d4, d5] }
  | _ => none }
def fnExactProductOfClassesRow : OpenClaim := { program := "ytifcfoijcodjbaagreat", sum := "1f849969a49510b75250466d22ba7863611ffa355e5eed97094db80aa2ebcdd2", func := "loop.example/g01219/laws.FnExactProductOfClasses", spec := "fnExactProductOfClasses", inPlace := ["internal/bytealg.Compare"], unfollowed := true, recurses := true, plainKeys := false, leaving := true, apart := false }
def FnExactProductOfClassesSaid : Prop := fnExactProductOfClassesRow.holds Tryz.pinned (OpenSpec.ofChange fnExactProductOfClassesSpec)

/-- ITS FALSE NEIGHBOUR: 'it returns false'. Refute it at one input. -/
def fnExactProductOfClassesWrong : ChangeSpec := { name := "fnExactProductOfClasses", fn := fun _ => fun
  | [d1, d2, d3, d4, d5] => { results := [.lit (.bool false)], args := [d1, d2, d3, d4, d5] }
  | _ => none }
def FnExactProductOfClassesWrongFalsely : Prop := fnExactProductOfClassesRow.holds Tryz.pinned (OpenSpec.ofChange fnExactProductOfClassesWrong)

/-- 'laws.FnExactSortGenerators': WHATEVER THE INPUT: true; the input reads as it did. -/
def fnExactSortGeneratorsSpec : ChangeSpec := { name := "fnExactSortGenerators", fn := fun _ => fun
  | [d] => { results := [.lit (.bool true)], args := [d] }
  | _ => none }
def fnExactSortGeneratorsRow : OpenClaim := { program := "ytifcfoijcodjbaagreat", sum := "1f849969a49510b75250466d22ba7863611ffa355e5eed97094db80aa2ebcdd2", func := "loop.example/g01219/laws.FnExactSortGenerators", spec := "fnExactSortGenerators", inPlace := ["internal/bytealg.Compare"], unfollowed := true, recurses := true, plainKeys := false, leaving := true, apart := false }
def FnExactSortGeneratorsSaid : Prop := fnExactSortGeneratorsRow.holds Tryz.pinned (OpenSpec.ofChange fnExactSortGeneratorsSpec)

/-- ITS FALSE NEIGHBOUR: 'it returns false'. Refute it at one input. -/
def fnExactSortGeneratorsWrong : ChangeSpec := { name := "fnExactSortGenerators", fn := fun _ => fun
  | [d] => { results := [.lit (.bool false)], args := [d] }
  | _ => none }
def FnExactSortGeneratorsWrongFalsely : Prop := fnExactSortGeneratorsRow.holds Tryz.pinned (OpenSpec.ofChange fnExactSortGeneratorsWrong)

/-- 'laws.FnExactExchangeGenerators': WHATEVER THE INPUT: true; the input reads as it did. -/
def fnExactExchangeGeneratorsSpec : ChangeSpec := { name := "fnExactExchangeGenerators", fn := fun _ => fun
  | [d1, d2] => { results := [.lit (.bool true)], args := [d1, d2] }
  | _ => none }
def fnExactExchangeGeneratorsRow : OpenClaim := { program := "ytifcfoijcodjbaagreat", sum := "1f849969a49510b75250466d22ba7863611ffa355e5eed97094db80aa2ebcdd2", func := "loop.example/g01219/laws.FnExactExchangeGenerators", spec := "fnExactExchangeGenerators", inPlace := ["internal/bytealg.Compare"], unfollowed := true, recurses := true, plainKeys := false, leaving := true, apart := false }
def FnExactExchangeGeneratorsSaid : Prop := fnExactExchangeGeneratorsRow.holds Tryz.pinned (OpenSpec.ofChange fnExactExchangeGeneratorsSpec)

/-- ITS FALSE NEIGHBOUR: 'it returns false'. Refute it at one input. -/
def fnExactExchangeGeneratorsWrong : ChangeSpec := { name := "fnExactExchangeGenerators", fn := fun _ => fun
  | [d1, d2] => { results := [.lit (.bool false)], args := [d1, d2] }
  | _ => none }
def FnExactExchangeGeneratorsWrongFalsely : Prop := fnExactExchangeGeneratorsRow.holds Tryz.pinned (OpenSpec.ofChange fnExactExchangeGeneratorsWrong)

/-- 'laws.FnExactProductTable': WHATEVER THE INPUT: true; the input reads as it did. -/
def fnExactProductTableSpec : ChangeSpec := { name := "fnExactProductTable", fn := fun _ => fun
  | [d1, d2, d3] => { results := [.lit (.bool true)], args := [d1, d2, d3] }
  | _ => none }
def fnExactProductTableRow : OpenClaim := { program := "ytifcfoijcodjbaagreat", sum := "1f849969a49510b75250466d22ba7863611ffa355e5eed97094db80aa2ebcdd2", func := "loop.example/g01219/laws.FnExactProductTable", spec := "fnExactProductTable", inPlace := ["internal/bytealg.Compare", "(*sync.WaitGroup).Add", "internal/race.ReleaseMerge", "internal/race.Disable", "internal/race.Enable", "internal/synctest.IsInBubble", "internal/synctest.Associate[sync.WaitGroup]", "sync.fatal", "sync/atomic.OrUint64", "sync/atomic.AddUint64", "internal/race.Read", "sync/atomic.LoadUint64", "sync/atomic.StoreUint64", "internal/synctest.Disassociate[sync.WaitGroup]", "sync.runtime_Semrelease", "(*sync.WaitGroup).Done", "(*sync.WaitGroup).Wait", "internal/race.Acquire", "internal/synctest.IsAssociated[sync.WaitGroup]", "sync/atomic.CompareAndSwapUint64", "internal/race.Write", "sync.runtime_SemacquireWaitGroup"], unfollowed := true, recurses := true, plainKeys := false, leaving := true, apart := false }
def FnExactProductTableSaid : Prop := fnExactProductTableRow.holds Tryz.pinned (OpenSpec.ofChange fnExactProductTableSpec)

/-- ITS FALSE NEIGHBOUR: 'it returns false'. Refute it at one input. -/
def fnExactProductTableWrong : ChangeSpec := { name := "fnExactProductTable", fn := fun _ => fun
  | [d1, d2, d3] => { results := [.lit (.bool false)], args := [d1, d2, d3] }
  | _ => none }
def FnExactProductTableWrongFalsely : Prop := fnExactProductTableRow.holds Tryz.pinned (OpenSpec.ofChange fnExactProductTableWrong)

/- THE SECOND FORM. 'bulk': how many values and letters a reading holds, each counted each time it is reached (what is shared counts as often as it is met; a slice's spare places count too). A statement '..UptoSaid' is the law's where the arguments, and the package variables that the reading takes, are together of bulk at most 1048576: NARROWER than '..Said'. Prove '..Said' where nothing that the law and all that it calls make is longer than what came in: it says more and counts as full. Else prove '..UptoSaid'. A law counts once. -/
mutual
def uptoBulk {H : Type} : DataW H → Nat
  | .lit (.string bytes) => bytes.length + 1
  | .lit _ => 1
  | .nil => 1
  | .ptr d => uptoBulk d + 1
  | .slice elems spare => uptoBulkAll elems + uptoBulkAll spare + 1
  | .agg parts => uptoBulkAll parts + 1
  | .iface _ d => uptoBulk d + 1
  | .map entries => uptoBulkEntries entries + 1
  | .held _ => 1
def uptoBulkAll {H : Type} : List (DataW H) → Nat
  | [] => 0
  | d :: r => uptoBulk d + uptoBulkAll r
def uptoBulkEntries {H : Type} : List (Lit × DataW H) → Nat
  | [] => 0
  | x :: r => uptoBulkEntry x + uptoBulkEntries r
def uptoBulkEntry {H : Type} : Lit × DataW H → Nat
  | (.string bytes, d) => bytes.length + uptoBulk d + 1
  | (_, d) => uptoBulk d + 1
 end
def uptoSmall : (H : Type) → List (DataW H) → Bool := fun _ ds => decide (uptoBulkAll ds ≤ 1048576)
def OpenSpec.upto (s : _root_.Go.ChangeSpec) : _root_.Go.OpenSpec := { _root_.Go.OpenSpec.ofChange s with cond := some uptoSmall }

/-- 'laws.FnExactClassOf', WHERE WHAT IT READS IS OF BULK AT MOST 1048576: true; the input reads as it did. -/
def fnExactClassOfUptoRow : OpenClaim := { program := "ytifcfoijcodjbaagreat", sum := "1f849969a49510b75250466d22ba7863611ffa355e5eed97094db80aa2ebcdd2", func := "loop.example/g01219/laws.FnExactClassOf", spec := "fnExactClassOf", inPlace := ["internal/bytealg.Compare"], unfollowed := true, recurses := true, plainKeys := false, leaving := true, apart := false, narrowed := true }
def FnExactClassOfUptoSaid : Prop := fnExactClassOfUptoRow.holds Tryz.pinned (OpenSpec.upto fnExactClassOfSpec)

/-- 'laws.FnExactPrimitiveOf', WHERE WHAT IT READS IS OF BULK AT MOST 1048576: true; the input reads as it did. -/
def fnExactPrimitiveOfUptoRow : OpenClaim := { program := "ytifcfoijcodjbaagreat", sum := "1f849969a49510b75250466d22ba7863611ffa355e5eed97094db80aa2ebcdd2", func := "loop.example/g01219/laws.FnExactPrimitiveOf", spec := "fnExactPrimitiveOf", inPlace := ["internal/bytealg.Compare"], unfollowed := true, recurses := true, plainKeys := false, leaving := true, apart := false, narrowed := true }
def FnExactPrimitiveOfUptoSaid : Prop := fnExactPrimitiveOfUptoRow.holds Tryz.pinned (OpenSpec.upto fnExactPrimitiveOfSpec)

/-- 'laws.FnExactIsBoundary', WHERE WHAT IT READS IS OF BULK AT MOST 1048576: true; the input reads as it did. -/
def fnExactIsBoundaryUptoRow : OpenClaim := { program := "ytifcfoijcodjbaagreat", sum := "1f849969a49510b75250466d22ba7863611ffa355e5eed97094db80aa2ebcdd2", func := "loop.example/g01219/laws.FnExactIsBoundary", spec := "fnExactIsBoundary", inPlace := ["internal/bytealg.Compare"], unfollowed := true, recurses := true, plainKeys := false, leaving := true, apart := false, narrowed := true }
def FnExactIsBoundaryUptoSaid : Prop := fnExactIsBoundaryUptoRow.holds Tryz.pinned (OpenSpec.upto fnExactIsBoundarySpec)

/-- 'laws.FnExactClassForms', WHERE WHAT IT READS IS OF BULK AT MOST 1048576: true; the input reads as it did. -/
def fnExactClassFormsUptoRow : OpenClaim := { program := "ytifcfoijcodjbaagreat", sum := "1f849969a49510b75250466d22ba7863611ffa355e5eed97094db80aa2ebcdd2", func := "loop.example/g01219/laws.FnExactClassForms", spec := "fnExactClassForms", inPlace := ["internal/bytealg.Compare"], unfollowed := true, recurses := true, plainKeys := false, leaving := true, apart := false, narrowed := true }
def FnExactClassFormsUptoSaid : Prop := fnExactClassFormsUptoRow.holds Tryz.pinned (OpenSpec.upto fnExactClassFormsSpec)

/-- 'laws.FnExactLengthOfProducts', WHERE WHAT IT READS IS OF BULK AT MOST 1048576: true; the input reads as it did. -/
def fnExactLengthOfProductsUptoRow : OpenClaim := { program := "ytifcfoijcodjbaagreat", sum := "1f849969a49510b75250466d22ba7863611ffa355e5eed97094db80aa2ebcdd2", func := "loop.example/g01219/laws.FnExactLengthOfProducts", spec := "fnExactLengthOfProducts", inPlace := ["internal/bytealg.Compare"], unfollowed := true, recurses := true, plainKeys := false, leaving := true, apart := false, narrowed := true }
def FnExactLengthOfProductsUptoSaid : Prop := fnExactLengthOfProductsUptoRow.holds Tryz.pinned (OpenSpec.upto fnExactLengthOfProductsSpec)

/-- 'laws.FnExactProductOfClasses', WHERE WHAT IT READS IS OF BULK AT MOST 1048576: true; the input reads as it did. -/
def fnExactProductOfClassesUptoRow : OpenClaim := { program := "ytifcfoijcodjbaagreat", sum := "1f849969a49510b75250466d22ba7863611ffa355e5eed97094db80aa2ebcdd2", func := "loop.example/g01219/laws.FnExactProductOfClasses", spec := "fnExactProductOfClasses", inPlace := ["internal/bytealg.Compare"], unfollowed := true, recurses := true, plainKeys := false, leaving := true, apart := false, narrowed := true }
def FnExactProductOfClassesUptoSaid : Prop := fnExactProductOfClassesUptoRow.holds Tryz.pinned (OpenSpec.upto fnExactProductOfClassesSpec)

/-- 'laws.FnExactSortGenerators', WHERE WHAT IT READS IS OF BULK AT MOST 1048576: true; the input reads as it did. -/
def fnExactSortGeneratorsUptoRow : OpenClaim := { program := "ytifcfoijcodjbaagreat", sum := "1f849969a49510b75250466d22ba7863611ffa355e5eed97094db80aa2ebcdd2", func := "loop.example/g01219/laws.FnExactSortGenerators", spec := "fnExactSortGenerators", inPlace := ["internal/bytealg.Compare"], unfollowed := true, recurses := true, plainKeys := false, leaving := true, apart := false, narrowed := true }
def FnExactSortGeneratorsUptoSaid : Prop := fnExactSortGeneratorsUptoRow.holds Tryz.pinned (OpenSpec.upto fnExactSortGeneratorsSpec)

/-- 'laws.FnExactExchangeGenerators', WHERE WHAT IT READS IS OF BULK AT MOST 1048576: true; the input reads as it did. -/
def fnExactExchangeGeneratorsUptoRow : OpenClaim := { program := "ytifcfoijcodjbaagreat", sum := "1f849969a49510b75250466d22ba7863611ffa355e5eed97094db80aa2ebcdd2", func := "loop.example/g01219/laws.FnExactExchangeGenerators", spec := "fnExactExchangeGenerators", inPlace := ["internal/bytealg.Compare"], unfollowed := true, recurses := true, plainKeys := false, leaving := true, apart := false, narrowed := true }
def FnExactExchangeGeneratorsUptoSaid : Prop := fnExactExchangeGeneratorsUptoRow.holds Tryz.pinned (OpenSpec.upto fnExactExchangeGeneratorsSpec)

/-- 'laws.FnExactProductTable', WHERE WHAT IT READS IS OF BULK AT MOST 1048576: true; the input reads as it did. -/
def fnExactProductTableUptoRow : OpenClaim := { program := "ytifcfoijcodjbaagreat", sum := "1f849969a49510b75250466d22ba7863611ffa355e5eed97094db80aa2ebcdd2", func := "loop.example/g01219/laws.FnExactProductTable", spec := "fnExactProductTable", inPlace := ["internal/bytealg.Compare", "(*sync.WaitGroup).Add", "internal/race.ReleaseMerge", "internal/race.Disable", "internal/race.Enable", "internal/synctest.IsInBubble", "internal/synctest.Associate[sync.WaitGroup]", "sync.fatal", "sync/atomic.OrUint64", "sync/atomic.AddUint64", "internal/race.Read", "sync/atomic.LoadUint64", "sync/atomic.StoreUint64", "internal/synctest.Disassociate[sync.WaitGroup]", "sync.runtime_Semrelease", "(*sync.WaitGroup).Done", "(*sync.WaitGroup).Wait", "internal/race.Acquire", "internal/synctest.IsAssociated[sync.WaitGroup]", "sync/atomic.CompareAndSwapUint64", "internal/race.Write", "sync.runtime_SemacquireWaitGroup"], unfollowed := true, recurses := true, plainKeys := false, leaving := true, apart := false, narrowed := true }
def FnExactProductTableUptoSaid : Prop := fnExactProductTableUptoRow.holds Tryz.pinned (OpenSpec.upto fnExactProductTableSpec)

end Rows
end Go.Proofs.YtifcfoijcodjbaaGreat
