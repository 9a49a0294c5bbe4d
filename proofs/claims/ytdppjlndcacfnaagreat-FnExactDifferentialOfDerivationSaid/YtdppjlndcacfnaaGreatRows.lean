/-
  No cell of these rows narrows 'for every input' (looked for: loops, veiled, ifaces, maps, wideKeys, modest, calm, conditions, laid).
  DERIVED. THE GIVEN ROWS OF THIS SEAT. 4 by the template 'for every input the law returns true; each argument reads behind the call as it read before'; 0 by the template 'total and deterministic' (their statements: YtdppjlndcacfnaaGreatTotals.lean).
  GIVEN WITH THE SEED: the statements are not yours to turn. If you find one false, say at which input.
  Laid BY PROGRAM, IN A SANDBOX (cutbox-rows.mjs): the forced cells as the released guide's own fill.sh prints them over the translation 1426f195ae2e106d… (all of the seat's roots in one cut). By AI agents, Wed Nov 11 2026. No macro, syntax, notation, axiom, sorry.
-/
import Derived.Test.YtdppjlndcacfnaaGreatChecked
import GoSem.Claim
import GoSem.ClaimJoined
import GoSem.ClaimMapViews
import Derived.JoinedTies
import Derived.KernelRfl
namespace Go.Proofs.YtdppjlndcacfnaaGreat
/- THE CELL 'sum', in the pinned program and in every row, IS THE sha256 OF THE DUMP (.gsa) THAT YtdppjlndcacfnaaGreatProg.lean LOADS. Nothing in Lean hashes anything: it is a label: what it is worth is what the hold of that sum in a sandbox is worth. -/
noncomputable def Tryz.pinned : Pinned := { name := "ytdppjlndcacfnaagreat", sum := "1426f195ae2e106d83f64455a6a2d73b28037931764c32c2d8b79fa23317eef3", checked := Tryz.checked }
namespace Rows
def none {H : Type} : Left H := { results := [], args := [] }

/-- 'laws.FnExactBracketOf': WHATEVER THE INPUT: true; the input reads as it did. -/
def fnExactBracketOfSpec : ChangeSpec := { name := "fnExactBracketOf", fn := fun _ => fun
  | [d1, d2, d3] => { results := [.lit (.bool true)], args := [d1, d2, d3] }
  | _ => none }
def fnExactBracketOfRow : OpenClaim := { program := "ytdppjlndcacfnaagreat", sum := "1426f195ae2e106d83f64455a6a2d73b28037931764c32c2d8b79fa23317eef3", func := "loop.example/g01219/laws.FnExactBracketOf", spec := "fnExactBracketOf", inPlace := ["internal/bytealg.Compare"], unfollowed := true, recurses := true, plainKeys := false, apart := false }
def FnExactBracketOfSaid : Prop := fnExactBracketOfRow.holds Tryz.pinned (OpenSpec.ofChange fnExactBracketOfSpec)

/-- ITS FALSE NEIGHBOUR: 'it returns false'. Refute it at one input. -/
def fnExactBracketOfWrong : ChangeSpec := { name := "fnExactBracketOf", fn := fun _ => fun
  | [d1, d2, d3] => { results := [.lit (.bool false)], args := [d1, d2, d3] }
  | _ => none }
def FnExactBracketOfWrongFalsely : Prop := fnExactBracketOfRow.holds Tryz.pinned (OpenSpec.ofChange fnExactBracketOfWrong)

/-- 'laws.FnExactDifferentialOfDerivation': WHATEVER THE INPUT: true; the input reads as it did. -/
def fnExactDifferentialOfDerivationSpec : ChangeSpec := { name := "fnExactDifferentialOfDerivation", fn := fun _ => fun
  | [d1, d2] => { results := [.lit (.bool true)], args := [d1, d2] }
  | _ => none }
def fnExactDifferentialOfDerivationRow : OpenClaim := { program := "ytdppjlndcacfnaagreat", sum := "1426f195ae2e106d83f64455a6a2d73b28037931764c32c2d8b79fa23317eef3", func := "loop.example/g01219/laws.FnExactDifferentialOfDerivation", spec := "fnExactDifferentialOfDerivation", inPlace := ["internal/bytealg.Compare"], unfollowed := true, recurses := true, plainKeys := false, apart := false }
def FnExactDifferentialOfDerivationSaid : Prop := fnExactDifferentialOfDerivationRow.holds Tryz.pinned (OpenSpec.ofChange fnExactDifferentialOfDerivationSpec)

/-- ITS FALSE NEIGHBOUR: 'it returns false'. Refute it at one input. -/
def fnExactDifferentialOfDerivationWrong : ChangeSpec := { name := "fnExactDifferentialOfDerivation", fn := fun _ => fun
  | [d1, d2] => { results := [.lit (.bool false)], args := [d1, d2] }
  | _ => none }
def FnExactDifferentialOfDerivationWrongFalsely : Prop := fnExactDifferentialOfDerivationRow.holds Tryz.pinned (OpenSpec.ofChange fnExactDifferentialOfDerivationWrong)

/-- 'laws.FnExactMatrixOfDrop': WHATEVER THE INPUT: true; the input reads as it did. -/
def fnExactMatrixOfDropSpec : ChangeSpec := { name := "fnExactMatrixOfDrop", fn := fun _ => fun
  | [d1, d2] => { results := [.lit (.bool true)], args := [d1, d2] }
  | _ => none }
def fnExactMatrixOfDropRow : OpenClaim := { program := "ytdppjlndcacfnaagreat", sum := "1426f195ae2e106d83f64455a6a2d73b28037931764c32c2d8b79fa23317eef3", func := "loop.example/g01219/laws.FnExactMatrixOfDrop", spec := "fnExactMatrixOfDrop", inPlace := ["internal/bytealg.Compare"], unfollowed := true, recurses := true, plainKeys := false, apart := false }
def FnExactMatrixOfDropSaid : Prop := fnExactMatrixOfDropRow.holds Tryz.pinned (OpenSpec.ofChange fnExactMatrixOfDropSpec)

/-- ITS FALSE NEIGHBOUR: 'it returns false'. Refute it at one input. -/
def fnExactMatrixOfDropWrong : ChangeSpec := { name := "fnExactMatrixOfDrop", fn := fun _ => fun
  | [d1, d2] => { results := [.lit (.bool false)], args := [d1, d2] }
  | _ => none }
def FnExactMatrixOfDropWrongFalsely : Prop := fnExactMatrixOfDropRow.holds Tryz.pinned (OpenSpec.ofChange fnExactMatrixOfDropWrong)

/-- 'laws.FnExactHomologyRank': WHATEVER THE INPUT: true; the input reads as it did. -/
def fnExactHomologyRankSpec : ChangeSpec := { name := "fnExactHomologyRank", fn := fun _ => fun
  | [d1, d2] => { results := [.lit (.bool true)], args := [d1, d2] }
  | _ => none }
def fnExactHomologyRankRow : OpenClaim := { program := "ytdppjlndcacfnaagreat", sum := "1426f195ae2e106d83f64455a6a2d73b28037931764c32c2d8b79fa23317eef3", func := "loop.example/g01219/laws.FnExactHomologyRank", spec := "fnExactHomologyRank", inPlace := ["internal/bytealg.Compare"], unfollowed := true, recurses := true, plainKeys := false, apart := false }
def FnExactHomologyRankSaid : Prop := fnExactHomologyRankRow.holds Tryz.pinned (OpenSpec.ofChange fnExactHomologyRankSpec)

/-- ITS FALSE NEIGHBOUR: 'it returns false'. Refute it at one input. -/
def fnExactHomologyRankWrong : ChangeSpec := { name := "fnExactHomologyRank", fn := fun _ => fun
  | [d1, d2] => { results := [.lit (.bool false)], args := [d1, d2] }
  | _ => none }
def FnExactHomologyRankWrongFalsely : Prop := fnExactHomologyRankRow.holds Tryz.pinned (OpenSpec.ofChange fnExactHomologyRankWrong)

/- THE SECOND FORM. 'bulk': how many values and letters a reading holds, each counted each time it is reached (what is shared counts as often as it is met; a slice's spare places count too). A statement '..UptoSaid' is the law's where the arguments, and the package variables that the reading takes, are together of bulk at most 1048576: NARROWER than '..Said'. Prove '..Said' where nothing that the law and all that it calls make is longer than what came in: it says more and counts as full. Else prove '..UptoSaid'. A law counts once. -/
mutual
def uptoBulk {H : Type} : DataW H → Nat
  | .lit (.string bytes) => bytes.length + 1
  | .lit _ => 1
  | .nil => 1
  | .ptr d => uptoBulk d + 1
  | .slice elems spare => uptoBulkAll elems + uptoBulkAll spare + 1
  | .agg parts => uptoBulkAll parts + 1
  | .iface _ d => uptoBulk d + 1
  | .map entries => uptoBulkEntries entries + 1
  | .held _ => 1
def uptoBulkAll {H : Type} : List (DataW H) → Nat
  | [] => 0
  | d :: r => uptoBulk d + uptoBulkAll r
def uptoBulkEntries {H : Type} : List (Lit × DataW H) → Nat
  | [] => 0
  | x :: r => uptoBulkEntry x + uptoBulkEntries r
def uptoBulkEntry {H : Type} : Lit × DataW H → Nat
  | (.string bytes, d) => bytes.length + uptoBulk d + 1
  | (_, d) => uptoBulk d + 1
 end
def uptoSmall : (H : Type) → List (DataW H) → Bool := fun _ ds => decide (uptoBulkAll ds ≤ 1048576)
def OpenSpec.upto (s : _root_.Go.ChangeSpec) : _root_.Go.OpenSpec := { _root_.Go.OpenSpec.ofChange s with cond := some uptoSmall }

/-- 'laws.FnExactBracketOf', WHERE WHAT IT READS IS OF BULK AT MOST 1048576: true; the input reads as it did. -/
def fnExactBracketOfUptoRow : OpenClaim := { program := "ytdppjlndcacfnaagreat", sum := "1426f195ae2e106d83f64455a6a2d73b28037931764c32c2d8b79fa23317eef3", func := "loop.example/g01219/laws.FnExactBracketOf", spec := "fnExactBracketOf", inPlace := ["internal/bytealg.Compare"], unfollowed := true, recurses := true, plainKeys := false, apart := false, narrowed := true }
def FnExactBracketOfUptoSaid : Prop := fnExactBracketOfUptoRow.holds Tryz.pinned (OpenSpec.upto fnExactBracketOfSpec)

/-- 'laws.FnExactDifferentialOfDerivation', WHERE WHAT IT READS IS OF BULK AT MOST 1048576: true; the input reads as it did. -/
def fnExactDifferentialOfDerivationUptoRow : OpenClaim := { program := "ytdppjlndcacfnaagreat", sum := "1426f195ae2e106d83f64455a6a2d73b28037931764c32c2d8b79fa23317eef3", func := "loop.example/g01219/laws.FnExactDifferentialOfDerivation", spec := "fnExactDifferentialOfDerivation", inPlace := ["internal/bytealg.Compare"], unfollowed := true, recurses := true, plainKeys := false, apart := false, narrowed := true }
def FnExactDifferentialOfDerivationUptoSaid : Prop := fnExactDifferentialOfDerivationUptoRow.holds Tryz.pinned (OpenSpec.upto fnExactDifferentialOfDerivationSpec)

/-- 'laws.FnExactMatrixOfDrop', WHERE WHAT IT READS IS OF BULK AT MOST 1048576: true; the input reads as it did. -/
def fnExactMatrixOfDropUptoRow : OpenClaim := { program := "ytdppjlndcacfnaagreat", sum := "1426f195ae2e106d83f64455a6a2d73b28037931764c32c2d8b79fa23317eef3", func := "loop.example/g01219/laws.FnExactMatrixOfDrop", spec := "fnExactMatrixOfDrop", inPlace := ["internal/bytealg.Compare"], unfollowed := true, recurses := true, plainKeys := false, apart := false, narrowed := true }
def FnExactMatrixOfDropUptoSaid : Prop := fnExactMatrixOfDropUptoRow.holds Tryz.pinned (OpenSpec.upto fnExactMatrixOfDropSpec)

/-- 'laws.FnExactHomologyRank', WHERE WHAT IT READS IS OF BULK AT MOST 1048576: true; the input reads as it did. -/
def fnExactHomologyRankUptoRow : OpenClaim := { program := "ytdppjlndcacfnaagreat", sum := "1426f195ae2e106d83f64455a6a2d73b28037931764c32c2d8b79fa23317eef3", func := "loop.example/g01219/laws.FnExactHomologyRank", spec := "fnExactHomologyRank", inPlace := ["internal/bytealg.Compare"], unfollowed := true, recurses := true, plainKeys := false, apart := false, narrowed := true }
def FnExactHomologyRankUptoSaid : Prop := fnExactHomologyRankUptoRow.holds Tryz.pinned (OpenSpec.upto fnExactHomologyRankSpec)

end Rows
end Go.Proofs.YtdppjlndcacfnaaGreat
