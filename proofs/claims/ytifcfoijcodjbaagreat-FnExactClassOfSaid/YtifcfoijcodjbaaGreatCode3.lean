
import Derived.Test.YtifcfoijcodjbaaGreatSide
import Derived.Test.YtifcfoijcodjbaaGreatTbl
namespace Go.Proofs.YtifcfoijcodjbaaGreat
open Go.RowKit Go.Deep
theorem isAlg_dg {zs:List Int} {ims:List (List Tm)} (h:isAlg zs ims=true):degsOk zs=true:=by
 simp only [isAlg,Bool.and_eq_true] at h
 exact h.1
def low1 (n:Int):Nat:=(n - 1).toNat
end Go.Proofs.YtifcfoijcodjbaaGreat
