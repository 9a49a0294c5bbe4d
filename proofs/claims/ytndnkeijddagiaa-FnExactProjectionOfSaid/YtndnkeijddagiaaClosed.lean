
import Derived.Test.YtndnkeijddagiaaIsAlgS
import Derived.Test.YtndnkeijddagiaaIsFormB
namespace Go.Proofs.Ytndnkeijddagiaa
open Go.RowKit Go.Deep
theorem isAlg_degs {zs:List Int} {ims:List (List Tm)} (h:isAlg zs ims=true):degsOk zs=true:=by
 simp only [isAlg,Bool.and_eq_true] at h
 exact h.1
end Go.Proofs.Ytndnkeijddagiaa
