
import Derived.Test.YtndnkeijddagiaaAddM
import Derived.Test.YtndnkeijddagiaaPart
import Derived.Test.YtndnkeijddagiaaHeld
import Derived.Test.YtndnkeijddagiaaAddS
namespace Go.Proofs.Ytndnkeijddagiaa
open Go.RowKit Go.Deep
theorem isForm_f {zs:List Int} {ts:List Tm} (h:isForm zs ts=true):∀t∈ts,1≤t.f∧t.f≤10006:=by
 intro t ht
 simp only [isForm,Bool.and_eq_true] at h
 have:=listOk_all h.2.1 t ht
 simp only [okTm,Bool.and_eq_true,decide_eq_true_eq] at this
 exact this.2
theorem isForm_400 {zs:List Int} {ts:List Tm} (h:isForm zs ts=true):ts.length≤400:=by
 simp only [isForm,Bool.and_eq_true,decide_eq_true_eq] at h
 omega
end Go.Proofs.Ytndnkeijddagiaa
