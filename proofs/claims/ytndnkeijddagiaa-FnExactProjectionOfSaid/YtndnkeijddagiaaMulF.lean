
import Derived.Test.YtndnkeijddagiaaTimesM
import Derived.Test.YtndnkeijddagiaaMap
import Derived.Test.YtndnkeijddagiaaMulM
import Derived.Test.YtndnkeijddagiaaScaleS
import Derived.Test.YtndnkeijddagiaaResult
namespace Go.Proofs.Ytndnkeijddagiaa
open Go.RowKit Go.Deep Go.Maps
theorem isForm_fit {zs:List Int} {fs:List Tm} (h:isForm zs fs=true):∀t∈fs,monoOk zs t.m=true:=by
 intro t ht
 simp only [isForm,Bool.and_eq_true] at h
 have:=listOk_all h.2.1 t ht
 simp only [okTm,Bool.and_eq_true] at this
 exact this.1
end Go.Proofs.Ytndnkeijddagiaa
