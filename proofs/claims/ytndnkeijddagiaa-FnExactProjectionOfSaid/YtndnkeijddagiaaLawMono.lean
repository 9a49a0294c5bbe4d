
import Derived.Test.YtndnkeijddagiaaMonoB
import Derived.Deep.RegionHeld3
import Derived.Deep.DeepCutAuto
namespace Go.Proofs.Ytndnkeijddagiaa
open Go.RowKit Go.Deep
theorem mono8 {m:List Int} (h:IsMono m):∃m0 m1 m2 m3 m4 m5 m6 m7,m=[m0,m1,m2,m3,m4,m5,m6,m7]:=by
 match m,h.1 with
 | [m0,m1,m2,m3,m4,m5,m6,m7],_=>exact ⟨_,_,_,_,_,_,_,_,rfl⟩
end Go.Proofs.Ytndnkeijddagiaa
