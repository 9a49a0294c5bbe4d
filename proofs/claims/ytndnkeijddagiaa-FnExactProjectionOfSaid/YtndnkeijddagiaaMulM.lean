
import Derived.Test.YtndnkeijddagiaaProd
import Derived.Deep.DeepCutAuto
namespace Go.Proofs.Ytndnkeijddagiaa
open Go.RowKit Go.Deep
def within (m:List Int):Bool:=m.all fun x=>decide (x≤20)
theorem joinS_bd (zs m k:List Int):-1≤joinS zs m k∧joinS zs m k≤1:=by
 unfold joinS
 split
 · decide
 · rcases (sgn3_pm (trip zs m k)).1 with h | h <;> rw [h] <;> decide
end Go.Proofs.Ytndnkeijddagiaa
