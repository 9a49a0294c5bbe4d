
import Derived.Test.YtndnkeijddagiaaIsFormB
namespace Go.Proofs.Ytndnkeijddagiaa
open Go.RowKit Go.Deep Go.ChangeShapes Go.WideShapes
section
variable {H:Type} {enc:TypeId × Value→H} {w:World} {spare:Nat→Bool} {held:Bool}
end
theorem Own.terms {w:World} {g n:Nat} {t:TypeId} {ts:List Tm} (h:Own w g t (rcells ts).toArray) (hT:∀t∈ts,IsTm t) (hn:ts.length=n):Terms w (some ⟨g,0,none⟩) n ts:=Terms.of_own h hT hn
end Go.Proofs.Ytndnkeijddagiaa
