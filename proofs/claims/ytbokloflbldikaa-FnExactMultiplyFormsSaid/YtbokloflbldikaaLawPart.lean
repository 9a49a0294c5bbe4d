
import Derived.Test.YtbokloflbldikaaResult
import Derived.Test.YtbokloflbldikaaLawForm
import Derived.Test.YtbokloflbldikaaPart
import Derived.Test.YtbokloflbldikaaHeld
namespace Go.Proofs.Ytbokloflbldikaa
open Go.RowKit Go.Deep
theorem ints_of_own' {w : World} {g n : Nat} {zs : List Int} (h : Own w g 2 ((zs.map (Value.int .i64)).toArray)) (hn : zs.length = n) : Ints w (some ⟨g, 0, none⟩) n zs := IntBlk.ints' h hn
end Go.Proofs.Ytbokloflbldikaa
