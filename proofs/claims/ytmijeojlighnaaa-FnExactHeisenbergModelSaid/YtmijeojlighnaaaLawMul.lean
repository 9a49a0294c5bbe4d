
import Derived.Test.YtmijeojlighnaaaProd
import Derived.Deep.DeepCutAuto
import Derived.Test.YtmijeojlighnaaaLawMono
namespace Go.Proofs.Ytmijeojlighnaaa
open Go.RowKit Go.Deep
theorem Ints.drew {w : World} {a : Option Addr} {n : Nat} {zs : List Int} (h : Ints w a n zs) : Ints w.drew a n zs := h
end Go.Proofs.Ytmijeojlighnaaa
