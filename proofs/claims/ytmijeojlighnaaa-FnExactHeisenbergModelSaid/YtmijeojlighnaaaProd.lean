
import Derived.Test.YtmijeojlighnaaaMono
import Derived.Test.YtmijeojlighnaaaMonoB
namespace Go.Proofs.Ytmijeojlighnaaa
open Go.RowKit
def Tail0 (A : List Int) (n : Nat) : Prop := ∀ i, n ≤ i → i < 8 → A[i]? = some 0
end Go.Proofs.Ytmijeojlighnaaa
namespace Go.Proofs.Ytmijeojlighnaaa
open Go.RowKit Go.Deep
structure FitW (zs m k : List Int) : Prop where
  n8 : zs.length ≤ 8
  hm : IsMono m
  hk : IsMono k
  tm : Tail0 m zs.length
  tk : Tail0 k zs.length
  bm : ∀ (i : Nat) (y : Int), m[i]? = some y → y ≤ 120
  bk : ∀ (i : Nat) (y : Int), k[i]? = some y → y ≤ 120
end Go.Proofs.Ytmijeojlighnaaa
