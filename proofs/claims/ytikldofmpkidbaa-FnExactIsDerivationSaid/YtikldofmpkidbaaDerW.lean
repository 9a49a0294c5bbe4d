
import Derived.Test.YtikldofmpkidbaaLawDer
import Derived.Test.YtikldofmpkidbaaDerS
import Derived.Test.YtikldofmpkidbaaDerC
namespace Go.Proofs.Ytikldofmpkidbaa
open Go.RowKit Go.Deep
theorem isDer_walk (da : Option Addr) (dn dc : Nat) (zs : List Int) (a : Option Addr) (n c : Nat) (fss : List (List Tm)) (k2 : Int) (a2 : Option Addr) (n2 c2 : Nat) (gss : List (List Tm)) (w : World) (hd : Ints w da dn zs) (hdm : (dn : Int) ≤ 9223372036854775807) (hF : Frms w a n fss) (hnm : (n : Int) ≤ 9223372036854775807) (h2 : Frms w a2 n2 gss) (hm2 : (n2 : Int) ≤ 9223372036854775807) :
    Calls Try.prog 3 #[.agg #[.slice da dn dc, .slice a n c], .agg #[.int .i64 k2, .slice a2 n2 c2]] w fun e w' => e = .returned (.bool true) ∧ Below w.heap.size w w' :=
  der_walk0 da dn dc zs a n c fss k2 a2 n2 c2 gss w hd hdm hF hnm h2 hm2 (derB zs fss k2 gss) (fun _ _ dc' _ c' _ q h1 h2 h3 h4 h5 h6 h7 h8 => IsDerivation_s dc' c' k2 q h6 h1 h7 h2 h3 h8 h4 h5) (fun _ _ dc' _ c' _ q h1 h2 h3 h4 h5 h6 h7 h8 => IsDerivation_c dc' c' k2 q h6 h1 h7 h2 h3 h8 h4 h5)
end Go.Proofs.Ytikldofmpkidbaa
