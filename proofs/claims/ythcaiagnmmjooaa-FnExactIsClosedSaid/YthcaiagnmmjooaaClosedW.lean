/- The walk of the law on closed forms. -/
import Derived.Test.YthcaiagnmmjooaaLawClosed
import Derived.Test.YthcaiagnmmjooaaClosed
namespace Go.Proofs.Ythcaiagnmmjooaa
open Go.RowKit Go.Deep

theorem isClosed_walk (da : Option Addr) (dn dc : Nat) (zs : List Int) (a : Option Addr) (n c : Nat) (fss : List (List Tm)) (a2 : Option Addr) (n2 c2 : Nat) (fs : List Tm) (w : World) (hd : Ints w da dn zs) (hdm : (dn : Int) ≤ 9223372036854775807) (hF : Frms w a n fss) (hnm : (n : Int) ≤ 9223372036854775807) (h2 : Terms w a2 n2 fs) (hm2 : (n2 : Int) ≤ 9223372036854775807) :
    Calls Try.prog 8 #[.agg #[.slice da dn dc, .slice a n c], .agg #[.slice a2 n2 c2]] w fun e w' => e = .returned (.bool true) ∧ Below w.heap.size w w' :=
  isClosed_walk0 da dn dc zs a n c fss a2 n2 c2 fs w hd hdm hF hnm h2 hm2 (closV zs fss fs) (algE zs fss fs) (fun _ _ dc' _ c' _ q h1 h2 h3 h4 h5 h6 h7 => IsClosed_s dc' c' q h5 h1 h6 h2 h3 h7 h4) (fun _ _ dc' _ c' _ q h1 h2 h3 h4 h5 h6 h7 => IsClosed_c dc' c' q h5 h1 h6 h2 h3 h7 h4)

end Go.Proofs.Ythcaiagnmmjooaa
