
import Derived.Test.YtndnkeijddagiaaLawIdent
import Derived.Test.YtndnkeijddagiaaIdent
namespace Go.Proofs.Ytndnkeijddagiaa
open Go.RowKit Go.Deep
theorem idV_len (zs : List Int) (ims : List (List Tm)) : (idV zs ims).length ≤ 8 ∧ (∀ ts ∈ idV zs ims, (ts.length : Int) ≤ 1048576) ∧ sumLen (idV zs ims) ≤ 8 := by
  cases h : isAlg zs ims with
  | false => rw [(id_no h).1]; simp [sumLen]
  | true =>
    have h1 := degsOk_len (isAlg_degs h)
    rw [(id_yes h).1, gensTo_len, gensTo_sum]
    exact ⟨h1, gensTo_one _, h1⟩
theorem identityMap_walk (da : Option Addr) (dn dc : Nat) (zs : List Int) (a : Option Addr) (n c : Nat) (fss : List (List Tm)) (w : World) (hd : Ints w da dn zs) (hdm : (dn : Int) ≤ 9223372036854775807) (hF : Frms w a n fss) (hnm : (n : Int) ≤ 9223372036854775807) :
    Calls Try.prog 9 #[.agg #[.slice da dn dc, .slice a n c]] w fun e w' => e = .returned (.bool true) ∧ Below w.heap.size w w' :=
  lawIdent_walk da dn dc zs a n c fss w hd hdm hF hnm (idV zs fss) (idE zs fss) _ rfl (by have := (idV_len zs fss).1; omega) (idV_len zs fss).2.1 (by have := (idV_len zs fss).2.2; omega) (fun _ _ dc' _ c' h1 h2 h3 h4 h5 => IdentityMap_s dc' c' h4 h1 h5 h2 h3) (fun _ _ dc' _ c' h1 h2 h3 h4 h5 => IdentityMap_c dc' c' h4 h1 h5 h2 h3)
end Go.Proofs.Ytndnkeijddagiaa
