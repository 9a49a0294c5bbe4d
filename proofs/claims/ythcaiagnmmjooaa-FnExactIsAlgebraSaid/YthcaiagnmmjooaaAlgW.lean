/- The walk of the law on the check of algebras. -/
import Derived.Test.YthcaiagnmmjooaaLawIsAlg
import Derived.Test.YthcaiagnmmjooaaIsAlgS
namespace Go.Proofs.Ythcaiagnmmjooaa
open Go.RowKit Go.Deep

set_option maxRecDepth 100000 in
theorem IsAlgebra_s {w : World} {da : Option Addr} {dn : Nat} {zs : List Int} {a : Option Addr} {n : Nat} {ims : List (List Tm)} (dc c : Nat) (hd : Ints w da dn zs) (hdn : dn ≤ 1048576) (hF : Frms w a n ims) (hn : n ≤ 1048576) (hL : ∀ im ∈ ims, (im.length : Int) ≤ 1048576) :
    Calls Try.prog 55 #[.agg #[.slice da dn dc, .slice a n c]] w fun e w' => e = .returned (.bool (isAlg zs ims)) ∧ Below w.heap.size w w' := by
  have HLL := Lib.hid hL
  clear hL
  have hb0 := below_alloc1 w (.cells #[.slice da dn dc, .slice a n c] 44)
  have hA0 := Own.new w 44 #[.slice da dn dc, .slice a n c]
  have c0 := hA0.cell 0
  have c1 := hA0.cell 1
  go_enter Try.func55, Try.ntmps55
  go_upto_region 1 with fail
  generalize w.alloc (.cells #[.slice da dn dc, .slice a n c] 44) = w0 at *
  go_wp2_with fail
  refine (l02Is_c dc c (hd.keep hb0) hdn (hF.keep hb0) hn HLL.out).mono ?_
  rintro e w1 ⟨rfl, hb1⟩
  go_wp2_with fail
  go_ret
  exact ⟨rfl, below_trans' hb0 hb1 hb0.size⟩

theorem isAlg_walk (da : Option Addr) (dn dc : Nat) (zs : List Int) (a : Option Addr) (n c : Nat) (fss : List (List Tm)) (w : World) (hd : Ints w da dn zs) (hdm : (dn : Int) ≤ 9223372036854775807) (hF : Frms w a n fss) (hnm : (n : Int) ≤ 9223372036854775807) :
    Calls Try.prog 6 #[.agg #[.slice da dn dc, .slice a n c]] w fun e w' => e = .returned (.bool true) ∧ Below w.heap.size w w' :=
  isAlg_walk0 da dn dc zs a n c fss w hd hdm hF hnm (isAlg zs fss) (fun _ _ dc' _ c' h1 h2 h3 h4 h5 => IsAlgebra_s dc' c' h4 h1 h5 h2 h3) (fun _ _ dc' _ c' h1 h2 h3 h4 h5 => IsAlgebra_c dc' c' h4 h1 h5 h2 h3)

end Go.Proofs.Ythcaiagnmmjooaa
