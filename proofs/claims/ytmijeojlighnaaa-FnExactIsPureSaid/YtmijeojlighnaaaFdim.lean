
import Derived.Test.YtmijeojlighnaaaIsAlg
import Derived.Test.YtmijeojlighnaaaIsAlgS
namespace Go.Proofs.Ytmijeojlighnaaa
open Go.RowKit Go.Deep
theorem isAlg_dz {zs : List Int} {ims : List (List Tm)} (h : isAlg zs ims = true) : degsOk zs = true := by
  simp only [isAlg, Bool.and_eq_true, decide_eq_true_eq] at h
  exact h.1
theorem odd_emod (x : Int) : (x % 2 != 0) = odd x := by rw [← odd_bne, Bool.eq_iff_iff]; simp [odd_tmod]
def algE (zs : List Int) (ims : List (List Tm)) : Int := if isAlg zs ims = true then 0 else 1
theorem algE_no {zs : List Int} {ims : List (List Tm)} (h : isAlg zs ims = false) : algE zs ims = 1 := by simp [algE, h]
theorem algE_yes {zs : List Int} {ims : List (List Tm)} (h : isAlg zs ims = true) : algE zs ims = 0 := by simp [algE, h]
end Go.Proofs.Ytmijeojlighnaaa
