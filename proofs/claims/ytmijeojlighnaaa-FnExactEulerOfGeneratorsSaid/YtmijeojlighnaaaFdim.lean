
import Derived.Test.YtmijeojlighnaaaIsAlg
import Derived.Test.YtmijeojlighnaaaIsAlgS
namespace Go.Proofs.Ytmijeojlighnaaa
open Go.RowKit Go.Deep
theorem isAlg_dz {zs : List Int} {ims : List (List Tm)} (h : isAlg zs ims = true) : degsOk zs = true := by
  simp only [isAlg, Bool.and_eq_true, decide_eq_true_eq] at h
  exact h.1
def eoOf (z : Int) : Int := if odd z = true then -1 else 1
def eoTo (zs : List Int) : Nat → Int
  | 0 => 0
  | k + 1 => eoTo zs k + eoOf (zs.getD k 0)
def eoV (zs : List Int) (ims : List (List Tm)) : Int := if isAlg zs ims = true then eoTo zs zs.length else 0
def algE (zs : List Int) (ims : List (List Tm)) : Int := if isAlg zs ims = true then 0 else 1
theorem eoV_no {zs : List Int} {ims : List (List Tm)} (h : isAlg zs ims = false) : eoV zs ims = 0 := by simp [eoV, h]
theorem eoV_yes {zs : List Int} {ims : List (List Tm)} (h : isAlg zs ims = true) : eoV zs ims = eoTo zs zs.length := by simp [eoV, h]
theorem algE_no {zs : List Int} {ims : List (List Tm)} (h : isAlg zs ims = false) : algE zs ims = 1 := by simp [algE, h]
theorem algE_yes {zs : List Int} {ims : List (List Tm)} (h : isAlg zs ims = true) : algE zs ims = 0 := by simp [algE, h]
theorem eoTo_step {zs : List Int} {k : Nat} {z D : Int} (h : eoTo zs k = D) (hz : zs[k]? = some z) : eoTo zs (k + 1) = D + eoOf z := by rw [eoTo, h, List.getD_eq_getElem?_getD, hz]; rfl
theorem eoTo_bd {zs : List Int} (h : degsOk zs = true) : ∀ k, k ≤ zs.length → -12 * (k : Int) ≤ eoTo zs k ∧ eoTo zs k ≤ 12 * (k : Int)
  | 0, _ => by simp [eoTo]
  | k + 1, hk => by
    have h1 := eoTo_bd h k (by omega)
    have hz : zs[k]? = some zs[k] := List.getElem?_eq_getElem (by omega)
    rw [eoTo_step rfl hz, eoOf]
    split <;> omega
end Go.Proofs.Ytmijeojlighnaaa
