
import Derived.Test.YtndnkeijddagiaaIsAlg
import Derived.Test.YtndnkeijddagiaaIsAlgS
namespace Go.Proofs.Ytndnkeijddagiaa
open Go.RowKit Go.Deep
theorem isAlg_dz {zs : List Int} {ims : List (List Tm)} (h : isAlg zs ims = true) : degsOk zs = true := by
  simp only [isAlg, Bool.and_eq_true, decide_eq_true_eq] at h
  exact h.1
theorem odd_emod (x : Int) : (x % 2 != 0) = odd x := by rw [← odd_bne, Bool.eq_iff_iff]; simp [odd_tmod]
def eoOf (z : Int) : Int := if odd z = true then -1 else 1
def eoTo (zs : List Int) : Nat → Int
  | 0 => 0
  | k + 1 => eoTo zs k + eoOf (zs.getD k 0)
def eoV (zs : List Int) (ims : List (List Tm)) : Int := if isAlg zs ims = true then eoTo zs zs.length else 0
def alE8 (zs : List Int) (ims : List (List Tm)) : Int := if isAlg zs ims = true then 0 else 1
theorem eoV_no {zs : List Int} {ims : List (List Tm)} (h : isAlg zs ims = false) : eoV zs ims = 0 := by simp [eoV, h]
theorem eoV_yes {zs : List Int} {ims : List (List Tm)} (h : isAlg zs ims = true) : eoV zs ims = eoTo zs zs.length := by simp [eoV, h]
theorem alE8_no {zs : List Int} {ims : List (List Tm)} (h : isAlg zs ims = false) : alE8 zs ims = 1 := by simp [alE8, h]
theorem alE8_yes {zs : List Int} {ims : List (List Tm)} (h : isAlg zs ims = true) : alE8 zs ims = 0 := by simp [alE8, h]
theorem eoTo_step {zs : List Int} {k : Nat} {z D : Int} (h : eoTo zs k = D) (hz : zs[k]? = some z) : eoTo zs (k + 1) = D + eoOf z := by rw [eoTo, h, List.getD_eq_getElem?_getD, hz]; rfl
theorem eoTo_bd {zs : List Int} (h : degsOk zs = true) : ∀ k, k ≤ zs.length → -12 * (k : Int) ≤ eoTo zs k ∧ eoTo zs k ≤ 12 * (k : Int)
  | 0, _ => by simp [eoTo]
  | k + 1, hk => by
    have h1 := eoTo_bd h k (by omega)
    have hz : zs[k]? = some zs[k] := List.getElem?_eq_getElem (by omega)
    rw [eoTo_step rfl hz, eoOf]
    split <;> omega
end Go.Proofs.Ytndnkeijddagiaa
