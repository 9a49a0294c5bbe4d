/- Is a form closed, what is its word length: the program's and the model's. -/
import Derived.Test.YteocfhflclnkhaaIsAlgS
import Derived.Test.YteocfhflclnkhaaWord
namespace Go.Proofs.Yteocfhflclnkhaa
open Go.RowKit Go.Deep

/-- What both ask of an algebra and a form. -/
def algF (zs : List Int) (ims : List (List Tm)) (fs : List Tm) : Bool := isAlg zs ims && isForm zs fs
def algE (zs : List Int) (ims : List (List Tm)) (fs : List Tm) : Int := if algF zs ims fs = true then 0 else 1
def closV (zs : List Int) (ims : List (List Tm)) (fs : List Tm) : Bool := algF zs ims fs && closedB zs ims fs
def wordV (zs : List Int) (ims : List (List Tm)) (fs : List Tm) : Int := if algF zs ims fs = true then leastW fs else 0
theorem algE_no {zs : List Int} {ims : List (List Tm)} {fs : List Tm} (h : algF zs ims fs = false) : algE zs ims fs = 1 ∧ closV zs ims fs = false ∧ wordV zs ims fs = 0 := by simp [algE, closV, wordV, h]
theorem algE_yes {zs : List Int} {ims : List (List Tm)} {fs : List Tm} (h : algF zs ims fs = true) : algE zs ims fs = 0 ∧ closV zs ims fs = closedB zs ims fs ∧ wordV zs ims fs = leastW fs := by simp [algE, closV, wordV, h]
theorem isAlg_degs {zs : List Int} {ims : List (List Tm)} (h : isAlg zs ims = true) : degsOk zs = true := by
  simp only [isAlg, Bool.and_eq_true] at h
  exact h.1
theorem algF_alg {zs : List Int} {ims : List (List Tm)} {fs : List Tm} (h : algF zs ims fs = true) : isAlg zs ims = true ∧ isForm zs fs = true := by simpa [algF] using h

end Go.Proofs.Yteocfhflclnkhaa
