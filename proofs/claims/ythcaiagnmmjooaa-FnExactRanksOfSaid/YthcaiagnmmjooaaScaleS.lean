/- Multiples of a form: the model's. -/
import Derived.Test.YthcaiagnmmjooaaAddS
import Derived.Test.YthcaiagnmmjooaaScale
namespace Go.Proofs.Ythcaiagnmmjooaa
open Go.RowKit Go.Deep

theorem scale_add {zs : List Int} {ts : List Tm} {k : Int} (h : isForm zs ts = true) (h0 : 0 ≤ k) (h1 : k ≤ 10006) : addT k [] ts = scaleV zs ts k := by
  by_cases hk : k = 0
  · subst hk
    rw [scT_zero, scaleV, if_neg (by omega)]
  · rw [scT_add (by omega) h1 ts (isForm_f h), scaleV, if_pos ⟨h, by omega, h1⟩]
theorem isForm_400 {zs : List Int} {ts : List Tm} (h : isForm zs ts = true) : ts.length ≤ 400 := by
  simp only [isForm, Bool.and_eq_true, decide_eq_true_eq] at h
  omega
theorem terms_nil (w : World) : Terms w none 0 [] := ⟨rfl, by simp, fun h => absurd h (by omega)⟩

end Go.Proofs.Ythcaiagnmmjooaa
