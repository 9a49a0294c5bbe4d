/- Multiples of a form: the model's. Multiples of a form: the program's. -/
import Derived.Test.YtcafccfoeednnaaDoorAddM
import Derived.Test.YtcafccfoeednnaaDoorPart
import Derived.Test.YtcafccfoeednnaaDoorHeld
import Derived.Test.YtcafccfoeednnaaDoorAddS
namespace Go.Proofs.YtcafccfoeednnaaDoor
open Go.RowKit Go.Deep

def scaleE (zs : List Int) (ts : List Tm) (k : Int) : Int := if isForm zs ts = true then (if 0 ≤ k ∧ k ≤ 10006 then 0 else 2) else 1
def scaleV (zs : List Int) (ts : List Tm) (k : Int) : List Tm := if isForm zs ts = true ∧ 1 ≤ k ∧ k ≤ 10006 then scT k ts else []
theorem isForm_f {zs : List Int} {ts : List Tm} (h : isForm zs ts = true) : ∀ t ∈ ts, 1 ≤ t.f ∧ t.f ≤ 10006 := by
  intro t ht
  simp only [isForm, Bool.and_eq_true] at h
  have := listOk_all h.2.1 t ht
  simp only [okTm, Bool.and_eq_true, decide_eq_true_eq] at this
  exact this.2
theorem scT_take {k : Int} {ts : List Tm} {i : Nat} {t : Tm} (h : ts[i]? = some t) : scT k (ts.take (i + 1)) = scT k (ts.take i) ++ [⟨t.m, num (k * t.f)⟩] := by
  rw [scT, List.take_add_one, h, List.map_append]; rfl

end Go.Proofs.YtcafccfoeednnaaDoor

namespace Go.Proofs.YtcafccfoeednnaaDoor
open Go.RowKit Go.Deep

theorem scale_add {zs : List Int} {ts : List Tm} {k : Int} (h : isForm zs ts = true) (h0 : 0 ≤ k) (h1 : k ≤ 10006) : addT k [] ts = scaleV zs ts k := by
  by_cases hk : k = 0
  · subst hk
    rw [scT_zero, scaleV, if_neg (by omega)]
  · rw [scT_add (by omega) h1 ts (isForm_f h), scaleV, if_pos ⟨h, by omega, h1⟩]
theorem isForm_400 {zs : List Int} {ts : List Tm} (h : isForm zs ts = true) : ts.length ≤ 400 := by
  simp only [isForm, Bool.and_eq_true, decide_eq_true_eq] at h
  omega
theorem terms_nil (w : World) : Terms w none 0 [] := ⟨rfl, by simp, fun h => absurd h (by omega)⟩

end Go.Proofs.YtcafccfoeednnaaDoor
