/- Word lengths of monomials and forms: the program's and the model's. -/
import Derived.Test.YteocfhflclnkhaaIsFormB
namespace Go.Proofs.Yteocfhflclnkhaa
open Go.RowKit Go.Deep

def wlTo (m : List Int) : Nat → Int
  | 0 => 0
  | k + 1 => wlTo m k + m.getD k 0
/-- The sum of the exponents. -/
def wlen (m : List Int) : Int := wlTo m 8
theorem wlTo_bd {m : List Int} (h : IsMono m) (k : Nat) : 0 ≤ wlTo m k ∧ wlTo m k ≤ 255 * k := by
  induction k with
  | zero => simp [wlTo]
  | succ k ih =>
    have := getD_mono h k
    simp only [wlTo]
    omega
theorem wlTo_succ {m : List Int} {k : Nat} {y : Int} (hy : m[k]? = some y) : wlTo m (k + 1) = wlTo m k + y := by
  rw [wlTo, List.getD_eq_getElem?_getD, hy]; rfl
theorem wlen_bd {m : List Int} (h : IsMono m) : 0 ≤ wlen m ∧ wlen m ≤ 2040 := wlTo_bd h 8

/-- The word length of term k. -/
def wlAt (fs : List Tm) (k : Nat) : Int := match fs[k]? with | some t => wlen t.m | none => 0
theorem wlAt_of {fs : List Tm} {k : Nat} {t : Tm} (h : fs[k]? = some t) : wlAt fs k = wlen t.m := by simp only [wlAt, h]
/-- The least word length of the first k terms. -/
def leastTo (fs : List Tm) : Nat → Int
  | 0 => 0
  | k + 1 => if k = 0 then wlAt fs 0 else min (leastTo fs k) (wlAt fs k)
theorem leastTo_one (fs : List Tm) : leastTo fs 1 = wlAt fs 0 := by rw [leastTo, if_pos rfl]
theorem leastTo_succ {fs : List Tm} {k : Nat} (h : ¬ k = 0) : leastTo fs (k + 1) = min (leastTo fs k) (wlAt fs k) := by rw [leastTo, if_neg h]
theorem leastTo_lt {fs : List Tm} {k : Nat} {x : Int} (h : ¬ k = 0) (hx : wlAt fs k = x) (hl : x < leastTo fs k) : leastTo fs (k + 1) = x := by rw [leastTo_succ h, hx]; omega
theorem leastTo_ge {fs : List Tm} {k : Nat} {x : Int} (h : ¬ k = 0) (hx : wlAt fs k = x) (hl : ¬ x < leastTo fs k) : leastTo fs (k + 1) = leastTo fs k := by rw [leastTo_succ h, hx]; omega
def leastW (fs : List Tm) : Int := leastTo fs fs.length

end Go.Proofs.Yteocfhflclnkhaa
