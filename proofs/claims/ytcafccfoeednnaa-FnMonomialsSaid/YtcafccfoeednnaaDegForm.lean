/- The degree of a form: the model's and the program's. -/
import Derived.Test.YtcafccfoeednnaaIsFormB
namespace Go.Proofs.Ytcafccfoeednnaa
open Go.RowKit Go.Deep

/-- Do the terms all have the degree of the first one? -/
def headW (zs : List Int) (ts : List Tm) : Int := match ts[0]? with | some t => wt zs t.m | none => -1
def sameW (zs : List Int) (ts : List Tm) (i : Nat) : Bool := match ts[i]? with | some t => decide (wt zs t.m = headW zs ts) | none => true
def allW (zs : List Int) (ts : List Tm) : Bool := (List.range ts.length).all (sameW zs ts)
/-- The degree that the model's helper returns. -/
def degA (zs : List Int) (ts : List Tm) : Int := if allW zs ts = true then headW zs ts else 0
def degF (zs : List Int) (ts : List Tm) : Int := if isForm zs ts = true ∧ allW zs ts = true then headW zs ts else 0
def codF (zs : List Int) (ts : List Tm) : Int := if isForm zs ts = true then (if allW zs ts = true then 0 else 5) else 1

theorem sameW_of {zs : List Int} {ts : List Tm} {i : Nat} {t : Tm} (h : ts[i]? = some t) : sameW zs ts i = decide (wt zs t.m = headW zs ts) := by simp only [sameW, h]
theorem headW_of {zs : List Int} {ts : List Tm} {t : Tm} (h : ts[0]? = some t) : headW zs ts = wt zs t.m := by simp only [headW, h]
theorem sameW_zero (zs : List Int) (ts : List Tm) : sameW zs ts 0 = true := by
  cases h : ts[0]? with
  | none => simp only [sameW, h]
  | some t => rw [sameW_of h, headW_of h]; simp
theorem allW_end {zs : List Int} {ts : List Tm} {n : Nat} (hn : ts.length = n) (h : (List.range n).all (sameW zs ts) = true) : allW zs ts = true := by rw [allW, hn, h]
theorem allW_no {zs : List Int} {ts : List Tm} {k n : Nat} (hn : ts.length = n) (hk : k < n) (h : sameW zs ts k = false) : allW zs ts = false := by rw [allW, hn]; exact range_all_no hk h
theorem isForm_degs {zs : List Int} {ts : List Tm} (h : isForm zs ts = true) : degsOk zs = true := by
  simp only [isForm, Bool.and_eq_true] at h; exact h.1

theorem degreeOf8 {w : World} {a : Option Addr} {n : Nat} {zs : List Int} {v : Int} {m0 m1 m2 m3 m4 m5 m6 m7 : Int} (c : Nat) (h : Ints w a n zs) (hn : n ≤ 8) (hz : Mild zs) (hm : IsMono [m0, m1, m2, m3, m4, m5, m6, m7]) (hv : wt zs [m0, m1, m2, m3, m4, m5, m6, m7] = v) :
    Calls Try.prog 41 #[.slice a n c, .agg #[.int .u8 m0, .int .u8 m1, .int .u8 m2, .int .u8 m3, .int .u8 m4, .int .u8 m5, .int .u8 m6, .int .u8 m7]] w fun e w' => e = .returned (.int .i64 v) ∧ Below w.heap.size w w' := by
  have := degreeOf_c c h hn hz hm
  rw [hv] at this
  exact this

end Go.Proofs.Ytcafccfoeednnaa
