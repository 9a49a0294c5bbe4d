/- The walk of the law FnExactPartOfForm, whose result is a form: for every list of numbers and every lists of terms it returns true and leaves the arguments as they were. The result is whatever two contracts agree on. -/
import Derived.Test.YtcafccfoeednnaaResult
import Derived.Test.YtcafccfoeednnaaLawForm
import Derived.Test.YtcafccfoeednnaaPartS
namespace Go.Proofs.Ytcafccfoeednnaa
open Go.RowKit Go.Deep

theorem ints_of_own' {w : World} {g n : Nat} {zs : List Int} (h : Own w g 2 ((zs.map (Value.int .i64)).toArray)) (hn : zs.length = n) : Ints w (some ⟨g, 0, none⟩) n zs := IntBlk.ints' h hn

theorem partV_400 {zs : List Int} {ts : List Tm} {n : Int} : (partV zs ts n).length ≤ 400 := by
  unfold partV
  split
  · rename_i h
    have h1 := partOf_len zs n ts
    have h2 := h.1
    simp only [isForm, Bool.and_eq_true, decide_eq_true_eq] at h2
    omega
  · simp
end Go.Proofs.Ytcafccfoeednnaa
