
import Derived.Test.YtbokloflbldikaaTimesM
import Derived.Test.YtbokloflbldikaaMap
import Derived.Test.YtbokloflbldikaaMulM
import Derived.Test.YtbokloflbldikaaScaleS
import Derived.Test.YtbokloflbldikaaResult
namespace Go.Proofs.Ytbokloflbldikaa
open Go.RowKit Go.Deep Go.Maps
theorem isForm_fit {zs : List Int} {fs : List Tm} (h : isForm zs fs = true) : ∀ t ∈ fs, monoOk zs t.m = true := by
  intro t ht
  simp only [isForm, Bool.and_eq_true] at h
  have := listOk_all h.2.1 t ht
  simp only [okTm, Bool.and_eq_true] at this
  exact this.1
def FormOf (w : World) (S : List Int → Int) (e : Ending) (w' : World) : Prop :=
  (∃ v L, e = .returned (.tuple #[.agg #[v], .int .i64 0]) ∧ OwnR w' w.heap.size v L ∧ Srt L ∧ (∀ t ∈ L, IsTm t) ∧ (∀ t ∈ L, 1 ≤ t.f ∧ t.f ≤ 10006) ∧ (∀ t ∈ L, within t.m = true) ∧ L.length ≤ 400 ∧ ∀ m, IsMono m → coef L m = S m) ∨
  (e = .returned (.tuple #[.agg #[.slice none 0 0], .int .i64 3]) ∧ ((∃ m, IsMono m ∧ ¬ S m = 0 ∧ within m = false) ∨ ∃ K : List (List Int), K.Nodup ∧ 400 < K.length ∧ ∀ m ∈ K, IsMono m ∧ ¬ S m = 0))
end Go.Proofs.Ytbokloflbldikaa
