
import Derived.Test.YtikldofmpkidbaaAddM
import Derived.Test.YtikldofmpkidbaaPart
import Derived.Test.YtikldofmpkidbaaHeld
import Derived.Test.YtikldofmpkidbaaAddS
namespace Go.Proofs.Ytikldofmpkidbaa
open Go.RowKit Go.Deep
theorem isForm_f {zs : List Int} {ts : List Tm} (h : isForm zs ts = true) : ∀ t ∈ ts, 1 ≤ t.f ∧ t.f ≤ 10006 := by
  intro t ht
  simp only [isForm, Bool.and_eq_true] at h
  have := listOk_all h.2.1 t ht
  simp only [okTm, Bool.and_eq_true, decide_eq_true_eq] at this
  exact this.2
end Go.Proofs.Ytikldofmpkidbaa
namespace Go.Proofs.Ytikldofmpkidbaa
open Go.RowKit Go.Deep
theorem isForm_400 {zs : List Int} {ts : List Tm} (h : isForm zs ts = true) : ts.length ≤ 400 := by
  simp only [isForm, Bool.and_eq_true, decide_eq_true_eq] at h
  omega
end Go.Proofs.Ytikldofmpkidbaa
