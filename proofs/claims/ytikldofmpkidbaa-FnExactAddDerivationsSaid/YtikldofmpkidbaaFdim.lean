
import Derived.Test.YtikldofmpkidbaaIsAlg
import Derived.Test.YtikldofmpkidbaaIsAlgS
namespace Go.Proofs.Ytikldofmpkidbaa
open Go.RowKit Go.Deep
theorem isAlg_dz {zs:List Int} {ims:List (List Tm)} (h:isAlg zs ims=true):degsOk zs=true:=by
 simp only [isAlg,Bool.and_eq_true,decide_eq_true_eq] at h
 exact h.1
end Go.Proofs.Ytikldofmpkidbaa
