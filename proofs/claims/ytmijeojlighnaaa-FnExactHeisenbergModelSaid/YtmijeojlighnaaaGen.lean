
import Derived.Test.YtmijeojlighnaaaSingle
import Derived.Test.YtmijeojlighnaaaKeep
namespace Go.Proofs.Ytmijeojlighnaaa
open Go.RowKit Go.Deep
theorem ownR_one {w : World} {B g : Nat} {m : List Int} {f : Int} (hm : IsMono m) (h : Own w g 75 (tcells ⟨m, f⟩).toArray) (hB : B ≤ g) : OwnR w B (.slice (some ⟨g, 0, none⟩) 1 1) [⟨m, f⟩] := by
  have hl : (tcells ⟨m, f⟩).length = 9 := by simp [tcells, mcells, hm.1]
  have hr : rcells [(⟨m, f⟩ : Tm)] = tcells ⟨m, f⟩ := by rw [rcells_cons]; simp [rcells]
  refine ⟨by rw [hr, hl]; rfl, Or.inr ⟨g, 1, _, rfl, hB, h, Nat.le_refl _, by simp [maxLen], by rw [List.size_toArray, hl], ?_⟩⟩
  rw [hr]
  exact List.take_of_length_le (by rw [hl]; show 9 ≤ 1 * 9; omega)
end Go.Proofs.Ytmijeojlighnaaa
