
import Derived.Test.YtmijeojlighnaaaOpen
namespace Go.Proofs.Ytmijeojlighnaaa
open Go.RowKit Go.Deep
theorem mono_at {m : List Int} (h : IsMono m) {k : Nat} (hk : k < 8) : ∃ y, 0 ≤ y ∧ y ≤ 255 ∧ (mcells m)[k]? = some (.int .u8 y) ∧ Hid (m[k]? = some y) := by
  have hl : k < m.length := by rw [h.1]; exact hk
  have := h.2 m[k] (List.getElem_mem hl)
  exact ⟨m[k], this.1, this.2, by simp [mcells, hl], List.getElem?_eq_getElem hl⟩
end Go.Proofs.Ytmijeojlighnaaa
