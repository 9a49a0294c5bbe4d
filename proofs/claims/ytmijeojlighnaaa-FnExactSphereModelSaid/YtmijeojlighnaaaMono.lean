
import Derived.Test.YtmijeojlighnaaaOpen
namespace Go.Proofs.Ytmijeojlighnaaa
open Go.RowKit Go.Deep
def odd (x : Int) : Bool := decide (x % 2 ≠ 0)
theorem odd_tmod (x : Int) : x.tmod 2 = 0 ↔ x % 2 = 0 := by
  have h := Int.tmod_eq_emod (a := x) (b := 2)
  rw [h]
  split
  · omega
  · rename_i h1
    have : ¬ (2 : Int) ∣ x := fun hd => h1 (Or.inr hd)
    simp
    omega
theorem odd_bne (x : Int) : (x.tmod 2 != 0) = odd x := by
  unfold odd
  by_cases h : x % 2 = 0
  · have := (odd_tmod x).2 h; simp [this, h]
  · have : x.tmod 2 ≠ 0 := fun e => h ((odd_tmod x).1 e)
    simp [this, h]
theorem mono_at {m : List Int} (h : IsMono m) {k : Nat} (hk : k < 8) : ∃ y, 0 ≤ y ∧ y ≤ 255 ∧ (mcells m)[k]? = some (.int .u8 y) ∧ Hid (m[k]? = some y) := by
  have hl : k < m.length := by rw [h.1]; exact hk
  have := h.2 m[k] (List.getElem_mem hl)
  exact ⟨m[k], this.1, this.2, by simp [mcells, hl], List.getElem?_eq_getElem hl⟩
theorem isOdd_c (x : Int) (w : World) : Calls Try.prog 35 #[.int .i64 x] w fun e w' => e = .returned (.bool (odd x)) ∧ w = w' := by
  go_enter Try.func35, Try.ntmps35
  go_wp2
  go_ret
  exact ⟨ret_b (odd_bne x), rfl⟩
end Go.Proofs.Ytmijeojlighnaaa
