
import Derived.Test.YtmijeojlighnaaaMono
import Derived.Deep.WholeRow
namespace Go.Proofs.Ytmijeojlighnaaa
open Go.RowKit Go.Deep
set_option maxRecDepth 100000 in
theorem eqMonomial_c {w : World} {m m' : List Int} (hm : IsMono m) (hm' : IsMono m') :
    Calls Try.prog 99 #[monoV m, monoV m'] w fun e w' => e = .returned (.bool (decide (m = m'))) ∧ Below w.heap.size w w' := by
  unfold monoV
  go_enter Try.func99, Try.ntmps99
  go_wp2
  have o1 := (Own.new w 56 (mcells m).toArray).alloc (.cells (mcells m').toArray 56)
  have o2 := Own.new (w.alloc (.cells (mcells m).toArray 56)) 56 (mcells m').toArray
  have hb : Below w.heap.size w ((w.alloc (.cells (mcells m).toArray 56)).alloc (.cells (mcells m').toArray 56)) := below_then (below_alloc1 w _) (below_alloc1 _ _)
  rw [size_alloc] at o2
  generalize (w.alloc (.cells (mcells m).toArray 56)).alloc (.cells (mcells m').toArray 56) = w0 at *
  go_loopw [5] (fun i wr => ∃ k q : Nat, k ≤ 8 ∧ i = .int .i64 k ∧ wr = w0.drewN q ∧ Hid (m.take k = m'.take k)) (fun i _ => 8 - (intOf i).toNat)
  case atStart => exact ⟨0, 0, Nat.zero_le _, rfl, rfl, rfl⟩
  case round =>
    obtain ⟨k, q, hk, rfl, rfl, H⟩ := hrel
    by_cases hlt : k < 8
    · obtain ⟨y, hy0, hy1, hy, HY⟩ := mono_at hm hlt
      obtain ⟨y', hy0', hy1', hy', HY'⟩ := mono_at hm' hlt
      have c1 := o1.cell k
      have c2 := o2.cell k
      rw [List.getElem?_toArray, hy] at c1
      rw [List.getElem?_toArray, hy'] at c2
      have h8 : (k : Int) < 8 := by omega
      by_cases hxy : y = y'
      · subst hxy
        go_wp2
        go_quiet (fail)
        go_wp2
        go_roundw
        case rel => exact ⟨k + 1, _, by omega, by go_num, rfl, take_eq HY.out HY'.out H.out⟩
        case measure => simp [intOf]; omega
      · have hq : (y == y') = false := by simpa using hxy
        have hq' : (y != y') = true := by simpa using hxy
        go_wp2
        go_quiet (fail)
        go_wp2
        go_ret
        exact ⟨ret_b (eq_no HY.out HY'.out hxy).symm, below_drewN (below_drewN hb _) _⟩
    · go_wp2
      go_ret
      exact ⟨ret_b (eq_end (by have := hm.1; omega) (by have := hm'.1; omega) H.out).symm, below_drewN hb _⟩
end Go.Proofs.Ytmijeojlighnaaa
