
import Derived.Test.YtndnkeijddagiaaIsFormB
namespace Go.Proofs.Ytndnkeijddagiaa
open Go.RowKit Go.Deep Go.ChangeShapes Go.WideShapes
section
variable {H : Type} {enc : TypeId × Value → H} {w : World} {spare : Nat → Bool} {held : Bool}
end
theorem Own.terms {w : World} {g n : Nat} {t : TypeId} {ts : List Tm} (h : Own w g t (rcells ts).toArray) (hT : ∀ t ∈ ts, IsTm t) (hn : ts.length = n) : Terms w (some ⟨g, 0, none⟩) n ts := Terms.of_own h hT hn
end Go.Proofs.Ytndnkeijddagiaa

namespace Go.Proofs.Ytndnkeijddagiaa
open Go.RowKit Go.Deep
def wlTo (m : List Int) : Nat → Int
  | 0 => 0
  | k + 1 => wlTo m k + m.getD k 0
def wlen (m : List Int) : Int := wlTo m 8
theorem wlTo_bd {m : List Int} (h : IsMono m) (k : Nat) : 0 ≤ wlTo m k ∧ wlTo m k ≤ 255 * k := by
  induction k with
  | zero => simp [wlTo]
  | succ k ih =>
    have := getD_mono h k
    simp only [wlTo]
    omega
theorem wlTo_succ {m : List Int} {k : Nat} {y : Int} (hy : m[k]? = some y) : wlTo m (k + 1) = wlTo m k + y := by
  rw [wlTo, List.getD_eq_getElem?_getD, hy]; rfl
theorem wlen_bd {m : List Int} (h : IsMono m) : 0 ≤ wlen m ∧ wlen m ≤ 2040 := wlTo_bd h 8
set_option maxRecDepth 100000 in
theorem l02Word_c {w : World} {m : List Int} (hm : IsMono m) :
    Calls Try.prog 102 #[monoV m] w fun e w' => e = .returned (.int .i64 (wlen m)) ∧ Below w.heap.size w w' := by
  unfold monoV
  go_enter Try.func102, Try.ntmps102
  go_wp2
  go_loop [3, 4] (fun s i => ∃ k : Nat, k ≤ 8 ∧ i = .int .i64 k ∧ s = .int .i64 (wlTo m k)) (fun _ i => 8 - (intOf i).toNat)
  case atStart => exact ⟨0, Nat.zero_le _, rfl, rfl⟩
  case round =>
    obtain ⟨k, hk, rfl, rfl⟩ := hrel
    by_cases hlt : k < 8
    · obtain ⟨y, hy0, hy1, hy, HY⟩ := mono_at hm hlt
      have b1 := (wlTo_bd hm k).1
      have b2 := (wlTo_bd hm k).2
      go_wp2
      go_round
      case rel => exact ⟨k + 1, by omega, by go_num, by rw [wlTo_succ HY.out]⟩
      case measure => simp [intOf]; omega
    · go_wp2
      go_ret
      have : k = 8 := by omega
      subst this
      exact ⟨rfl, (Below.refl _ _).alloc (Nat.le_refl _) _⟩
theorem l02Word8 {w : World} {v m0 m1 m2 m3 m4 m5 m6 m7 : Int} (hm : IsMono [m0, m1, m2, m3, m4, m5, m6, m7]) (hv : wlen [m0, m1, m2, m3, m4, m5, m6, m7] = v) :
    Calls Try.prog 102 #[.agg #[.int .u8 m0, .int .u8 m1, .int .u8 m2, .int .u8 m3, .int .u8 m4, .int .u8 m5, .int .u8 m6, .int .u8 m7]] w fun e w' => e = .returned (.int .i64 v) ∧ Below w.heap.size w w' := by
  have := l02Word_c (w := w) hm
  rw [hv] at this
  exact this
end Go.Proofs.Ytndnkeijddagiaa
