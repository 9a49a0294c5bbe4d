/- Word lengths of monomials and forms: the program's and the model's. -/
import Derived.Test.YtchonljgpdekjaaIsFormB
namespace Go.Proofs.Ytchonljgpdekjaa
open Go.RowKit Go.Deep

def wlTo (m : List Int) : Nat → Int
  | 0 => 0
  | k + 1 => wlTo m k + m.getD k 0
/-- The sum of the exponents. -/
def wlen (m : List Int) : Int := wlTo m 8
theorem wlTo_bd {m : List Int} (h : IsMono m) (k : Nat) : 0 ≤ wlTo m k ∧ wlTo m k ≤ 255 * k := by
  induction k with
  | zero => simp [wlTo]
  | succ k ih =>
    have := getD_mono h k
    simp only [wlTo]
    omega
theorem wlTo_succ {m : List Int} {k : Nat} {y : Int} (hy : m[k]? = some y) : wlTo m (k + 1) = wlTo m k + y := by
  rw [wlTo, List.getD_eq_getElem?_getD, hy]; rfl
theorem wlen_bd {m : List Int} (h : IsMono m) : 0 ≤ wlen m ∧ wlen m ≤ 2040 := wlTo_bd h 8

set_option maxRecDepth 100000 in
theorem wordLength_c {w : World} {m : List Int} (hm : IsMono m) :
    Calls Try.prog 121 #[monoV m] w fun e w' => e = .returned (.int .i64 (wlen m)) ∧ Below w.heap.size w w' := by
  unfold monoV
  have hsz : (Try.prog.info? 26).map (·.size) = some (mcells m).toArray.size := by rw [msize hm]; exact Try.info_mono
  have HS := Lib.hid hsz
  clear hsz
  go_enter Try.func121, Try.ntmps121
  go_wp2_with (refine wpList_load_row rfl 26 _ rfl _ rfl 26 (mcells m).toArray (0, 0) _ (heap_alloc_new w _) Try.underlying26 rfl HS.out ?_)
  go_loop [3, 7] (fun s i => ∃ k : Nat, k ≤ 8 ∧ i = .int .i64 k ∧ s = .int .i64 (wlTo m k)) (fun _ i => 8 - (intOf i).toNat)
  case atStart => exact ⟨0, Nat.zero_le _, rfl, rfl⟩
  case round =>
    obtain ⟨k, hk, rfl, rfl⟩ := hrel
    by_cases hlt : k < 8
    · obtain ⟨y, hy0, hy1, hy, HY⟩ := mono_at hm hlt
      have hix := run_index_one (P := Try.prog) Try.underlying26 Try.info_u8 hlt (cs := (mcells m).toArray) (v := .int .u8 y) (by simpa using hy) Try.isAgg_u8
      have b1 := (wlTo_bd hm k).1
      have b2 := (wlTo_bd hm k).2
      go_wp2
      go_round
      case rel => exact ⟨k + 1, by omega, by go_num, by rw [wlTo_succ HY.out]⟩
      case measure => simp [intOf]; omega
    · go_wp2
      go_ret
      have : k = 8 := by omega
      subst this
      exact ⟨rfl, (Below.refl _ _).alloc (Nat.le_refl _) _⟩

set_option maxRecDepth 100000 in
theorem l02Word_c {w : World} {m : List Int} (hm : IsMono m) :
    Calls Try.prog 151 #[monoV m] w fun e w' => e = .returned (.int .i64 (wlen m)) ∧ Below w.heap.size w w' := by
  unfold monoV
  go_enter Try.func151, Try.ntmps151
  go_wp2
  go_loop [3, 4] (fun s i => ∃ k : Nat, k ≤ 8 ∧ i = .int .i64 k ∧ s = .int .i64 (wlTo m k)) (fun _ i => 8 - (intOf i).toNat)
  case atStart => exact ⟨0, Nat.zero_le _, rfl, rfl⟩
  case round =>
    obtain ⟨k, hk, rfl, rfl⟩ := hrel
    by_cases hlt : k < 8
    · obtain ⟨y, hy0, hy1, hy, HY⟩ := mono_at hm hlt
      have b1 := (wlTo_bd hm k).1
      have b2 := (wlTo_bd hm k).2
      go_wp2
      go_round
      case rel => exact ⟨k + 1, by omega, by go_num, by rw [wlTo_succ HY.out]⟩
      case measure => simp [intOf]; omega
    · go_wp2
      go_ret
      have : k = 8 := by omega
      subst this
      exact ⟨rfl, (Below.refl _ _).alloc (Nat.le_refl _) _⟩

theorem wordLength8 {w : World} {v m0 m1 m2 m3 m4 m5 m6 m7 : Int} (hm : IsMono [m0, m1, m2, m3, m4, m5, m6, m7]) (hv : wlen [m0, m1, m2, m3, m4, m5, m6, m7] = v) :
    Calls Try.prog 121 #[.agg #[.int .u8 m0, .int .u8 m1, .int .u8 m2, .int .u8 m3, .int .u8 m4, .int .u8 m5, .int .u8 m6, .int .u8 m7]] w fun e w' => e = .returned (.int .i64 v) ∧ Below w.heap.size w w' := by
  have := wordLength_c (w := w) hm
  rw [hv] at this
  exact this
theorem l02Word8 {w : World} {v m0 m1 m2 m3 m4 m5 m6 m7 : Int} (hm : IsMono [m0, m1, m2, m3, m4, m5, m6, m7]) (hv : wlen [m0, m1, m2, m3, m4, m5, m6, m7] = v) :
    Calls Try.prog 151 #[.agg #[.int .u8 m0, .int .u8 m1, .int .u8 m2, .int .u8 m3, .int .u8 m4, .int .u8 m5, .int .u8 m6, .int .u8 m7]] w fun e w' => e = .returned (.int .i64 v) ∧ Below w.heap.size w w' := by
  have := l02Word_c (w := w) hm
  rw [hv] at this
  exact this

/-- The word length of term k. -/
def wlAt (fs : List Tm) (k : Nat) : Int := match fs[k]? with | some t => wlen t.m | none => 0
theorem wlAt_of {fs : List Tm} {k : Nat} {t : Tm} (h : fs[k]? = some t) : wlAt fs k = wlen t.m := by simp only [wlAt, h]
/-- The least word length of the first k terms. -/
def leastTo (fs : List Tm) : Nat → Int
  | 0 => 0
  | k + 1 => if k = 0 then wlAt fs 0 else min (leastTo fs k) (wlAt fs k)
theorem leastTo_one (fs : List Tm) : leastTo fs 1 = wlAt fs 0 := by rw [leastTo, if_pos rfl]
theorem leastTo_succ {fs : List Tm} {k : Nat} (h : ¬ k = 0) : leastTo fs (k + 1) = min (leastTo fs k) (wlAt fs k) := by rw [leastTo, if_neg h]
theorem leastTo_lt {fs : List Tm} {k : Nat} {x : Int} (h : ¬ k = 0) (hx : wlAt fs k = x) (hl : x < leastTo fs k) : leastTo fs (k + 1) = x := by rw [leastTo_succ h, hx]; omega
theorem leastTo_ge {fs : List Tm} {k : Nat} {x : Int} (h : ¬ k = 0) (hx : wlAt fs k = x) (hl : ¬ x < leastTo fs k) : leastTo fs (k + 1) = leastTo fs k := by rw [leastTo_succ h, hx]; omega
def leastW (fs : List Tm) : Int := leastTo fs fs.length

end Go.Proofs.Ytchonljgpdekjaa
