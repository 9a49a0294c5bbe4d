/- Contracts of the number functions of chapter 1: what InverseNumber of the program and of its model give, for every integer. -/
import Derived.Test.YtcafccfoeednnaaChecked
import Derived.Test.YtcafccfoeednnaaBase
import Derived.WalkKit
import Derived.WalkLawsBesides
import Derived.Lib.Hide
namespace Go.Proofs.Ytcafccfoeednnaa
open Go.RowKit

theorem Try.ul_int64 : Try.prog.underlying 2 = some (.int .i64) := by kernel_rfl

/-- The number of the field that x stands for. -/
def num (x : Int) : Int := x % 10007

theorem num_lo (x : Int) : 0 ≤ num x := by unfold num; omega
theorem num_hi (x : Int) : num x < 10007 := by unfold num; omega
theorem tmod_lo (x : Int) : -10007 < x.tmod 10007 ∧ x.tmod 10007 < 10007 := by
  have h := Int.tmod_eq_emod (a := x) (b := 10007)
  rw [h]
  split <;> simp <;> omega
theorem num_tmod (x : Int) : (x.tmod 10007 + 10007).tmod 10007 = num x := by
  unfold num
  have h := Int.tmod_eq_emod (a := x) (b := 10007)
  rw [h]
  split
  · rw [Int.tmod_eq_emod_of_nonneg (by omega)]; omega
  · rw [Int.tmod_eq_emod_of_nonneg (by simp; omega)]; simp
theorem num_tmod' (x : Int) : (x.tmod 10007 + 10007) % 10007 = num x := by
  have b := (tmod_lo x).1
  have h := num_tmod x
  rwa [Int.tmod_eq_emod_of_nonneg (by omega)] at h

theorem numberOf_c (x : Int) (w : World) : Calls Try.prog 72 #[.int .i64 x] w fun e w' => e = .returned (.int .i64 (num x)) ∧ w = w' := by
  have b1 := (tmod_lo x).1
  have b2 := (tmod_lo x).2
  go_enter Try.func72, Try.ntmps72
  go_wp2
  go_ret
  exact ⟨ret_i (num_tmod' x), rfl⟩

/-- The steps of a power by squares. -/
def pw : Nat → Int → Int → Int → Int
  | 0, out, _, _ => out
  | f + 1, out, sq, k => if 0 < k then pw f (if k % 2 = 1 then num (out * sq) else out) (num (sq * sq)) (k / 2) else out

theorem pw_odd {f : Nat} {out sq kk R : Int} (hk : 0 < kk) (ho : kk % 2 = 1) (H : kk < 2 ^ f ∧ pw f out sq kk = R) : ∃ g : Nat, kk / 2 < 2 ^ g ∧ pw g (out * sq % 10007) (sq * sq % 10007) (kk / 2) = R := by
  cases f with
  | zero => simp at H; omega
  | succ g =>
    refine ⟨g, ?_, ?_⟩
    · have := H.1; rw [Int.pow_succ] at this; omega
    · have := H.2; simp only [pw, if_pos hk, if_pos ho] at this; exact this
theorem pw_even {f : Nat} {out sq kk R : Int} (hk : 0 < kk) (ho : ¬ kk % 2 = 1) (H : kk < 2 ^ f ∧ pw f out sq kk = R) : ∃ g : Nat, kk / 2 < 2 ^ g ∧ pw g out (sq * sq % 10007) (kk / 2) = R := by
  cases f with
  | zero => simp at H; omega
  | succ g =>
    refine ⟨g, ?_, ?_⟩
    · have := H.1; rw [Int.pow_succ] at this; omega
    · have := H.2; simp only [pw, if_pos hk, if_neg ho] at this; exact this
theorem pw_end {f : Nat} {out sq kk R : Int} (hk : ¬ 0 < kk) (H : kk < 2 ^ f ∧ pw f out sq kk = R) : out = R := by
  cases f with
  | zero => exact H.2
  | succ g => have := H.2; simp only [pw, if_neg hk] at this; exact this

theorem mul_b {a b : Int} (ha : 0 ≤ a) (ha' : a < 10007) (hb : 0 ≤ b) (hb' : b < 10007) : 0 ≤ a * b ∧ a * b ≤ 100120036 :=
  ⟨Int.mul_nonneg ha hb, by have := Int.mul_le_mul (a := a) (b := b) (c := 10006) (d := 10006) (by omega) (by omega) hb (by omega); omega⟩

theorem inverse_s (x : Int) (w : World) (h1 : 1 ≤ x) (h2 : x ≤ 10006) : Calls Try.prog 50 #[.int .i64 x] w fun e w' => e = .returned (.int .i64 (pw 14 1 x 10005)) ∧ w = w' := by
  go_enter Try.func50, Try.ntmps50
  go_wp2
  go_loop [3, 4, 5] (fun o s k => ∃ (f : Nat) (out sq kk : Int), 0 ≤ out ∧ out < 10007 ∧ 0 ≤ sq ∧ sq < 10007 ∧ 0 ≤ kk ∧ kk ≤ 10005 ∧ o = .int .i64 out ∧ s = .int .i64 sq ∧ k = .int .i64 kk ∧ Hid (kk < 2 ^ f ∧ pw f out sq kk = pw 14 1 x 10005)) (fun _ _ k => (intOf k).toNat)
  case atStart => exact ⟨14, 1, x, 10005, by omega, by omega, by omega, by omega, by omega, by omega, rfl, rfl, rfl, by decide, rfl⟩
  case round =>
    obtain ⟨f, out, sq, kk, a1, a2, a3, a4, a5, a6, rfl, rfl, rfl, H⟩ := hrel
    have m1 := (mul_b a1 a2 a3 a4).1
    have m2 := (mul_b a1 a2 a3 a4).2
    have m3 := (mul_b a3 a4 a3 a4).1
    have m4 := (mul_b a3 a4 a3 a4).2
    by_cases hk : 0 < kk
    · by_cases ho : kk % 2 = 1
      · go_wp2
        go_round
        case rel =>
          obtain ⟨g, hg⟩ := pw_odd hk ho H.out
          exact ⟨g, _, _, _, by omega, by omega, by omega, by omega, by omega, by omega, rfl, rfl, rfl, hg⟩
        case measure => simp [intOf]; omega
      · go_wp2
        go_round
        case rel =>
          obtain ⟨g, hg⟩ := pw_even hk ho H.out
          exact ⟨g, _, _, _, by omega, by omega, by omega, by omega, by omega, by omega, rfl, rfl, rfl, hg⟩
        case measure => simp [intOf]; omega
    · go_wp2
      go_ret
      exact ⟨ret_i (pw_end (by omega) H.out), rfl⟩

theorem timesNumbers_c (x y : Int) (w : World) (m1 : 0 ≤ x * y) (m2 : x * y ≤ 100120036) : Calls Try.prog 66 #[.int .i64 x, .int .i64 y] w fun e w' => e = .returned (.int .i64 (num (x * y))) ∧ w = w' := by
  go_enter Try.func66, Try.ntmps66
  go_wp2_with (go_at_call 72; refine (numberOf_c _ _).mono ?_; rintro e w' ⟨rfl, rfl⟩)
  go_ret
  exact ⟨rfl, rfl⟩

theorem powerOf_c (x : Int) (w : World) (h1 : 1 ≤ x) (h2 : x ≤ 10006) : Calls Try.prog 65 #[.int .i64 1, .int .i64 x, .int .i64 10005, .func (.func 66) #[] #[]] w fun e w' => e = .returned (.int .i64 (pw 14 1 x 10005)) ∧ w = w' := by
  go_enter Try.func65, Try.ntmps65
  go_wp2_with fail
  go_loop [9, 1, 2] (fun o s k => ∃ (f : Nat) (out sq kk : Int), 0 ≤ out ∧ out < 10007 ∧ 0 ≤ sq ∧ sq < 10007 ∧ 0 ≤ kk ∧ kk ≤ 10005 ∧ o = .int .i64 out ∧ s = .int .i64 sq ∧ k = .int .i64 kk ∧ Hid (kk < 2 ^ f ∧ pw f out sq kk = pw 14 1 x 10005)) (fun _ _ k => (intOf k).toNat)
  case atStart => exact ⟨14, 1, x, 10005, by omega, by omega, by omega, by omega, by omega, by omega, rfl, rfl, rfl, by decide, rfl⟩
  case round =>
    obtain ⟨f, out, sq, kk, a1, a2, a3, a4, a5, a6, rfl, rfl, rfl, H⟩ := hrel
    have m1 := (mul_b a1 a2 a3 a4).1
    have m2 := (mul_b a1 a2 a3 a4).2
    have m3 := (mul_b a3 a4 a3 a4).1
    have m4 := (mul_b a3 a4 a3 a4).2
    have n1 := num_lo (out * sq)
    have n2 := num_hi (out * sq)
    have n3 := num_lo (sq * sq)
    have n4 := num_hi (sq * sq)
    by_cases hk : 0 < kk
    · by_cases ho : kk % 2 = 1
      · go_wp2_with (go_at_call 66; refine (timesNumbers_c _ _ _ (by assumption) (by assumption)).mono ?_; rintro e w' ⟨rfl, rfl⟩)
        go_round
        case rel =>
          obtain ⟨g, hg⟩ := pw_odd hk ho H.out
          exact ⟨g, _, _, _, n1, n2, n3, n4, by omega, by omega, rfl, rfl, rfl, hg⟩
        case measure => simp [intOf]; omega
      · go_wp2_with (go_at_call 66; refine (timesNumbers_c _ _ _ (by assumption) (by assumption)).mono ?_; rintro e w' ⟨rfl, rfl⟩)
        go_round
        case rel =>
          obtain ⟨g, hg⟩ := pw_even hk ho H.out
          exact ⟨g, _, _, _, by omega, by omega, n3, n4, by omega, by omega, rfl, rfl, rfl, hg⟩
        case measure => simp [intOf]; omega
    · go_wp2
      go_ret
      exact ⟨ret_i (pw_end (by omega) H.out), rfl⟩

theorem power_c (x : Int) (w : World) (h1 : 1 ≤ x) (h2 : x ≤ 10006) : Calls Try.prog 49 #[.int .i64 x, .int .i64 10005] w fun e w' => e = .returned (.int .i64 (pw 14 1 x 10005)) ∧ w = w' := by
  go_enter Try.func49, Try.ntmps49
  go_wp2_with (go_at_call 65; refine (powerOf_c _ _ h1 h2).mono ?_; rintro e w' ⟨rfl, rfl⟩)
  go_ret
  exact ⟨rfl, rfl⟩

theorem l01In_c (n lo hi : Int) (w : World) : Calls Try.prog 47 #[.int .i64 n, .int .i64 lo, .int .i64 hi] w fun e w' => e = .returned (.bool (decide (lo ≤ n ∧ n ≤ hi))) ∧ w = w' := by
  by_cases h1 : lo ≤ n
  · by_cases h2 : n ≤ hi
    all_goals
      go_enter Try.func47, Try.ntmps47
      go_wp2
      go_ret
      exact ⟨by simp [h1, h2], rfl⟩
  · go_enter Try.func47, Try.ntmps47
    go_wp2
    go_ret
    exact ⟨by simp [show ¬ lo ≤ n by omega], rfl⟩

/-- What both answer. -/
def invOf (x : Int) : Int := if 1 ≤ x ∧ x ≤ 10006 then pw 14 1 x 10005 else 0
def invErr (x : Int) : Int := if 1 ≤ x ∧ x ≤ 10006 then 0 else 2

theorem InverseNumber_s (x : Int) (w : World) : Calls Try.prog 20 #[.int .i64 x] w fun e w' => e = .returned (.tuple #[.int .i64 (invOf x), .int .i64 (invErr x)]) ∧ w = w' := by
  by_cases h : 1 ≤ x ∧ x ≤ 10006
  · obtain ⟨h1, h2⟩ := h
    go_enter Try.func20, Try.ntmps20
    go_wp2_with (first | (go_at_call 47; refine (l01In_c _ _ _ _).mono ?_; rintro e w' ⟨rfl, rfl⟩) | (go_at_call 50; refine (inverse_s _ _ h1 h2).mono ?_; rintro e w' ⟨rfl, rfl⟩))
    go_ret2
    exact ⟨by simp [invOf, invErr, h1, h2], rfl⟩
  · have hd : decide (1 ≤ x ∧ x ≤ 10006) = false := by simpa using h
    go_enter Try.func20, Try.ntmps20
    go_wp2_with (first | (go_at_call 47; refine (l01In_c _ _ _ _).mono ?_; rintro e w' ⟨rfl, rfl⟩))
    go_ret2
    exact ⟨by simp [invOf, invErr, h], rfl⟩

theorem InverseNumber_c (x : Int) (w : World) : Calls Try.prog 19 #[.int .i64 x] w fun e w' => e = .returned (.tuple #[.int .i64 (invOf x), .int .i64 (invErr x)]) ∧ w = w' := by
  by_cases h1 : 1 ≤ x
  · by_cases h2 : x ≤ 10006
    · go_enter Try.func19, Try.ntmps19
      go_wp2_with (first | (go_at_call 49; refine (power_c _ _ h1 h2).mono ?_; rintro e w' ⟨rfl, rfl⟩))
      go_ret2
      exact ⟨by simp [invOf, invErr, h1, h2], rfl⟩
    · go_enter Try.func19, Try.ntmps19
      go_wp2
      go_ret2
      exact ⟨by rw [invOf, invErr, if_neg (by omega), if_neg (by omega)]; rfl, rfl⟩
  · go_enter Try.func19, Try.ntmps19
    go_wp2
    go_ret2
    exact ⟨by rw [invOf, invErr, if_neg (by omega), if_neg (by omega)]; rfl, rfl⟩

theorem FnInverse_walk (x : Int) (w : World) : Calls Try.prog 4 #[.int .i64 x] w fun e w' => e = .returned (.bool true) ∧ w = w' := by
  go_enter Try.func4, Try.ntmps4
  go_wp2_with (first | (go_at_call 20; refine (InverseNumber_s _ _).mono ?_; rintro e w' ⟨rfl, rfl⟩) | (go_at_call 19; refine (InverseNumber_c _ _).mono ?_; rintro e w' ⟨rfl, rfl⟩))
  go_ret
  exact ⟨rfl, rfl⟩

end Go.Proofs.Ytcafccfoeednnaa
