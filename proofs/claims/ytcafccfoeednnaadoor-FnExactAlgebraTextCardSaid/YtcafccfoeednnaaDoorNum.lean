/- Contracts of the number functions of chapter 1: what InverseNumber of the program and of its model give, for every integer. -/
import Derived.Test.YtcafccfoeednnaaDoorChecked
import Derived.Test.YtcafccfoeednnaaDoorBase
import Derived.WalkKit
import Derived.WalkLawsBesides
import Derived.Lib.Hide
namespace Go.Proofs.YtcafccfoeednnaaDoor
open Go.RowKit

theorem Tryd.ul_int64 : Tryd.prog.underlying 2 = some (.int .i64) := by kernel_rfl

/-- The number of the field that x stands for. -/
def num (x : Int) : Int := x % 10007

theorem num_lo (x : Int) : 0 ≤ num x := by unfold num; omega
theorem num_hi (x : Int) : num x < 10007 := by unfold num; omega
theorem tmod_lo (x : Int) : -10007 < x.tmod 10007 ∧ x.tmod 10007 < 10007 := by
  have h := Int.tmod_eq_emod (a := x) (b := 10007)
  rw [h]
  split <;> simp <;> omega
theorem num_tmod (x : Int) : (x.tmod 10007 + 10007).tmod 10007 = num x := by
  unfold num
  have h := Int.tmod_eq_emod (a := x) (b := 10007)
  rw [h]
  split
  · rw [Int.tmod_eq_emod_of_nonneg (by omega)]; omega
  · rw [Int.tmod_eq_emod_of_nonneg (by simp; omega)]; simp
theorem num_tmod' (x : Int) : (x.tmod 10007 + 10007) % 10007 = num x := by
  have b := (tmod_lo x).1
  have h := num_tmod x
  rwa [Int.tmod_eq_emod_of_nonneg (by omega)] at h

theorem numberOf_c (x : Int) (w : World) : Calls Tryd.prog 90 #[.int .i64 x] w fun e w' => e = .returned (.int .i64 (num x)) ∧ w = w' := by
  have b1 := (tmod_lo x).1
  have b2 := (tmod_lo x).2
  go_enter Tryd.func90, Tryd.ntmps90
  go_wp2
  go_ret
  exact ⟨ret_i (num_tmod' x), rfl⟩

/-- The steps of a power by squares. -/
def pw : Nat → Int → Int → Int → Int
  | 0, out, _, _ => out
  | f + 1, out, sq, k => if 0 < k then pw f (if k % 2 = 1 then num (out * sq) else out) (num (sq * sq)) (k / 2) else out

theorem pw_odd {f : Nat} {out sq kk R : Int} (hk : 0 < kk) (ho : kk % 2 = 1) (H : kk < 2 ^ f ∧ pw f out sq kk = R) : ∃ g : Nat, kk / 2 < 2 ^ g ∧ pw g (out * sq % 10007) (sq * sq % 10007) (kk / 2) = R := by
  cases f with
  | zero => simp at H; omega
  | succ g =>
    refine ⟨g, ?_, ?_⟩
    · have := H.1; rw [Int.pow_succ] at this; omega
    · have := H.2; simp only [pw, if_pos hk, if_pos ho] at this; exact this
theorem pw_even {f : Nat} {out sq kk R : Int} (hk : 0 < kk) (ho : ¬ kk % 2 = 1) (H : kk < 2 ^ f ∧ pw f out sq kk = R) : ∃ g : Nat, kk / 2 < 2 ^ g ∧ pw g out (sq * sq % 10007) (kk / 2) = R := by
  cases f with
  | zero => simp at H; omega
  | succ g =>
    refine ⟨g, ?_, ?_⟩
    · have := H.1; rw [Int.pow_succ] at this; omega
    · have := H.2; simp only [pw, if_pos hk, if_neg ho] at this; exact this
theorem pw_end {f : Nat} {out sq kk R : Int} (hk : ¬ 0 < kk) (H : kk < 2 ^ f ∧ pw f out sq kk = R) : out = R := by
  cases f with
  | zero => exact H.2
  | succ g => have := H.2; simp only [pw, if_neg hk] at this; exact this

theorem mul_b {a b : Int} (ha : 0 ≤ a) (ha' : a < 10007) (hb : 0 ≤ b) (hb' : b < 10007) : 0 ≤ a * b ∧ a * b ≤ 100120036 :=
  ⟨Int.mul_nonneg ha hb, by have := Int.mul_le_mul (a := a) (b := b) (c := 10006) (d := 10006) (by omega) (by omega) hb (by omega); omega⟩

theorem l01In_c (n lo hi : Int) (w : World) : Calls Tryd.prog 52 #[.int .i64 n, .int .i64 lo, .int .i64 hi] w fun e w' => e = .returned (.bool (decide (lo ≤ n ∧ n ≤ hi))) ∧ w = w' := by
  by_cases h1 : lo ≤ n
  · by_cases h2 : n ≤ hi
    all_goals
      go_enter Tryd.func52, Tryd.ntmps52
      go_wp2
      go_ret
      exact ⟨by simp [h1, h2], rfl⟩
  · go_enter Tryd.func52, Tryd.ntmps52
    go_wp2
    go_ret
    exact ⟨by simp [show ¬ lo ≤ n by omega], rfl⟩

/-- What both answer. -/
def invOf (x : Int) : Int := if 1 ≤ x ∧ x ≤ 10006 then pw 14 1 x 10005 else 0
def invErr (x : Int) : Int := if 1 ≤ x ∧ x ≤ 10006 then 0 else 2

end Go.Proofs.YtcafccfoeednnaaDoor
