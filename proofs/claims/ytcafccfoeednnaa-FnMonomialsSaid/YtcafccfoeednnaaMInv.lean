/- Numbers of the field and their inverses: x times the number that both answer is 1, for each of them. No function of the program. -/
import Derived.Test.YtcafccfoeednnaaMFact
namespace Go.Proofs.Ytcafccfoeednnaa
open Go.RowKit

theorem fermat_1_ : fermatTo 1 400 = true := by kernel_rfl
theorem fermat_2_ : fermatTo 401 400 = true := by kernel_rfl
theorem fermat_3_ : fermatTo 801 400 = true := by kernel_rfl
theorem fermat_4_ : fermatTo 1201 400 = true := by kernel_rfl
theorem fermat_5_ : fermatTo 1601 400 = true := by kernel_rfl
theorem fermat_6_ : fermatTo 2001 400 = true := by kernel_rfl
theorem fermat_7_ : fermatTo 2401 400 = true := by kernel_rfl
theorem fermat_8_ : fermatTo 2801 400 = true := by kernel_rfl
theorem fermat_9_ : fermatTo 3201 400 = true := by kernel_rfl
theorem fermat_10_ : fermatTo 3601 400 = true := by kernel_rfl
theorem fermat_11_ : fermatTo 4001 400 = true := by kernel_rfl
theorem fermat_12_ : fermatTo 4401 400 = true := by kernel_rfl
theorem fermat_13_ : fermatTo 4801 400 = true := by kernel_rfl
theorem fermat_14_ : fermatTo 5201 400 = true := by kernel_rfl
theorem fermat_15_ : fermatTo 5601 400 = true := by kernel_rfl
theorem fermat_16_ : fermatTo 6001 400 = true := by kernel_rfl
theorem fermat_17_ : fermatTo 6401 400 = true := by kernel_rfl
theorem fermat_18_ : fermatTo 6801 400 = true := by kernel_rfl
theorem fermat_19_ : fermatTo 7201 400 = true := by kernel_rfl
theorem fermat_20_ : fermatTo 7601 400 = true := by kernel_rfl
theorem fermat_21_ : fermatTo 8001 400 = true := by kernel_rfl
theorem fermat_22_ : fermatTo 8401 400 = true := by kernel_rfl
theorem fermat_23_ : fermatTo 8801 400 = true := by kernel_rfl
theorem fermat_24_ : fermatTo 9201 400 = true := by kernel_rfl
theorem fermat_25_ : fermatTo 9601 400 = true := by kernel_rfl
theorem fermat_last : fermatTo 10001 6 = true := by kernel_rfl
theorem fermat_n {n : Nat} (h0 : 1 ≤ n) (h1 : n ≤ 10006) : n * pwN 14 1 n 10005 % 10007 = 1 := by
  rcases (show n ≤ 10000 ∨ 10001 ≤ n by omega) with h | h
  · have hq : (n - 1) / 400 < 25 := by omega
    have hr : n = (1 + 400 * ((n - 1) / 400)) + (n - 1) % 400 := by omega
    have hm : (n - 1) % 400 < 400 := Nat.mod_lt _ (by decide)
    generalize (n - 1) / 400 = q at *
    generalize (n - 1) % 400 = r at *
    subst hr
    match q, hq with
    | 0, _ => exact fermatTo_at fermat_1_ r hm
    | 1, _ => exact fermatTo_at fermat_2_ r hm
    | 2, _ => exact fermatTo_at fermat_3_ r hm
    | 3, _ => exact fermatTo_at fermat_4_ r hm
    | 4, _ => exact fermatTo_at fermat_5_ r hm
    | 5, _ => exact fermatTo_at fermat_6_ r hm
    | 6, _ => exact fermatTo_at fermat_7_ r hm
    | 7, _ => exact fermatTo_at fermat_8_ r hm
    | 8, _ => exact fermatTo_at fermat_9_ r hm
    | 9, _ => exact fermatTo_at fermat_10_ r hm
    | 10, _ => exact fermatTo_at fermat_11_ r hm
    | 11, _ => exact fermatTo_at fermat_12_ r hm
    | 12, _ => exact fermatTo_at fermat_13_ r hm
    | 13, _ => exact fermatTo_at fermat_14_ r hm
    | 14, _ => exact fermatTo_at fermat_15_ r hm
    | 15, _ => exact fermatTo_at fermat_16_ r hm
    | 16, _ => exact fermatTo_at fermat_17_ r hm
    | 17, _ => exact fermatTo_at fermat_18_ r hm
    | 18, _ => exact fermatTo_at fermat_19_ r hm
    | 19, _ => exact fermatTo_at fermat_20_ r hm
    | 20, _ => exact fermatTo_at fermat_21_ r hm
    | 21, _ => exact fermatTo_at fermat_22_ r hm
    | 22, _ => exact fermatTo_at fermat_23_ r hm
    | 23, _ => exact fermatTo_at fermat_24_ r hm
    | 24, _ => exact fermatTo_at fermat_25_ r hm
    | q + 25, hq' => exact absurd hq' (by omega)
  · obtain ⟨r, rfl⟩ : ∃ r, n = 10001 + r := ⟨n - 10001, by omega⟩
    exact fermatTo_at fermat_last r (by omega)
theorem inv_one {x : Int} (h0 : 1 ≤ x) (h1 : x ≤ 10006) : (x * invOf x) % 10007 = 1 := by
  obtain ⟨n, rfl⟩ : ∃ n : Nat, x = n := ⟨x.toNat, by omega⟩
  have h := fermat_n (n := n) (by omega) (by omega)
  have e := pw_nat 14 1 n 10005
  rw [invOf, if_pos ⟨h0, h1⟩]
  have e' : pw 14 1 (n : Int) 10005 = ((pwN 14 1 n 10005 : Nat) : Int) := e
  rw [e']
  omega

end Go.Proofs.Ytcafccfoeednnaa
