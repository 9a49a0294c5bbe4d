
import Derived.Test.YtndnkeijddagiaaChecked
import Derived.Test.YtndnkeijddagiaaBase
import Derived.WalkKit
import Derived.WalkLawsBesides
import Derived.Lib.Hide
namespace Go.Proofs.Ytndnkeijddagiaa
open Go.RowKit
def num (x:Int):Int:=x % 10007
theorem num_lo (x:Int):0≤num x:=by unfold num;omega
theorem num_hi (x:Int):num x<10007:=by unfold num;omega
theorem tmod_lo (x:Int):-10007<x.tmod 10007∧x.tmod 10007<10007:=by
 have h:=Int.tmod_eq_emod (a:=x) (b:=10007)
 rw [h]
 split <;> simp <;> omega
theorem num_tmod (x:Int):(x.tmod 10007+10007).tmod 10007=num x:=by
 unfold num
 have h:=Int.tmod_eq_emod (a:=x) (b:=10007)
 rw [h]
 split
 · rw [Int.tmod_eq_emod_of_nonneg (by omega)];omega
 · rw [Int.tmod_eq_emod_of_nonneg (by simp;omega)];simp
theorem num_tmod' (x:Int):(x.tmod 10007+10007) % 10007=num x:=by
 have b:=(tmod_lo x).1
 have h:=num_tmod x
 rwa [Int.tmod_eq_emod_of_nonneg (by omega)] at h
theorem numberOf_c (x:Int) (w:World):Calls Try.prog 145 #[.int .i64 x] w fun e w'=>e=.returned (.int .i64 (num x))∧w=w':=by
 have b1:=(tmod_lo x).1
 have b2:=(tmod_lo x).2
 go_enter Try.func145,Try.ntmps145
 go_wp2
 go_ret
 exact ⟨ret_i (num_tmod' x),rfl⟩
theorem mul_b {a b:Int} (ha:0≤a) (ha':a<10007) (hb:0≤b) (hb':b<10007):0≤a * b∧a * b≤100120036:=
 ⟨Int.mul_nonneg ha hb,by have:=Int.mul_le_mul (a:=a) (b:=b) (c:=10006) (d:=10006) (by omega) (by omega) hb (by omega);omega⟩
theorem l01In_c (n lo hi:Int) (w:World):Calls Try.prog 70 #[.int .i64 n,.int .i64 lo,.int .i64 hi] w fun e w'=>e=.returned (.bool (decide (lo≤n∧n≤hi)))∧w=w':=by
 by_cases h1:lo≤n
 · by_cases h2:n≤hi
   all_goals
    go_enter Try.func70,Try.ntmps70
    go_wp2
    go_ret
    exact ⟨by simp [h1,h2],rfl⟩
 · go_enter Try.func70,Try.ntmps70
   go_wp2
   go_ret
   exact ⟨by simp [show ¬lo≤n by omega],rfl⟩
end Go.Proofs.Ytndnkeijddagiaa
