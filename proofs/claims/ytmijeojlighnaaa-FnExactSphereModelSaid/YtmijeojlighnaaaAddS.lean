
import Derived.Test.YtmijeojlighnaaaPart
import Derived.Test.YtmijeojlighnaaaForm
import Derived.Test.YtmijeojlighnaaaHeld
import Derived.Test.YtmijeojlighnaaaNum
namespace Go.Proofs.Ytmijeojlighnaaa
open Go.RowKit Go.Deep
theorem l01Mod_c (x : Int) (w : World) (_h1 : -9223372036854775808 ≤ x) (_h2 : x ≤ 9223372036854775807) : Calls Try.prog 61 #[.int .i64 x] w fun e w' => e = .returned (.int .i64 (num x)) ∧ w = w' := by
  have hb := tmod_lo x
  have hz := num_tmod x
  have s1 : IntKind.i64.wrap (x.tmod 10007) = x.tmod 10007 := IntWalk.i64_in _ (by omega)
  have s2 : IntKind.i64.wrap (x.tmod 10007 + 10007) = x.tmod 10007 + 10007 := IntWalk.i64_in _ (by omega)
  have hn := num_lo x
  have hm := num_hi x
  have s3 : IntKind.i64.wrap (num x) = num x := IntWalk.i64_in _ (by omega)
  go_enter Try.func61, Try.ntmps61
  go_wp2
  go_ret
  exact ⟨ret_i (by go_num), rfl⟩
end Go.Proofs.Ytmijeojlighnaaa
