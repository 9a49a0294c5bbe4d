
import Derived.Test.YtmijeojlighnaaaForm
import Derived.Test.YtmijeojlighnaaaHeld
namespace Go.Proofs.Ytmijeojlighnaaa
open Go.RowKit Go.Deep
theorem l01Before8 {w : World} {v : Bool} {p0 p1 p2 p3 p4 p5 p6 p7 m0 m1 m2 m3 m4 m5 m6 m7 : Int} (hp : IsMono [p0, p1, p2, p3, p4, p5, p6, p7]) (hm : IsMono [m0, m1, m2, m3, m4, m5, m6, m7]) (hv : before [p0, p1, p2, p3, p4, p5, p6, p7] [m0, m1, m2, m3, m4, m5, m6, m7] = v) :
    Calls Try.prog 60 #[.agg #[.int .u8 p0, .int .u8 p1, .int .u8 p2, .int .u8 p3, .int .u8 p4, .int .u8 p5, .int .u8 p6, .int .u8 p7], .agg #[.int .u8 m0, .int .u8 m1, .int .u8 m2, .int .u8 m3, .int .u8 m4, .int .u8 m5, .int .u8 m6, .int .u8 m7]] w fun e w' => e = .returned (.bool v) ∧ Below w.heap.size w w' := by
  have := l01Before_c (w := w) hp hm
  rw [hv] at this
  exact this
end Go.Proofs.Ytmijeojlighnaaa
