
import Derived.Test.YtikldofmpkidbaaAddM
import Derived.Test.YtikldofmpkidbaaResult
import Derived.Test.YtikldofmpkidbaaTerm
namespace Go.Proofs.Ytikldofmpkidbaa
set_option maxRecDepth 100000
open Go.RowKit Go.Deep
theorem compareT8 {w : World} {v : Int} {p0 p1 p2 p3 p4 p5 p6 p7 fx q0 q1 q2 q3 q4 q5 q6 q7 fy : Int} (hm : IsMono [p0, p1, p2, p3, p4, p5, p6, p7]) (hk : IsMono [q0, q1, q2, q3, q4, q5, q6, q7]) (hv : cmpM [p0, p1, p2, p3, p4, p5, p6, p7] [q0, q1, q2, q3, q4, q5, q6, q7] = v) :
    Calls Try.prog 121 #[.agg #[.int .u8 p0,.int .u8 p1,.int .u8 p2,.int .u8 p3,.int .u8 p4,.int .u8 p5,.int .u8 p6,.int .u8 p7,.int .i64 fx],.agg #[.int .u8 q0,.int .u8 q1,.int .u8 q2,.int .u8 q3,.int .u8 q4,.int .u8 q5,.int .u8 q6,.int .u8 q7,.int .i64 fy]] w fun e w'=>e=.returned (.int .i64 v)∧Below w.heap.size w w':=by
 have HV:=Lib.hid hv
 clear hv
 have hb:=bTn (bA1 w (.cells #[.int .u8 p0,.int .u8 p1,.int .u8 p2,.int .u8 p3,.int .u8 p4,.int .u8 p5,.int .u8 p6,.int .u8 p7,.int .i64 fx] 88)) (bA1 _ (.cells #[.int .u8 q0,.int .u8 q1,.int .u8 q2,.int .u8 q3,.int .u8 q4,.int .u8 q5,.int .u8 q6,.int .u8 q7,.int .i64 fy] 88))
 go_enter Try.func121,Try.ntmps121
 go_wp2_with fail
 generalize (w.alloc (.cells #[.int .u8 p0,.int .u8 p1,.int .u8 p2,.int .u8 p3,.int .u8 p4,.int .u8 p5,.int .u8 p6,.int .u8 p7,.int .i64 fx] 88)).alloc (.cells #[.int .u8 q0,.int .u8 q1,.int .u8 q2,.int .u8 q3,.int .u8 q4,.int .u8 q5,.int .u8 q6,.int .u8 q7,.int .i64 fy] 88)=w0 at *
 refine (compare8 hm hk HV.out).mono ?_
 rintro e w1 ⟨rfl,hb1⟩
 go_wp2_with fail
 go_ret
 exact ⟨rfl,bT' hb hb1 hb.size⟩
theorem numberOf_v {x y:Int} {w:World} (h:num x=y):Calls Try.prog 122 #[.int .i64 x] w fun e w'=>e=.returned (.int .i64 y)∧w'=w:=by
 rw [←h];exact (numberOf_c x w).mono fun _ _ ⟨a,b⟩=>⟨a,b.symm⟩
end Go.Proofs.Ytikldofmpkidbaa
