/- The model's check that a form is one in the end. -/
import Derived.Test.YtcafccfoeednnaaScaleS
import Derived.Test.YtcafccfoeednnaaResult
namespace Go.Proofs.Ytcafccfoeednnaa
open Go.RowKit Go.Deep

theorem ownR_nil (w : World) (B : Nat) : OwnR w B (.slice none 0 0) [] := World.ownsRow_nil _ _ _ _

set_option maxRecDepth 100000 in
theorem l01Told_c {w : World} {da : Option Addr} {dn : Nat} {zs : List Int} {a : Option Addr} {n : Nat} {ts : List Tm} {b : Bool} (dc c : Nat) (hd : Ints w da dn zs) (hdn : dn ≤ 1048576) (h : Terms w a n ts) (hn : n ≤ 1048576) (hb : (listOk zs ts && decide (ts.length ≤ 400)) = b) :
    Calls Try.prog 53 #[.slice da dn dc, .agg #[.slice a n c]] w fun e w' => e = .returned (.tuple #[.agg #[if b then .slice a n c else .slice none 0 0], .int .i64 (if b then 0 else 3)]) ∧ Below w.heap.size w w' := by
  have HB := Lib.hid hb
  clear hb
  have hF0 := (Own.new w 49 #[.slice a n c]).alloc (.cells #[.slice none 0 0] 49)
  have hR0 := Own.new (w.alloc (.cells #[.slice a n c] 49)) 49 #[.slice none 0 0]
  rw [size_alloc] at hR0
  have hb0 := below_then (below_alloc1 w (.cells #[.slice a n c] 49)) (below_alloc1 _ (.cells #[.slice none 0 0] 49))
  have c0 := hF0.cell 0
  cases b with
  | false =>
    go_enter Try.func53, Try.ntmps53
    go_upto_region 1 with fail
    generalize (w.alloc (.cells #[.slice a n c] 49)).alloc (.cells #[.slice none 0 0] 49) = w0 at *
    go_wp2_with fail
    refine (l01Is_c dc c (hd.keep hb0) hdn (h.keep hb0) hn).mono ?_
    rintro e w1 ⟨rfl, hb1⟩
    rw [HB.out]
    have hR1 := hR0.keep hb1 hR0.lt
    have cR := hR1.cell 0
    have fR := hR1.frozen 0
    go_wp2_with fail
    have q := hR1.set 0 (.slice none 0 0)
    exact bodyPost_ret (results_row2 rfl _ _ (w.heap.size + 1) 49 #[.slice none 0 0] (0, 0) _ rfl q Try.underlying49 rfl Try.info_form) rfl ⟨rfl, (below_trans' hb0 hb1 hb0.size).setCell (p := ⟨w.heap.size + 1, 0, none⟩) (by dsimp only; omega) _⟩
  | true =>
    go_enter Try.func53, Try.ntmps53
    go_upto_region 1 with fail
    generalize (w.alloc (.cells #[.slice a n c] 49)).alloc (.cells #[.slice none 0 0] 49) = w0 at *
    go_wp2_with fail
    refine (l01Is_c dc c (hd.keep hb0) hdn (h.keep hb0) hn).mono ?_
    rintro e w1 ⟨rfl, hb1⟩
    rw [HB.out]
    have hR1 := hR0.keep hb1 hR0.lt
    have cR := hR1.cell 0
    have fR := hR1.frozen 0
    have c1 := (hF0.keep hb1 hF0.lt).cell 0
    go_wp2_with fail
    have q := hR1.set 0 (.slice a n c)
    exact bodyPost_ret (results_row2 rfl _ _ (w.heap.size + 1) 49 #[.slice a n c] (0, 0) _ rfl q Try.underlying49 rfl Try.info_form) rfl ⟨rfl, (below_trans' hb0 hb1 hb0.size).setCell (p := ⟨w.heap.size + 1, 0, none⟩) (by dsimp only; omega) _⟩

end Go.Proofs.Ytcafccfoeednnaa
