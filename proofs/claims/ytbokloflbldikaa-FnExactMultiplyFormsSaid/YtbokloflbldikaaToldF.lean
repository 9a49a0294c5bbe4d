
import Derived.Test.YtbokloflbldikaaScaleS
import Derived.Test.YtbokloflbldikaaResult
namespace Go.Proofs.Ytbokloflbldikaa
open Go.RowKit Go.Deep
theorem ownR_nil (w : World) (B : Nat) : OwnR w B (.slice none 0 0) [] := World.ownsRow_nil _ _ _ _
set_option maxRecDepth 100000 in
theorem l01Told_c {w : World} {da : Option Addr} {dn : Nat} {zs : List Int} {a : Option Addr} {n : Nat} {ts : List Tm} {b : Bool} (dc c : Nat) (hd : Ints w da dn zs) (hdn : dn ≤ 1048576) (h : Terms w a n ts) (hn : n ≤ 1048576) (hb : (listOk zs ts && decide (ts.length ≤ 400)) = b) :
    Calls Try.prog 32 #[.slice da dn dc, .agg #[.slice a n c]] w fun e w' => e = .returned (.tuple #[.agg #[if b then .slice a n c else .slice none 0 0], .int .i64 (if b then 0 else 3)]) ∧ Below w.heap.size w w' := by
  have HB := Lib.hid hb
  clear hb
  have hF0 := (Own.new w 29 #[.slice a n c]).alloc (.cells #[.slice none 0 0] 29)
  have hR0 := Own.new (w.alloc (.cells #[.slice a n c] 29)) 29 #[.slice none 0 0]
  rw [size_alloc] at hR0
  have hb0 := below_then (below_alloc1 w (.cells #[.slice a n c] 29)) (below_alloc1 _ (.cells #[.slice none 0 0] 29))
  have c0 := hF0.cell 0
  cases b with
  | false =>
    go_enter Try.func32, Try.ntmps32
    go_upto_region 1 with fail
    generalize (w.alloc (.cells #[.slice a n c] 29)).alloc (.cells #[.slice none 0 0] 29) = w0 at *
    go_wp2_with fail
    refine (l01Is_c dc c (hd.keep hb0) hdn (h.keep hb0) hn).mono ?_
    rintro e w1 ⟨rfl, hb1⟩
    rw [HB.out]
    have hR1 := hR0.keep hb1 hR0.lt
    have cR := hR1.cell 0
    have fR := hR1.frozen 0
    go_wp2_with fail
    have q := hR1.set 0 (.slice none 0 0)
    exact bodyPost_ret (results_row2 rfl _ _ (w.heap.size + 1) 29 #[.slice none 0 0] (0, 0) _ rfl q Try.underlying29 rfl Try.info_form) rfl ⟨rfl, (below_trans' hb0 hb1 hb0.size).setCell (p := ⟨w.heap.size + 1, 0, none⟩) (by dsimp only; omega) _⟩
  | true =>
    go_enter Try.func32, Try.ntmps32
    go_upto_region 1 with fail
    generalize (w.alloc (.cells #[.slice a n c] 29)).alloc (.cells #[.slice none 0 0] 29) = w0 at *
    go_wp2_with fail
    refine (l01Is_c dc c (hd.keep hb0) hdn (h.keep hb0) hn).mono ?_
    rintro e w1 ⟨rfl, hb1⟩
    rw [HB.out]
    have hR1 := hR0.keep hb1 hR0.lt
    have cR := hR1.cell 0
    have fR := hR1.frozen 0
    have c1 := (hF0.keep hb1 hF0.lt).cell 0
    go_wp2_with fail
    have q := hR1.set 0 (.slice a n c)
    exact bodyPost_ret (results_row2 rfl _ _ (w.heap.size + 1) 29 #[.slice a n c] (0, 0) _ rfl q Try.underlying29 rfl Try.info_form) rfl ⟨rfl, (below_trans' hb0 hb1 hb0.size).setCell (p := ⟨w.heap.size + 1, 0, none⟩) (by dsimp only; omega) _⟩
end Go.Proofs.Ytbokloflbldikaa
