/- Multiples of a form: the model's. -/
import Derived.Test.YtjgojcolmflnoaaAddS
import Derived.Test.YtjgojcolmflnoaaScale
namespace Go.Proofs.Ytjgojcolmflnoaa
open Go.RowKit Go.Deep

theorem scale_add {zs : List Int} {ts : List Tm} {k : Int} (h : isForm zs ts = true) (h0 : 0 ≤ k) (h1 : k ≤ 10006) : addT k [] ts = scaleV zs ts k := by
  by_cases hk : k = 0
  · subst hk
    rw [scT_zero, scaleV, if_neg (by omega)]
  · rw [scT_add (by omega) h1 ts (isForm_f h), scaleV, if_pos ⟨h, by omega, h1⟩]
theorem isForm_400 {zs : List Int} {ts : List Tm} (h : isForm zs ts = true) : ts.length ≤ 400 := by
  simp only [isForm, Bool.and_eq_true, decide_eq_true_eq] at h
  omega
theorem terms_nil (w : World) : Terms w none 0 [] := ⟨rfl, by simp, fun h => absurd h (by omega)⟩

set_option maxHeartbeats 4000000 in
set_option maxRecDepth 100000 in
theorem ScaleForm_s {w : World} {da : Option Addr} {dn : Nat} {zs : List Int} {a : Option Addr} {n : Nat} {ts : List Tm} (dc c : Nat) (k0 : Int) (hd : Ints w da dn zs) (hdn : dn ≤ 1048576) (h : Terms w a n ts) (hn : n ≤ 1048576) :
    Calls Try.prog 48 #[.slice da dn dc, .int .i64 k0, .agg #[.slice a n c]] w fun e w' => ∃ v, e = .returned (.tuple #[.agg #[v], .int .i64 (scaleE zs ts k0)]) ∧ OwnForm w' w.heap.size v (scaleV zs ts k0) ∧ Below w.heap.size w w' := by
  have HL := Lib.hid hd.len
  have HLt := Lib.hid h.len
  have hF0 := (Own.new w 56 #[.slice a n c]).alloc (.cells #[.slice none 0 0] 56)
  have hR0 := Own.new (w.alloc (.cells #[.slice a n c] 56)) 56 #[.slice none 0 0]
  rw [size_alloc] at hR0
  have hb0 := below_then (below_alloc1 w (.cells #[.slice a n c] 56)) (below_alloc1 _ (.cells #[.slice none 0 0] 56))
  have c0 := hF0.cell 0
  cases hif : isForm zs ts with
  | false =>
    have HIF := Lib.hid hif
    clear hif
    go_enter Try.func48, Try.ntmps48
    go_upto_region 1 with fail
    generalize (w.alloc (.cells #[.slice a n c] 56)).alloc (.cells #[.slice none 0 0] 56) = w0 at *
    go_wp2_with fail
    refine (IsForm_s dc c (hd.keep hb0) hdn (h.keep hb0) hn).mono ?_
    rintro e w1 ⟨rfl, hb1⟩
    rw [HIF.out]
    have hR1 := hR0.keep hb1 hR0.lt
    have cR := hR1.cell 0
    have fR := hR1.frozen 0
    go_wp2_with fail
    have q := hR1.set 0 (.slice none 0 0)
    refine bodyPost_ret (results_row2 rfl _ _ (w.heap.size + 1) 56 #[.slice none 0 0] (0, 0) _ rfl q Try.underlying56 rfl Try.info_form) rfl ⟨.slice none 0 0, by rw [scaleE, HIF.out]; rfl, ?_, (below_trans' hb0 hb1 hb0.size).setCell (p := ⟨w.heap.size + 1, 0, none⟩) (by dsimp only; omega) _⟩
    rw [scaleV, HIF.out, if_neg (by simp)]
    exact ⟨World.ownsRow_nil _ _ _ _, by simp⟩
  | true =>
    have HIF := Lib.hid hif
    have hn4 : n ≤ 400 := by have := isForm_400 hif; have := HLt.out; omega
    clear hif
    by_cases hk : 0 ≤ k0 ∧ k0 ≤ 10006
    · go_enter Try.func48, Try.ntmps48
      go_upto_region 1 with fail
      generalize (w.alloc (.cells #[.slice a n c] 56)).alloc (.cells #[.slice none 0 0] 56) = w0 at *
      go_wp2_with fail
      refine (IsForm_s dc c (hd.keep hb0) hdn (h.keep hb0) hn).mono ?_
      rintro e w1 ⟨rfl, hb1⟩
      rw [HIF.out]
      have hR1 := hR0.keep hb1 hR0.lt
      have c1 := (hF0.keep hb1 hF0.lt).cell 0
      have hb01 := below_trans' hb0 hb1 hb0.size
      clear c0 hF0 hR0 hb0 hb1
      go_wp2_with fail
      refine (l01In_c _ _ _ _).mono ?_
      rintro e w' ⟨rfl, rfl⟩
      rw [decide_eq_true hk]
      go_wp2_with fail
      refine (l01Add_c 0 c k0 hk.1 hk.2 (terms_nil _) (h.keep hb01) (by omega) (by simp) (fun t ht => by have := isForm_f HIF.out t ht; omega)).mono ?_
      rintro e w2 ⟨v, rfl, hO, hb2⟩
      obtain ⟨va, vn, vc, rfl⟩ := hO.isSlice
      have hR2 := hR1.keep hb2 hR1.lt
      have cR := hR2.cell 0
      have fR := hR2.frozen 0
      have hl1 := hR1.lt
      go_wp2_with fail
      have q := hR2.set 0 (.slice va vn vc)
      refine bodyPost_ret (results_row2 rfl _ _ (w.heap.size + 1) 56 #[.slice va vn vc] (0, 0) _ rfl q Try.underlying56 rfl Try.info_form) rfl ⟨.slice va vn vc, by rw [scaleE, HIF.out, if_pos rfl, if_pos hk]; rfl, ?_, (below_trans' hb01 hb2 hb01.size).setCell (p := ⟨w.heap.size + 1, 0, none⟩) (by dsimp only; omega) _⟩
      rw [← scale_add HIF.out hk.1 hk.2]
      exact (hO.set (p := ⟨w.heap.size + 1, 0, none⟩) (by dsimp only; omega) _).weaken (by omega)
    · go_enter Try.func48, Try.ntmps48
      go_upto_region 1 with fail
      generalize (w.alloc (.cells #[.slice a n c] 56)).alloc (.cells #[.slice none 0 0] 56) = w0 at *
      go_wp2_with fail
      refine (IsForm_s dc c (hd.keep hb0) hdn (h.keep hb0) hn).mono ?_
      rintro e w1 ⟨rfl, hb1⟩
      rw [HIF.out]
      have hR1 := hR0.keep hb1 hR0.lt
      have cR := hR1.cell 0
      have fR := hR1.frozen 0
      go_wp2_with fail
      refine (l01In_c _ _ _ _).mono ?_
      rintro e w' ⟨rfl, rfl⟩
      rw [decide_eq_false hk]
      go_wp2_with fail
      have q := hR1.set 0 (.slice none 0 0)
      refine bodyPost_ret (results_row2 rfl _ _ (w.heap.size + 1) 56 #[.slice none 0 0] (0, 0) _ rfl q Try.underlying56 rfl Try.info_form) rfl ⟨.slice none 0 0, by rw [scaleE, HIF.out, if_pos rfl, if_neg hk]; rfl, ?_, (below_trans' hb0 hb1 hb0.size).setCell (p := ⟨w.heap.size + 1, 0, none⟩) (by dsimp only; omega) _⟩
      rw [scaleV, if_neg (by omega)]
      exact ⟨World.ownsRow_nil _ _ _ _, by simp⟩

end Go.Proofs.Ytjgojcolmflnoaa
