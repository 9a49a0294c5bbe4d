
import Derived.Test.YtmijeojlighnaaaSpc
import Derived.Test.YtmijeojlighnaaaSingle
import Derived.Test.YtmijeojlighnaaaNum
namespace Go.Proofs.Ytmijeojlighnaaa
open Go.RowKit Go.Deep
theorem mono_firstS {e : Int} (h0 : 0 ≤ e) (h1 : e ≤ 255) : IsMono [e, 0, 0, 0, 0, 0, 0, 0] := ⟨rfl, by intro x hx; simp at hx; omega⟩
set_option maxHeartbeats 1000000 in
set_option maxRecDepth 100000 in
theorem l08Power_c (k : Int) (w : World) (h0 : 0 ≤ k) (h1 : k ≤ 255) :
    Calls Try.prog 34 #[.int .i64 0, .int .u8 k] w fun e w' => ∃ g, e = .returned (.agg #[.slice (some ⟨g, 0, none⟩) 1 1]) ∧ w.heap.size ≤ g ∧ Own w' g 75 #[.int .u8 k, .int .u8 0, .int .u8 0, .int .u8 0, .int .u8 0, .int .u8 0, .int .u8 0, .int .u8 0, .int .i64 1] ∧ Below w.heap.size w w' := by
  have hR := (Own.new w 47 #[.slice none 0 0]).alloc (.cells #[.int .u8 0, .int .u8 0, .int .u8 0, .int .u8 0, .int .u8 0, .int .u8 0, .int .u8 0, .int .u8 0] 56)
  have hM := Own.new (w.alloc (.cells #[.slice none 0 0] 47)) 56 #[.int .u8 0, .int .u8 0, .int .u8 0, .int .u8 0, .int .u8 0, .int .u8 0, .int .u8 0, .int .u8 0]
  rw [size_alloc] at hM
  have hb := below_then (below_alloc1 w (.cells #[.slice none 0 0] 47)) (below_alloc1 _ (.cells #[.int .u8 0, .int .u8 0, .int .u8 0, .int .u8 0, .int .u8 0, .int .u8 0, .int .u8 0, .int .u8 0] 56))
  go_enter Try.func34, Try.ntmps34
  go_upto_region 2 with fail
  generalize (w.alloc (.cells #[.slice none 0 0] 47)).alloc (.cells #[.int .u8 0, .int .u8 0, .int .u8 0, .int .u8 0, .int .u8 0, .int .u8 0, .int .u8 0, .int .u8 0] 56) = w0 at *
  have f0 := hM.frozen 0
  have hu := hM.cell 0
  go_upto_region 3 with fail
  have hM2 : Own (w0.setCell ⟨w.heap.size + 1, 0, none⟩ (.int .u8 k)) (w.heap.size + 1) 56 #[.int .u8 k, .int .u8 0, .int .u8 0, .int .u8 0, .int .u8 0, .int .u8 0, .int .u8 0, .int .u8 0] := hM.set 0 (.int .u8 k)
  have hR2 := hR.far (p := ⟨w.heap.size + 1, 0, none⟩) (by dsimp only; omega) (.int .u8 k)
  have hb2 := hb.setCell (p := ⟨w.heap.size + 1, 0, none⟩) (by dsimp only; omega) (.int .u8 k)
  generalize w0.setCell ⟨w.heap.size + 1, 0, none⟩ (.int .u8 k) = w1 at *
  clear hM hR hb f0 hu
  have HPM := Lib.hid (mono_firstS h0 h1)
  obtain ⟨z0, z1, z2, z3, z4, z5, z6, z7⟩ : w1.cell? ⟨w.heap.size + 1, 0, none⟩ = some (.int .u8 k) ∧ w1.cell? ⟨w.heap.size + 1, 1, none⟩ = some (.int .u8 0) ∧ w1.cell? ⟨w.heap.size + 1, 2, none⟩ = some (.int .u8 0) ∧ w1.cell? ⟨w.heap.size + 1, 3, none⟩ = some (.int .u8 0) ∧ w1.cell? ⟨w.heap.size + 1, 4, none⟩ = some (.int .u8 0) ∧ w1.cell? ⟨w.heap.size + 1, 5, none⟩ = some (.int .u8 0) ∧ w1.cell? ⟨w.heap.size + 1, 6, none⟩ = some (.int .u8 0) ∧ w1.cell? ⟨w.heap.size + 1, 7, none⟩ = some (.int .u8 0) := ⟨hM2.cell 0, hM2.cell 1, hM2.cell 2, hM2.cell 3, hM2.cell 4, hM2.cell 5, hM2.cell 6, hM2.cell 7⟩
  go_wp2_with fail
  refine (l01SingleO_c HPM.out).mono ?_
  rintro e w2 ⟨g, rfl, hg, hN, hb5⟩
  have hR3 := hR2.keep hb5 hR2.lt
  have hb3 := below_trans' hb2 hb5 hb2.size
  have hgl : w.heap.size + 1 < w1.heap.size := hM2.lt
  have hbs := hb2.size
  clear hb2 hM2 hR2 hb5 z0 z1 z2 z3 z4 z5 z6 z7
  have cR := hR3.cell 0
  have fR := hR3.frozen 0
  go_wp2_with fail
  have hR4 := hR3.set 0 (.slice (some ⟨g, 0, none⟩) 1 1)
  exact bodyPost_ret (results_cell_row rfl _ _ w.heap.size 47 #[.slice (some ⟨g, 0, none⟩) 1 1] (0, 0) _ rfl hR4 Try.underlying47 rfl Try.info_form) rfl ⟨g, rfl, by omega, hN.far (p := ⟨w.heap.size, 0, none⟩) (by dsimp only; omega) _, hb3.setCell (p := ⟨w.heap.size, 0, none⟩) (by dsimp only; omega) _⟩
end Go.Proofs.Ytmijeojlighnaaa
