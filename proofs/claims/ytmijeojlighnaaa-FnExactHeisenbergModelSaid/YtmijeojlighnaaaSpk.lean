
import Derived.Test.YtmijeojlighnaaaSpc
import Derived.Laws.EntriesVeiled
namespace Go.Proofs.Ytmijeojlighnaaa
open Go.RowKit Go.Deep
theorem Try.info_maker : (Try.prog.info? 68).map (·.size) = some 3 := by kernel_rfl
theorem mkIx6 (w : World) : (Instr.index 93 (.agg #[.int .i64 1, .int .i64 12, .func (.func 73) #[] #[], .int .i64 2, .int .i64 6, .func (.func 74) #[] #[], .int .i64 1, .int .i64 5, .func (.func 75) #[] #[], .int .i64 1, .int .i64 2, .func (.func 76) #[] #[], .int .i64 1, .int .i64 6, .func (.func 77) #[] #[], .int .i64 0, .int .i64 8, .func (.func 78) #[] #[], .int .i64 1, .int .i64 3, .func (.func 79) #[] #[]]) (.int .i64 6)).run Try.prog w = .ok (.agg #[.int .i64 1, .int .i64 3, .func (.func 79) #[] #[]]) w := by kernel_rfl
set_option maxHeartbeats 1000000 in
set_option maxRecDepth 100000 in
theorem maker6_c (w : World) : Calls Try.prog 56 #[.int .i64 6] w fun e w' => e = .returned (.agg #[.int .i64 1, .int .i64 3, .func (.func 79) #[] #[]]) ∧ Below w.heap.size w w' := by
  go_enter Try.func56, Try.ntmps56
  go_upto_region 1 with fail
  have hX := Own.new w 68 #[.int .i64 0, .int .i64 0, .nilFunc]
  have hb := below_alloc1 w (.cells #[.int .i64 0, .int .i64 0, .nilFunc] 68)
  generalize w.alloc (.cells #[.int .i64 0, .int .i64 0, .nilFunc] 68) = w1 at *
  obtain ⟨gX, hgX⟩ : ∃ g, w.heap.size = g := ⟨_, rfl⟩
  rw [hgX] at hX
  try rw [hgX]
  have hwX : w.heap.size ≤ gX := by omega
  clear hgX
  have c0 := hX.cell 0
  have c1 := hX.cell 1
  have c2 := hX.cell 2
  have f0 := hX.frozen 0
  have f1 := hX.frozen 1
  have f2 := hX.frozen 2
  have hix := mkIx6 w1
  go_wp2_with fail
  have s3 := ((hX.set 0 (.int .i64 1)).set 1 (.int .i64 3)).set 2 (.func (.func 79) #[] #[])
  exact bodyPost_ret (results_cell_row rfl _ _ gX 68 #[.int .i64 1, .int .i64 3, .func (.func 79) #[] #[]] (0, 0) _ rfl s3 Try.underlying68 rfl Try.info_maker) rfl ⟨rfl, ((hb.setCell (p := ⟨gX, 0, none⟩) hwX _).setCell (p := ⟨gX, 1, none⟩) hwX _).setCell (p := ⟨gX, 2, none⟩) hwX _⟩
end Go.Proofs.Ytmijeojlighnaaa
