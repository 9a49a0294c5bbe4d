/- One more number at a monomial of a sum: the program's. -/
import Derived.Test.YthcaiagnmmjooaaMap
namespace Go.Proofs.Ythcaiagnmmjooaa
open Go.RowKit Go.Deep Go.Maps

set_option maxRecDepth 100000 in
theorem mapAdd8 {w : World} {b n : Nat} {S : List Int → Int} {p0 p1 p2 p3 p4 p5 p6 p7 f : Int} (h : MapIs w b n S) (hn : n < 1000000000) (hm : IsMono [p0, p1, p2, p3, p4, p5, p6, p7]) (hS : 0 ≤ S [p0, p1, p2, p3, p4, p5, p6, p7] ∧ S [p0, p1, p2, p3, p4, p5, p6, p7] ≤ 10006) (hf : -1000000000000 ≤ f ∧ f ≤ 1000000000000) :
    Calls Try.prog 186 #[.map (some b), .agg #[.int .u8 p0, .int .u8 p1, .int .u8 p2, .int .u8 p3, .int .u8 p4, .int .u8 p5, .int .u8 p6, .int .u8 p7], .int .i64 f] w fun e w' => e = .returned (.tuple #[]) ∧ MapIs w' b (n + 1) (updS S [p0, p1, p2, p3, p4, p5, p6, p7] (num (S [p0, p1, p2, p3, p4, p5, p6, p7] + f))) ∧ w.grownBy w' (some b) := by
  have hb := h.lt
  have hB : Own (w.alloc (.cells #[.int .u8 p0, .int .u8 p1, .int .u8 p2, .int .u8 p3, .int .u8 p4, .int .u8 p5, .int .u8 p6, .int .u8 p7] 26)).drew w.heap.size 26 #[.int .u8 p0, .int .u8 p1, .int .u8 p2, .int .u8 p3, .int .u8 p4, .int .u8 p5, .int .u8 p6, .int .u8 p7] := Own.new w 26 #[.int .u8 p0, .int .u8 p1, .int .u8 p2, .int .u8 p3, .int .u8 p4, .int .u8 p5, .int .u8 p6, .int .u8 p7]
  have hmap : MapIs (w.alloc (.cells #[.int .u8 p0, .int .u8 p1, .int .u8 p2, .int .u8 p3, .int .u8 p4, .int .u8 p5, .int .u8 p6, .int .u8 p7] 26)).drew b n S := h.keep (below_alloc1 w _).drew
  have HBA := Lib.hid ((below_alloc1 w (.cells #[.int .u8 p0, .int .u8 p1, .int .u8 p2, .int .u8 p3, .int .u8 p4, .int .u8 p5, .int .u8 p6, .int .u8 p7] 26)).drew)
  have hlk := hmap.lookup hm
  obtain ⟨s, hs⟩ : ∃ s, S [p0, p1, p2, p3, p4, p5, p6, p7] = s := ⟨_, rfl⟩
  rw [hs] at hlk hS
  obtain ⟨x, hx0⟩ : ∃ x, num (s + f) = x := ⟨_, rfl⟩
  have hxb : 0 ≤ x ∧ x ≤ 10006 := by have h1 := num_lo (s + f); have h2 := num_hi (s + f); omega
  obtain ⟨w2, hup, hmap2, hgr⟩ := hmap.update (x := x) (by unfold maxLen; omega) hm hxb
  have hB2 : Own w2 w.heap.size 26 #[.int .u8 p0, .int .u8 p1, .int .u8 p2, .int .u8 p3, .int .u8 p4, .int .u8 p5, .int .u8 p6, .int .u8 p7] := hB.grown hgr (by simp; omega)
  have s1 : IntKind.i64.wrap (s + f) = s + f := IntWalk.i64_in _ (by omega)
  have HX := Lib.hid hx0
  have HM := Lib.hid hmap2
  have HG := Lib.hid hgr
  have HS := Lib.hid hs
  clear hx0 hmap2 hgr hs hmap
  simp only [mcells, List.map_cons, List.map_nil] at hlk hup
  go_enter Try.func186, Try.ntmps186
  have z0 := hB.cell 0
  go_upto_region 1 with fail
  refine wp_region_held_drew (S := (fun w' => w'.cell? ⟨w.heap.size, 0, none⟩ = some (.int .u8 p0) ∧ w'.cell? ⟨w.heap.size, 1, none⟩ = some (.int .u8 p1) ∧ w'.cell? ⟨w.heap.size, 2, none⟩ = some (.int .u8 p2) ∧ w'.cell? ⟨w.heap.size, 3, none⟩ = some (.int .u8 p3) ∧ w'.cell? ⟨w.heap.size, 4, none⟩ = some (.int .u8 p4) ∧ w'.cell? ⟨w.heap.size, 5, none⟩ = some (.int .u8 p5) ∧ w'.cell? ⟨w.heap.size, 6, none⟩ = some (.int .u8 p6) ∧ w'.cell? ⟨w.heap.size, 7, none⟩ = some (.int .u8 p7))) (by kernel_rfl) ?_ (fun hHeld => ?_)
  · ((try dsimp only); (exact ⟨hB.cell 0, hB.cell 1, hB.cell 2, hB.cell 3, hB.cell 4, hB.cell 5, hB.cell 6, hB.cell 7⟩))
  (refine hdTake (i := 0) (v := ?_) rfl (by kernel_rfl) (by kernel_rfl) (by kernel_rfl) (fun _ _ _ h => h) (by rfl) ?_ (by assumption) ?_; rotate_left; (intro w hSw; (try dsimp only at hSw); go_simp; (try with_reducible rfl)); (try simp only [Act.put, List.setIfInBounds_toArray, List.set_cons_zero, List.set_cons_succ]))
  (refine hdTake (i := 1) (v := ?_) rfl (by kernel_rfl) (by kernel_rfl) (by kernel_rfl) (fun _ _ _ h => h) (by rfl) ?_ (by assumption) ?_; rotate_left; (intro w hSw; (try dsimp only at hSw); go_simp; (try with_reducible rfl)); (try simp only [Act.put, List.setIfInBounds_toArray, List.set_cons_zero, List.set_cons_succ]))
  (refine hdTake (i := 2) (v := ?_) rfl (by kernel_rfl) (by kernel_rfl) (by kernel_rfl) (fun _ _ _ h => h) (by rfl) ?_ (by assumption) ?_; rotate_left; (intro w hSw; (try dsimp only at hSw); go_simp; (try with_reducible rfl)); (try simp only [Act.put, List.setIfInBounds_toArray, List.set_cons_zero, List.set_cons_succ]))
  (refine hdTake (i := 3) (v := ?_) rfl (by kernel_rfl) (by kernel_rfl) (by kernel_rfl) (fun _ _ _ h => h) (by rfl) ?_ (by assumption) ?_; rotate_left; (intro w hSw; (try dsimp only at hSw); go_simp; (try with_reducible rfl)); (try simp only [Act.put, List.setIfInBounds_toArray, List.set_cons_zero, List.set_cons_succ]))
  (refine hdTake (i := 5) (v := ?_) rfl (by kernel_rfl) (by kernel_rfl) (by kernel_rfl) (fun _ _ _ h => h) (by rfl) ?_ (by assumption) ?_; rotate_left; (intro w hSw; (try dsimp only at hSw); go_simp; (try with_reducible rfl)); (try simp only [Act.put, List.setIfInBounds_toArray, List.set_cons_zero, List.set_cons_succ]))
  refine hdCall (i := 4) (by kernel_rfl) rfl (fun K hK => ?_)
  (go_simp; (try go_wp2_with fail); go_wp2_with fail)
  refine hK.out _ _ ?_ (fun hHeld2 => ?_)
  · ((try dsimp only); (exact ⟨hB.cell 0, hB.cell 1, hB.cell 2, hB.cell 3, hB.cell 4, hB.cell 5, hB.cell 6, hB.cell 7⟩))
  clear hK K
  (try simp only [Act.put, List.setIfInBounds_toArray, List.set_cons_zero, List.set_cons_succ])
  (refine hdTake (i := 6) (v := ?_) rfl (by kernel_rfl) (by kernel_rfl) (by kernel_rfl) (fun _ _ _ h => h) (by rfl) ?_ (by assumption) ?_; rotate_left; (intro w hSw; (try dsimp only at hSw); go_simp; (try with_reducible rfl)); (try simp only [Act.put, List.setIfInBounds_toArray, List.set_cons_zero, List.set_cons_succ]))
  refine hdCall (i := 7) (by kernel_rfl) rfl (fun K hK => ?_)
  (go_simp; ((go_at_call 146; refine (numberOf_c _ _).mono ?_; rintro e wM ⟨rfl, rfl⟩; rw [HX.out])); go_wp2_with fail)
  refine hK.out _ _ ?_ (fun hHeld2 => ?_)
  · ((try dsimp only); (exact ⟨hB.cell 0, hB.cell 1, hB.cell 2, hB.cell 3, hB.cell 4, hB.cell 5, hB.cell 6, hB.cell 7⟩))
  clear hK K
  (try simp only [Act.put, List.setIfInBounds_toArray, List.set_cons_zero, List.set_cons_succ])
  refine hdCall (i := 8) (by kernel_rfl) rfl (fun K hK => ?_)
  (go_simp; (try go_wp2_with fail); go_wp2_with fail)
  refine hK.out _ _ ?_ (fun hHeld2 => ?_)
  · ((try dsimp only); (exact ⟨hB2.cell 0, hB2.cell 1, hB2.cell 2, hB2.cell 3, hB2.cell 4, hB2.cell 5, hB2.cell 6, hB2.cell 7⟩))
  clear hK K
  (try simp only [Act.put, List.setIfInBounds_toArray, List.set_cons_zero, List.set_cons_succ])
  refine wpAnyH_done (by kernel_rfl) ?_ _
  go_wp2_with fail
  go_end0
  refine ⟨rfl, by rw [HS.out, HX.out]; exact HM.out, ?_⟩
  have hg := HG.out
  exact ⟨hg.os, hg.tape, hg.output, Nat.le_trans HBA.out.size hg.size, fun k hk hne => (hg.block k (Nat.lt_of_lt_of_le hk HBA.out.size) hne).trans (HBA.out.block k hk)⟩

end Go.Proofs.Ythcaiagnmmjooaa
