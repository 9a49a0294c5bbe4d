/- Terms compared and added: the program's. -/
import Derived.Test.YteocfhflclnkhaaAddM
import Derived.Test.YteocfhflclnkhaaResult
import Derived.Test.YteocfhflclnkhaaTerm
namespace Go.Proofs.Yteocfhflclnkhaa
open Go.RowKit Go.Deep

set_option maxRecDepth 100000 in
theorem compareT8 {w : World} {v : Int} {p0 p1 p2 p3 p4 p5 p6 p7 fx q0 q1 q2 q3 q4 q5 q6 q7 fy : Int} (hm : IsMono [p0, p1, p2, p3, p4, p5, p6, p7]) (hk : IsMono [q0, q1, q2, q3, q4, q5, q6, q7]) (hv : cmpM [p0, p1, p2, p3, p4, p5, p6, p7] [q0, q1, q2, q3, q4, q5, q6, q7] = v) :
    Calls Try.prog 78 #[.agg #[.int .u8 p0, .int .u8 p1, .int .u8 p2, .int .u8 p3, .int .u8 p4, .int .u8 p5, .int .u8 p6, .int .u8 p7, .int .i64 fx], .agg #[.int .u8 q0, .int .u8 q1, .int .u8 q2, .int .u8 q3, .int .u8 q4, .int .u8 q5, .int .u8 q6, .int .u8 q7, .int .i64 fy]] w fun e w' => e = .returned (.int .i64 v) ∧ Below w.heap.size w w' := by
  have HV := Lib.hid hv
  clear hv
  have hb := below_then (below_alloc1 w (.cells #[.int .u8 p0, .int .u8 p1, .int .u8 p2, .int .u8 p3, .int .u8 p4, .int .u8 p5, .int .u8 p6, .int .u8 p7, .int .i64 fx] 106)) (below_alloc1 _ (.cells #[.int .u8 q0, .int .u8 q1, .int .u8 q2, .int .u8 q3, .int .u8 q4, .int .u8 q5, .int .u8 q6, .int .u8 q7, .int .i64 fy] 106))
  go_enter Try.func78, Try.ntmps78
  go_wp2_with fail
  generalize (w.alloc (.cells #[.int .u8 p0, .int .u8 p1, .int .u8 p2, .int .u8 p3, .int .u8 p4, .int .u8 p5, .int .u8 p6, .int .u8 p7, .int .i64 fx] 106)).alloc (.cells #[.int .u8 q0, .int .u8 q1, .int .u8 q2, .int .u8 q3, .int .u8 q4, .int .u8 q5, .int .u8 q6, .int .u8 q7, .int .i64 fy] 106) = w0 at *
  refine (compare8 hm hk HV.out).mono ?_
  rintro e w1 ⟨rfl, hb1⟩
  go_wp2_with fail
  go_ret
  exact ⟨rfl, below_trans' hb hb1 hb.size⟩

theorem numberOf_v {x y : Int} {w : World} (h : num x = y) : Calls Try.prog 103 #[.int .i64 x] w fun e w' => e = .returned (.int .i64 y) ∧ w' = w := by
  rw [← h]; exact (numberOf_c x w).mono fun _ _ ⟨a, b⟩ => ⟨a, b.symm⟩

set_option maxHeartbeats 2000000 in
set_option maxRecDepth 100000 in
theorem addTerms8 {w : World} {p0 p1 p2 p3 p4 p5 p6 p7 x y z q0 q1 q2 q3 q4 q5 q6 q7 : Int} (hz : num (x + y) = z) (hx : 1 ≤ x ∧ x ≤ 10006) (hy : 1 ≤ y ∧ y ≤ 10006) :
    Calls Try.prog 79 #[.agg #[.int .u8 p0, .int .u8 p1, .int .u8 p2, .int .u8 p3, .int .u8 p4, .int .u8 p5, .int .u8 p6, .int .u8 p7, .int .i64 x], .agg #[.int .u8 q0, .int .u8 q1, .int .u8 q2, .int .u8 q3, .int .u8 q4, .int .u8 q5, .int .u8 q6, .int .u8 q7, .int .i64 y]] w
      fun e w' => e = .returned (.tuple #[.agg #[.int .u8 p0, .int .u8 p1, .int .u8 p2, .int .u8 p3, .int .u8 p4, .int .u8 p5, .int .u8 p6, .int .u8 p7, .int .i64 z], .bool (!(z == 0))]) ∧ Below w.heap.size w w' := by
  have HZ := Lib.hid hz
  clear hz
  have s1 : IntKind.i64.wrap (x + y) = x + y := IntWalk.i64_in _ (by omega)
  obtain ⟨o1, o2, o3, hb⟩ := own3' w 106 106 106 #[.int .u8 p0, .int .u8 p1, .int .u8 p2, .int .u8 p3, .int .u8 p4, .int .u8 p5, .int .u8 p6, .int .u8 p7, .int .i64 x] #[.int .u8 q0, .int .u8 q1, .int .u8 q2, .int .u8 q3, .int .u8 q4, .int .u8 q5, .int .u8 q6, .int .u8 q7, .int .i64 y] #[.int .u8 0, .int .u8 0, .int .u8 0, .int .u8 0, .int .u8 0, .int .u8 0, .int .u8 0, .int .u8 0, .int .i64 0]
  go_enter Try.func79, Try.ntmps79
  go_upto_region 1 with fail
  generalize ((w.alloc (.cells #[.int .u8 p0, .int .u8 p1, .int .u8 p2, .int .u8 p3, .int .u8 p4, .int .u8 p5, .int .u8 p6, .int .u8 p7, .int .i64 x] 106)).alloc (.cells #[.int .u8 q0, .int .u8 q1, .int .u8 q2, .int .u8 q3, .int .u8 q4, .int .u8 q5, .int .u8 q6, .int .u8 q7, .int .i64 y] 106)).alloc (.cells #[.int .u8 0, .int .u8 0, .int .u8 0, .int .u8 0, .int .u8 0, .int .u8 0, .int .u8 0, .int .u8 0, .int .i64 0] 106) = w0 at *
  have c1 := o1.cell 8
  have c2 := o2.cell 8
  have f1 := o1.frozen 8
  go_wp2_with fail
  refine (numberOf_v HZ.out).mono ?_
  rintro e w' ⟨rfl, rfl⟩
  go_upto_region 2 with fail
  have A1 : Own (w'.setCell ⟨w.heap.size, 8, none⟩ (.int .i64 z)) w.heap.size 106 #[.int .u8 p0, .int .u8 p1, .int .u8 p2, .int .u8 p3, .int .u8 p4, .int .u8 p5, .int .u8 p6, .int .u8 p7, .int .i64 z] := o1.set 8 (.int .i64 z)
  have A3 := o3.far (p := ⟨w.heap.size, 8, none⟩) (by dsimp only; omega) (.int .i64 z)
  have hb2 := hb.setCell (p := ⟨w.heap.size, 8, none⟩) (Nat.le_refl _) (.int .i64 z)
  clear c1 c2 f1 o1 o2 o3 hb
  generalize w'.setCell ⟨w.heap.size, 8, none⟩ (.int .i64 z) = w2 at *
  replace A1 : Own w2.drew w.heap.size 106 #[.int .u8 p0, .int .u8 p1, .int .u8 p2, .int .u8 p3, .int .u8 p4, .int .u8 p5, .int .u8 p6, .int .u8 p7, .int .i64 z] := A1
  replace A3 : Own w2.drew (w.heap.size + 1 + 1) 106 #[.int .u8 0, .int .u8 0, .int .u8 0, .int .u8 0, .int .u8 0, .int .u8 0, .int .u8 0, .int .u8 0, .int .i64 0] := A3
  replace hb2 := hb2.drew
  refine wp_region_held_drew (S := (fun w' => w'.cell? ⟨w.heap.size, 0, none⟩ = some (.int .u8 p0) ∧ w'.cell? ⟨w.heap.size, 1, none⟩ = some (.int .u8 p1) ∧ w'.cell? ⟨w.heap.size, 2, none⟩ = some (.int .u8 p2) ∧ w'.cell? ⟨w.heap.size, 3, none⟩ = some (.int .u8 p3) ∧ w'.cell? ⟨w.heap.size, 4, none⟩ = some (.int .u8 p4) ∧ w'.cell? ⟨w.heap.size, 5, none⟩ = some (.int .u8 p5) ∧ w'.cell? ⟨w.heap.size, 6, none⟩ = some (.int .u8 p6) ∧ w'.cell? ⟨w.heap.size, 7, none⟩ = some (.int .u8 p7) ∧ w'.cell? ⟨w.heap.size, 8, none⟩ = some (.int .i64 z))) (by kernel_rfl) ?_ (fun hHeld0 => ?_)
  · ((try dsimp only); (exact ⟨A1.cell 0, A1.cell 1, A1.cell 2, A1.cell 3, A1.cell 4, A1.cell 5, A1.cell 6, A1.cell 7, A1.cell 8⟩))
  (refine hdTake (i := 1) (v := ?_) rfl (by kernel_rfl) (by kernel_rfl) (by kernel_rfl) (fun _ _ _ h => h) (by rfl) ?_ (by assumption) ?_; rotate_left; (intro w hSw; (try dsimp only at hSw); go_simp; (try with_reducible rfl)); (try simp only [Act.put, List.setIfInBounds_toArray, List.set_cons_zero, List.set_cons_succ]))
  refine wpAnyH_ready (rs := [0, 2]) (by kernel_rfl) (by simp) ?_
  refine AllReadyH.cons (hdAt (i := 0) rfl) (fun K hK => ?_) (AllReadyH.cons (hdAt (i := 2) rfl) (fun K hK => ?_) AllReadyH.nil)
  · skip
    (go_simp; try go_wp2_with fail)
    refine hK.out _ _ ?_ (fun hHeld1 => ?_)
    · ((try dsimp only); (exact ⟨A1.cell 0, A1.cell 1, A1.cell 2, A1.cell 3, A1.cell 4, A1.cell 5, A1.cell 6, A1.cell 7, A1.cell 8⟩))
    clear hK K
    (try simp only [Act.put, List.setIfInBounds_toArray, List.set_cons_zero, List.set_cons_succ])
    refine wpAnyH_ready (rs := [2, 4]) (by kernel_rfl) (by simp) ?_
    refine AllReadyH.cons (hdAt (i := 2) rfl) (fun K hK => ?_) (AllReadyH.cons (hdAt (i := 4) rfl) (fun K hK => ?_) AllReadyH.nil)
    · skip
      (go_simp; try go_wp2_with fail)
      refine hK.out _ _ ?_ (fun hHeld2 => ?_)
      · ((try dsimp only); (exact ⟨A1.cell 0, A1.cell 1, A1.cell 2, A1.cell 3, A1.cell 4, A1.cell 5, A1.cell 6, A1.cell 7, A1.cell 8⟩))
      clear hK K
      (try simp only [Act.put, List.setIfInBounds_toArray, List.set_cons_zero, List.set_cons_succ])
      (refine hdTake (i := 3) (v := ?_) rfl (by kernel_rfl) (by kernel_rfl) (by kernel_rfl) (fun _ _ _ h => h) (by rfl) ?_ (by assumption) ?_; rotate_left; (intro w hSw; (try dsimp only at hSw); go_simp; (try with_reducible rfl)); (try simp only [Act.put, List.setIfInBounds_toArray, List.set_cons_zero, List.set_cons_succ]))
      refine hdCall (i := 4) (by kernel_rfl) rfl (fun K hK => ?_)
      (rw [if_pos (by rfl)]; refine wp_store_row 106 (.tmp 4) (.tmp 13) rfl _ #[.int .u8 p0, .int .u8 p1, .int .u8 p2, .int .u8 p3, .int .u8 p4, .int .u8 p5, .int .u8 p6, .int .u8 p7, .int .i64 z] rfl rfl 106 _ A3 Try.info_term rfl (by simp [Value.oneCell']) ?_)
      replace A1 := A1.farRow (k := w.heap.size + 1 + 1) (by omega) #[.int .u8 p0, .int .u8 p1, .int .u8 p2, .int .u8 p3, .int .u8 p4, .int .u8 p5, .int .u8 p6, .int .u8 p7, .int .i64 z]
      replace A3 := A3.setRow #[.int .u8 p0, .int .u8 p1, .int .u8 p2, .int .u8 p3, .int .u8 p4, .int .u8 p5, .int .u8 p6, .int .u8 p7, .int .i64 z]
      replace hb2 := below_setRow hb2 (by omega : w.heap.size ≤ w.heap.size + 1 + 1) #[.int .u8 p0, .int .u8 p1, .int .u8 p2, .int .u8 p3, .int .u8 p4, .int .u8 p5, .int .u8 p6, .int .u8 p7, .int .i64 z]
      generalize w2.setRow (w.heap.size + 1 + 1) #[.int .u8 p0, .int .u8 p1, .int .u8 p2, .int .u8 p3, .int .u8 p4, .int .u8 p5, .int .u8 p6, .int .u8 p7, .int .i64 z] = W1 at *
      refine hK.out _ _ ?_ (fun hHeld3 => ?_)
      · ((try dsimp only); (exact ⟨A1.cell 0, A1.cell 1, A1.cell 2, A1.cell 3, A1.cell 4, A1.cell 5, A1.cell 6, A1.cell 7, A1.cell 8⟩))
      clear hK K
      (try simp only [Act.put, List.setIfInBounds_toArray, List.set_cons_zero, List.set_cons_succ])
      (refine hdTake (i := 5) (v := ?_) rfl (by kernel_rfl) (by kernel_rfl) (by kernel_rfl) (fun _ _ _ h => h) (by rfl) ?_ (by assumption) ?_; rotate_left; (intro w hSw; (try dsimp only at hSw); go_simp; (try with_reducible rfl)); (try simp only [Act.put, List.setIfInBounds_toArray, List.set_cons_zero, List.set_cons_succ]))
      refine wpAnyH_done (by kernel_rfl) ?_ _
      go_wp2_with fail
      exact bodyPost_ret (results_row2 rfl _ _ (w.heap.size + 1 + 1) 106 #[.int .u8 p0, .int .u8 p1, .int .u8 p2, .int .u8 p3, .int .u8 p4, .int .u8 p5, .int .u8 p6, .int .u8 p7, .int .i64 z] (0, 0) _ rfl A3 Try.underlying106 rfl Try.info_term) rfl ⟨rfl, hb2⟩
    · skip
      (rw [if_pos (by rfl)]; refine wp_store_row 106 (.tmp 4) (.tmp 13) rfl _ #[.int .u8 p0, .int .u8 p1, .int .u8 p2, .int .u8 p3, .int .u8 p4, .int .u8 p5, .int .u8 p6, .int .u8 p7, .int .i64 z] rfl rfl 106 _ A3 Try.info_term rfl (by simp [Value.oneCell']) ?_)
      replace A1 := A1.farRow (k := w.heap.size + 1 + 1) (by omega) #[.int .u8 p0, .int .u8 p1, .int .u8 p2, .int .u8 p3, .int .u8 p4, .int .u8 p5, .int .u8 p6, .int .u8 p7, .int .i64 z]
      replace A3 := A3.setRow #[.int .u8 p0, .int .u8 p1, .int .u8 p2, .int .u8 p3, .int .u8 p4, .int .u8 p5, .int .u8 p6, .int .u8 p7, .int .i64 z]
      replace hb2 := below_setRow hb2 (by omega : w.heap.size ≤ w.heap.size + 1 + 1) #[.int .u8 p0, .int .u8 p1, .int .u8 p2, .int .u8 p3, .int .u8 p4, .int .u8 p5, .int .u8 p6, .int .u8 p7, .int .i64 z]
      generalize w2.setRow (w.heap.size + 1 + 1) #[.int .u8 p0, .int .u8 p1, .int .u8 p2, .int .u8 p3, .int .u8 p4, .int .u8 p5, .int .u8 p6, .int .u8 p7, .int .i64 z] = W2 at *
      refine hK.out _ _ ?_ (fun hHeld2 => ?_)
      · ((try dsimp only); (exact ⟨A1.cell 0, A1.cell 1, A1.cell 2, A1.cell 3, A1.cell 4, A1.cell 5, A1.cell 6, A1.cell 7, A1.cell 8⟩))
      clear hK K
      (try simp only [Act.put, List.setIfInBounds_toArray, List.set_cons_zero, List.set_cons_succ])
      refine hdCall (i := 2) (by kernel_rfl) rfl (fun K hK => ?_)
      (go_simp; try go_wp2_with fail)
      refine hK.out _ _ ?_ (fun hHeld3 => ?_)
      · ((try dsimp only); (exact ⟨A1.cell 0, A1.cell 1, A1.cell 2, A1.cell 3, A1.cell 4, A1.cell 5, A1.cell 6, A1.cell 7, A1.cell 8⟩))
      clear hK K
      (try simp only [Act.put, List.setIfInBounds_toArray, List.set_cons_zero, List.set_cons_succ])
      (refine hdTake (i := 3) (v := ?_) rfl (by kernel_rfl) (by kernel_rfl) (by kernel_rfl) (fun _ _ _ h => h) (by rfl) ?_ (by assumption) ?_; rotate_left; (intro w hSw; (try dsimp only at hSw); go_simp; (try with_reducible rfl)); (try simp only [Act.put, List.setIfInBounds_toArray, List.set_cons_zero, List.set_cons_succ]))
      (refine hdTake (i := 5) (v := ?_) rfl (by kernel_rfl) (by kernel_rfl) (by kernel_rfl) (fun _ _ _ h => h) (by rfl) ?_ (by assumption) ?_; rotate_left; (intro w hSw; (try dsimp only at hSw); go_simp; (try with_reducible rfl)); (try simp only [Act.put, List.setIfInBounds_toArray, List.set_cons_zero, List.set_cons_succ]))
      refine wpAnyH_done (by kernel_rfl) ?_ _
      go_wp2_with fail
      exact bodyPost_ret (results_row2 rfl _ _ (w.heap.size + 1 + 1) 106 #[.int .u8 p0, .int .u8 p1, .int .u8 p2, .int .u8 p3, .int .u8 p4, .int .u8 p5, .int .u8 p6, .int .u8 p7, .int .i64 z] (0, 0) _ rfl A3 Try.underlying106 rfl Try.info_term) rfl ⟨rfl, hb2⟩
  · skip
    (go_simp; try go_wp2_with fail)
    refine hK.out _ _ ?_ (fun hHeld1 => ?_)
    · ((try dsimp only); (exact ⟨A1.cell 0, A1.cell 1, A1.cell 2, A1.cell 3, A1.cell 4, A1.cell 5, A1.cell 6, A1.cell 7, A1.cell 8⟩))
    clear hK K
    (try simp only [Act.put, List.setIfInBounds_toArray, List.set_cons_zero, List.set_cons_succ])
    (refine hdTake (i := 3) (v := ?_) rfl (by kernel_rfl) (by kernel_rfl) (by kernel_rfl) (fun _ _ _ h => h) (by rfl) ?_ (by assumption) ?_; rotate_left; (intro w hSw; (try dsimp only at hSw); go_simp; (try with_reducible rfl)); (try simp only [Act.put, List.setIfInBounds_toArray, List.set_cons_zero, List.set_cons_succ]))
    refine hdCall (i := 0) (by kernel_rfl) rfl (fun K hK => ?_)
    (go_simp; try go_wp2_with fail)
    refine hK.out _ _ ?_ (fun hHeld2 => ?_)
    · ((try dsimp only); (exact ⟨A1.cell 0, A1.cell 1, A1.cell 2, A1.cell 3, A1.cell 4, A1.cell 5, A1.cell 6, A1.cell 7, A1.cell 8⟩))
    clear hK K
    (try simp only [Act.put, List.setIfInBounds_toArray, List.set_cons_zero, List.set_cons_succ])
    refine hdCall (i := 4) (by kernel_rfl) rfl (fun K hK => ?_)
    (rw [if_pos (by rfl)]; refine wp_store_row 106 (.tmp 4) (.tmp 13) rfl _ #[.int .u8 p0, .int .u8 p1, .int .u8 p2, .int .u8 p3, .int .u8 p4, .int .u8 p5, .int .u8 p6, .int .u8 p7, .int .i64 z] rfl rfl 106 _ A3 Try.info_term rfl (by simp [Value.oneCell']) ?_)
    replace A1 := A1.farRow (k := w.heap.size + 1 + 1) (by omega) #[.int .u8 p0, .int .u8 p1, .int .u8 p2, .int .u8 p3, .int .u8 p4, .int .u8 p5, .int .u8 p6, .int .u8 p7, .int .i64 z]
    replace A3 := A3.setRow #[.int .u8 p0, .int .u8 p1, .int .u8 p2, .int .u8 p3, .int .u8 p4, .int .u8 p5, .int .u8 p6, .int .u8 p7, .int .i64 z]
    replace hb2 := below_setRow hb2 (by omega : w.heap.size ≤ w.heap.size + 1 + 1) #[.int .u8 p0, .int .u8 p1, .int .u8 p2, .int .u8 p3, .int .u8 p4, .int .u8 p5, .int .u8 p6, .int .u8 p7, .int .i64 z]
    generalize w2.setRow (w.heap.size + 1 + 1) #[.int .u8 p0, .int .u8 p1, .int .u8 p2, .int .u8 p3, .int .u8 p4, .int .u8 p5, .int .u8 p6, .int .u8 p7, .int .i64 z] = W3 at *
    refine hK.out _ _ ?_ (fun hHeld3 => ?_)
    · ((try dsimp only); (exact ⟨A1.cell 0, A1.cell 1, A1.cell 2, A1.cell 3, A1.cell 4, A1.cell 5, A1.cell 6, A1.cell 7, A1.cell 8⟩))
    clear hK K
    (try simp only [Act.put, List.setIfInBounds_toArray, List.set_cons_zero, List.set_cons_succ])
    (refine hdTake (i := 5) (v := ?_) rfl (by kernel_rfl) (by kernel_rfl) (by kernel_rfl) (fun _ _ _ h => h) (by rfl) ?_ (by assumption) ?_; rotate_left; (intro w hSw; (try dsimp only at hSw); go_simp; (try with_reducible rfl)); (try simp only [Act.put, List.setIfInBounds_toArray, List.set_cons_zero, List.set_cons_succ]))
    refine wpAnyH_done (by kernel_rfl) ?_ _
    go_wp2_with fail
    exact bodyPost_ret (results_row2 rfl _ _ (w.heap.size + 1 + 1) 106 #[.int .u8 p0, .int .u8 p1, .int .u8 p2, .int .u8 p3, .int .u8 p4, .int .u8 p5, .int .u8 p6, .int .u8 p7, .int .i64 z] (0, 0) _ rfl A3 Try.underlying106 rfl Try.info_term) rfl ⟨rfl, hb2⟩

end Go.Proofs.Yteocfhflclnkhaa
