
import Derived.Test.YtbokloflbldikaaGreatRows3
import Derived.Test.YtbokloflbldikaaGreatLinS
namespace Go.Proofs.YtbokloflbldikaaGreat
open Go.RowKit Go.Deep
def copyTo (R : List Int) (k : Nat) : List Int := R.take k ++ List.replicate (R.length - k) 0
theorem copyTo_len {R : List Int} {k : Nat} (hk : k ≤ R.length) : (copyTo R k).length = R.length := by
  rw [copyTo, List.length_append, List.length_take, List.length_replicate]
  omega
theorem copyTo_set {R : List Int} {k : Nat} {x : Int} (h : R[k]? = some x) : (copyTo R k).set k x = copyTo R (k + 1) := by
  have hl := (List.getElem?_eq_some_iff.1 h).1
  have h1 : (R.take k).length = k := by rw [List.length_take]; omega
  rw [copyTo, List.set_append_right _ _ (by omega), h1, Nat.sub_self, show R.length - k = (R.length - (k + 1)) + 1 by omega, List.replicate_succ, List.set_cons_zero, copyTo, List.take_add_one, h, Option.toList_some, List.append_assoc]
  rfl
set_option maxHeartbeats 4000000 in
set_option maxRecDepth 100000 in
theorem integers_c {w : World} {g off W : Nat} {R : List Int} (c : Nat) (hW : R.length = W) (hn : W ≤ 1000) (hg : g < w.heap.size) (hc : ∀ i x, R[i]? = some x → w.cell? ⟨g, off + i, none⟩ = some (.int .i64 x)) :
    Calls Tryz.prog 42 #[.slice (some ⟨g, off, none⟩) W c] w fun e w' => ∃ g', e = .returned (.slice (some ⟨g', 0, none⟩) W W) ∧ w.heap.size ≤ g' ∧ Own w' g' 2 (ofI R) ∧ Below w.heap.size w w' := by
  have HW := Lib.hid hW
  have HC := Lib.hid hc
  have hmk := run_make_row' (P := Tryz.prog) 22 2 (.int .i64 0) 8 Tryz.underlying22 Tryz.info_int64 rfl .i64 .i64 W (by omega) (by omega)
  rw [show madeCells #[Value.int .i64 0] W = Array.replicate W (Value.int .i64 0) by (apply Array.ext'; rw [toList_madeCells_one]; simp)] at hmk
  have hmk1 := hmk w
  have hR0 : Own (w.alloc (.cells (Array.replicate W (Value.int .i64 0)) 2)) w.heap.size 2 (ofI (copyTo R 0)) := by
    rw [copyTo, List.take_zero, Nat.sub_zero, hW, List.nil_append, ← ofI_rep]
    exact Own.new _ _ _
  have hb := below_alloc1 w (.cells (Array.replicate W (Value.int .i64 0)) 2)
  clear hmk hc hW
  go_enter Tryz.func42, Tryz.ntmps42
  go_upto_region 2 with fail
  clear hmk1
  generalize hw1 : w.alloc (.cells (Array.replicate W (Value.int .i64 0)) 2) = w1 at *
  have HGL := Lib.hid hg
  clear hg hw1
  generalize hge : w.heap.size = gR at *
  have HGE := Lib.hid hge
  clear hge
  go_upto_region 3 with fail
  go_loopw [11] (fun y wr => ∃ k : Nat, k ≤ W ∧ y = .int .i64 k ∧ Below gR w wr ∧ Own wr gR 2 (ofI (copyTo R k))) (fun y _ => W - (intOf y).toNat)
  case atStart => exact ⟨0, Nat.zero_le _, rfl, hb, hR0⟩
  case round =>
    clear hb hR0
    obtain ⟨k, hk, rfl, hb, hR⟩ := hrel
    by_cases hkn : k < W
    · have hki : (k : Int) < (W : Int) := by omega
      have hk0 : (0 : Int) ≤ (k : Int) := by omega
      obtain ⟨x, hx⟩ : ∃ x, R[k]? = some x := ⟨_, List.getElem?_eq_getElem (by rw [HW.out]; exact hkn)⟩
      have hcx := (World.cell?_of_block (a := ⟨g, off + k, none⟩) (hb.block g HGL.out)).trans (HC.out k x hx)
      have HST := Lib.hid (copyTo_set hx)
      have hfz := hR.frozen k
      obtain ⟨ov, hcv⟩ := hR.has (i := k) (by rw [ofI, List.size_toArray, List.length_map, copyTo_len (by rw [HW.out]; exact hk), HW.out]; exact hkn)
      clear hx
      go_wp2_with fail
      go_roundw
      case rel =>
        refine ⟨k + 1, by omega, by go_num, hb.setCell (p := ⟨gR, k, none⟩) (by dsimp only; omega) _, ?_⟩
        rw [← HST.out, ← ofI_set]
        exact hR.set k _
      case measure => simp [intOf] <;> omega
    · obtain rfl : k = W := by omega
      go_wp2_with fail
      go_ret
      have he : copyTo R k = R := by rw [copyTo, ← HW.out, List.take_length, Nat.sub_self, List.replicate_zero, List.append_nil]
      rw [he] at hR
      exact ⟨gR, rfl, by have := HGE.out; omega, hR, by rw [HGE.out]; exact hb⟩
def RowsV (w : World) (gO : Nat) (V : List (List Int)) (k : Nat) (gs : List Nat) : Prop :=
  gs.length = k ∧ (∀ (i g : Nat) row, gs[i]? = some g → V[i]? = some row → Own w g 2 (ofI row)) ∧ (gO :: gs).Pairwise (· < ·) ∧ ∀ x ∈ gs, x < w.heap.size
theorem RowsV.keep {w w' : World} {gO k : Nat} {V : List (List Int)} {gs : List Nat} (h : RowsV w gO V k gs) (hb : Below w.heap.size w w') : RowsV w' gO V k gs :=
  ⟨h.1, fun i g row h1 h2 => (h.2.1 i g row h1 h2).keep hb (h.2.1 i g row h1 h2).lt, h.2.2.1, fun x hx => Nat.lt_of_lt_of_le (h.2.2.2 x hx) hb.size⟩
theorem RowsV.snoc {w : World} {gO k g : Nat} {V : List (List Int)} {gs : List Nat} {row : List Int} {v : Value} (h : RowsV w gO V k gs) (hx : V[k]? = some row) (hlt : ∀ x ∈ gs, x < g) (hO : gO < g)
    (hg : Own w g 2 (ofI row)) : RowsV (w.setCell ⟨gO, k, none⟩ v) gO V (k + 1) (gs ++ [g]) := by
  have hup := h.2.2.1
  refine ⟨by rw [List.length_append, h.1]; rfl, fun i g' ts' h1 h2 => ?_, pair_snoc hup hO hlt, fun x hx => ?_⟩
  · by_cases hi : i < k
    · rw [List.getElem?_append_left (by rw [h.1]; exact hi)] at h1
      have h3 := (List.pairwise_cons.1 hup).1 g' (List.mem_of_getElem? h1)
      exact (h.2.1 i g' ts' h1 h2).far (by dsimp only; omega) _
    · have hik : i = k := by
        have := (List.getElem?_eq_some_iff.1 h1).1
        rw [List.length_append, h.1] at this
        simp at this
        omega
      subst hik
      rw [List.getElem?_append_right (by rw [h.1]; omega), h.1, Nat.sub_self] at h1
      injection h1 with h1
      subst h1
      rw [hx] at h2
      injection h2 with h2
      subst h2
      exact hg.far (by dsimp only; omega) _
  · rcases List.mem_append.1 hx with hx | hx
    · have := h.2.2.2 x hx
      simpa using this
    · obtain rfl : x = g := by simpa using hx
      have := hg.lt
      simpa using this
theorem rows3_at {g W n j : Nat} (hj : j < n) : (rows3 g W n n).toArray[j]? = some (.slice (some ⟨g, j * W, none⟩) W W) := by
  rw [List.getElem?_toArray, rows3, List.getElem?_map, List.getElem?_range hj]
  simp [hj]
set_option maxHeartbeats 4000000 in
set_option maxRecDepth 100000 in
theorem tableOf_c {w : World} {g gr N W : Nat} {V : List (List Int)} {F : List Int} (c : Nat) (hV : V.length = N) (hr : ∀ row ∈ V, row.length = W) (hF : ∀ (i : Nat) row, V[i]? = some row → ∀ (j : Nat) x, row[j]? = some x → F[i * W + j]? = some x) (hN : N ≤ 1000) (hW : W ≤ 1000) (hg : Own w g 105 (ofI F)) (hgr : Own w gr 74 (rows3 g W N N).toArray) :
    Calls Tryz.prog 23 #[.slice (some ⟨gr, 0, none⟩) N c] w fun e w' => ∃ ra rc, e = .returned (.slice ra N rc) ∧ OwnT w' w.heap.size w'.heap.size ra N V ∧ Below w.heap.size w w' := by
  have HV := Lib.hid hV
  have HR := Lib.hid hr
  have HF := Lib.hid hF
  have HG := Lib.hid hg
  have HGR := Lib.hid hgr
  have hmk1 := make_rows N (by omega) w
  have hR0 : Own (w.alloc (.cells (Array.replicate N (Value.slice none 0 0)) 22)) w.heap.size 22 (rowCells W N []).toArray := by
    rw [show (rowCells W N []).toArray = Array.replicate N (Value.slice none 0 0) by simp [rowCells]]
    exact Own.new _ _ _
  have hb := below_alloc1 w (.cells (Array.replicate N (Value.slice none 0 0)) 22)
  have hgo := Lib.hid hR0.lt
  clear hV hr hF hg hgr
  go_enter Tryz.func23, Tryz.ntmps23
  go_upto_region 2 with fail
  clear hmk1
  generalize hw1 : w.alloc (.cells (Array.replicate N (Value.slice none 0 0)) 22) = w1 at *
  clear hw1
  generalize hge : w.heap.size = gO at *
  have HGE := Lib.hid hge
  clear hge
  have HW0 : Hid (RowsV w1 gO V 0 []) := Lib.hid ⟨rfl, by simp, by simp, by simp⟩
  go_upto_region 3 with fail
  go_loopw [11] (fun y wr => ∃ (k : Nat) (gs : List Nat), k ≤ N ∧ y = .int .i64 k ∧ Below gO w wr ∧ Own wr gO 22 (rowCells W N gs).toArray ∧ Hid (RowsV wr gO V k gs)) (fun y _ => N - (intOf y).toNat)
  case atStart => exact ⟨0, [], Nat.zero_le _, rfl, hb, hR0, HW0⟩
  case round =>
    clear hb hR0 HW0
    obtain ⟨k, gs, hk, rfl, hb, hR, HW⟩ := hrel
    by_cases hin : k < N
    · have hi0 : (0 : Int) ≤ (k : Int) := by omega
      have hini : (k : Int) < (N : Int) := by omega
      obtain ⟨row, hx⟩ : ∃ row, V[k]? = some row := ⟨_, List.getElem?_eq_getElem (by rw [HV.out]; exact hin)⟩
      have HX := Lib.hid hx
      have hbw : Below w.heap.size w wr := by rw [HGE.out]; exact hb
      have hgw := HG.out.keep hbw HG.out.lt
      have hcr := (HGR.out.keep hbw HGR.out.lt).cell k
      rw [rows3_at hin] at hcr
      have HCI : Hid (∀ i x, row[i]? = some x → wr.cell? ⟨g, k * W + i, none⟩ = some (.int .i64 x)) := Lib.hid (fun i x hx' => by
        rw [hgw.cell (k * W + i)]
        exact ofI_get (HF.out k row HX.out i x hx'))
      have HGL := Lib.hid hgw.lt
      clear hx hbw hgw
      go_wp2_with fail
      clear hcr
      refine (integers_c W (HR.out row (List.mem_of_getElem? HX.out)) hW HGL.out HCI.out).mono ?_
      rintro e w4 ⟨g', rfl, hg', hG, hb5⟩
      have hb6 := below_trans' hb hb5 (Nat.le_of_lt hR.lt)
      have hR6 := hR.keep hb5 hR.lt
      have HLT := Lib.hid (fun x hx => Nat.lt_of_lt_of_le (HW.out.2.2.2 x hx) hg')
      have hOg : gO < g' := Nat.lt_of_lt_of_le hR.lt hg'
      have HW6 := Lib.hid (HW.out.keep hb5)
      clear hb hR hb5 HW hg'
      have hfz := hR6.frozen k
      obtain ⟨ov, hcv⟩ := hR6.has (i := k) (by have := HW6.out.1; simp [rowCells]; omega)
      go_wp2_with fail
      go_roundw
      case rel =>
        have q1 : RowsV (w4.setCell ⟨gO, k, none⟩ (.slice (some ⟨g', 0, none⟩) W W)) gO V (k + 1) (gs ++ [g']) := HW6.out.snoc HX.out HLT.out hOg hG
        have q2 : Below gO w (w4.setCell ⟨gO, k, none⟩ (.slice (some ⟨g', 0, none⟩) W W)) := hb6.setCell (p := ⟨gO, k, none⟩) (by dsimp only; omega) _
        have q4 : Own (w4.setCell ⟨gO, k, none⟩ (.slice (some ⟨g', 0, none⟩) W W)) gO 22 (rowCells W N (gs ++ [g'])).toArray := by
          have := hR6.set k (.slice (some ⟨g', 0, none⟩) W W)
          rwa [rowCells_step HW6.out.1 hin] at this
        have Q1 := Lib.hid q1
        clear q1
        exact ⟨k + 1, gs ++ [g'], by omega, by go_num, q2, q4, Q1⟩
      case measure => simp [intOf] <;> omega
    · obtain rfl : k = N := by omega
      go_wp2_with fail
      go_ret
      refine ⟨some ⟨gO, 0, none⟩, k, rfl, ?_, by rw [HGE.out]; exact hb⟩
      rw [HGE.out]
      exact ownT_of (m := W) HV.out HW.out.1 HR.out hR (Nat.le_refl _) (fun i g row h1 h2 => HW.out.2.1 i g row h1 h2) HW.out.2.2.1
end Go.Proofs.YtbokloflbldikaaGreat
