
import Derived.Test.YtmijeojlighnaaaSpc
namespace Go.Proofs.Ytmijeojlighnaaa
open Go.RowKit Go.Deep
def fillL (f : Nat → Int) (n k : Nat) : List Int := (List.range n).map fun i => if i < k then f i else 0
theorem fillL_zero (f : Nat → Int) (n : Nat) : Array.replicate n (Value.int .i64 0) = ((fillL f n 0).map (Value.int .i64)).toArray := by
  apply Array.ext'
  rw [Array.toList_replicate]
  apply List.ext_getElem?
  intro i
  simp only [fillL, List.getElem?_map, List.getElem?_replicate]
  by_cases h : i < n
  · rw [if_pos h, List.getElem?_range h]; simp
  · rw [if_neg h, List.getElem?_eq_none (by simp; omega)]; rfl
theorem fillL_step {f : Nat → Int} {n k : Nat} (h : k < n) : (((fillL f n k).map (Value.int .i64)).toArray).setIfInBounds k (.int .i64 (f k)) = ((fillL f n (k + 1)).map (Value.int .i64)).toArray := by
  rw [List.setIfInBounds_toArray]
  congr 1
  apply List.ext_getElem?
  intro i
  rw [List.getElem?_set]
  simp only [fillL, List.getElem?_map, List.length_map, List.length_range]
  by_cases e : k = i
  · subst e
    rw [if_pos rfl, if_pos h, List.getElem?_range h]
    simp
  · rw [if_neg e]
    by_cases hi : i < n
    · rw [List.getElem?_range hi]
      simp only [Option.map_some]
      by_cases h2 : i < k
      · rw [if_pos h2, if_pos (by omega)]
      · rw [if_neg h2, if_neg (by omega)]
    · rw [List.getElem?_eq_none (by simp; omega)]; rfl
theorem fillL_len (f : Nat → Int) (n k : Nat) : (fillL f n k).length = n := by simp [fillL]
theorem fillL_full (f : Nat → Int) (n : Nat) : fillL f n n = (List.range n).map f := by
  rw [fillL]
  apply List.map_congr_left
  intro i hi
  rw [if_pos (List.mem_range.1 hi)]
def oneL (_ : Nat) : Int := 1
theorem make_intsF (n : Nat) (hn : n ≤ 1048576) (w : World) :
    (Instr.makeSlice 22 (.int .i64 (n : Int)) (.int .i64 (n : Int))).run Try.prog w = .ok (.slice (some ⟨w.heap.size, 0, none⟩) n n) (w.alloc (.cells (Array.replicate n (Value.int .i64 0)) 2)) := by
  have h := run_make_row' (P := Try.prog) 22 2 (.int .i64 0) 8 Try.underlying22 Try.info_int64 rfl .i64 .i64 n (by omega) (by omega) w
  rw [show madeCells #[Value.int .i64 0] n = Array.replicate n (Value.int .i64 0) by (apply Array.ext'; rw [toList_madeCells_one]; simp)] at h
  exact h
def SpX (VD : List Int) (n : Nat) (w : World) (e : Ending) (w' : World) : Prop := ∃ gD gI, e = .returned (.agg #[.slice (some ⟨gD, 0, none⟩) n n, .slice (some ⟨gI, 0, none⟩) n n]) ∧ w.heap.size ≤ gD ∧ gD < gI ∧ Own w' gD 2 ((VD.map (Value.int .i64)).toArray) ∧ Own w' gI 47 (Array.replicate n (.slice none 0 0)) ∧ Below w.heap.size w w'
theorem SpX.m {VD : List Int} {n : Nat} {w w' : World} {e : Ending} (h : SpX VD n w e w') (hn : VD.length = n) : SpM VD (List.replicate n []) w e w' := by
  obtain ⟨gD, gI, he, h1, h2, h3, h4, h5⟩ := h
  exact ⟨_, _, _, _, _, _, he, ownV_blk h3 hn h1 h3.lt, ownF_nils h4 (by omega), h5⟩
set_option maxHeartbeats 1000000 in
set_option maxRecDepth 100000 in
theorem torus_x (n : Nat) (w : World) (hn : n ≤ 8) :
    Calls Try.prog 78 #[.int .i64 n] w fun e w' => SpX ((List.range n).map oneL) n w e w' := by
  have hX := Own.new w 25 #[.slice none 0 0, .slice none 0 0]
  have hb := below_alloc1 w (.cells #[.slice none 0 0, .slice none 0 0] 25)
  go_enter Try.func78, Try.ntmps78
  go_upto_region 1 with fail
  generalize w.alloc (.cells #[.slice none 0 0, .slice none 0 0] 25) = w1 at *
  obtain ⟨gX, hgX⟩ : ∃ g, w.heap.size = g := ⟨_, rfl⟩
  rw [hgX] at hX
  try rw [hgX]
  have hwX : w.heap.size ≤ gX := by omega
  clear hgX
  have hlX := hX.lt
  have hs1 := hb.size
  have hmk := make_intsF n (by omega) w1
  have hI := Own.new w1 2 (Array.replicate n (Value.int .i64 0))
  have hba := below_alloc1 w1 (.cells (Array.replicate n (Value.int .i64 0)) 2)
  replace hX := hX.keep hba hX.lt
  replace hb := below_trans' hb hba hb.size
  clear hba
  generalize w1.alloc (.cells (Array.replicate n (Value.int .i64 0)) 2) = w2 at *
  obtain ⟨gI, hgI⟩ : ∃ g, w1.heap.size = g := ⟨_, rfl⟩
  rw [hgI] at hmk hI hlX hs1
  clear hgI
  rw [fillL_zero oneL] at hI
  go_wp2_with fail
  clear hmk
  go_loopw [9] (fun y wr => ∃ k : Nat, k ≤ n ∧ y = .int .i64 k ∧ Below w.heap.size w wr ∧ Own wr gX 25 #[.slice none 0 0, .slice none 0 0] ∧ Own wr gI 2 (((fillL oneL n k).map (Value.int .i64)).toArray)) (fun y _ => n - (intOf y).toNat)
  case atStart => exact ⟨0, Nat.zero_le _, rfl, hb, hX, hI⟩
  case round =>
    clear hb hX hI
    obtain ⟨k, hk, rfl, hb, hX, hI⟩ := hrel
    have hk0 : (0 : Int) ≤ (k : Int) := by omega
    by_cases hlt : k < n
    · have hkn : (k : Int) < (n : Int) := by omega
      have hfz := hI.frozen k
      obtain ⟨ov, hcv⟩ := hI.has (i := k) (by rw [List.size_toArray, List.length_map, fillL_len]; exact hlt)
      go_wp2_with fail
      go_roundw
      case rel => exact ⟨k + 1, by omega, by go_num, hb.setCell (p := ⟨gI, k, none⟩) (by dsimp only; omega) _, hX.far (p := ⟨gI, k, none⟩) (by dsimp only; omega) _, by rw [← fillL_step hlt]; exact hI.set k _⟩
      case measure => simp [intOf] <;> omega
    · have he : k = n := by omega
      have hnl : ¬ (k : Int) < (n : Int) := by omega
      subst he
      rw [fillL_full] at hI
      go_wp2_with fail
      refine (withZero_c k (by omega)).mono ?_
      rintro e w5 ⟨gF, rfl, hgF, hO, hb5⟩
      have hlI := hI.lt
      replace hX := hX.keep hb5 hX.lt
      replace hI := hI.keep hb5 hI.lt
      replace hb := below_trans' hb hb5 hb.size
      clear hb5
      have c0 := hX.cell 0
      have c1 := hX.cell 1
      have f0 := hX.frozen 0
      have f1 := hX.frozen 1
      go_wp2_with fail
      have s2 := (hX.set 0 (.slice (some ⟨gI, 0, none⟩) k k)).set 1 (.slice (some ⟨gF, 0, none⟩) k k)
      have ht : Touch (fun q => q = gX) w5 ((w5.setCell ⟨gX, 0, none⟩ (.slice (some ⟨gI, 0, none⟩) k k)).setCell ⟨gX, 1, none⟩ (.slice (some ⟨gF, 0, none⟩) k k)) := Touch.of_only (((Only.refl gX _).set 0 _).set 1 _)
      have hb9 := (hb.setCell (p := ⟨gX, 0, none⟩) hwX (.slice (some ⟨gI, 0, none⟩) k k)).setCell (p := ⟨gX, 1, none⟩) hwX (.slice (some ⟨gF, 0, none⟩) k k)
      exact bodyPost_ret (results_cell_row rfl _ _ gX 25 #[.slice (some ⟨gI, 0, none⟩) k k, .slice (some ⟨gF, 0, none⟩) k k] (0, 0) _ rfl s2 Try.underlying25 rfl Try.info_alg) rfl ⟨gI, gF, rfl, hs1, by omega, ht.own hI (by omega), ht.own hO (by omega), hb9⟩
end Go.Proofs.Ytmijeojlighnaaa
