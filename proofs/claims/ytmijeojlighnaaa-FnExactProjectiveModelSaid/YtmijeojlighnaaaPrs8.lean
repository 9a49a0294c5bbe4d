
import Derived.Test.YtmijeojlighnaaaSps
namespace Go.Proofs.Ytmijeojlighnaaa
open Go.RowKit Go.Deep
set_option maxHeartbeats 1000000 in
set_option maxRecDepth 100000 in
theorem prj_s1 (x : Int) (w : World) (h1 : 1 ≤ x) (h2 : x ≤ 5) :
    Calls Try.prog 16 #[.int .i64 x, .int .i64 2] w fun e w' => SpO [2, 2 * (x + 1) - 1] [[], [⟨[x + 1, 0, 0, 0, 0, 0, 0, 0], 1⟩]] 0 w e w' := by
  have hX := Own.new w 25 #[.slice none 0 0, .slice none 0 0]
  have hb := below_alloc1 w (.cells #[.slice none 0 0, .slice none 0 0] 25)
  go_enter Try.func16, Try.ntmps16
  go_upto_region 1 with fail
  generalize w.alloc (.cells #[.slice none 0 0, .slice none 0 0] 25) = w1 at *
  obtain ⟨gX, hgX⟩ : ∃ g, w.heap.size = g := ⟨_, rfl⟩
  rw [hgX] at hX
  try rw [hgX]
  have hwX : w.heap.size ≤ gX := by omega
  clear hgX
  have hlX := hX.lt
  have hs1 := hb.size
  go_wp2_with fail
  refine (l01In_c x 1 5 _).mono ?_
  rintro e w5 ⟨rfl, rfl⟩
  rw [show decide (1 ≤ x ∧ x ≤ 5) = true by simp; omega]
  have hba := below_alloc1 w1 (.cells #[.int .i64 2, .int .i64 (2 * (x + 1) - 1)] 2)
  have hI := Own.new w1 2 #[.int .i64 2, .int .i64 (2 * (x + 1) - 1)]
  replace hX := hX.keep hba hX.lt
  replace hb := below_trans' hb hba hb.size
  clear hba
  go_wp2_with fail
  refine (l08Power_c (x + 1) _ (by omega) (by omega)).mono ?_
  rintro e3 w3 ⟨gT, rfl, hgT, hT, hb3⟩
  obtain ⟨gI, hgI⟩ : ∃ g, w1.heap.size = g := ⟨_, rfl⟩
  have hlI := hI.lt
  replace hX := hX.keep hb3 hX.lt
  replace hI := hI.keep hb3 hI.lt
  replace hb := below_trans' hb hb3 hb.size
  rw [hgI] at hI hlI hs1 hlX
  try rw [hgI]
  clear hb3 hgI
  have hlT := hT.lt
  have c0 := hX.cell 0
  have c1 := hX.cell 1
  have f0 := hX.frozen 0
  have f1 := hX.frozen 1
  have hO := Own.new w3 47 #[.slice none 0 0, .slice (some ⟨gT, 0, none⟩) 1 1]
  have hba := below_alloc1 w3 (.cells #[.slice none 0 0, .slice (some ⟨gT, 0, none⟩) 1 1] 47)
  replace hX := hX.keep hba hX.lt
  replace hI := hI.keep hba hI.lt
  replace hT := hT.keep hba hT.lt
  replace hb := below_trans' hb hba hb.size
  clear hba
  have d0 := hX.cell 0
  have d1 := hX.cell 1
  have e0 := hX.frozen 0
  have e1 := hX.frozen 1
  go_wp2_with fail
  clear c0 c1 f0 f1 d0 d1 e0 e1
  generalize w3.alloc (.cells #[.slice none 0 0, .slice (some ⟨gT, 0, none⟩) 1 1] 47) = w6 at *
  obtain ⟨gF, hgF⟩ : ∃ g, w3.heap.size = g := ⟨_, rfl⟩
  rw [hgF] at hO hlT
  try rw [hgF]
  clear hgF
  have hlF := hO.lt
  have hR : OwnR w6 gT (.slice (some ⟨gT, 0, none⟩) 1 1) [⟨[x + 1, 0, 0, 0, 0, 0, 0, 0], 1⟩] := ownR_one (mono_firstS (by omega) (by omega)) hT (Nat.le_refl _)
  have hVl : Vals w6 gI [.slice none 0 0] [[]] := vals_nils (Vals.nil w6 gI) (by omega) 1
  have hVs : Vals w6 gI [.slice none 0 0, .slice (some ⟨gT, 0, none⟩) 1 1] [[], [⟨[x + 1, 0, 0, 0, 0, 0, 0, 0], 1⟩]] := hVl.snoc (C := gT) (fun i u q h1 h2 => by
    rcases i with _ | i
    · simp at h1
      subst h1
      simp [Value.ownBlock] at h2
    · simp at h1) (by omega) hR
  have hF := hVs.ownF (n := 2) rfl hO (fun i v hi => by rcases i with _ | _ | i <;> simp_all) (by omega) (fun ts hts t ht => by
    simp at hts
    rcases hts with rfl | rfl
    · simp at ht
    · simp at ht
      subst ht
      exact ⟨mono_firstS (by omega) (by omega), by simp⟩)
  have hV : OwnV w6 gI w6.heap.size (some ⟨gI, 0, none⟩) 2 [2, (2 * (x + 1) - 1)] := ownV_blk hI rfl (Nat.le_refl _) (by omega)
  clear hR hVl hVs hT hO hI
  have s2 := (hX.set 0 (.slice (some ⟨gI, 0, none⟩) 2 2)).set 1 (.slice (some ⟨gF, 0, none⟩) 2 2)
  have ht : Touch (fun k => k = gX) w6 ((w6.setCell ⟨gX, 0, none⟩ (.slice (some ⟨gI, 0, none⟩) 2 2)).setCell ⟨gX, 1, none⟩ (.slice (some ⟨gF, 0, none⟩) 2 2)) := Touch.of_only (((Only.refl gX _).set 0 _).set 1 _)
  have hV9 := (hV.touch ht (fun g h1 h2 => by omega)).weaken (lo' := w.heap.size) (hi' := ((w6.setCell ⟨gX, 0, none⟩ (.slice (some ⟨gI, 0, none⟩) 2 2)).setCell ⟨gX, 1, none⟩ (.slice (some ⟨gF, 0, none⟩) 2 2)).heap.size) (by omega) (by simp)
  have hF9 := (hF.touch ht (fun g h1 h2 => by omega)).weaken (lo' := w.heap.size) (hi' := ((w6.setCell ⟨gX, 0, none⟩ (.slice (some ⟨gI, 0, none⟩) 2 2)).setCell ⟨gX, 1, none⟩ (.slice (some ⟨gF, 0, none⟩) 2 2)).heap.size) (by omega) (by simp)
  have hb9 := (hb.setCell (p := ⟨gX, 0, none⟩) hwX (.slice (some ⟨gI, 0, none⟩) 2 2)).setCell (p := ⟨gX, 1, none⟩) hwX (.slice (some ⟨gF, 0, none⟩) 2 2)
  exact bodyPost_ret (results_row2 rfl _ _ gX 25 #[.slice (some ⟨gI, 0, none⟩) 2 2, .slice (some ⟨gF, 0, none⟩) 2 2] (0, 0) _ rfl s2 Try.underlying25 rfl Try.info_alg) rfl ⟨_, _, _, _, _, _, rfl, hV9, hF9, hb9⟩
set_option maxHeartbeats 1000000 in
set_option maxRecDepth 100000 in
theorem prj_s2 (x : Int) (w : World) (h1 : 1 ≤ x) (h2 : x ≤ 2) :
    Calls Try.prog 16 #[.int .i64 x, .int .i64 4] w fun e w' => SpO [4, 4 * (x + 1) - 1] [[], [⟨[x + 1, 0, 0, 0, 0, 0, 0, 0], 1⟩]] 0 w e w' := by
  have hX := Own.new w 25 #[.slice none 0 0, .slice none 0 0]
  have hb := below_alloc1 w (.cells #[.slice none 0 0, .slice none 0 0] 25)
  go_enter Try.func16, Try.ntmps16
  go_upto_region 1 with fail
  generalize w.alloc (.cells #[.slice none 0 0, .slice none 0 0] 25) = w1 at *
  obtain ⟨gX, hgX⟩ : ∃ g, w.heap.size = g := ⟨_, rfl⟩
  rw [hgX] at hX
  try rw [hgX]
  have hwX : w.heap.size ≤ gX := by omega
  clear hgX
  have hlX := hX.lt
  have hs1 := hb.size
  go_wp2_with fail
  refine (l01In_c x 1 5 _).mono ?_
  rintro e w5 ⟨rfl, rfl⟩
  rw [show decide (1 ≤ x ∧ x ≤ 5) = true by simp; omega]
  have hba := below_alloc1 w1 (.cells #[.int .i64 4, .int .i64 (4 * (x + 1) - 1)] 2)
  have hI := Own.new w1 2 #[.int .i64 4, .int .i64 (4 * (x + 1) - 1)]
  replace hX := hX.keep hba hX.lt
  replace hb := below_trans' hb hba hb.size
  clear hba
  go_wp2_with fail
  refine (l08Power_c (x + 1) _ (by omega) (by omega)).mono ?_
  rintro e3 w3 ⟨gT, rfl, hgT, hT, hb3⟩
  obtain ⟨gI, hgI⟩ : ∃ g, w1.heap.size = g := ⟨_, rfl⟩
  have hlI := hI.lt
  replace hX := hX.keep hb3 hX.lt
  replace hI := hI.keep hb3 hI.lt
  replace hb := below_trans' hb hb3 hb.size
  rw [hgI] at hI hlI hs1 hlX
  try rw [hgI]
  clear hb3 hgI
  have hlT := hT.lt
  have c0 := hX.cell 0
  have c1 := hX.cell 1
  have f0 := hX.frozen 0
  have f1 := hX.frozen 1
  have hO := Own.new w3 47 #[.slice none 0 0, .slice (some ⟨gT, 0, none⟩) 1 1]
  have hba := below_alloc1 w3 (.cells #[.slice none 0 0, .slice (some ⟨gT, 0, none⟩) 1 1] 47)
  replace hX := hX.keep hba hX.lt
  replace hI := hI.keep hba hI.lt
  replace hT := hT.keep hba hT.lt
  replace hb := below_trans' hb hba hb.size
  clear hba
  have d0 := hX.cell 0
  have d1 := hX.cell 1
  have e0 := hX.frozen 0
  have e1 := hX.frozen 1
  go_wp2_with fail
  clear c0 c1 f0 f1 d0 d1 e0 e1
  generalize w3.alloc (.cells #[.slice none 0 0, .slice (some ⟨gT, 0, none⟩) 1 1] 47) = w6 at *
  obtain ⟨gF, hgF⟩ : ∃ g, w3.heap.size = g := ⟨_, rfl⟩
  rw [hgF] at hO hlT
  try rw [hgF]
  clear hgF
  have hlF := hO.lt
  have hR : OwnR w6 gT (.slice (some ⟨gT, 0, none⟩) 1 1) [⟨[x + 1, 0, 0, 0, 0, 0, 0, 0], 1⟩] := ownR_one (mono_firstS (by omega) (by omega)) hT (Nat.le_refl _)
  have hVl : Vals w6 gI [.slice none 0 0] [[]] := vals_nils (Vals.nil w6 gI) (by omega) 1
  have hVs : Vals w6 gI [.slice none 0 0, .slice (some ⟨gT, 0, none⟩) 1 1] [[], [⟨[x + 1, 0, 0, 0, 0, 0, 0, 0], 1⟩]] := hVl.snoc (C := gT) (fun i u q h1 h2 => by
    rcases i with _ | i
    · simp at h1
      subst h1
      simp [Value.ownBlock] at h2
    · simp at h1) (by omega) hR
  have hF := hVs.ownF (n := 2) rfl hO (fun i v hi => by rcases i with _ | _ | i <;> simp_all) (by omega) (fun ts hts t ht => by
    simp at hts
    rcases hts with rfl | rfl
    · simp at ht
    · simp at ht
      subst ht
      exact ⟨mono_firstS (by omega) (by omega), by simp⟩)
  have hV : OwnV w6 gI w6.heap.size (some ⟨gI, 0, none⟩) 2 [4, (4 * (x + 1) - 1)] := ownV_blk hI rfl (Nat.le_refl _) (by omega)
  clear hR hVl hVs hT hO hI
  have s2 := (hX.set 0 (.slice (some ⟨gI, 0, none⟩) 2 2)).set 1 (.slice (some ⟨gF, 0, none⟩) 2 2)
  have ht : Touch (fun k => k = gX) w6 ((w6.setCell ⟨gX, 0, none⟩ (.slice (some ⟨gI, 0, none⟩) 2 2)).setCell ⟨gX, 1, none⟩ (.slice (some ⟨gF, 0, none⟩) 2 2)) := Touch.of_only (((Only.refl gX _).set 0 _).set 1 _)
  have hV9 := (hV.touch ht (fun g h1 h2 => by omega)).weaken (lo' := w.heap.size) (hi' := ((w6.setCell ⟨gX, 0, none⟩ (.slice (some ⟨gI, 0, none⟩) 2 2)).setCell ⟨gX, 1, none⟩ (.slice (some ⟨gF, 0, none⟩) 2 2)).heap.size) (by omega) (by simp)
  have hF9 := (hF.touch ht (fun g h1 h2 => by omega)).weaken (lo' := w.heap.size) (hi' := ((w6.setCell ⟨gX, 0, none⟩ (.slice (some ⟨gI, 0, none⟩) 2 2)).setCell ⟨gX, 1, none⟩ (.slice (some ⟨gF, 0, none⟩) 2 2)).heap.size) (by omega) (by simp)
  have hb9 := (hb.setCell (p := ⟨gX, 0, none⟩) hwX (.slice (some ⟨gI, 0, none⟩) 2 2)).setCell (p := ⟨gX, 1, none⟩) hwX (.slice (some ⟨gF, 0, none⟩) 2 2)
  exact bodyPost_ret (results_row2 rfl _ _ gX 25 #[.slice (some ⟨gI, 0, none⟩) 2 2, .slice (some ⟨gF, 0, none⟩) 2 2] (0, 0) _ rfl s2 Try.underlying25 rfl Try.info_alg) rfl ⟨_, _, _, _, _, _, rfl, hV9, hF9, hb9⟩
set_option maxHeartbeats 1000000 in
set_option maxRecDepth 100000 in
theorem prj_s3 (x c : Int) (w : World) (h1 : ¬ c = 2) (h2 : ¬ c = 4) :
    Calls Try.prog 16 #[.int .i64 x, .int .i64 c] w fun e w' => SpO [] [] 2 w e w' := by
  have hX := Own.new w 25 #[.slice none 0 0, .slice none 0 0]
  have hb := below_alloc1 w (.cells #[.slice none 0 0, .slice none 0 0] 25)
  go_enter Try.func16, Try.ntmps16
  go_upto_region 1 with fail
  generalize w.alloc (.cells #[.slice none 0 0, .slice none 0 0] 25) = w1 at *
  obtain ⟨gX, hgX⟩ : ∃ g, w.heap.size = g := ⟨_, rfl⟩
  rw [hgX] at hX
  try rw [hgX]
  have hwX : w.heap.size ≤ gX := by omega
  clear hgX
  have hlX := hX.lt
  have hs1 := hb.size
  have c0 := hX.cell 0
  have c1 := hX.cell 1
  have f0 := hX.frozen 0
  have f1 := hX.frozen 1
  go_wp2_with fail
  have s2 := (hX.set 0 (.slice none 0 0)).set 1 (.slice none 0 0)
  have hb9 := (hb.setCell (p := ⟨gX, 0, none⟩) hwX (.slice none 0 0)).setCell (p := ⟨gX, 1, none⟩) hwX (.slice none 0 0)
  exact bodyPost_ret (results_row2 rfl _ _ gX 25 #[.slice none 0 0, .slice none 0 0] (0, 0) _ rfl s2 Try.underlying25 rfl Try.info_alg) rfl ⟨none, 0, 0, none, 0, 0, rfl, OwnV.none_, OwnF.none_, hb9⟩
set_option maxHeartbeats 1000000 in
set_option maxRecDepth 100000 in
theorem prj_s4 (x : Int) (w : World) (h : ¬ (1 ≤ x ∧ x ≤ 5)) :
    Calls Try.prog 16 #[.int .i64 x, .int .i64 2] w fun e w' => SpO [] [] 2 w e w' := by
  have hX := Own.new w 25 #[.slice none 0 0, .slice none 0 0]
  have hb := below_alloc1 w (.cells #[.slice none 0 0, .slice none 0 0] 25)
  go_enter Try.func16, Try.ntmps16
  go_upto_region 1 with fail
  generalize w.alloc (.cells #[.slice none 0 0, .slice none 0 0] 25) = w1 at *
  obtain ⟨gX, hgX⟩ : ∃ g, w.heap.size = g := ⟨_, rfl⟩
  rw [hgX] at hX
  try rw [hgX]
  have hwX : w.heap.size ≤ gX := by omega
  clear hgX
  have hlX := hX.lt
  have hs1 := hb.size
  go_wp2_with fail
  refine (l01In_c x 1 5 _).mono ?_
  rintro e w5 ⟨rfl, rfl⟩
  rw [show decide (1 ≤ x ∧ x ≤ 5) = false by simp; omega]
  have c0 := hX.cell 0
  have c1 := hX.cell 1
  have f0 := hX.frozen 0
  have f1 := hX.frozen 1
  go_wp2_with fail
  have s2 := (hX.set 0 (.slice none 0 0)).set 1 (.slice none 0 0)
  have hb9 := (hb.setCell (p := ⟨gX, 0, none⟩) hwX (.slice none 0 0)).setCell (p := ⟨gX, 1, none⟩) hwX (.slice none 0 0)
  exact bodyPost_ret (results_row2 rfl _ _ gX 25 #[.slice none 0 0, .slice none 0 0] (0, 0) _ rfl s2 Try.underlying25 rfl Try.info_alg) rfl ⟨none, 0, 0, none, 0, 0, rfl, OwnV.none_, OwnF.none_, hb9⟩
set_option maxHeartbeats 1000000 in
set_option maxRecDepth 100000 in
theorem prj_s5 (x : Int) (w : World) (h : ¬ (1 ≤ x ∧ x ≤ 5)) :
    Calls Try.prog 16 #[.int .i64 x, .int .i64 4] w fun e w' => SpO [] [] 2 w e w' := by
  have hX := Own.new w 25 #[.slice none 0 0, .slice none 0 0]
  have hb := below_alloc1 w (.cells #[.slice none 0 0, .slice none 0 0] 25)
  go_enter Try.func16, Try.ntmps16
  go_upto_region 1 with fail
  generalize w.alloc (.cells #[.slice none 0 0, .slice none 0 0] 25) = w1 at *
  obtain ⟨gX, hgX⟩ : ∃ g, w.heap.size = g := ⟨_, rfl⟩
  rw [hgX] at hX
  try rw [hgX]
  have hwX : w.heap.size ≤ gX := by omega
  clear hgX
  have hlX := hX.lt
  have hs1 := hb.size
  go_wp2_with fail
  refine (l01In_c x 1 5 _).mono ?_
  rintro e w5 ⟨rfl, rfl⟩
  rw [show decide (1 ≤ x ∧ x ≤ 5) = false by simp; omega]
  have c0 := hX.cell 0
  have c1 := hX.cell 1
  have f0 := hX.frozen 0
  have f1 := hX.frozen 1
  go_wp2_with fail
  have s2 := (hX.set 0 (.slice none 0 0)).set 1 (.slice none 0 0)
  have hb9 := (hb.setCell (p := ⟨gX, 0, none⟩) hwX (.slice none 0 0)).setCell (p := ⟨gX, 1, none⟩) hwX (.slice none 0 0)
  exact bodyPost_ret (results_row2 rfl _ _ gX 25 #[.slice none 0 0, .slice none 0 0] (0, 0) _ rfl s2 Try.underlying25 rfl Try.info_alg) rfl ⟨none, 0, 0, none, 0, 0, rfl, OwnV.none_, OwnF.none_, hb9⟩
set_option maxHeartbeats 1000000 in
set_option maxRecDepth 100000 in
theorem prj_s6 (x : Int) (w : World) (h1 : 2 < x) (h2 : x ≤ 5) :
    Calls Try.prog 16 #[.int .i64 x, .int .i64 4] w fun e w' => SpO [] [] 2 w e w' := by
  have hX := Own.new w 25 #[.slice none 0 0, .slice none 0 0]
  have hb := below_alloc1 w (.cells #[.slice none 0 0, .slice none 0 0] 25)
  go_enter Try.func16, Try.ntmps16
  go_upto_region 1 with fail
  generalize w.alloc (.cells #[.slice none 0 0, .slice none 0 0] 25) = w1 at *
  obtain ⟨gX, hgX⟩ : ∃ g, w.heap.size = g := ⟨_, rfl⟩
  rw [hgX] at hX
  try rw [hgX]
  have hwX : w.heap.size ≤ gX := by omega
  clear hgX
  have hlX := hX.lt
  have hs1 := hb.size
  go_wp2_with fail
  refine (l01In_c x 1 5 _).mono ?_
  rintro e w5 ⟨rfl, rfl⟩
  rw [show decide (1 ≤ x ∧ x ≤ 5) = true by simp; omega]
  have c0 := hX.cell 0
  have c1 := hX.cell 1
  have f0 := hX.frozen 0
  have f1 := hX.frozen 1
  go_wp2_with fail
  have s2 := (hX.set 0 (.slice none 0 0)).set 1 (.slice none 0 0)
  have hb9 := (hb.setCell (p := ⟨gX, 0, none⟩) hwX (.slice none 0 0)).setCell (p := ⟨gX, 1, none⟩) hwX (.slice none 0 0)
  exact bodyPost_ret (results_row2 rfl _ _ gX 25 #[.slice none 0 0, .slice none 0 0] (0, 0) _ rfl s2 Try.underlying25 rfl Try.info_alg) rfl ⟨none, 0, 0, none, 0, 0, rfl, OwnV.none_, OwnF.none_, hb9⟩
end Go.Proofs.Ytmijeojlighnaaa
