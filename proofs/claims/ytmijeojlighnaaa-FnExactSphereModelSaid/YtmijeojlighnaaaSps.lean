
import Derived.Test.YtmijeojlighnaaaSpc
import Derived.Test.YtmijeojlighnaaaSingle
import Derived.Test.YtmijeojlighnaaaNum
namespace Go.Proofs.Ytmijeojlighnaaa
open Go.RowKit Go.Deep
theorem mono_firstS {e : Int} (h0 : 0 ≤ e) (h1 : e ≤ 255) : IsMono [e, 0, 0, 0, 0, 0, 0, 0] := ⟨rfl, by intro x hx; simp at hx; omega⟩
theorem ownF_ofE {w : World} {lo n : Nat} {b : Option Addr} (h : OwnE w lo w.heap.size b n) : OwnF w lo w.heap.size b n (List.replicate n []) := by
  by_cases h0 : n = 0
  · subst h0
    exact ⟨rfl, fun h => absurd h (by omega)⟩
  · obtain ⟨g, rfl, h1, h2, h3⟩ := h (by omega)
    exact ownF_nils h3 h1
set_option maxHeartbeats 1000000 in
set_option maxRecDepth 100000 in
theorem l08Power_c (k : Int) (w : World) (h0 : 0 ≤ k) (h1 : k ≤ 255) :
    Calls Try.prog 34 #[.int .i64 0, .int .u8 k] w fun e w' => ∃ g, e = .returned (.agg #[.slice (some ⟨g, 0, none⟩) 1 1]) ∧ w.heap.size ≤ g ∧ Own w' g 75 #[.int .u8 k, .int .u8 0, .int .u8 0, .int .u8 0, .int .u8 0, .int .u8 0, .int .u8 0, .int .u8 0, .int .i64 1] ∧ Below w.heap.size w w' := by
  have hR := (Own.new w 47 #[.slice none 0 0]).alloc (.cells #[.int .u8 0, .int .u8 0, .int .u8 0, .int .u8 0, .int .u8 0, .int .u8 0, .int .u8 0, .int .u8 0] 56)
  have hM := Own.new (w.alloc (.cells #[.slice none 0 0] 47)) 56 #[.int .u8 0, .int .u8 0, .int .u8 0, .int .u8 0, .int .u8 0, .int .u8 0, .int .u8 0, .int .u8 0]
  rw [size_alloc] at hM
  have hb := below_then (below_alloc1 w (.cells #[.slice none 0 0] 47)) (below_alloc1 _ (.cells #[.int .u8 0, .int .u8 0, .int .u8 0, .int .u8 0, .int .u8 0, .int .u8 0, .int .u8 0, .int .u8 0] 56))
  go_enter Try.func34, Try.ntmps34
  go_upto_region 2 with fail
  generalize (w.alloc (.cells #[.slice none 0 0] 47)).alloc (.cells #[.int .u8 0, .int .u8 0, .int .u8 0, .int .u8 0, .int .u8 0, .int .u8 0, .int .u8 0, .int .u8 0] 56) = w0 at *
  have f0 := hM.frozen 0
  have hu := hM.cell 0
  go_upto_region 3 with fail
  have hM2 : Own (w0.setCell ⟨w.heap.size + 1, 0, none⟩ (.int .u8 k)) (w.heap.size + 1) 56 #[.int .u8 k, .int .u8 0, .int .u8 0, .int .u8 0, .int .u8 0, .int .u8 0, .int .u8 0, .int .u8 0] := hM.set 0 (.int .u8 k)
  have hR2 := hR.far (p := ⟨w.heap.size + 1, 0, none⟩) (by dsimp only; omega) (.int .u8 k)
  have hb2 := hb.setCell (p := ⟨w.heap.size + 1, 0, none⟩) (by dsimp only; omega) (.int .u8 k)
  generalize w0.setCell ⟨w.heap.size + 1, 0, none⟩ (.int .u8 k) = w1 at *
  clear hM hR hb f0 hu
  have HPM := Lib.hid (mono_firstS h0 h1)
  obtain ⟨z0, z1, z2, z3, z4, z5, z6, z7⟩ : w1.cell? ⟨w.heap.size + 1, 0, none⟩ = some (.int .u8 k) ∧ w1.cell? ⟨w.heap.size + 1, 1, none⟩ = some (.int .u8 0) ∧ w1.cell? ⟨w.heap.size + 1, 2, none⟩ = some (.int .u8 0) ∧ w1.cell? ⟨w.heap.size + 1, 3, none⟩ = some (.int .u8 0) ∧ w1.cell? ⟨w.heap.size + 1, 4, none⟩ = some (.int .u8 0) ∧ w1.cell? ⟨w.heap.size + 1, 5, none⟩ = some (.int .u8 0) ∧ w1.cell? ⟨w.heap.size + 1, 6, none⟩ = some (.int .u8 0) ∧ w1.cell? ⟨w.heap.size + 1, 7, none⟩ = some (.int .u8 0) := ⟨hM2.cell 0, hM2.cell 1, hM2.cell 2, hM2.cell 3, hM2.cell 4, hM2.cell 5, hM2.cell 6, hM2.cell 7⟩
  go_wp2_with fail
  refine (l01SingleO_c HPM.out).mono ?_
  rintro e w2 ⟨g, rfl, hg, hN, hb5⟩
  have hR3 := hR2.keep hb5 hR2.lt
  have hb3 := below_trans' hb2 hb5 hb2.size
  have hgl : w.heap.size + 1 < w1.heap.size := hM2.lt
  have hbs := hb2.size
  clear hb2 hM2 hR2 hb5 z0 z1 z2 z3 z4 z5 z6 z7
  have cR := hR3.cell 0
  have fR := hR3.frozen 0
  go_wp2_with fail
  have hR4 := hR3.set 0 (.slice (some ⟨g, 0, none⟩) 1 1)
  exact bodyPost_ret (results_cell_row rfl _ _ w.heap.size 47 #[.slice (some ⟨g, 0, none⟩) 1 1] (0, 0) _ rfl hR4 Try.underlying47 rfl Try.info_form) rfl ⟨g, rfl, by omega, hN.far (p := ⟨w.heap.size, 0, none⟩) (by dsimp only; omega) _, hb3.setCell (p := ⟨w.heap.size, 0, none⟩) (by dsimp only; omega) _⟩
set_option maxHeartbeats 1000000 in
set_option maxRecDepth 100000 in
theorem sph_s1 (x : Int) (w : World) (hm : x % 2 = 1) (h1 : 1 ≤ x) (h2 : x ≤ 12) :
    Calls Try.prog 11 #[.int .i64 x] w fun e w' => SpO [x] [[]] 0 w e w' := by
  have hX := Own.new w 25 #[.slice none 0 0, .slice none 0 0]
  have hb := below_alloc1 w (.cells #[.slice none 0 0, .slice none 0 0] 25)
  go_enter Try.func11, Try.ntmps11
  go_upto_region 1 with fail
  generalize w.alloc (.cells #[.slice none 0 0, .slice none 0 0] 25) = w1 at *
  obtain ⟨gX, hgX⟩ : ∃ g, w.heap.size = g := ⟨_, rfl⟩
  rw [hgX] at hX
  try rw [hgX]
  have hwX : w.heap.size ≤ gX := by omega
  clear hgX
  have hlX := hX.lt
  have hs1 := hb.size
  go_wp2_with fail
  refine (l01In_c x 1 12 _).mono ?_
  rintro e w5 ⟨rfl, rfl⟩
  rw [show decide (1 ≤ x ∧ x ≤ 12) = true by simp; omega]
  have hba := below_alloc1 w1 (.cells #[.int .i64 x] 2)
  have hI := Own.new w1 2 #[.int .i64 x]
  replace hX := hX.keep hba hX.lt
  replace hb := below_trans' hb hba hb.size
  have hba1 := hba.size
  clear hba
  go_wp2_with fail
  refine (l02Free_c (dn := 1) (zs := [x]) 1 hI rfl (by omega)).mono ?_
  rintro e w3 ⟨ra, ac, rb, rfl, hV, hE, hb3⟩
  have hF := ownF_ofE (n := 1) (hE)
  replace hX := hX.keep hb3 hX.lt
  replace hb := below_trans' hb hb3 hb.size
  clear hb3
  have c0 := hX.cell 0
  have c1 := hX.cell 1
  have f0 := hX.frozen 0
  have f1 := hX.frozen 1
  go_wp2_with fail
  have s2 := (hX.set 0 (.slice ra 1 ac)).set 1 (.slice rb 1 1)
  have ht : Touch (fun k => k = gX) w3 ((w3.setCell ⟨gX, 0, none⟩ (.slice ra 1 ac)).setCell ⟨gX, 1, none⟩ (.slice rb 1 1)) := Touch.of_only (((Only.refl gX _).set 0 _).set 1 _)
  have hV9 := (hV.touch ht (fun g h1 h2 => by omega)).weaken (lo' := w.heap.size) (hi' := ((w3.setCell ⟨gX, 0, none⟩ (.slice ra 1 ac)).setCell ⟨gX, 1, none⟩ (.slice rb 1 1)).heap.size) (by omega) (by simp)
  have hF9 := (hF.touch ht (fun g h1 h2 => by omega)).weaken (lo' := w.heap.size) (hi' := ((w3.setCell ⟨gX, 0, none⟩ (.slice ra 1 ac)).setCell ⟨gX, 1, none⟩ (.slice rb 1 1)).heap.size) (by omega) (by simp)
  have hb9 := (hb.setCell (p := ⟨gX, 0, none⟩) hwX (.slice ra 1 ac)).setCell (p := ⟨gX, 1, none⟩) hwX (.slice rb 1 1)
  exact bodyPost_ret (results_row2 rfl _ _ gX 25 #[.slice ra 1 ac, .slice rb 1 1] (0, 0) _ rfl s2 Try.underlying25 rfl Try.info_alg) rfl ⟨_, _, _, _, _, _, rfl, hV9, hF9, hb9⟩
set_option maxHeartbeats 1000000 in
set_option maxRecDepth 100000 in
theorem sph_s2 (x : Int) (w : World) (hm : x % 2 = 0) (h1 : 2 ≤ x) (h2 : x ≤ 6) :
    Calls Try.prog 11 #[.int .i64 x] w fun e w' => SpO [x, 2 * x - 1] [[], [⟨[2, 0, 0, 0, 0, 0, 0, 0], 1⟩]] 0 w e w' := by
  have hX := Own.new w 25 #[.slice none 0 0, .slice none 0 0]
  have hb := below_alloc1 w (.cells #[.slice none 0 0, .slice none 0 0] 25)
  go_enter Try.func11, Try.ntmps11
  go_upto_region 1 with fail
  generalize w.alloc (.cells #[.slice none 0 0, .slice none 0 0] 25) = w1 at *
  obtain ⟨gX, hgX⟩ : ∃ g, w.heap.size = g := ⟨_, rfl⟩
  rw [hgX] at hX
  try rw [hgX]
  have hwX : w.heap.size ≤ gX := by omega
  clear hgX
  have hlX := hX.lt
  have hs1 := hb.size
  go_wp2_with fail
  refine (l01In_c x 1 12 _).mono ?_
  rintro e w5 ⟨rfl, rfl⟩
  rw [show decide (1 ≤ x ∧ x ≤ 12) = true by simp; omega]
  have hba := below_alloc1 w1 (.cells #[.int .i64 x, .int .i64 (2 * x - 1)] 2)
  have hI := Own.new w1 2 #[.int .i64 x, .int .i64 (2 * x - 1)]
  replace hX := hX.keep hba hX.lt
  replace hb := below_trans' hb hba hb.size
  clear hba
  go_wp2_with fail
  refine (l08Power_c (2) _ (by omega) (by omega)).mono ?_
  rintro e3 w3 ⟨gT, rfl, hgT, hT, hb3⟩
  obtain ⟨gI, hgI⟩ : ∃ g, w1.heap.size = g := ⟨_, rfl⟩
  have hlI := hI.lt
  replace hX := hX.keep hb3 hX.lt
  replace hI := hI.keep hb3 hI.lt
  replace hb := below_trans' hb hb3 hb.size
  rw [hgI] at hI hlI hs1 hlX
  try rw [hgI]
  clear hb3 hgI
  have hlT := hT.lt
  have c0 := hX.cell 0
  have c1 := hX.cell 1
  have f0 := hX.frozen 0
  have f1 := hX.frozen 1
  have hO := Own.new w3 47 #[.slice none 0 0, .slice (some ⟨gT, 0, none⟩) 1 1]
  have hba := below_alloc1 w3 (.cells #[.slice none 0 0, .slice (some ⟨gT, 0, none⟩) 1 1] 47)
  replace hX := hX.keep hba hX.lt
  replace hI := hI.keep hba hI.lt
  replace hT := hT.keep hba hT.lt
  replace hb := below_trans' hb hba hb.size
  clear hba
  have d0 := hX.cell 0
  have d1 := hX.cell 1
  have e0 := hX.frozen 0
  have e1 := hX.frozen 1
  go_wp2_with fail
  clear c0 c1 f0 f1 d0 d1 e0 e1
  generalize w3.alloc (.cells #[.slice none 0 0, .slice (some ⟨gT, 0, none⟩) 1 1] 47) = w6 at *
  obtain ⟨gF, hgF⟩ : ∃ g, w3.heap.size = g := ⟨_, rfl⟩
  rw [hgF] at hO hlT
  try rw [hgF]
  clear hgF
  have hlF := hO.lt
  have hR : OwnR w6 gT (.slice (some ⟨gT, 0, none⟩) 1 1) [⟨[2, 0, 0, 0, 0, 0, 0, 0], 1⟩] := ownR_one (mono_firstS (by omega) (by omega)) hT (Nat.le_refl _)
  have hVl : Vals w6 gI [.slice none 0 0] [[]] := vals_nils (Vals.nil w6 gI) (by omega) 1
  have hVs : Vals w6 gI [.slice none 0 0, .slice (some ⟨gT, 0, none⟩) 1 1] [[], [⟨[2, 0, 0, 0, 0, 0, 0, 0], 1⟩]] := hVl.snoc (C := gT) (fun i u q h1 h2 => by
    rcases i with _ | i
    · simp at h1
      subst h1
      simp [Value.ownBlock] at h2
    · simp at h1) (by omega) hR
  have hF := hVs.ownF (n := 2) rfl hO (fun i v hi => by rcases i with _ | _ | i <;> simp_all) (by omega) (fun ts hts t ht => by
    simp at hts
    rcases hts with rfl | rfl
    · simp at ht
    · simp at ht
      subst ht
      exact ⟨mono_firstS (by omega) (by omega), by simp⟩)
  have hV : OwnV w6 gI w6.heap.size (some ⟨gI, 0, none⟩) 2 [x, (2 * x - 1)] := ownV_blk hI rfl (Nat.le_refl _) (by omega)
  clear hR hVl hVs hT hO hI
  have s2 := (hX.set 0 (.slice (some ⟨gI, 0, none⟩) 2 2)).set 1 (.slice (some ⟨gF, 0, none⟩) 2 2)
  have ht : Touch (fun k => k = gX) w6 ((w6.setCell ⟨gX, 0, none⟩ (.slice (some ⟨gI, 0, none⟩) 2 2)).setCell ⟨gX, 1, none⟩ (.slice (some ⟨gF, 0, none⟩) 2 2)) := Touch.of_only (((Only.refl gX _).set 0 _).set 1 _)
  have hV9 := (hV.touch ht (fun g h1 h2 => by omega)).weaken (lo' := w.heap.size) (hi' := ((w6.setCell ⟨gX, 0, none⟩ (.slice (some ⟨gI, 0, none⟩) 2 2)).setCell ⟨gX, 1, none⟩ (.slice (some ⟨gF, 0, none⟩) 2 2)).heap.size) (by omega) (by simp)
  have hF9 := (hF.touch ht (fun g h1 h2 => by omega)).weaken (lo' := w.heap.size) (hi' := ((w6.setCell ⟨gX, 0, none⟩ (.slice (some ⟨gI, 0, none⟩) 2 2)).setCell ⟨gX, 1, none⟩ (.slice (some ⟨gF, 0, none⟩) 2 2)).heap.size) (by omega) (by simp)
  have hb9 := (hb.setCell (p := ⟨gX, 0, none⟩) hwX (.slice (some ⟨gI, 0, none⟩) 2 2)).setCell (p := ⟨gX, 1, none⟩) hwX (.slice (some ⟨gF, 0, none⟩) 2 2)
  exact bodyPost_ret (results_row2 rfl _ _ gX 25 #[.slice (some ⟨gI, 0, none⟩) 2 2, .slice (some ⟨gF, 0, none⟩) 2 2] (0, 0) _ rfl s2 Try.underlying25 rfl Try.info_alg) rfl ⟨_, _, _, _, _, _, rfl, hV9, hF9, hb9⟩
set_option maxHeartbeats 1000000 in
set_option maxRecDepth 100000 in
theorem sph_s3 (x : Int) (w : World) (h : ¬ (1 ≤ x ∧ x ≤ 12)) :
    Calls Try.prog 11 #[.int .i64 x] w fun e w' => SpO [] [] 2 w e w' := by
  have hX := Own.new w 25 #[.slice none 0 0, .slice none 0 0]
  have hb := below_alloc1 w (.cells #[.slice none 0 0, .slice none 0 0] 25)
  go_enter Try.func11, Try.ntmps11
  go_upto_region 1 with fail
  generalize w.alloc (.cells #[.slice none 0 0, .slice none 0 0] 25) = w1 at *
  obtain ⟨gX, hgX⟩ : ∃ g, w.heap.size = g := ⟨_, rfl⟩
  rw [hgX] at hX
  try rw [hgX]
  have hwX : w.heap.size ≤ gX := by omega
  clear hgX
  have hlX := hX.lt
  have hs1 := hb.size
  go_wp2_with fail
  refine (l01In_c x 1 12 _).mono ?_
  rintro e w5 ⟨rfl, rfl⟩
  rw [show decide (1 ≤ x ∧ x ≤ 12) = false by simp; omega]
  have c0 := hX.cell 0
  have c1 := hX.cell 1
  have f0 := hX.frozen 0
  have f1 := hX.frozen 1
  go_wp2_with fail
  have s2 := (hX.set 0 (.slice none 0 0)).set 1 (.slice none 0 0)
  have hb9 := (hb.setCell (p := ⟨gX, 0, none⟩) hwX (.slice none 0 0)).setCell (p := ⟨gX, 1, none⟩) hwX (.slice none 0 0)
  exact bodyPost_ret (results_row2 rfl _ _ gX 25 #[.slice none 0 0, .slice none 0 0] (0, 0) _ rfl s2 Try.underlying25 rfl Try.info_alg) rfl ⟨none, 0, 0, none, 0, 0, rfl, OwnV.none_, OwnF.none_, hb9⟩
set_option maxHeartbeats 1000000 in
set_option maxRecDepth 100000 in
theorem sph_s4 (x : Int) (w : World) (hm : x % 2 = 0) (h1 : 6 < x) (h2 : x ≤ 12) :
    Calls Try.prog 11 #[.int .i64 x] w fun e w' => SpO [] [] 2 w e w' := by
  have hX := Own.new w 25 #[.slice none 0 0, .slice none 0 0]
  have hb := below_alloc1 w (.cells #[.slice none 0 0, .slice none 0 0] 25)
  go_enter Try.func11, Try.ntmps11
  go_upto_region 1 with fail
  generalize w.alloc (.cells #[.slice none 0 0, .slice none 0 0] 25) = w1 at *
  obtain ⟨gX, hgX⟩ : ∃ g, w.heap.size = g := ⟨_, rfl⟩
  rw [hgX] at hX
  try rw [hgX]
  have hwX : w.heap.size ≤ gX := by omega
  clear hgX
  have hlX := hX.lt
  have hs1 := hb.size
  go_wp2_with fail
  refine (l01In_c x 1 12 _).mono ?_
  rintro e w5 ⟨rfl, rfl⟩
  rw [show decide (1 ≤ x ∧ x ≤ 12) = true by simp; omega]
  have c0 := hX.cell 0
  have c1 := hX.cell 1
  have f0 := hX.frozen 0
  have f1 := hX.frozen 1
  go_wp2_with fail
  have s2 := (hX.set 0 (.slice none 0 0)).set 1 (.slice none 0 0)
  have hb9 := (hb.setCell (p := ⟨gX, 0, none⟩) hwX (.slice none 0 0)).setCell (p := ⟨gX, 1, none⟩) hwX (.slice none 0 0)
  exact bodyPost_ret (results_row2 rfl _ _ gX 25 #[.slice none 0 0, .slice none 0 0] (0, 0) _ rfl s2 Try.underlying25 rfl Try.info_alg) rfl ⟨none, 0, 0, none, 0, 0, rfl, OwnV.none_, OwnF.none_, hb9⟩
end Go.Proofs.Ytmijeojlighnaaa
