
import Derived.Test.YtmijeojlighnaaaHei
import Derived.Test.YtmijeojlighnaaaSpk
namespace Go.Proofs.Ytmijeojlighnaaa
open Go.RowKit Go.Deep
theorem heis_i (x : Int) (w : World) (h1 : 1 ≤ x) (h2 : x ≤ 3) :
    Calls Try.prog 79 #[.int .i64 x] w fun e w' => SpM (List.replicate (2 * x + 1).toNat 1) (List.replicate (2 * x).toNat [] ++ [heiT x.toNat]) w e w' := by
  obtain rfl | rfl | rfl : x = 1 ∨ x = 2 ∨ x = 3 := by omega
  · exact heis1_c w
  · exact heis2_c w
  · exact heis3_c w
set_option maxHeartbeats 1000000 in
set_option maxRecDepth 100000 in
theorem spaceOf6_in (x : Int) (w : World) (h1 : 1 ≤ x) (h2 : x ≤ 3) :
    Calls Try.prog 36 #[.int .i64 6, .int .i64 x] w fun e w' => SpO (List.replicate (2 * x + 1).toNat 1) (List.replicate (2 * x).toNat [] ++ [heiT x.toNat]) 0 w e w' := by
  have hX := Own.new w 25 #[.slice none 0 0, .slice none 0 0]
  have hb := below_alloc1 w (.cells #[.slice none 0 0, .slice none 0 0] 25)
  go_enter Try.func36, Try.ntmps36
  go_upto_region 1 with fail
  generalize w.alloc (.cells #[.slice none 0 0, .slice none 0 0] 25) = w1 at *
  obtain ⟨gX, hgX⟩ : ∃ g, w.heap.size = g := ⟨_, rfl⟩
  rw [hgX] at hX
  try rw [hgX]
  have hwX : w.heap.size ≤ gX := by omega
  clear hgX
  have hlX := hX.lt
  have hs1 := hb.size
  go_wp2_with fail
  refine (maker6_c w1).mono ?_
  rintro e w2 ⟨rfl, hb2⟩
  replace hX := hX.keep hb2 hX.lt
  replace hb := below_trans' hb hb2 hb.size
  have hs2 := hb2.size
  clear hb2
  have hM := Own.new w2 68 #[.int .i64 1, .int .i64 3, .func (.func 79) #[] #[]]
  have hba := below_alloc1 w2 (.cells #[.int .i64 1, .int .i64 3, .func (.func 79) #[] #[]] 68)
  replace hX := hX.keep hba hX.lt
  replace hb := below_trans' hb hba hb.size
  have hs3 := hba.size
  clear hba
  go_upto_region 2 with fail
  generalize w2.alloc (.cells #[.int .i64 1, .int .i64 3, .func (.func 79) #[] #[]] 68) = w3 at *
  obtain ⟨gM, hgM⟩ : ∃ g, w2.heap.size = g := ⟨_, rfl⟩
  rw [hgM] at hM hs2 hs3
  try rw [hgM]
  clear hgM
  have m0 := hM.cell 0
  have m1 := hM.cell 1
  have m2 := hM.cell 2
  go_wp2_with fail
  refine (heis_i x _ h1 h2).mono ?_
  rintro e w5 ⟨ra, an, ac, rb, bn, bc, rfl, hV, hF, hb5⟩
  replace hX := hX.keep hb5 hX.lt
  replace hb := below_trans' hb hb5 hb.size
  clear hb5 m0 m1 m2
  have c0 := hX.cell 0
  have c1 := hX.cell 1
  have f0 := hX.frozen 0
  have f1 := hX.frozen 1
  go_wp2_with fail
  have s2 := (hX.set 0 (.slice ra an ac)).set 1 (.slice rb bn bc)
  have ht : Touch (fun k => k = gX) w5 ((w5.setCell ⟨gX, 0, none⟩ (.slice ra an ac)).setCell ⟨gX, 1, none⟩ (.slice rb bn bc)) := Touch.of_only (((Only.refl gX _).set 0 _).set 1 _)
  have hV9 := (hV.touch ht (fun g h1 h2 => by omega)).weaken (lo' := w.heap.size) (hi' := ((w5.setCell ⟨gX, 0, none⟩ (.slice ra an ac)).setCell ⟨gX, 1, none⟩ (.slice rb bn bc)).heap.size) (by omega) (by simp)
  have hF9 := (hF.touch ht (fun g h1 h2 => by omega)).weaken (lo' := w.heap.size) (hi' := ((w5.setCell ⟨gX, 0, none⟩ (.slice ra an ac)).setCell ⟨gX, 1, none⟩ (.slice rb bn bc)).heap.size) (by omega) (by simp)
  have hb9 := (hb.setCell (p := ⟨gX, 0, none⟩) hwX (.slice ra an ac)).setCell (p := ⟨gX, 1, none⟩) hwX (.slice rb bn bc)
  exact bodyPost_ret (results_row2 rfl _ _ gX 25 #[.slice ra an ac, .slice rb bn bc] (0, 0) _ rfl s2 Try.underlying25 rfl Try.info_alg) rfl ⟨_, _, _, _, _, _, rfl, hV9, hF9, hb9⟩
set_option maxHeartbeats 1000000 in
set_option maxRecDepth 100000 in
theorem spaceOf6_out (x : Int) (w : World) (h : ¬ (1 ≤ x ∧ x ≤ 3)) :
    Calls Try.prog 36 #[.int .i64 6, .int .i64 x] w fun e w' => SpO [] [] 2 w e w' := by
  have hX := Own.new w 25 #[.slice none 0 0, .slice none 0 0]
  have hb := below_alloc1 w (.cells #[.slice none 0 0, .slice none 0 0] 25)
  go_enter Try.func36, Try.ntmps36
  go_upto_region 1 with fail
  generalize w.alloc (.cells #[.slice none 0 0, .slice none 0 0] 25) = w1 at *
  obtain ⟨gX, hgX⟩ : ∃ g, w.heap.size = g := ⟨_, rfl⟩
  rw [hgX] at hX
  try rw [hgX]
  have hwX : w.heap.size ≤ gX := by omega
  clear hgX
  have hlX := hX.lt
  have hs1 := hb.size
  go_wp2_with fail
  refine (maker6_c w1).mono ?_
  rintro e w2 ⟨rfl, hb2⟩
  replace hX := hX.keep hb2 hX.lt
  replace hb := below_trans' hb hb2 hb.size
  have hs2 := hb2.size
  clear hb2
  have hM := Own.new w2 68 #[.int .i64 1, .int .i64 3, .func (.func 79) #[] #[]]
  have hba := below_alloc1 w2 (.cells #[.int .i64 1, .int .i64 3, .func (.func 79) #[] #[]] 68)
  replace hX := hX.keep hba hX.lt
  replace hb := below_trans' hb hba hb.size
  have hs3 := hba.size
  clear hba
  go_upto_region 2 with fail
  generalize w2.alloc (.cells #[.int .i64 1, .int .i64 3, .func (.func 79) #[] #[]] 68) = w3 at *
  obtain ⟨gM, hgM⟩ : ∃ g, w2.heap.size = g := ⟨_, rfl⟩
  rw [hgM] at hM hs2 hs3
  try rw [hgM]
  clear hgM
  have m0 := hM.cell 0
  have m1 := hM.cell 1
  have m2 := hM.cell 2
  have c0 := hX.cell 0
  have c1 := hX.cell 1
  have f0 := hX.frozen 0
  have f1 := hX.frozen 1
  by_cases h1 : x < 1
  all_goals
    (first | (have h2 : x > 3 := by omega) | skip)
    go_wp2_with fail
    have s2 := (hX.set 0 (.slice none 0 0)).set 1 (.slice none 0 0)
    have hb9 := (hb.setCell (p := ⟨gX, 0, none⟩) hwX (.slice none 0 0)).setCell (p := ⟨gX, 1, none⟩) hwX (.slice none 0 0)
    exact bodyPost_ret (results_row2 rfl _ _ gX 25 #[.slice none 0 0, .slice none 0 0] (0, 0) _ rfl s2 Try.underlying25 rfl Try.info_alg) rfl ⟨none, 0, 0, none, 0, 0, rfl, OwnV.none_, OwnF.none_, hb9⟩
set_option maxHeartbeats 1000000 in
set_option maxRecDepth 100000 in
theorem hei_c1 (x : Int) (w : World) (h1 : 1 ≤ x) (h2 : x ≤ 3) :
    Calls Try.prog 23 #[.int .i64 x] w fun e w' => SpO (List.replicate (2 * x + 1).toNat 1) (List.replicate (2 * x).toNat [] ++ [heiT x.toNat]) 0 w e w' := by
  have hX := Own.new w 25 #[.slice none 0 0, .slice none 0 0]
  have hb := below_alloc1 w (.cells #[.slice none 0 0, .slice none 0 0] 25)
  go_enter Try.func23, Try.ntmps23
  go_upto_region 1 with fail
  generalize w.alloc (.cells #[.slice none 0 0, .slice none 0 0] 25) = w1 at *
  obtain ⟨gX, hgX⟩ : ∃ g, w.heap.size = g := ⟨_, rfl⟩
  rw [hgX] at hX
  try rw [hgX]
  have hwX : w.heap.size ≤ gX := by omega
  clear hgX
  have hlX := hX.lt
  have hs1 := hb.size
  go_wp2_with fail
  refine (spaceOf6_in x _ h1 h2).mono ?_
  rintro e w5 ⟨ra, an, ac, rb, bn, bc, rfl, hV, hF, hb5⟩
  replace hX := hX.keep hb5 hX.lt
  replace hb := below_trans' hb hb5 hb.size
  clear hb5
  have c0 := hX.cell 0
  have c1 := hX.cell 1
  have f0 := hX.frozen 0
  have f1 := hX.frozen 1
  go_wp2_with fail
  have s2 := (hX.set 0 (.slice ra an ac)).set 1 (.slice rb bn bc)
  have ht : Touch (fun k => k = gX) w5 ((w5.setCell ⟨gX, 0, none⟩ (.slice ra an ac)).setCell ⟨gX, 1, none⟩ (.slice rb bn bc)) := Touch.of_only (((Only.refl gX _).set 0 _).set 1 _)
  have hV9 := (hV.touch ht (fun g h1 h2 => by omega)).weaken (lo' := w.heap.size) (hi' := ((w5.setCell ⟨gX, 0, none⟩ (.slice ra an ac)).setCell ⟨gX, 1, none⟩ (.slice rb bn bc)).heap.size) (by omega) (by simp)
  have hF9 := (hF.touch ht (fun g h1 h2 => by omega)).weaken (lo' := w.heap.size) (hi' := ((w5.setCell ⟨gX, 0, none⟩ (.slice ra an ac)).setCell ⟨gX, 1, none⟩ (.slice rb bn bc)).heap.size) (by omega) (by simp)
  have hb9 := (hb.setCell (p := ⟨gX, 0, none⟩) hwX (.slice ra an ac)).setCell (p := ⟨gX, 1, none⟩) hwX (.slice rb bn bc)
  exact bodyPost_ret (results_row2 rfl _ _ gX 25 #[.slice ra an ac, .slice rb bn bc] (0, 0) _ rfl s2 Try.underlying25 rfl Try.info_alg) rfl ⟨_, _, _, _, _, _, rfl, hV9, hF9, hb9⟩
set_option maxHeartbeats 1000000 in
set_option maxRecDepth 100000 in
theorem hei_c0 (x : Int) (w : World) (h : ¬ (1 ≤ x ∧ x ≤ 3)) :
    Calls Try.prog 23 #[.int .i64 x] w fun e w' => SpO [] [] 2 w e w' := by
  have hX := Own.new w 25 #[.slice none 0 0, .slice none 0 0]
  have hb := below_alloc1 w (.cells #[.slice none 0 0, .slice none 0 0] 25)
  go_enter Try.func23, Try.ntmps23
  go_upto_region 1 with fail
  generalize w.alloc (.cells #[.slice none 0 0, .slice none 0 0] 25) = w1 at *
  obtain ⟨gX, hgX⟩ : ∃ g, w.heap.size = g := ⟨_, rfl⟩
  rw [hgX] at hX
  try rw [hgX]
  have hwX : w.heap.size ≤ gX := by omega
  clear hgX
  have hlX := hX.lt
  have hs1 := hb.size
  go_wp2_with fail
  refine (spaceOf6_out x _ h).mono ?_
  rintro e w5 ⟨ra, an, ac, rb, bn, bc, rfl, hV, hF, hb5⟩
  replace hX := hX.keep hb5 hX.lt
  replace hb := below_trans' hb hb5 hb.size
  clear hb5
  have c0 := hX.cell 0
  have c1 := hX.cell 1
  have f0 := hX.frozen 0
  have f1 := hX.frozen 1
  go_wp2_with fail
  have s2 := (hX.set 0 (.slice ra an ac)).set 1 (.slice rb bn bc)
  have ht : Touch (fun k => k = gX) w5 ((w5.setCell ⟨gX, 0, none⟩ (.slice ra an ac)).setCell ⟨gX, 1, none⟩ (.slice rb bn bc)) := Touch.of_only (((Only.refl gX _).set 0 _).set 1 _)
  have hV9 := (hV.touch ht (fun g h1 h2 => by omega)).weaken (lo' := w.heap.size) (hi' := ((w5.setCell ⟨gX, 0, none⟩ (.slice ra an ac)).setCell ⟨gX, 1, none⟩ (.slice rb bn bc)).heap.size) (by omega) (by simp)
  have hF9 := (hF.touch ht (fun g h1 h2 => by omega)).weaken (lo' := w.heap.size) (hi' := ((w5.setCell ⟨gX, 0, none⟩ (.slice ra an ac)).setCell ⟨gX, 1, none⟩ (.slice rb bn bc)).heap.size) (by omega) (by simp)
  have hb9 := (hb.setCell (p := ⟨gX, 0, none⟩) hwX (.slice ra an ac)).setCell (p := ⟨gX, 1, none⟩) hwX (.slice rb bn bc)
  exact bodyPost_ret (results_row2 rfl _ _ gX 25 #[.slice ra an ac, .slice rb bn bc] (0, 0) _ rfl s2 Try.underlying25 rfl Try.info_alg) rfl ⟨_, _, _, _, _, _, rfl, hV9, hF9, hb9⟩
end Go.Proofs.Ytmijeojlighnaaa
