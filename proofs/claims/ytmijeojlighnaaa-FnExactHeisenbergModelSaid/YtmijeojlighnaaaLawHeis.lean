
import Derived.Test.YtmijeojlighnaaaHes
import Derived.Test.YtmijeojlighnaaaHec
import Derived.Test.YtmijeojlighnaaaAlgR
import Derived.Test.YtmijeojlighnaaaNewA
namespace Go.Proofs.Ytmijeojlighnaaa
open Go.RowKit Go.Deep
set_option maxHeartbeats 8000000 in
set_option maxRecDepth 100000 in
theorem lawHeis_walk (x0 : Int) (w : World)
    (VD : List Int) (VI : List (List Tm)) (E : Int) (nD nI : Nat) (hnD : VD.length = nD) (hnI : VI.length = nI) (hDl : nD ≤ 1048576) (hIl : nI ≤ 1048576) (hIr : ∀ ts ∈ VI, (ts.length : Int) ≤ 1048576) (hIs : sumLen VI ≤ 1048576)
    (CS : ∀ (w' : World), Below w.heap.size w w' → Calls Try.prog 22 #[.int .i64 x0] w' fun e w'' => ∃ ra an ac rb bn bc, e = .returned (.tuple #[.agg #[.slice ra an ac, .slice rb bn bc], .int .i64 E]) ∧ OwnV w'' w'.heap.size w''.heap.size ra an VD ∧ OwnF w'' w'.heap.size w''.heap.size rb bn VI ∧ Below w'.heap.size w' w'')
    (CC : ∀ (w' : World), Below w.heap.size w w' → Calls Try.prog 23 #[.int .i64 x0] w' fun e w'' => ∃ ra an ac rb bn bc, e = .returned (.tuple #[.agg #[.slice ra an ac, .slice rb bn bc], .int .i64 E]) ∧ OwnV w'' w'.heap.size w''.heap.size ra an VD ∧ OwnF w'' w'.heap.size w''.heap.size rb bn VI ∧ Below w'.heap.size w' w'') :
    Calls Try.prog 7 #[.int .i64 x0] w fun e w' => e = .returned (.bool true) ∧ Below w.heap.size w w' := by
  have HCS := Lib.hid CS
  have HCC := Lib.hid CC
  have HnD := Lib.hid hnD
  have HnI := Lib.hid hnI
  have HIR := Lib.hid hIr
  have HIS := Lib.hid hIs
  clear CS CC hnD hnI hIr hIs
  go_enter Try.func7, Try.ntmps7
  have hb := Below.refl w.heap.size w
  go_wp2_with fail
  refine (HCS.out w hb).mono ?_
  rintro e v1 ⟨raS, anS, acS, rbS, bnS, bcS, rfl, hVS, hWS, hbX⟩
  have hnn : nD = anS := by rw [← HnD.out, hVS.1]
  have hmm : nI = bnS := by rw [← HnI.out, hWS.1]
  subst hnn
  subst hmm
  replace hb := below_trans' hb hbX hb.size
  clear hbX
  have hsbS := hb.size
  go_upto_region 2 with fail
  have hBS := Own.new v1 25 #[.slice raS nD acS, .slice rbS nI bcS]
  have hbX := below_alloc1 v1 (.cells #[.slice raS nD acS, .slice rbS nI bcS] 25)
  replace hb := below_trans' hb hbX hb.size
  replace hVS := hVS.keep hbX
  replace hWS := hWS.keep hbX
  generalize v1.alloc (.cells #[.slice raS nD acS, .slice rbS nI bcS] 25) = v2 at *
  generalize hgX : v1.heap.size = gBS at *
  clear hbX hgX
  have hlBS := hBS.lt
  go_wp2_with fail
  refine (HCC.out v2 hb).mono ?_
  rintro e v3 ⟨raR, anR, acR, rbR, bnR, bcR, rfl, hVR, hWR, hbX⟩
  have hnn : nD = anR := by rw [← HnD.out, hVR.1]
  have hmm : nI = bnR := by rw [← HnI.out, hWR.1]
  subst hnn
  subst hmm
  replace hVR := hVR.weaken (lo' := gBS + 1) (by omega) (Nat.le_refl _)
  replace hWR := hWR.weaken (lo' := gBS + 1) (by omega) (Nat.le_refl _)
  replace hb := below_trans' hb hbX hb.size
  replace hVS := hVS.keep hbX
  replace hWS := hWS.keep hbX
  replace hBS := hBS.keep hbX hBS.lt
  clear hbX
  have hsbR := hb.size
  go_upto_region 3 with fail
  have hBR := Own.new v3 25 #[.slice raR nD acR, .slice rbR nI bcR]
  have hbX := below_alloc1 v3 (.cells #[.slice raR nD acR, .slice rbR nI bcR] 25)
  replace hb := below_trans' hb hbX hb.size
  replace hVS := hVS.keep hbX
  replace hWS := hWS.keep hbX
  replace hBS := hBS.keep hbX hBS.lt
  replace hVR := hVR.keep hbX
  replace hWR := hWR.keep hbX
  generalize v3.alloc (.cells #[.slice raR nD acR, .slice rbR nI bcR] 25) = v4 at *
  generalize hgX : v3.heap.size = gBR at *
  clear hbX hgX
  have hlBR := hBR.lt
  have hne1 : (E != E) = false := by simp
  have p0 := hBR.cell 0
  have p1 := hBR.cell 1
  have q0 := hBS.cell 0
  have q1 := hBS.cell 1
  go_wp2_with fail
  refine (eqAlgebra_c _ _ _ _ hVR.ints hVS.ints hDl (hWR.frms HIR.out) (hWS.frms HIR.out) hIl HIR.out).mono ?_
  rintro e v5 ⟨rfl, hbX⟩
  clear p0 p1 q0 q1
  replace hb := below_trans' hb hbX hb.size
  replace hVS := hVS.keep hbX
  replace hWS := hWS.keep hbX
  replace hBS := hBS.keep hbX hBS.lt
  replace hVR := hVR.keep hbX
  replace hWR := hWR.keep hbX
  replace hBR := hBR.keep hbX hBR.lt
  clear hbX
  have p0 := hBR.cell 0
  have p1 := hBR.cell 1
  go_wp2_with fail
  clear p0 p1
  refine (markAlgV_c acR bcR hVR hWR hDl hIl HIS.out (by omega) (by omega)).mono ?_
  rintro e v6 ⟨rfl, hOw, hMW, hTo⟩
  replace hb := hb.trans (hTo.bel (B := w.heap.size) (fun k hk => by omega) hb.size)
  replace hVS := hVS.touch hTo (fun q h1 h2 => by omega)
  replace hWS := hWS.touch hTo (fun q h1 h2 => by omega)
  replace hBS := hTo.own hBS (by omega)
  replace hBR := hTo.own hBR (by omega)
  clear hTo hVR hWR
  generalize hM : (1 : Int) + (nD : Nat) + (sumLen VI * 9 : Nat) = M at *
  have HM := Lib.hid hM
  have hmn : ¬ (M < 0) := by omega
  clear hM
  have p0 := hBR.cell 0
  have p1 := hBR.cell 1
  go_wp2_with fail
  clear p0 p1
  refine (heldAlgV_c acR bcR hOw hMW hDl hIl HIS.out (by omega) (by omega)).mono ?_
  rintro e v7 ⟨rfl, hbX⟩
  rw [HM.out]
  replace hb := below_trans' hb hbX hb.size
  replace hVS := hVS.keep hbX
  replace hWS := hWS.keep hbX
  replace hBS := hBS.keep hbX hBS.lt
  replace hBR := hBR.keep hbX hBR.lt
  replace hOw := hOw.keep hbX
  replace hMW := hMW.keep hbX
  clear hbX
  have hBRl := hBR.lt
  go_wp2_with fail
  refine (HCC.out v7 hb).mono ?_
  rintro e v8 ⟨raT, anT, acT, rbT, bnT, bcT, rfl, hVT, hWT, hbX⟩
  have hnn : nD = anT := by rw [← HnD.out, hVT.1]
  have hmm : nI = bnT := by rw [← HnI.out, hWT.1]
  subst hnn
  subst hmm
  replace hVT := hVT.weaken (lo' := gBR + 1) (by omega) (Nat.le_refl _)
  replace hWT := hWT.weaken (lo' := gBR + 1) (by omega) (Nat.le_refl _)
  replace hb := below_trans' hb hbX hb.size
  replace hVS := hVS.keep hbX
  replace hWS := hWS.keep hbX
  replace hBS := hBS.keep hbX hBS.lt
  replace hBR := hBR.keep hbX hBR.lt
  replace hOw := hOw.keep hbX
  replace hMW := hMW.keep hbX
  clear hbX
  have hsbT := hb.size
  go_upto_region 14 with fail
  have hBT := Own.new v8 25 #[.slice raT nD acT, .slice rbT nI bcT]
  have hbX := below_alloc1 v8 (.cells #[.slice raT nD acT, .slice rbT nI bcT] 25)
  replace hb := below_trans' hb hbX hb.size
  replace hVS := hVS.keep hbX
  replace hWS := hWS.keep hbX
  replace hBS := hBS.keep hbX hBS.lt
  replace hBR := hBR.keep hbX hBR.lt
  replace hOw := hOw.keep hbX
  replace hMW := hMW.keep hbX
  replace hVT := hVT.keep hbX
  replace hWT := hWT.keep hbX
  generalize v8.alloc (.cells #[.slice raT nD acT, .slice rbT nI bcT] 25) = v9 at *
  generalize hgX : v8.heap.size = gBT at *
  clear hbX hgX
  have hlBT := hBT.lt
  have p0 := hBT.cell 0
  have p1 := hBT.cell 1
  have q0 := hBS.cell 0
  have q1 := hBS.cell 1
  go_wp2_with fail
  refine (eqAlgebra_c _ _ _ _ hVT.ints hVS.ints hDl (hWT.frms HIR.out) (hWS.frms HIR.out) hIl HIR.out).mono ?_
  rintro e v10 ⟨rfl, hbX⟩
  clear p0 p1 q0 q1
  replace hb := below_trans' hb hbX hb.size
  replace hVS := hVS.keep hbX
  replace hWS := hWS.keep hbX
  replace hBS := hBS.keep hbX hBS.lt
  replace hBR := hBR.keep hbX hBR.lt
  replace hOw := hOw.keep hbX
  replace hMW := hMW.keep hbX
  replace hVT := hVT.keep hbX
  replace hWT := hWT.keep hbX
  replace hBT := hBT.keep hbX hBT.lt
  clear hbX
  have p0 := hBR.cell 0
  have p1 := hBR.cell 1
  go_wp2_with fail
  clear p0 p1
  refine (heldAlgV_c acR bcR hOw hMW hDl hIl HIS.out (by omega) (by omega)).mono ?_
  rintro e v11 ⟨rfl, hbX⟩
  rw [HM.out]
  replace hb := below_trans' hb hbX hb.size
  replace hVS := hVS.keep hbX
  replace hWS := hWS.keep hbX
  replace hBS := hBS.keep hbX hBS.lt
  replace hBR := hBR.keep hbX hBR.lt
  replace hOw := hOw.keep hbX
  replace hMW := hMW.keep hbX
  replace hVT := hVT.keep hbX
  replace hWT := hWT.keep hbX
  replace hBT := hBT.keep hbX hBT.lt
  clear hbX
  go_wp2_with fail
  go_ret
  exact ⟨rfl, hb⟩
theorem heisenbergModel_walk (x : Int) (w : World) (_hx : (Lit.int .i64 x).wf = true) :
    Calls Try.prog 7 #[.int .i64 x] w fun e w' => e = .returned (.bool true) ∧ Below w.heap.size w w' := by
  by_cases h : 1 ≤ x ∧ x ≤ 3
  · obtain ⟨h1, h2⟩ := h
    obtain rfl | rfl | rfl : x = 1 ∨ x = 2 ∨ x = 3 := by omega
    · exact lawHeis_walk 1 w (List.replicate 3 1) (List.replicate 2 [] ++ [heiT 1]) 0 _ _ rfl rfl (by simp) (by simp) (by decide) (by decide) (fun w' _ => hei_s1 w') (fun w' _ => hei_c1 1 w' (by omega) (by omega))
    · exact lawHeis_walk 2 w (List.replicate 5 1) (List.replicate 4 [] ++ [heiT 2]) 0 _ _ rfl rfl (by simp) (by simp) (by decide) (by decide) (fun w' _ => hei_s2 w') (fun w' _ => hei_c1 2 w' (by omega) (by omega))
    · exact lawHeis_walk 3 w (List.replicate 7 1) (List.replicate 6 [] ++ [heiT 3]) 0 _ _ rfl rfl (by simp) (by simp) (by decide) (by decide) (fun w' _ => hei_s3 w') (fun w' _ => hei_c1 3 w' (by omega) (by omega))
  · exact lawHeis_walk x w _ _ _ _ _ rfl rfl (by simp) (by simp) (by simp) (by simp [sumLen]) (fun w' _ => hei_s0 x w' h) (fun w' _ => hei_c0 x w' h)
end Go.Proofs.Ytmijeojlighnaaa
