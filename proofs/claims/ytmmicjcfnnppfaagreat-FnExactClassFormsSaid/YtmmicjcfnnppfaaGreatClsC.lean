
import Derived.Test.YtmmicjcfnnppfaaGreatFmC
import Derived.Test.YtmmicjcfnnppfaaGreatModC
namespace Go.Proofs.YtmmicjcfnnppfaaGreat
set_option maxRecDepth 100000
open Go.RowKit Go.Deep
theorem field_spl0 (a1 a2 a3 a4 a5 : Option Addr) (n1 n2 n3 n4 n5 c1 c2 c3 c4 c5 : Nat) (w : World) : (Instr.field 83 (.agg #[.slice a1 n1 c1, .slice a2 n2 c2, .slice a3 n3 c3, .slice a4 n4 c4, .slice a5 n5 c5]) 0).run Tryz.prog w = .ok (.agg #[.slice a1 n1 c1, .slice a2 n2 c2]) w := by kernel_rfl
theorem field_spl1 (a1 a2 a3 a4 a5 : Option Addr) (n1 n2 n3 n4 n5 c1 c2 c3 c4 c5 : Nat) (w : World) : (Instr.field 83 (.agg #[.slice a1 n1 c1, .slice a2 n2 c2, .slice a3 n3 c3, .slice a4 n4 c4, .slice a5 n5 c5]) 1).run Tryz.prog w = .ok (.agg #[.slice a3 n3 c3, .slice a4 n4 c4]) w := by kernel_rfl
theorem columnsOf_m {w : World} {da : Option Addr} {dn : Nat} {zs : List Int} {a : Option Addr} {n m : Nat} (dc c : Nat) (hd : Ints w da dn zs) (hdn : dn ≤ 1048576) (hz : degsOk zs = true) (hm : m ≤ 40) (hc : cnt zs m ≤ 120) :
    Calls Tryz.prog 58 #[.agg #[.slice da dn dc, .slice a n c], .int .i64 m] w fun e w' => ∃ ra rc, e = .returned (.slice ra (cnt zs m) rc) ∧ Mos w' ra (cnt zs m) (side zs m) ∧ Below w.heap.size w w' := by
 refine (columnsOf_c dc c hd hdn).mono ?_
 rintro e w' ⟨ra, rn, rc, rfl, hM, hb⟩
 rw [moV_side (n := m) hz (by omega) (by omega)] at hM
 obtain rfl : cnt zs m = rn := by rw [← hM.1, side_len]
 exact ⟨ra, rc, rfl, hM.mos, hb⟩
theorem splitLow_c {w : World} {da : Option Addr} {dn : Nat} {zs : List Int} {a : Option Addr} {k : Nat} {ims : List (List Tm)} {m : Nat} {x : Int} (dc c : Nat) (hd : Ints w da dn zs) (hdn : dn ≤ 1048576) (hF : Frms w a k ims) (HA : AlgOk zs ims) (hA : isAlg zs ims = true) (hz : degsOk zs = true) (hm : m ≤ 20) (hc : cnt zs m ≤ 120) (hl : ¬ m = 0 → cnt zs (m - 1) ≤ 120) (hx : x = (m : Int) - 1 := by rfl) :
    Calls Tryz.prog 60 #[.agg #[.slice da dn dc, .slice a k c], .int .i64 x] w fun e w' => ∃ v, e = .returned v ∧ SplitV w' w.heap.size v (cnt zs m) (nbR zs m) (lgR zs ims m) ∧ Below w.heap.size w w' := by
 by_cases h0 : m = 0
 · subst h0
   refine (splitByDN_c dc c (by omega) hd hdn hz hc).mono ?_
   rintro e w' ⟨v, rfl, h1, h2⟩
   exact ⟨v, rfl, h1, h2⟩
 · obtain ⟨j, rfl⟩ : ∃ j, m = j + 1 := ⟨m - 1, by omega⟩
   have e1 : x = (j : Int) := by omega
   rw [e1]
   have hl2 := hl h0
   rw [show j + 1 - 1 = j by omega] at hl2
   refine (splitByD_c dc c hd hdn hF HA hA hz (by omega) hl2 hc).mono ?_
   rintro e w' ⟨v, rfl, h1, h2⟩
   refine ⟨v, rfl, ?_, h2⟩
   rw [nbR, lgR, if_neg h0, if_neg h0, show j + 1 - 1 = j by omega]
   exact h1
theorem nbR_lt {zs : List Int} {m : Nat} (h : ¬ m = 0 → cnt zs (m - 1) ≤ 120) : nbR zs m ≤ 120 := by
 rw [nbR]
 split
 · omega
 · rename_i h0
   exact h h0
theorem Tryz.info_coh : (Tryz.prog.info? 88).map (·.size) = some 4 := by kernel_rfl
set_option maxHeartbeats 400000 in
theorem cohomologyOf_g {w : World} {da : Option Addr} {dn : Nat} {a : Option Addr} {k : Nat} {x : Int} {W W2 N : Nat} {L L2 : List (List Int)} (dc c : Nat) (hx0 : -1 ≤ x) (hx1 : x ≤ 20)
    (h1 : ∀ w', Below w.heap.size w w' → Calls Tryz.prog 60 #[.agg #[.slice da dn dc, .slice a k c], .int .i64 (x - 1)] w' fun e w'' => ∃ v, e = .returned v ∧ SplitV w'' w'.heap.size v W N L ∧ Below w'.heap.size w' w'')
    (h2 : ∀ w', Below w.heap.size w w' → Calls Tryz.prog 60 #[.agg #[.slice da dn dc, .slice a k c], .int .i64 x] w' fun e w'' => ∃ v, e = .returned v ∧ SplitV w'' w'.heap.size v W2 W L2 ∧ Below w'.heap.size w' w'')
    (hD : RedI W (bndR W L)) (hC : RedI W (cloR W2 L2)) (hW : W ≤ 1000) (hDl : (bndR W L).length ≤ 1000) (hCl : (cloR W2 L2).length ≤ 1000) :
    Calls Tryz.prog 65 #[.agg #[.slice da dn dc, .slice a k c], .int .i64 x] w fun e w' => ∃ a1 n1 c1 a2 n2 c2 a3 n3 c3 a4 n4 c4, e = .returned (.agg #[.slice a1 n1 c1, .slice a2 n2 c2, .slice a3 n3 c3, .slice a4 n4 c4]) ∧ BasV w' w.heap.size w'.heap.size (.agg #[.slice a1 n1 c1, .slice a2 n2 c2]) W (bndR W L) ∧ BasV w' w.heap.size w'.heap.size (.agg #[.slice a3 n3 c3, .slice a4 n4 c4]) W (redR ((cloR W2 L2).map (fun r => byR r (bndR W L)))) ∧ Below w.heap.size w w' := by
 have HS1 := Lib.hid h1
 have HS2 := Lib.hid h2
 have HDD := Lib.hid hD
 have HCC := Lib.hid hC
 have HDL := Lib.hid hDl
 have HCL := Lib.hid hCl
 have hO := (Own.new w 31 #[.slice da dn dc, .slice a k c]).alloc (.cells #[.slice none 0 0, .slice none 0 0, .slice none 0 0, .slice none 0 0] 88)
 have hQ := Own.new (w.alloc (.cells #[.slice da dn dc, .slice a k c] 31)) 88 #[.slice none 0 0, .slice none 0 0, .slice none 0 0, .slice none 0 0]
 rw [size_alloc] at hQ
 have hb := below_then (bA1 w (.cells #[.slice da dn dc, .slice a k c] 31)) (bA1 _ (.cells #[.slice none 0 0, .slice none 0 0, .slice none 0 0, .slice none 0 0] 88))
 have hs : ((w.alloc (.cells #[.slice da dn dc, .slice a k c] 31)).alloc (.cells #[.slice none 0 0, .slice none 0 0, .slice none 0 0, .slice none 0 0] 88)).heap.size = w.heap.size + 2 := by rw [size_alloc, size_alloc]
 clear h1 h2 hD hC hDl hCl
 go_enter Tryz.func65, Tryz.ntmps65
 go_upto_region 1 with fail
 generalize (w.alloc (.cells #[.slice da dn dc, .slice a k c] 31)).alloc (.cells #[.slice none 0 0, .slice none 0 0, .slice none 0 0, .slice none 0 0] 88) = w2 at *
 have cc0 := hO.cell 0
 have cc1 := hO.cell 1
 have HSZ := Lib.hid hs
 have HQ0 := Lib.hid hQ
 clear hs hQ
 go_wp2_with fail
 refine (HS1.out _ hb).mono ?_
 rintro e w3 ⟨v, rfl, hSV, hb3⟩
 have hb4 := bT' hb hb3 hb.size
 have hO4 := hO.keep hb3 hO.lt
 have HQ4 := Lib.hid (HQ0.out.keep hb3 HQ0.out.lt)
 have HSZ4 := Lib.hid hb3.size
 clear hb hO hb3 cc0 cc1
 obtain ⟨a1, n1, c1, a2, n2, c2, a3, n3, c3, a4, n4, c4, a5, n5, c5, rfl⟩ := hSV.slices
 have hfld := field_spl1 (a1 := a1) (n1 := n1) (c1 := c1) (a2 := a2) (n2 := n2) (c2 := c2) (a3 := a3) (n3 := n3) (c3 := c3) (a4 := a4) (n4 := n4) (c4 := c4) (a5 := a5) (n5 := n5) (c5 := c5)
 obtain ⟨vc, vcf, vb, vbf, vp, hve, -, hBB, -⟩ := hSV.two
 simp only [Value.agg.injEq, Array.mk.injEq, List.cons.injEq, and_true] at hve
 obtain ⟨rfl, rfl, rfl, rfl, rfl⟩ := hve
 go_upto_region 2 with fail
 have hX := Own.new w3 81 #[.slice a3 n3 c3, .slice a4 n4 c4]
 have hba := bA1 w3 (.cells #[.slice a3 n3 c3, .slice a4 n4 c4] 81)
 replace hBB := (hBB.weaken (lo' := w.heap.size + 2) (by have := HSZ.out; omega) (Nat.le_refl _)).keep hba (Nat.le_refl _)
 replace hO4 := hO4.keep hba hO4.lt
 have hs4 := hb4.size
 replace hb4 := bT' hb4 hba hs4
 have hQ := HQ4.out.keep hba HQ4.out.lt
 have hsz : w3.heap.size ≤ (w3.alloc (.cells #[.slice a3 n3 c3, .slice a4 n4 c4] 81)).heap.size := hba.size
 have HGB : Hid (w.heap.size + 2 ≤ w3.heap.size) := Lib.hid (by have := HSZ.out; have := HSZ4.out; omega)
 clear hba HQ4 HQ0 hSV hfld
 generalize w3.alloc (.cells #[.slice a3 n3 c3, .slice a4 n4 c4] 81) = w4 at *
 generalize w3.heap.size = gB at *
 have hdr : Below w4.heap.size w4 w4.drew := (Below.refl _ _).drew
 replace hBB := hBB.keep hdr hsz
 replace hO4 := hO4.keep hdr hO4.lt
 replace hX := hX.keep hdr hX.lt
 replace hQ := hQ.keep hdr hQ.lt
 replace hb4 := bT' hb4 hdr hb4.size
 replace hsz := Nat.le_trans hsz hdr.size
 clear hdr hs4
 have hs4 := hb4.size
 refine wp_region_held_drew (S := (fun w' => w'.cell? ⟨w.heap.size, 0, none⟩ = some (.slice da dn dc) ∧ w'.cell? ⟨w.heap.size, 1, none⟩ = some (.slice a k c) ∧ w'.cell? ⟨gB, 0, none⟩ = some (.slice a3 n3 c3) ∧ w'.cell? ⟨gB, 1, none⟩ = some (.slice a4 n4 c4))) (by kernel_rfl) ?_ (fun _ => ?_)
 · ((try dsimp only); (exact ⟨hO4.cell 0, hO4.cell 1, hX.cell 0, hX.cell 1⟩))
 generalize w4.drew = W0 at *
 refine hdT 0 ?_
 refine hdT 1 ?_
 refine hdT 2 ?_
 refine hdT 5 ?_
 refine hdC 3 (fun K hK => ?_)
 (go_simp; (go_at_call 60; refine (HS2.out _ hb4).mono ?_; rintro e W1 ⟨v, rfl, hSV, hbX⟩; obtain ⟨b1, m1, d1, b2, m2, d2, b3, m3, d3, b4, m4, d4, b5, m5, d5, rfl⟩ := hSV.slices); go_wp2_with fail)
 obtain ⟨uc, ucf, ub, ubf, up, hue, hBC, -, -⟩ := hSV.two
 simp only [Value.agg.injEq, Array.mk.injEq, List.cons.injEq, and_true] at hue
 obtain ⟨rfl, rfl, rfl, rfl, rfl⟩ := hue
 replace hBB := hBB.keep hbX hsz
 replace hO4 := hO4.keep hbX hO4.lt
 replace hX := hX.keep hbX hX.lt
 replace hQ := hQ.keep hbX hQ.lt
 have HLW := Lib.hid hs4
 replace hb4 := bT' hb4 hbX hs4
 replace hs4 := hb4.size
 replace hsz := Nat.le_trans hsz hbX.size
 clear hbX hSV
 refine hK.out _ _ ?_ (fun _ => ?_)
 · ((try dsimp only); (exact ⟨hO4.cell 0, hO4.cell 1, hX.cell 0, hX.cell 1⟩))
 clear hK K
 (try simp only [Act.put, pA, pB, pC])
 have hfld := field_spl0
 refine hdT 4 ?_
 clear hfld
 refine hdC 6 (fun K hK => ?_)
 (go_simp; (go_at_call 124; refine (modulo_c hBC hBB (Nat.le_refl _) hsz HCC.out HDD.out hW HCL.out HDL.out).mono ?_; rintro e Wt ⟨v, rfl, hBM, hbX⟩; have HBM := Lib.hid hBM; obtain ⟨e1, f1, e2, f2, rfl, -⟩ := hBM); go_wp2_with fail)
 replace hBB := hBB.keep hbX hsz
 replace hO4 := hO4.keep hbX hO4.lt
 replace hX := hX.keep hbX hX.lt
 replace hQ := hQ.keep hbX hQ.lt
 replace HBM := Lib.hid (HBM.out.weaken (lo' := gB) hsz (Nat.le_refl _))
 have HSE := Lib.hid (Nat.le_trans hsz hbX.size)
 replace hb4 := bT' hb4 hbX hs4
 clear hbX hBC hs4 hsz
 refine hK.out _ _ ?_ (fun _ => ?_)
 · ((try dsimp only); (exact ⟨hO4.cell 0, hO4.cell 1, hX.cell 0, hX.cell 1⟩))
 clear hK K
 (try simp only [Act.put, pA, pB, pC])
 refine hdT 7 ?_
 generalize hLEN : (redR (List.map (fun r => byR r (bndR W L)) (cloR W2 L2))).length = nL at *
 refine hdC 8 (fun K hK => ?_)
 have cQ0 := hQ.cell 0
 have fQ0 := hQ.frozen 0
 have cQ1 := hQ.cell 1
 have fQ1 := hQ.frozen 1
 have cQ2 := hQ.cell 2
 have fQ2 := hQ.frozen 2
 have cQ3 := hQ.cell 3
 have fQ3 := hQ.frozen 3
 (go_simp; go_wp2_with fail)
 clear cQ0 fQ0 cQ1 fQ1 cQ2 fQ2 cQ3 fQ3
 have hon := Touch.of_only (((((Only.refl (w.heap.size + 1) Wt).set 0 (.slice a3 n3 c3)).set 1 (.slice a4 n4 c4)).set 2 (.slice e1 nL f1)).set 3 (.slice e2 nL f2))
 replace hb4 := hb4.setCell (p := ⟨w.heap.size + 1, 0, none⟩) (by dsimp only; omega) (.slice a3 n3 c3)
 replace hO4 := hO4.far (p := ⟨w.heap.size + 1, 0, none⟩) (by dsimp only; omega) (.slice a3 n3 c3)
 replace hX := hX.far (p := ⟨w.heap.size + 1, 0, none⟩) (by dsimp only; have := HGB.out; omega) (.slice a3 n3 c3)
 replace hQ := hQ.set 0 (.slice a3 n3 c3)
 replace hb4 := hb4.setCell (p := ⟨w.heap.size + 1, 1, none⟩) (by dsimp only; omega) (.slice a4 n4 c4)
 replace hO4 := hO4.far (p := ⟨w.heap.size + 1, 1, none⟩) (by dsimp only; omega) (.slice a4 n4 c4)
 replace hX := hX.far (p := ⟨w.heap.size + 1, 1, none⟩) (by dsimp only; have := HGB.out; omega) (.slice a4 n4 c4)
 replace hQ := hQ.set 1 (.slice a4 n4 c4)
 replace hb4 := hb4.setCell (p := ⟨w.heap.size + 1, 2, none⟩) (by dsimp only; omega) (.slice e1 nL f1)
 replace hO4 := hO4.far (p := ⟨w.heap.size + 1, 2, none⟩) (by dsimp only; omega) (.slice e1 nL f1)
 replace hX := hX.far (p := ⟨w.heap.size + 1, 2, none⟩) (by dsimp only; have := HGB.out; omega) (.slice e1 nL f1)
 replace hQ := hQ.set 2 (.slice e1 nL f1)
 replace hb4 := hb4.setCell (p := ⟨w.heap.size + 1, 3, none⟩) (by dsimp only; omega) (.slice e2 nL f2)
 replace hO4 := hO4.far (p := ⟨w.heap.size + 1, 3, none⟩) (by dsimp only; omega) (.slice e2 nL f2)
 replace hX := hX.far (p := ⟨w.heap.size + 1, 3, none⟩) (by dsimp only; have := HGB.out; omega) (.slice e2 nL f2)
 replace hQ := hQ.set 3 (.slice e2 nL f2)
 have HBM9 := Lib.hid ((HBM.out.touch hon (fun q h1 _ => by have := HGB.out; omega) (Nat.le_refl _)).weaken (lo' := w.heap.size) (by have := HGB.out; omega) hon.below.size)
 have HBB9 := Lib.hid ((hBB.touch hon (fun q h1 _ => by omega) (by have := HSE.out; omega)).weaken (lo' := w.heap.size) (by omega) (Nat.le_trans HSE.out hon.below.size))
 clear hon hBB
 generalize ((((Wt).setCell ⟨w.heap.size + 1, 0, none⟩ (.slice a3 n3 c3)).setCell ⟨w.heap.size + 1, 1, none⟩ (.slice a4 n4 c4)).setCell ⟨w.heap.size + 1, 2, none⟩ (.slice e1 nL f1)).setCell ⟨w.heap.size + 1, 3, none⟩ (.slice e2 nL f2) = W3 at *
 refine hK.out _ _ ?_ (fun _ => ?_)
 · ((try dsimp only); (exact ⟨hO4.cell 0, hO4.cell 1, hX.cell 0, hX.cell 1⟩))
 clear hK K
 (try simp only [Act.put, pA, pB, pC])
 refine wpAnyH_done (by kernel_rfl) ?_ _
 go_wp2_with fail
 exact bodyPost_ret (results_cell_row rfl _ _ (w.heap.size + 1) 88 #[.slice a3 n3 c3, .slice a4 n4 c4, .slice e1 nL f1, .slice e2 nL f2] (0, 0) _ rfl hQ Tryz.underlying88 rfl Tryz.info_coh) rfl ⟨_, _, _, _, _, _, _, _, _, _, _, _, rfl, HBB9.out, HBM9.out, hb4⟩
theorem cohomologyOf_c {w : World} {da : Option Addr} {dn : Nat} {zs : List Int} {a : Option Addr} {k : Nat} {ims : List (List Tm)} {m : Nat} (dc c : Nat) (hd : Ints w da dn zs) (hdn : dn ≤ 1048576) (hF : Frms w a k ims) (HA : AlgOk zs ims) (hA : isAlg zs ims = true) (hz : degsOk zs = true) (hm : m ≤ 20) (hc1 : cnt zs m ≤ 120) (hc2 : cnt zs (m + 1) ≤ 120) (hl : ¬ m = 0 → cnt zs (m - 1) ≤ 120) :
    Calls Tryz.prog 65 #[.agg #[.slice da dn dc, .slice a k c], .int .i64 m] w fun e w' => ∃ a1 n1 c1 a2 n2 c2 a3 n3 c3 a4 n4 c4, e = .returned (.agg #[.slice a1 n1 c1, .slice a2 n2 c2, .slice a3 n3 c3, .slice a4 n4 c4]) ∧ BasV w' w.heap.size w'.heap.size (.agg #[.slice a1 n1 c1, .slice a2 n2 c2]) (cnt zs m) (bdR zs ims m) ∧ BasV w' w.heap.size w'.heap.size (.agg #[.slice a3 n3 c3, .slice a4 n4 c4]) (cnt zs m) (csR zs ims m) ∧ Below w.heap.size w w' := by
 refine (cohomologyOf_g (x := (m : Int)) (W := cnt zs m) (W2 := cnt zs (m + 1)) (N := nbR zs m) (L := lgR zs ims m) (L2 := redR (longR (mrR zs ims m))) dc c (by omega) (by omega) (fun w' hb => splitLow_c dc c (hd.keep hb) hdn (hF.keep hb) HA hA hz hm hc1 hl rfl) (fun w' hb => splitByD_c dc c (hd.keep hb) hdn (hF.keep hb) HA hA hz hm hc1 hc2) (by rw [bndR_lg HA hz]; exact bdR_red HA hz m) (clR_red HA hz m) (by omega) (by rw [bndR_lg HA hz]; have := bdR_len zs ims m; have := nbR_lt (zs := zs) hl; omega) (by have := clR_len zs ims m; rw [show cloR (cnt zs (m + 1)) (redR (longR (mrR zs ims m))) = clR zs ims m from rfl]; omega)).mono ?_
 rintro e w' ⟨a1, n1, c1, a2, n2, c2, a3, n3, c3, a4, n4, c4, rfl, h1, h2, h3⟩
 rw [bndR_lg HA hz] at h1 h2
 exact ⟨a1, n1, c1, a2, n2, c2, a3, n3, c3, a4, n4, c4, rfl, h1, h2, h3⟩
theorem field_coh1 (a1 a2 a3 a4 : Option Addr) (n1 n2 n3 n4 c1 c2 c3 c4 : Nat) (w : World) : (Instr.field 88 (.agg #[.slice a1 n1 c1, .slice a2 n2 c2, .slice a3 n3 c3, .slice a4 n4 c4]) 1).run Tryz.prog w = .ok (.agg #[.slice a3 n3 c3, .slice a4 n4 c4]) w := by kernel_rfl
set_option maxHeartbeats 4000000 in
theorem ClassForms_c {w : World} {da : Option Addr} {dn : Nat} {zs : List Int} {a : Option Addr} {k : Nat} {ims : List (List Tm)} (n : Int) (dc c : Nat) (hd : Ints w da dn zs) (hdn : dn ≤ 1048576) (hF : Frms w a k ims) (hk : k ≤ 1048576) (hL : ∀ im ∈ ims, (im.length : Int) ≤ 1048576) :
    Calls Tryz.prog 25 #[.agg #[.slice da dn dc, .slice a k c], .int .i64 n] w fun e w' => ∃ ra rn rc, e = .returned (.tuple #[.slice ra rn rc, .int .i64 (mtE zs ims n)]) ∧ OwnF w' w.heap.size w'.heap.size ra rn (csV zs ims n) ∧ Below w.heap.size w w' := by
 have HD := Lib.hid hd
 have HF := Lib.hid hF
 have HLL := Lib.hid hL
 have HT := Lib.hid hF.tm
 have hO := Own.new w 31 #[.slice da dn dc, .slice a k c]
 have hb := bA1 w (.cells #[.slice da dn dc, .slice a k c] 31)
 clear hd hF hL
 go_enter Tryz.func25, Tryz.ntmps25
 go_wp2_with fail
 refine (checkDegree_c dc c (HD.out.keep hb) hdn (HF.out.keep hb) hk HLL.out).mono ?_
 rintro e w1 ⟨rfl, hb1⟩
 have hO1 := hO.keep hb1 hO.lt
 have hb2 := below_then hb hb1
 clear hO hb hb1
 generalize hE : code3 zs ims (low1 n) n = E at *
 have HE := Lib.hid hE
 clear hE
 by_cases hE0 : E = 0
 · subst hE0
   have HZ := Lib.hid (code3_zero HE.out)
   have HLW := Lib.hid (fun h => mtE_low (zs := zs) (ims := ims) (n := n) HE.out h)
   obtain ⟨m, rfl⟩ : ∃ m : Nat, n = m := ⟨n.toNat, by have := HZ.out.2.1; omega⟩
   have c0 := hO1.cell 0
   have c1 := hO1.cell 1
   have HDG := Lib.hid (isAlg_dg HZ.out.1)
   have HAO := Lib.hid (isAlg_ok HZ.out.1 HT.out)
   have hq := HZ.out.2.2
   have hlw := HLW.out
   simp only [Int.toNat_natCast] at hq hlw
   have HQ := Lib.hid hq
   have HQL := Lib.hid hlw
   clear hq hlw
   go_upto_region 4 with fail
   clear c0 c1
   replace hO1 : Own w1.drew w.heap.size 31 #[.slice da dn dc, .slice a k c] := hO1
   replace hb2 : Below w.heap.size w w1.drew := hb2.drew
   have hs2 := hb2.size
   refine wp_region_held_drew (S := (fun w' => w'.cell? ⟨w.heap.size, 0, none⟩ = some (.slice da dn dc) ∧ w'.cell? ⟨w.heap.size, 1, none⟩ = some (.slice a k c))) (by kernel_rfl) ?_ (fun _ => ?_)
   · ((try dsimp only); (exact ⟨hO1.cell 0, hO1.cell 1⟩))
   generalize w1.drew = W0 at *
   refine hdT 0 ?_
   refine hdT 1 ?_
   refine hdT 3 ?_
   refine hdT 4 ?_
   refine hdC 2 (fun K hK => ?_)
   (go_simp; (go_at_call 58; refine (columnsOf_m dc c (HD.out.keep hb2) hdn HDG.out (by have := HQ.out.1; omega) HQ.out.2.1).mono ?_; rintro e W1 ⟨ra, rc, rfl, hM, hbX⟩); go_wp2_with fail)
   replace hO1 := hO1.keep hbX hO1.lt
   replace hb2 := bT' hb2 hbX hs2
   replace hs2 := hb2.size
   clear hbX
   refine hK.out _ _ ?_ (fun _ => ?_)
   · ((try dsimp only); (exact ⟨hO1.cell 0, hO1.cell 1⟩))
   clear hK K
   (try simp only [Act.put, pA, pB, pC])
   refine hdC 5 (fun K hK => ?_)
   (go_simp; (go_at_call 65; refine (cohomologyOf_c dc c (HD.out.keep hb2) hdn (HF.out.keep hb2) HAO.out HZ.out.1 HDG.out (by have := HQ.out.1; omega) HQ.out.2.1 HQ.out.2.2 HQL.out).mono ?_; rintro e W2 ⟨a1, n1, c1, a2, n2, c2, a3, n3, c3, a4, n4, c4, rfl, -, hBC, hbX⟩); go_wp2_with fail)
   replace hM := hM.keep hbX
   replace hO1 := hO1.keep hbX hO1.lt
   replace hb2 := bT' hb2 hbX hs2
   replace hs2 := hb2.size
   clear hbX
   refine hK.out _ _ ?_ (fun _ => ?_)
   · ((try dsimp only); (exact ⟨hO1.cell 0, hO1.cell 1⟩))
   clear hK K
   (try simp only [Act.put, pA, pB, pC])
   have hfld := field_coh1
   refine hdT 6 ?_
   clear hfld
   refine hdC 7 (fun K hK => ?_)
   (go_simp; (go_at_call 59; refine (forms_c rc hM hBC (Nat.le_refl _) (csR_red HAO.out HDG.out m).ok (by have := HQ.out.2.1; omega) (by have := csR_len zs ims m; have := HQ.out.2.1; omega)).mono ?_; rintro e W3 ⟨xa, xc, rfl, hW, hbX⟩); go_wp2_with fail)
   have hbs := hs2
   replace hO1 := hO1.keep hbX hO1.lt
   replace hb2 := bT' hb2 hbX hs2
   replace hW := hW.weaken hbs (Nat.le_refl _)
   clear hbX hBC hM hs2
   refine hK.out _ _ ?_ (fun _ => ?_)
   · ((try dsimp only); (exact ⟨hO1.cell 0, hO1.cell 1⟩))
   clear hK K
   (try simp only [Act.put, pA, pB, pC])
   first | refine hdT 8 ?_ | refine hdU 8 ?_
   first | refine hdT 9 ?_ | refine hdU 9 ?_
   refine wpAnyH_done (by kernel_rfl) ?_ _
   go_wp2_with fail
   go_ret2
   refine ⟨xa, _, xc, by rw [mtE, HE.out]; rfl, ?_, hb2⟩
   rw [csV, mtE, HE.out, if_pos rfl, fmV, Int.toNat_natCast]
   exact hW
 · have hEb : (E != 0) = true := by simpa using hE0
   go_wp2_with fail
   go_ret2
   refine ⟨none, 0, 0, by rw [mtE, HE.out]; rfl, ?_, hb2⟩
   rw [csV, mtE, HE.out, if_neg hE0]
   exact OwnF.none_
end Go.Proofs.YtmmicjcfnnppfaaGreat
