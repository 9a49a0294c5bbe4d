
import Derived.Test.YtikldofmpkidbaaAlgS
import Derived.Test.YtikldofmpkidbaaDer
import Derived.Test.YtikldofmpkidbaaLawForm
import Derived.Test.YtikldofmpkidbaaIsAlg
namespace Go.Proofs.Ytikldofmpkidbaa
open Go.RowKit Go.Deep
set_option maxHeartbeats 8000000 in
set_option maxRecDepth 100000 in
theorem der_walk0 (da : Option Addr) (dn dc : Nat) (zs : List Int) (a : Option Addr) (n c : Nat) (fss : List (List Tm)) (k2 : Int) (a2 : Option Addr) (n2 c2 : Nat) (gss : List (List Tm)) (w : World) (hd : Ints w da dn zs) (hdm : (dn : Int) ≤ 9223372036854775807) (hF : Frms w a n fss) (hnm : (n : Int) ≤ 9223372036854775807) (h2 : Frms w a2 n2 gss) (hm2 : (n2 : Int) ≤ 9223372036854775807)
    (B0 : Bool)
    (CS : ∀ (w' : World) (da' : Option Addr) (dc' : Nat) (a' : Option Addr) (c' : Nat) (b : Option Addr) (q : Nat), dn ≤ 1048576 → n ≤ 1048576 → (∀ ts ∈ fss, (ts.length : Int) ≤ 1048576) → n2 ≤ 1048576 → (∀ ts ∈ gss, (ts.length : Int) ≤ 1048576) → Ints w' da' dn zs → Frms w' a' n fss → Frms w' b n2 gss → Calls Try.prog 17 #[.agg #[.slice da' dn dc', .slice a' n c'], .agg #[.int .i64 k2, .slice b n2 q]] w' fun e w'' => e = .returned (.bool B0) ∧ Below w'.heap.size w' w'')
    (CC : ∀ (w' : World) (da' : Option Addr) (dc' : Nat) (a' : Option Addr) (c' : Nat) (b : Option Addr) (q : Nat), dn ≤ 1048576 → n ≤ 1048576 → (∀ ts ∈ fss, (ts.length : Int) ≤ 1048576) → n2 ≤ 1048576 → (∀ ts ∈ gss, (ts.length : Int) ≤ 1048576) → Ints w' da' dn zs → Frms w' a' n fss → Frms w' b n2 gss → Calls Try.prog 20 #[.agg #[.slice da' dn dc', .slice a' n c'], .agg #[.int .i64 k2, .slice b n2 q]] w' fun e w'' => e = .returned (.bool B0) ∧ Below w'.heap.size w' w'') :
    Calls Try.prog 3 #[.agg #[.slice da dn dc, .slice a n c], .agg #[.int .i64 k2, .slice a2 n2 c2]] w fun e w' => e = .returned (.bool true) ∧ Below w.heap.size w w' := by
  have HL := Lib.hid hd.len
  have HLn := Lib.hid hF.len
  have HD := Lib.hid hd
  have HF := Lib.hid hF
  have HT := Lib.hid hF.tm
  have HCS := Lib.hid CS
  have HCC := Lib.hid CC
  clear CS CC
  have HL2 := Lib.hid h2.len
  have H2 := Lib.hid h2
  have HT2 := Lib.hid h2.tm
  have hP := (Own.new w 25 #[.slice da dn dc, .slice a n c]).alloc (.cells #[.int .i64 k2, .slice a2 n2 c2] 27)
  have hQ := Own.new (w.alloc (.cells #[.slice da dn dc, .slice a n c] 25)) 27 #[.int .i64 k2, .slice a2 n2 c2]
  rw [size_alloc] at hQ
  have hb := below_then (below_alloc1 w (.cells #[.slice da dn dc, .slice a n c] 25)) (below_alloc1 _ (.cells #[.int .i64 k2, .slice a2 n2 c2] 27))
  rcases szA_spec (L := 1048576) (dn := dn) (n := n) (fss := fss) with hz | ⟨h1, hR, h3, h4, h5⟩
  · have HZ := Lib.hid hz
    clear hz
    go_enter Try.func3, Try.ntmps3
    go_upto_region 2 with fail
    generalize (w.alloc (.cells #[.slice da dn dc, .slice a n c] 25)).alloc (.cells #[.int .i64 k2, .slice a2 n2 c2] 27) = w0 at *
    generalize hG : w.heap.size = G at *
    have HG := Lib.hid hG
    clear hG
    have hbw : Below w.heap.size w w0 := by rw [HG.out]; exact hb
    have p0 := hP.cell 0
    have p1 := hP.cell 1
    go_wp2_with fail
    refine (szAlgebra_c dc c 1048576 (by omega) (by omega) hdm (HF.out.keep hbw) hnm).mono ?_
    rintro e w1 ⟨rfl, hb1⟩
    rw [HZ.out]
    clear p0 p1 hbw
    go_wp2_with fail
    go_ret
    exact ⟨rfl, by rw [HG.out]; exact below_trans' hb hb1 (Nat.le_of_lt hP.lt)⟩
  generalize hz : szA 1048576 dn n fss = R at *
  have HZ := Lib.hid hz
  clear hz
  have hdn : dn ≤ 1048576 := by omega
  have hn : n ≤ 1048576 := by omega
  have HLL := Lib.hid h5
  clear h5
  have hRn : ¬ R < 0 := by omega
  have hs2 := szFn_spec R n2 gss
  obtain ⟨R2, hR2⟩ : ∃ R2, szFn R n2 gss = R2 := ⟨_, rfl⟩
  have HZ2 := Lib.hid hR2
  rw [hR2] at hs2
  clear hR2
  rcases hs2 with rfl | ⟨hs3, hs4, hs5⟩
  · skip
    go_enter Try.func3, Try.ntmps3
    go_upto_region 2 with fail
    generalize (w.alloc (.cells #[.slice da dn dc, .slice a n c] 25)).alloc (.cells #[.int .i64 k2, .slice a2 n2 c2] 27) = w0 at *
    generalize hG : w.heap.size = G at *
    have HG := Lib.hid hG
    clear hG
    have hbw : Below w.heap.size w w0 := by rw [HG.out]; exact hb
    have p0 := hP.cell 0
    have p1 := hP.cell 1
    go_wp2_with fail
    refine (szAlgebra_c dc c 1048576 (by omega) (by omega) hdm (HF.out.keep hbw) hnm).mono ?_
    rintro e w1 ⟨rfl, hb1⟩
    rw [HZ.out]
    clear p0 p1 hbw
    replace hb := below_trans' hb hb1 (Nat.le_of_lt hP.lt)
    replace hP := hP.keep hb1 hP.lt
    replace hQ := hQ.keep hb1 hQ.lt
    clear hb1
    have cQ0 := hQ.cell 0
    have cQ := hQ.cell 1
    go_wp2_with fail
    refine (szDerivation_c k2 c2 R h1 hR (H2.out.keep (show Below w.heap.size w _ by rw [HG.out]; exact hb)) hm2).mono ?_
    rintro e w2 ⟨rfl, hb2⟩
    rw [HZ2.out]
    go_wp2_with fail
    go_ret
    exact ⟨rfl, by rw [HG.out]; exact below_trans' hb hb2 (Nat.le_of_lt hP.lt)⟩
  have hn2 : n2 ≤ 1048576 := by omega
  have hRn2 : ¬ R2 < 0 := by omega
  have HLL2 := Lib.hid (show ∀ ts ∈ gss, (ts.length : Int) ≤ 1048576 from fun ts hts => by have := hs5 ts hts; omega)
  clear hs5
  go_enter Try.func3, Try.ntmps3
  go_upto_region 2 with fail
  generalize (w.alloc (.cells #[.slice da dn dc, .slice a n c] 25)).alloc (.cells #[.int .i64 k2, .slice a2 n2 c2] 27) = w0 at *
  generalize hG : w.heap.size = G at *
  have HG := Lib.hid hG
  clear hG
  have hbw : Below w.heap.size w w0 := by rw [HG.out]; exact hb
  have p0 := hP.cell 0
  have p1 := hP.cell 1
  go_wp2_with fail
  refine (szAlgebra_c dc c 1048576 (by omega) (by omega) hdm (HF.out.keep hbw) hnm).mono ?_
  rintro e w1 ⟨rfl, hb1⟩
  rw [HZ.out]
  clear p0 p1 hbw
  replace hb := below_trans' hb hb1 (Nat.le_of_lt hP.lt)
  replace hP := hP.keep hb1 hP.lt
  replace hQ := hQ.keep hb1 hQ.lt
  clear hb1
  have cQ0 := hQ.cell 0
  have cQ := hQ.cell 1
  go_wp2_with fail
  refine (szDerivation_c k2 c2 R h1 hR (H2.out.keep (show Below w.heap.size w _ by rw [HG.out]; exact hb)) hm2).mono ?_
  rintro e w2 ⟨rfl, hb2⟩
  rw [HZ2.out]
  clear cQ cQ0
  replace hb := below_trans' hb hb2 (Nat.le_of_lt hP.lt)
  replace hP := hP.keep hb2 hP.lt
  replace hQ := hQ.keep hb2 hQ.lt
  clear hb2
  go_upto_region 8 with fail
  replace hb : Below G w w2.drew := hb.drew
  replace hP : Own w2.drew G 25 #[.slice da dn dc, .slice a n c] := hP
  replace hQ : Own w2.drew (G + 1) 27 #[.int .i64 k2, .slice a2 n2 c2] := hQ
  go_region_held3 (fun w' => w'.cell? ⟨G, 0, none⟩ = some (.slice da dn dc) ∧ w'.cell? ⟨G, 1, none⟩ = some (.slice a n c) ∧ w'.cell? ⟨G + 1, 0, none⟩ = some (.int .i64 k2) ∧ w'.cell? ⟨G + 1, 1, none⟩ = some (.slice a2 n2 c2)) (exact ⟨hP.cell 0, hP.cell 1, hQ.cell 0, hQ.cell 1⟩)
    (first
      | (go_at_call 18; refine (toAlgebra_c dc c (HD.out.keep (show Below w.heap.size w _ by rw [HG.out]; exact hb)) hdn (HF.out.keep (show Below w.heap.size w _ by rw [HG.out]; exact hb)) hn HLL.out).mono ?_; rintro e wA ⟨gd, g, gs, rfl, hgd, hdg, hi, fB, hbA⟩; have hb' := below_trans' hb hbA (Nat.le_of_lt hP.lt); have hP' := hP.keep hbA hP.lt; have hQ' := hQ.keep hbA hQ.lt; clear hb; have hb := hb'; clear hb'; clear hP; have hP := hP'; clear hP'; clear hQ; have hQ := hQ'; clear hQ')
      | (go_at_call 19; refine (toDerivation_c k2 c2 (H2.out.keep (show Below w.heap.size w _ by rw [HG.out]; exact hb)) hn2 HLL2.out).mono ?_; rintro e wF ⟨g2, gs2, rfl, hg2, hf2, hbF⟩; have hi' := IntBlk.keep hi hbF (IntBlk.lt hi); have fB' := fB.keep hbF; clear hi fB; have hi := hi'; have fB := fB'; clear hi' fB'; have hb' := below_trans' hb hbF (Nat.le_of_lt hP.lt); have hP' := hP.keep hbF hP.lt; have hQ' := hQ.keep hbF hQ.lt; clear hb; have hb := hb'; clear hb'; clear hP; have hP := hP'; clear hP'; clear hQ; have hQ := hQ'; clear hQ')
      | (go_at_call 17; refine (HCS.out _ _ _ _ _ _ _ hdn hn HLL.out hn2 HLL2.out (hi.ints' HL.out) (fB.frms HT.out HLL.out HLn.out) (hf2.frms HT2.out HLL2.out HL2.out)).mono ?_; rintro e wS ⟨rfl, hbS⟩; have hb' := below_trans' hb hbS (Nat.le_of_lt hP.lt); have hP' := hP.keep hbS hP.lt; have hQ' := hQ.keep hbS hQ.lt; clear hb; have hb := hb'; clear hb'; clear hP; have hP := hP'; clear hP'; clear hQ; have hQ := hQ'; clear hQ'))
  clear hi fB hf2
  have p0 := hP.cell 0
  have p1 := hP.cell 1
  go_wp2_with fail
  refine (toAlgebra_c dc c (HD.out.keep (show Below w.heap.size w _ by rw [HG.out]; exact hb)) hdn (HF.out.keep (show Below w.heap.size w _ by rw [HG.out]; exact hb)) hn HLL.out).mono ?_
  rintro e wC ⟨kd, kg, ks, rfl, hkd, hkg, hi, fB, hbA⟩
  clear p0 p1
  replace hb := below_trans' hb hbA (Nat.le_of_lt hP.lt)
  replace hP := hP.keep hbA hP.lt
  replace hQ := hQ.keep hbA hQ.lt
  clear hbA
  go_upto_region 10 with fail
  have hba := below_alloc1 wC (.cells #[.slice (some ⟨kd, 0, none⟩) dn dn, .slice (some ⟨kg, 0, none⟩) n n] 33)
  have hX := Own.new wC 33 #[.slice (some ⟨kd, 0, none⟩) dn dn, .slice (some ⟨kg, 0, none⟩) n n]
  replace hb := below_trans' hb hba (Nat.le_of_lt hP.lt)
  replace hP := hP.keep hba hP.lt
  replace hQ := hQ.keep hba hQ.lt
  replace hi := IntBlk.keep hi hba (IntBlk.lt hi)
  replace fB := fB.keep hba
  generalize wC.alloc (.cells #[.slice (some ⟨kd, 0, none⟩) dn dn, .slice (some ⟨kg, 0, none⟩) n n] 33) = wx at *
  generalize wC.heap.size = gX at *
  clear hba
  have cQ0 := hQ.cell 0
  have cQ := hQ.cell 1
  go_wp2_with fail
  refine (toDerivation_c k2 c2 (H2.out.keep (show Below w.heap.size w _ by rw [HG.out]; exact hb)) hn2 HLL2.out).mono ?_
  rintro e wF ⟨kf, kfs, rfl, hkf, hf2, hbF⟩
  clear cQ cQ0
  replace hb := below_trans' hb hbF (Nat.le_of_lt hP.lt)
  replace hP := hP.keep hbF hP.lt
  replace hQ := hQ.keep hbF hQ.lt
  replace hX := hX.keep hbF hX.lt
  replace hi := IntBlk.keep hi hbF (IntBlk.lt hi)
  replace fB := fB.keep hbF
  clear hbF
  go_upto_region 11 with fail
  have hba := below_alloc1 wF (.cells #[.int .i64 k2, .slice (some ⟨kf, 0, none⟩) n2 n2] 36)
  have hY := Own.new wF 36 #[.int .i64 k2, .slice (some ⟨kf, 0, none⟩) n2 n2]
  replace hb := below_trans' hb hba (Nat.le_of_lt hP.lt)
  replace hP := hP.keep hba hP.lt
  replace hQ := hQ.keep hba hQ.lt
  replace hX := hX.keep hba hX.lt
  replace hi := IntBlk.keep hi hba (IntBlk.lt hi)
  replace fB := fB.keep hba
  replace hf2 := hf2.keep hba
  generalize wF.alloc (.cells #[.int .i64 k2, .slice (some ⟨kf, 0, none⟩) n2 n2] 36) = wy at *
  generalize wF.heap.size = gY at *
  clear hba
  have x0 := hX.cell 0
  have x1 := hX.cell 1
  have y0 := hY.cell 0; have y1 := hY.cell 1
  go_wp2_with fail
  refine (HCC.out _ _ _ _ _ _ _ hdn hn HLL.out hn2 HLL2.out (hi.ints' HL.out) (fB.frms HT.out HLL.out HLn.out) (hf2.frms HT2.out HLL2.out HL2.out)).mono ?_
  rintro e wR ⟨rfl, hbR⟩
  clear x0 x1 y0 y1
  replace hb := below_trans' hb hbR (Nat.le_of_lt hP.lt)
  replace hP := hP.keep hbR hP.lt
  replace hQ := hQ.keep hbR hQ.lt
  replace hX := hX.keep hbR hX.lt
  replace hY := hY.keep hbR hY.lt
  replace hi := IntBlk.keep hi hbR (IntBlk.lt hi)
  replace fB := fB.keep hbR
  replace hf2 := hf2.keep hbR
  clear hbR
  have hne0 : (B0 != B0) = false := by simp
  go_upto_region 14 with fail
  clear hne0
  replace hb : Below G w wR.drew := hb.drew
  replace hP : Own wR.drew G 25 #[.slice da dn dc, .slice a n c] := hP
  replace hX : Own wR.drew gX 33 #[.slice (some ⟨kd, 0, none⟩) dn dn, .slice (some ⟨kg, 0, none⟩) n n] := hX
  replace hi : IntBlk wR.drew kd zs := hi
  replace fB := fB.keep ((Below.refl _ _).drew : Below wR.heap.size wR wR.drew)
  replace hQ : Own wR.drew (G + 1) 27 #[.int .i64 k2, .slice a2 n2 c2] := hQ
  replace hY : Own wR.drew gY 36 #[.int .i64 k2, .slice (some ⟨kf, 0, none⟩) n2 n2] := hY
  replace hf2 := hf2.keep ((Below.refl _ _).drew : Below _ _ wR.drew)
  go_region_held3 (fun w' => w'.cell? ⟨gX, 0, none⟩ = some (.slice (some ⟨kd, 0, none⟩) dn dn) ∧ w'.cell? ⟨gX, 1, none⟩ = some (.slice (some ⟨kg, 0, none⟩) n n) ∧ w'.cell? ⟨G, 0, none⟩ = some (.slice da dn dc) ∧ w'.cell? ⟨G, 1, none⟩ = some (.slice a n c)) (exact ⟨hX.cell 0, hX.cell 1, hP.cell 0, hP.cell 1⟩)
    (first
      | (go_at_call 18; refine (toAlgebra_c dc c (HD.out.keep (show Below w.heap.size w _ by rw [HG.out]; exact hb)) hdn (HF.out.keep (show Below w.heap.size w _ by rw [HG.out]; exact hb)) hn HLL.out).mono ?_; rintro e wA ⟨md, mg, ms, rfl, hmd, hmg, mi, mB, hbA⟩; have hi' := IntBlk.keep hi hbA (IntBlk.lt hi); have fB' := fB.keep hbA; clear hi fB; have hi := hi'; have fB := fB'; clear hi' fB'; have hf2' := hf2.keep hbA; clear hf2; have hf2 := hf2'; clear hf2'; have hb' := below_trans' hb hbA (Nat.le_of_lt hP.lt); have hP' := hP.keep hbA hP.lt; have hQ' := hQ.keep hbA hQ.lt; have hX' := hX.keep hbA hX.lt; have hY' := hY.keep hbA hY.lt; clear hb; have hb := hb'; clear hb'; clear hP; have hP := hP'; clear hP'; clear hQ; have hQ := hQ'; clear hQ'; clear hX; have hX := hX'; clear hX'; clear hY; have hY := hY'; clear hY')
      | (go_at_call 21; refine (eqAlgebra_c dn dn n n (hi.ints' HL.out) (mi.ints' HL.out) hdn (fB.frms HT.out HLL.out HLn.out) (mB.frms HT.out HLL.out HLn.out) hn HLL.out).mono ?_; rintro e wE ⟨rfl, hbE⟩; have hi' := IntBlk.keep hi hbE (IntBlk.lt hi); have fB' := fB.keep hbE; clear hi fB; have hi := hi'; have fB := fB'; clear hi' fB'; have hf2' := hf2.keep hbE; clear hf2; have hf2 := hf2'; clear hf2'; have hb' := below_trans' hb hbE (Nat.le_of_lt hP.lt); have hP' := hP.keep hbE hP.lt; have hQ' := hQ.keep hbE hQ.lt; have hX' := hX.keep hbE hX.lt; have hY' := hY.keep hbE hY.lt; clear hb; have hb := hb'; clear hb'; clear hP; have hP := hP'; clear hP'; clear hQ; have hQ := hQ'; clear hQ'; clear hX; have hX := hX'; clear hX'; clear hY; have hY := hY'; clear hY'))
  clear mi mB
  go_upto_region 16 with fail
  replace hb : Below G w wE.drew := hb.drew
  replace hP : Own wE.drew G 25 #[.slice da dn dc, .slice a n c] := hP
  replace hQ : Own wE.drew (G + 1) 27 #[.int .i64 k2, .slice a2 n2 c2] := hQ
  replace hY : Own wE.drew gY 36 #[.int .i64 k2, .slice (some ⟨kf, 0, none⟩) n2 n2] := hY
  replace hf2 := hf2.keep ((Below.refl _ _).drew : Below _ _ wE.drew)
  clear hi fB hX
  go_region_held3 (fun w' => w'.cell? ⟨gY, 0, none⟩ = some (.int .i64 k2) ∧ w'.cell? ⟨gY, 1, none⟩ = some (.slice (some ⟨kf, 0, none⟩) n2 n2) ∧ w'.cell? ⟨G + 1, 0, none⟩ = some (.int .i64 k2) ∧ w'.cell? ⟨G + 1, 1, none⟩ = some (.slice a2 n2 c2)) (exact ⟨hY.cell 0, hY.cell 1, hQ.cell 0, hQ.cell 1⟩)
    (first
      | (go_at_call 19; refine (toDerivation_c k2 c2 (H2.out.keep (show Below w.heap.size w _ by rw [HG.out]; exact hb)) hn2 HLL2.out).mono ?_; rintro e wF ⟨mg, mfs, rfl, hmg, mf, hbF⟩; have hf2' := hf2.keep hbF; clear hf2; have hf2 := hf2'; clear hf2'; have hb' := below_trans' hb hbF (Nat.le_of_lt hP.lt); have hP' := hP.keep hbF hP.lt; have hQ' := hQ.keep hbF hQ.lt; have hY' := hY.keep hbF hY.lt; clear hb; have hb := hb'; clear hb'; clear hP; have hP := hP'; clear hP'; clear hQ; have hQ := hQ'; clear hQ'; clear hY; have hY := hY'; clear hY')
      | (go_at_call 22; refine (eqDerivation_c k2 n2 n2 (hf2.frms HT2.out HLL2.out HL2.out) (mf.frms HT2.out HLL2.out HL2.out) hn2 HLL2.out).mono ?_; rintro e wZ ⟨rfl, hbZ⟩; have hf2' := hf2.keep hbZ; clear hf2; have hf2 := hf2'; clear hf2'; have hb' := below_trans' hb hbZ (Nat.le_of_lt hP.lt); have hP' := hP.keep hbZ hP.lt; have hQ' := hQ.keep hbZ hQ.lt; have hY' := hY.keep hbZ hY.lt; clear hb; have hb := hb'; clear hb'; clear hP; have hP := hP'; clear hP'; clear hQ; have hQ := hQ'; clear hQ'; clear hY; have hY := hY'; clear hY'))
  go_wp2_with fail
  go_ret
  exact ⟨rfl, by rw [HG.out]; exact hb⟩
end Go.Proofs.Ytikldofmpkidbaa
