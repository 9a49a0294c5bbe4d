
import Derived.Test.YtikldofmpkidbaaAlgS
import Derived.Test.YtikldofmpkidbaaLawForm
import Derived.Test.YtikldofmpkidbaaIsAlg
namespace Go.Proofs.Ytikldofmpkidbaa
open Go.RowKit Go.Deep
set_option maxHeartbeats 8000000 in
set_option maxRecDepth 100000 in
theorem word_walk0 (da : Option Addr) (dn dc : Nat) (zs : List Int) (a : Option Addr) (n c : Nat) (fss : List (List Tm)) (a2 : Option Addr) (n2 c2 : Nat) (fs : List Tm) (w : World) (hd : Ints w da dn zs) (hdm : (dn : Int) ≤ 9223372036854775807) (hF : Frms w a n fss) (hnm : (n : Int) ≤ 9223372036854775807) (h2 : Terms w a2 n2 fs) (hm2 : (n2 : Int) ≤ 9223372036854775807)
    (E0 : Int) (E1 : Int)
    (CS : ∀ (w' : World) (da' : Option Addr) (dc' : Nat) (a' : Option Addr) (c' : Nat) (b : Option Addr) (q : Nat), dn ≤ 1048576 → n ≤ 1048576 → (∀ ts ∈ fss, (ts.length : Int) ≤ 1048576) → n2 ≤ 1048576 → Ints w' da' dn zs → Frms w' a' n fss → Terms w' b n2 fs → Calls Try.prog 42 #[.agg #[.slice da' dn dc', .slice a' n c'], .agg #[.slice b n2 q]] w' fun e w'' => e = .returned (.tuple #[.int .i64 E0, .int .i64 E1]) ∧ Below w'.heap.size w' w'')
    (CC : ∀ (w' : World) (da' : Option Addr) (dc' : Nat) (a' : Option Addr) (c' : Nat) (b : Option Addr) (q : Nat), dn ≤ 1048576 → n ≤ 1048576 → (∀ ts ∈ fss, (ts.length : Int) ≤ 1048576) → n2 ≤ 1048576 → Ints w' da' dn zs → Frms w' a' n fss → Terms w' b n2 fs → Calls Try.prog 43 #[.agg #[.slice da' dn dc', .slice a' n c'], .agg #[.slice b n2 q]] w' fun e w'' => e = .returned (.tuple #[.int .i64 E0, .int .i64 E1]) ∧ Below w'.heap.size w' w'') :
    Calls Try.prog 9 #[.agg #[.slice da dn dc, .slice a n c], .agg #[.slice a2 n2 c2]] w fun e w' => e = .returned (.bool true) ∧ Below w.heap.size w w' := by
  have HL := Lib.hid hd.len
  have HLn := Lib.hid hF.len
  have HD := Lib.hid hd
  have HF := Lib.hid hF
  have HT := Lib.hid hF.tm
  have HCS := Lib.hid CS
  have HCC := Lib.hid CC
  clear CS CC
  have HL2 := Lib.hid h2.len
  have H2 := Lib.hid h2
  have HT2 := Lib.hid h2.2.1
  have hP := (Own.new w 25 #[.slice da dn dc, .slice a n c]).alloc (.cells #[.slice a2 n2 c2] 55)
  have hQ := Own.new (w.alloc (.cells #[.slice da dn dc, .slice a n c] 25)) 55 #[.slice a2 n2 c2]
  rw [size_alloc] at hQ
  have hb := below_then (below_alloc1 w (.cells #[.slice da dn dc, .slice a n c] 25)) (below_alloc1 _ (.cells #[.slice a2 n2 c2] 55))
  rcases szA_spec (L := 1048576) (dn := dn) (n := n) (fss := fss) with hz | ⟨h1, hR, h3, h4, h5⟩
  · have HZ := Lib.hid hz
    clear hz
    go_enter Try.func9, Try.ntmps9
    go_upto_region 2 with fail
    generalize (w.alloc (.cells #[.slice da dn dc, .slice a n c] 25)).alloc (.cells #[.slice a2 n2 c2] 55) = w0 at *
    generalize hG : w.heap.size = G at *
    have HG := Lib.hid hG
    clear hG
    have hbw : Below w.heap.size w w0 := by rw [HG.out]; exact hb
    have p0 := hP.cell 0
    have p1 := hP.cell 1
    go_wp2_with fail
    refine (szAlgebra_c dc c 1048576 (by omega) (by omega) hdm (HF.out.keep hbw) hnm).mono ?_
    rintro e w1 ⟨rfl, hb1⟩
    rw [HZ.out]
    clear p0 p1 hbw
    go_wp2_with fail
    go_ret
    exact ⟨rfl, by rw [HG.out]; exact below_trans' hb hb1 (Nat.le_of_lt hP.lt)⟩
  generalize hz : szA 1048576 dn n fss = R at *
  have HZ := Lib.hid hz
  clear hz
  have hdn : dn ≤ 1048576 := by omega
  have hn : n ≤ 1048576 := by omega
  have HLL := Lib.hid h5
  clear h5
  have hRn : ¬ R < 0 := by omega
  by_cases hs2 : (n2 : Int) ≤ R
  rotate_left
  · skip
    go_enter Try.func9, Try.ntmps9
    go_upto_region 2 with fail
    generalize (w.alloc (.cells #[.slice da dn dc, .slice a n c] 25)).alloc (.cells #[.slice a2 n2 c2] 55) = w0 at *
    generalize hG : w.heap.size = G at *
    have HG := Lib.hid hG
    clear hG
    have hbw : Below w.heap.size w w0 := by rw [HG.out]; exact hb
    have p0 := hP.cell 0
    have p1 := hP.cell 1
    go_wp2_with fail
    refine (szAlgebra_c dc c 1048576 (by omega) (by omega) hdm (HF.out.keep hbw) hnm).mono ?_
    rintro e w1 ⟨rfl, hb1⟩
    rw [HZ.out]
    clear p0 p1 hbw
    replace hb := below_trans' hb hb1 (Nat.le_of_lt hP.lt)
    replace hP := hP.keep hb1 hP.lt
    replace hQ := hQ.keep hb1 hQ.lt
    clear hb1
    have cQ := hQ.cell 0
    go_wp2_with fail
    refine (szForm_c a2 n2 c2 R h1 hR hm2).mono ?_
    rintro e w2 ⟨rfl, hb2⟩
    rw [if_neg (by omega)]
    go_wp2_with fail
    go_ret
    exact ⟨rfl, by rw [HG.out]; exact below_trans' hb hb2 (Nat.le_of_lt hP.lt)⟩
  have hn2 : n2 ≤ 1048576 := by omega
  have hRn2 : ¬ R - (n2 : Int) < 0 := by omega
  go_enter Try.func9, Try.ntmps9
  go_upto_region 2 with fail
  generalize (w.alloc (.cells #[.slice da dn dc, .slice a n c] 25)).alloc (.cells #[.slice a2 n2 c2] 55) = w0 at *
  generalize hG : w.heap.size = G at *
  have HG := Lib.hid hG
  clear hG
  have hbw : Below w.heap.size w w0 := by rw [HG.out]; exact hb
  have p0 := hP.cell 0
  have p1 := hP.cell 1
  go_wp2_with fail
  refine (szAlgebra_c dc c 1048576 (by omega) (by omega) hdm (HF.out.keep hbw) hnm).mono ?_
  rintro e w1 ⟨rfl, hb1⟩
  rw [HZ.out]
  clear p0 p1 hbw
  replace hb := below_trans' hb hb1 (Nat.le_of_lt hP.lt)
  replace hP := hP.keep hb1 hP.lt
  replace hQ := hQ.keep hb1 hQ.lt
  clear hb1
  have cQ := hQ.cell 0
  go_wp2_with fail
  refine (szForm_c a2 n2 c2 R h1 hR hm2).mono ?_
  rintro e w2 ⟨rfl, hb2⟩
  rw [if_pos (by omega)]
  clear cQ
  replace hb := below_trans' hb hb2 (Nat.le_of_lt hP.lt)
  replace hP := hP.keep hb2 hP.lt
  replace hQ := hQ.keep hb2 hQ.lt
  clear hb2
  go_upto_region 8 with fail
  replace hb : Below G w w2.drew := hb.drew
  replace hP : Own w2.drew G 25 #[.slice da dn dc, .slice a n c] := hP
  replace hQ : Own w2.drew (G + 1) 55 #[.slice a2 n2 c2] := hQ
  go_region_held3 (fun w' => w'.cell? ⟨G, 0, none⟩ = some (.slice da dn dc) ∧ w'.cell? ⟨G, 1, none⟩ = some (.slice a n c) ∧ w'.cell? ⟨G + 1, 0, none⟩ = some (.slice a2 n2 c2)) (exact ⟨hP.cell 0, hP.cell 1, hQ.cell 0⟩)
    (first
      | (go_at_call 18; refine (toAlgebra_c dc c (HD.out.keep (show Below w.heap.size w _ by rw [HG.out]; exact hb)) hdn (HF.out.keep (show Below w.heap.size w _ by rw [HG.out]; exact hb)) hn HLL.out).mono ?_; rintro e wA ⟨gd, g, gs, rfl, hgd, hdg, hi, fB, hbA⟩; have hb' := below_trans' hb hbA (Nat.le_of_lt hP.lt); have hP' := hP.keep hbA hP.lt; have hQ' := hQ.keep hbA hQ.lt; clear hb; have hb := hb'; clear hb'; clear hP; have hP := hP'; clear hP'; clear hQ; have hQ := hQ'; clear hQ')
      | (go_at_call 37; refine (toForm_c c2 (H2.out.keep (show Below w.heap.size w _ by rw [HG.out]; exact hb)) hn2).mono ?_; rintro e wF ⟨g2, rfl, hg2, hf2, hbF⟩; have hi' := IntBlk.keep hi hbF (IntBlk.lt hi); have fB' := fB.keep hbF; clear hi fB; have hi := hi'; have fB := fB'; clear hi' fB'; have hb' := below_trans' hb hbF (Nat.le_of_lt hP.lt); have hP' := hP.keep hbF hP.lt; have hQ' := hQ.keep hbF hQ.lt; clear hb; have hb := hb'; clear hb'; clear hP; have hP := hP'; clear hP'; clear hQ; have hQ := hQ'; clear hQ')
      | (go_at_call 42; refine (HCS.out _ _ _ _ _ _ _ hdn hn HLL.out hn2 (hi.ints' HL.out) (fB.frms HT.out HLL.out HLn.out) (hf2.terms HT2.out HL2.out)).mono ?_; rintro e wS ⟨rfl, hbS⟩; have hb' := below_trans' hb hbS (Nat.le_of_lt hP.lt); have hP' := hP.keep hbS hP.lt; have hQ' := hQ.keep hbS hQ.lt; clear hb; have hb := hb'; clear hb'; clear hP; have hP := hP'; clear hP'; clear hQ; have hQ := hQ'; clear hQ'))
  clear hi fB hf2
  have p0 := hP.cell 0
  have p1 := hP.cell 1
  go_wp2_with fail
  refine (toAlgebra_c dc c (HD.out.keep (show Below w.heap.size w _ by rw [HG.out]; exact hb)) hdn (HF.out.keep (show Below w.heap.size w _ by rw [HG.out]; exact hb)) hn HLL.out).mono ?_
  rintro e wC ⟨kd, kg, ks, rfl, hkd, hkg, hi, fB, hbA⟩
  clear p0 p1
  replace hb := below_trans' hb hbA (Nat.le_of_lt hP.lt)
  replace hP := hP.keep hbA hP.lt
  replace hQ := hQ.keep hbA hQ.lt
  clear hbA
  go_upto_region 10 with fail
  have hba := below_alloc1 wC (.cells #[.slice (some ⟨kd, 0, none⟩) dn dn, .slice (some ⟨kg, 0, none⟩) n n] 33)
  have hX := Own.new wC 33 #[.slice (some ⟨kd, 0, none⟩) dn dn, .slice (some ⟨kg, 0, none⟩) n n]
  replace hb := below_trans' hb hba (Nat.le_of_lt hP.lt)
  replace hP := hP.keep hba hP.lt
  replace hQ := hQ.keep hba hQ.lt
  replace hi := IntBlk.keep hi hba (IntBlk.lt hi)
  replace fB := fB.keep hba
  generalize wC.alloc (.cells #[.slice (some ⟨kd, 0, none⟩) dn dn, .slice (some ⟨kg, 0, none⟩) n n] 33) = wx at *
  generalize wC.heap.size = gX at *
  clear hba
  have cQ := hQ.cell 0
  go_wp2_with fail
  refine (toForm_c c2 (H2.out.keep (show Below w.heap.size w _ by rw [HG.out]; exact hb)) hn2).mono ?_
  rintro e wF ⟨kf, rfl, hkf, hf2, hbF⟩
  clear cQ
  replace hb := below_trans' hb hbF (Nat.le_of_lt hP.lt)
  replace hP := hP.keep hbF hP.lt
  replace hQ := hQ.keep hbF hQ.lt
  replace hX := hX.keep hbF hX.lt
  replace hi := IntBlk.keep hi hbF (IntBlk.lt hi)
  replace fB := fB.keep hbF
  clear hbF
  go_upto_region 11 with fail
  have hba := below_alloc1 wF (.cells #[.slice (some ⟨kf, 0, none⟩) n2 n2] 61)
  have hY := Own.new wF 61 #[.slice (some ⟨kf, 0, none⟩) n2 n2]
  replace hb := below_trans' hb hba (Nat.le_of_lt hP.lt)
  replace hP := hP.keep hba hP.lt
  replace hQ := hQ.keep hba hQ.lt
  replace hX := hX.keep hba hX.lt
  replace hi := IntBlk.keep hi hba (IntBlk.lt hi)
  replace fB := fB.keep hba
  replace hf2 := hf2.keep hba hf2.lt
  generalize wF.alloc (.cells #[.slice (some ⟨kf, 0, none⟩) n2 n2] 61) = wy at *
  generalize wF.heap.size = gY at *
  clear hba
  have x0 := hX.cell 0
  have x1 := hX.cell 1
  have y0 := hY.cell 0
  go_wp2_with fail
  refine (HCC.out _ _ _ _ _ _ _ hdn hn HLL.out hn2 (hi.ints' HL.out) (fB.frms HT.out HLL.out HLn.out) (hf2.terms HT2.out HL2.out)).mono ?_
  rintro e wR ⟨rfl, hbR⟩
  clear x0 x1 y0
  replace hb := below_trans' hb hbR (Nat.le_of_lt hP.lt)
  replace hP := hP.keep hbR hP.lt
  replace hQ := hQ.keep hbR hQ.lt
  replace hX := hX.keep hbR hX.lt
  replace hY := hY.keep hbR hY.lt
  replace hi := IntBlk.keep hi hbR (IntBlk.lt hi)
  replace fB := fB.keep hbR
  replace hf2 := hf2.keep hbR hf2.lt
  clear hbR
  have hne0 : (E0 != E0) = false := by simp
  have hne1 : (E1 != E1) = false := by simp
  go_upto_region 14 with fail
  clear hne0 hne1
  replace hb : Below G w wR.drew := hb.drew
  replace hP : Own wR.drew G 25 #[.slice da dn dc, .slice a n c] := hP
  replace hX : Own wR.drew gX 33 #[.slice (some ⟨kd, 0, none⟩) dn dn, .slice (some ⟨kg, 0, none⟩) n n] := hX
  replace hi : IntBlk wR.drew kd zs := hi
  replace fB := fB.keep ((Below.refl _ _).drew : Below wR.heap.size wR wR.drew)
  replace hQ : Own wR.drew (G + 1) 55 #[.slice a2 n2 c2] := hQ
  replace hY : Own wR.drew gY 61 #[.slice (some ⟨kf, 0, none⟩) n2 n2] := hY
  replace hf2 : Own wR.drew kf 88 (rcells fs).toArray := hf2
  go_region_held3 (fun w' => w'.cell? ⟨gX, 0, none⟩ = some (.slice (some ⟨kd, 0, none⟩) dn dn) ∧ w'.cell? ⟨gX, 1, none⟩ = some (.slice (some ⟨kg, 0, none⟩) n n) ∧ w'.cell? ⟨G, 0, none⟩ = some (.slice da dn dc) ∧ w'.cell? ⟨G, 1, none⟩ = some (.slice a n c)) (exact ⟨hX.cell 0, hX.cell 1, hP.cell 0, hP.cell 1⟩)
    (first
      | (go_at_call 18; refine (toAlgebra_c dc c (HD.out.keep (show Below w.heap.size w _ by rw [HG.out]; exact hb)) hdn (HF.out.keep (show Below w.heap.size w _ by rw [HG.out]; exact hb)) hn HLL.out).mono ?_; rintro e wA ⟨md, mg, ms, rfl, hmd, hmg, mi, mB, hbA⟩; have hi' := IntBlk.keep hi hbA (IntBlk.lt hi); have fB' := fB.keep hbA; clear hi fB; have hi := hi'; have fB := fB'; clear hi' fB'; have hf2' := hf2.keep hbA hf2.lt; clear hf2; have hf2 := hf2'; clear hf2'; have hb' := below_trans' hb hbA (Nat.le_of_lt hP.lt); have hP' := hP.keep hbA hP.lt; have hQ' := hQ.keep hbA hQ.lt; have hX' := hX.keep hbA hX.lt; have hY' := hY.keep hbA hY.lt; clear hb; have hb := hb'; clear hb'; clear hP; have hP := hP'; clear hP'; clear hQ; have hQ := hQ'; clear hQ'; clear hX; have hX := hX'; clear hX'; clear hY; have hY := hY'; clear hY')
      | (go_at_call 21; refine (eqAlgebra_c dn dn n n (hi.ints' HL.out) (mi.ints' HL.out) hdn (fB.frms HT.out HLL.out HLn.out) (mB.frms HT.out HLL.out HLn.out) hn HLL.out).mono ?_; rintro e wE ⟨rfl, hbE⟩; have hi' := IntBlk.keep hi hbE (IntBlk.lt hi); have fB' := fB.keep hbE; clear hi fB; have hi := hi'; have fB := fB'; clear hi' fB'; have hf2' := hf2.keep hbE hf2.lt; clear hf2; have hf2 := hf2'; clear hf2'; have hb' := below_trans' hb hbE (Nat.le_of_lt hP.lt); have hP' := hP.keep hbE hP.lt; have hQ' := hQ.keep hbE hQ.lt; have hX' := hX.keep hbE hX.lt; have hY' := hY.keep hbE hY.lt; clear hb; have hb := hb'; clear hb'; clear hP; have hP := hP'; clear hP'; clear hQ; have hQ := hQ'; clear hQ'; clear hX; have hX := hX'; clear hX'; clear hY; have hY := hY'; clear hY'))
  clear mi mB
  go_upto_region 16 with fail
  replace hb : Below G w wE.drew := hb.drew
  replace hP : Own wE.drew G 25 #[.slice da dn dc, .slice a n c] := hP
  replace hQ : Own wE.drew (G + 1) 55 #[.slice a2 n2 c2] := hQ
  replace hY : Own wE.drew gY 61 #[.slice (some ⟨kf, 0, none⟩) n2 n2] := hY
  replace hf2 : Own wE.drew kf 88 (rcells fs).toArray := hf2
  clear hi fB hX
  go_region_held3 (fun w' => w'.cell? ⟨gY, 0, none⟩ = some (.slice (some ⟨kf, 0, none⟩) n2 n2) ∧ w'.cell? ⟨G + 1, 0, none⟩ = some (.slice a2 n2 c2)) (exact ⟨hY.cell 0, hQ.cell 0⟩)
    (first
      | (go_at_call 37; refine (toForm_c c2 (H2.out.keep (show Below w.heap.size w _ by rw [HG.out]; exact hb)) hn2).mono ?_; rintro e wF ⟨mg, rfl, hmg, mf, hbF⟩; have hf2' := hf2.keep hbF hf2.lt; clear hf2; have hf2 := hf2'; clear hf2'; have hb' := below_trans' hb hbF (Nat.le_of_lt hP.lt); have hP' := hP.keep hbF hP.lt; have hQ' := hQ.keep hbF hQ.lt; have hY' := hY.keep hbF hY.lt; clear hb; have hb := hb'; clear hb'; clear hP; have hP := hP'; clear hP'; clear hQ; have hQ := hQ'; clear hQ'; clear hY; have hY := hY'; clear hY')
      | (go_at_call 39; refine (eqForm_c n2 n2 (hf2.terms HT2.out HL2.out) (mf.terms HT2.out HL2.out) hn2).mono ?_; rintro e wZ ⟨rfl, hbZ⟩; have hf2' := hf2.keep hbZ hf2.lt; clear hf2; have hf2 := hf2'; clear hf2'; have hb' := below_trans' hb hbZ (Nat.le_of_lt hP.lt); have hP' := hP.keep hbZ hP.lt; have hQ' := hQ.keep hbZ hQ.lt; have hY' := hY.keep hbZ hY.lt; clear hb; have hb := hb'; clear hb'; clear hP; have hP := hP'; clear hP'; clear hQ; have hQ := hQ'; clear hQ'; clear hY; have hY := hY'; clear hY'))
  go_wp2_with fail
  go_ret
  exact ⟨rfl, by rw [HG.out]; exact hb⟩
end Go.Proofs.Ytikldofmpkidbaa
