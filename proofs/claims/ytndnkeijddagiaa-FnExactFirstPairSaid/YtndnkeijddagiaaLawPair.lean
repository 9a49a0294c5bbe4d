
import Derived.Test.YtndnkeijddagiaaAlgS
import Derived.Test.YtndnkeijddagiaaWord
import Derived.Test.YtndnkeijddagiaaPairS
namespace Go.Proofs.Ytndnkeijddagiaa
open Go.RowKit Go.Deep
theorem OwnI.touch {p : Nat → Prop} {w w' : World} {lo hi n : Nat} {a : Option Addr} {V : List Int} (h : OwnI w lo hi a n V) (ht : Touch p w w') (hp : ∀ g, lo ≤ g → g < hi → ¬ p g) : OwnI w' lo hi a n V :=
  ⟨h.1, fun hn => by obtain ⟨g, h1, h2, h3, h4⟩ := h.2 hn; exact ⟨g, h1, h2, h3, ht.own h4 (hp g h2 h3)⟩⟩
set_option maxHeartbeats 8000000 in
set_option maxRecDepth 100000 in
theorem lawPair_walk (da : Option Addr) (dn dc : Nat) (zs : List Int) (a : Option Addr) (n c : Nat) (fss : List (List Tm)) (w : World) (hd : Ints w da dn zs) (hdm : (dn : Int) ≤ 9223372036854775807) (hF : Frms w a n fss) (hnm : (n : Int) ≤ 9223372036854775807)
    (V : List Int) (E : Int) (nV : Nat) (hnV : V.length = nV) (hVl : nV ≤ 1048576)
    (CS : ∀ (w' : World) (da' : Option Addr) (dc' : Nat) (a' : Option Addr) (c' : Nat), dn ≤ 1048576 → n ≤ 1048576 → (∀ ts ∈ fss, (ts.length : Int) ≤ 1048576) → Ints w' da' dn zs → Frms w' a' n fss → Calls Try.prog 44 #[.agg #[.slice da' dn dc', .slice a' n c']] w' fun e w'' => ∃ ra rn rc, e = .returned (.tuple #[.slice ra rn rc, .int .i64 E]) ∧ OwnI w'' w'.heap.size w''.heap.size ra rn V ∧ Below w'.heap.size w' w'')
    (CC : ∀ (w' : World) (da' : Option Addr) (dc' : Nat) (a' : Option Addr) (c' : Nat), dn ≤ 1048576 → n ≤ 1048576 → (∀ ts ∈ fss, (ts.length : Int) ≤ 1048576) → Ints w' da' dn zs → Frms w' a' n fss → Calls Try.prog 45 #[.agg #[.slice da' dn dc', .slice a' n c']] w' fun e w'' => ∃ ra rn rc, e = .returned (.tuple #[.slice ra rn rc, .int .i64 E]) ∧ OwnI w'' w'.heap.size w''.heap.size ra rn V ∧ Below w'.heap.size w' w'') :
    Calls Try.prog 12 #[.agg #[.slice da dn dc, .slice a n c]] w fun e w' => e = .returned (.bool true) ∧ Below w.heap.size w w' := by
  have HL := Lib.hid hd.len
  have HLn := Lib.hid hF.len
  have HD := Lib.hid hd
  have HF := Lib.hid hF
  have HT := Lib.hid hF.tm
  have HCS := Lib.hid CS
  have HCC := Lib.hid CC
  have HnV := Lib.hid hnV
  clear CS CC hnV
  have hP := Own.new w 25 #[.slice da dn dc, .slice a n c]
  have hb := below_alloc1 w (.cells #[.slice da dn dc, .slice a n c] 25)
  rcases szA_spec (L := 1048576) (dn := dn) (n := n) (fss := fss) with hz | ⟨h1, hR, h3, h4, h5⟩
  · have HZ := Lib.hid hz
    clear hz
    go_enter Try.func12, Try.ntmps12
    go_upto_region 2 with fail
    generalize w.alloc (.cells #[.slice da dn dc, .slice a n c] 25) = w0 at *
    generalize hG : w.heap.size = G at *
    have HG := Lib.hid hG
    clear hG
    have hbw : Below w.heap.size w w0 := by rw [HG.out]; exact hb
    have p0 := hP.cell 0
    have p1 := hP.cell 1
    go_wp2_with fail
    refine (szAlgebra_c dc c 1048576 (by omega) (by omega) hdm (HF.out.keep hbw) hnm).mono ?_
    rintro e w1 ⟨rfl, hb1⟩
    rw [HZ.out]
    clear p0 p1 hbw
    go_wp2_with fail
    go_ret
    exact ⟨rfl, by rw [HG.out]; exact below_trans' hb hb1 (Nat.le_of_lt hP.lt)⟩
  have hsum := szA_sum (L := 1048576) (dn := dn) (n := n) (fss := fss) (by omega)
  generalize hz : szA 1048576 dn n fss = R at *
  have HZ := Lib.hid hz
  clear hz
  have hdn : dn ≤ 1048576 := by omega
  have hn : n ≤ 1048576 := by omega
  have HLL := Lib.hid h5
  clear h5
  have HSM := Lib.hid (show sumLen fss ≤ 1048576 by omega)
  obtain ⟨SL, hSL⟩ : ∃ SL, sumLen fss = SL := ⟨_, rfl⟩
  have HSL := Lib.hid hSL
  have hSLb : SL ≤ 1048576 := by have := HSM.out; omega
  clear hSL hsum
  have hRn : ¬ R < 0 := by omega
  go_enter Try.func12, Try.ntmps12
  go_upto_region 2 with fail
  generalize w.alloc (.cells #[.slice da dn dc, .slice a n c] 25) = w0 at *
  generalize hG : w.heap.size = G at *
  have HG := Lib.hid hG
  clear hG
  have hbw : Below w.heap.size w w0 := by rw [HG.out]; exact hb
  have p0 := hP.cell 0
  have p1 := hP.cell 1
  go_wp2_with fail
  refine (szAlgebra_c dc c 1048576 (by omega) (by omega) hdm (HF.out.keep hbw) hnm).mono ?_
  rintro e w1 ⟨rfl, hb1⟩
  rw [HZ.out]
  clear p0 p1 hbw
  replace hb := below_trans' hb hb1 (Nat.le_of_lt hP.lt)
  replace hP := hP.keep hb1 hP.lt
  clear hb1
  have p0 := hP.cell 0
  have p1 := hP.cell 1
  go_wp2_with fail
  refine (toAlgebra_c dc c (HD.out.keep (show Below w.heap.size w _ by rw [HG.out]; exact hb)) hdn (HF.out.keep (show Below w.heap.size w _ by rw [HG.out]; exact hb)) hn HLL.out).mono ?_
  rintro e wA ⟨gd, g, gs, rfl, hgd, hdg, hi, fB, hbA⟩
  clear p0 p1
  replace hb := below_trans' hb hbA (Nat.le_of_lt hP.lt)
  replace hP := hP.keep hbA hP.lt
  go_wp2_with fail
  have hGA : G < wA.heap.size := hP.lt
  refine (HCS.out _ _ _ _ _ hdn hn HLL.out (hi.ints' HL.out) (fB.frms HT.out HLL.out HLn.out)).mono ?_
  rintro e wS ⟨sa, sn, sc, rfl, hvS0, hbS⟩
  have hsn : nV = sn := by rw [← HnV.out, hvS0.1]
  subst hsn
  replace hb := below_trans' hb hbS (Nat.le_of_lt hP.lt)
  replace hP := hP.keep hbS hP.lt
  have hvS := hvS0.weaken (lo' := G + 1) (by omega) (Nat.le_refl _)
  have hGS : G < wS.heap.size := hP.lt
  clear hi fB hbA hbS hvS0 hGA
  have p0 := hP.cell 0
  have p1 := hP.cell 1
  go_wp2_with fail
  refine (toAlgebra_c dc c (HD.out.keep (show Below w.heap.size w _ by rw [HG.out]; exact hb)) hdn (HF.out.keep (show Below w.heap.size w _ by rw [HG.out]; exact hb)) hn HLL.out).mono ?_
  rintro e wC ⟨kd, kg, ks, rfl, hkd, hkg, hi, fB, hbA⟩
  clear p0 p1
  replace hb := below_trans' hb hbA (Nat.le_of_lt hP.lt)
  replace hP := hP.keep hbA hP.lt
  replace hvS := (hvS.keep hbA).weaken (Nat.le_refl _) hkd
  have hGkd : G < kd := Nat.lt_of_lt_of_le hGS hkd
  clear hbA hkd hGS
  go_upto_region 7 with fail
  have hba := below_alloc1 wC (.cells #[.slice (some ⟨kd, 0, none⟩) dn dn, .slice (some ⟨kg, 0, none⟩) n n] 29)
  have hX := Own.new wC 29 #[.slice (some ⟨kd, 0, none⟩) dn dn, .slice (some ⟨kg, 0, none⟩) n n]
  have hks := fun x (hx : x ∈ ks) => (fB.lt x hx)
  have hgX : kg < wC.heap.size := fB.own.lt
  have hGk : G < wC.heap.size := hP.lt
  replace hb := below_trans' hb hba (Nat.le_of_lt hP.lt)
  replace hP := hP.keep hba hP.lt
  replace hi := IntBlk.keep hi hba (IntBlk.lt hi)
  replace fB := fB.keep hba
  replace hvS := hvS.keep hba
  generalize wC.alloc (.cells #[.slice (some ⟨kd, 0, none⟩) dn dn, .slice (some ⟨kg, 0, none⟩) n n] 29) = wx at *
  generalize wC.heap.size = gX at *
  clear hba
  have HKS := Lib.hid hks
  clear hks
  have x0 := hX.cell 0
  have x1 := hX.cell 1
  go_wp2_with fail
  have hlx := hX.lt
  refine (HCC.out _ _ _ _ _ hdn hn HLL.out (hi.ints' HL.out) (fB.frms HT.out HLL.out HLn.out)).mono ?_
  rintro e wR ⟨ra, rn, rc, rfl, hvR0, hbR⟩
  clear x0 x1
  have hrn : nV = rn := by rw [← HnV.out, hvR0.1]
  subst hrn
  have hvR := hvR0.weaken (lo' := gX + 1) (by omega) (Nat.le_refl _)
  generalize wR.heap.size = gH at hvR
  replace hb := below_trans' hb hbR (Nat.le_of_lt hP.lt)
  replace hP := hP.keep hbR hP.lt
  replace hX := hX.keep hbR hX.lt
  replace hi := IntBlk.keep hi hbR (IntBlk.lt hi)
  replace fB := fB.keep hbR
  replace hvS := hvS.keep hbR
  clear hbR hvR0 hlx
  have hne1 : (E != E) = false := by simp
  go_wp2_with fail
  refine (eqInts_c _ _ hvR.ints hvS.ints hVl).mono ?_
  rintro e wE ⟨rfl, hbE⟩
  replace hb := below_trans' hb hbE (Nat.le_of_lt hP.lt)
  replace hP := hP.keep hbE hP.lt
  replace hX := hX.keep hbE hX.lt
  replace hi := IntBlk.keep hi hbE (IntBlk.lt hi)
  replace fB := fB.keep hbE
  replace hvS := hvS.keep hbE
  replace hvR := hvR.keep hbE
  clear hbE
  go_upto_region 10 with fail
  replace hvS : OwnI wE.drew (G + 1) kd sa nV V := hvS
  replace hvR : OwnI wE.drew (gX + 1) gH ra nV V := hvR
  replace hb : Below G w wE.drew := hb.drew
  replace hP : Own wE.drew G 25 #[.slice da dn dc, .slice a n c] := hP
  replace hX : Own wE.drew gX 29 #[.slice (some ⟨kd, 0, none⟩) dn dn, .slice (some ⟨kg, 0, none⟩) n n] := hX
  replace hi : IntBlk wE.drew kd zs := hi
  replace fB := fB.keep ((Below.refl _ _).drew : Below wE.heap.size wE wE.drew)
  go_region_held3 (fun w' => w'.cell? ⟨gX, 0, none⟩ = some (.slice (some ⟨kd, 0, none⟩) dn dn) ∧ w'.cell? ⟨gX, 1, none⟩ = some (.slice (some ⟨kg, 0, none⟩) n n) ∧ w'.cell? ⟨G, 0, none⟩ = some (.slice da dn dc) ∧ w'.cell? ⟨G, 1, none⟩ = some (.slice a n c)) (exact ⟨hX.cell 0, hX.cell 1, hP.cell 0, hP.cell 1⟩)
    (first
      | (go_at_call 16; refine (toAlgebra_c dc c (HD.out.keep (show Below w.heap.size w _ by rw [HG.out]; exact hb)) hdn (HF.out.keep (show Below w.heap.size w _ by rw [HG.out]; exact hb)) hn HLL.out).mono ?_; rintro e wB ⟨md, mg, ms, rfl, hmd, hmg, mi, mB, hbA⟩; have hi' := IntBlk.keep hi hbA (IntBlk.lt hi); have fB' := fB.keep hbA; have hvS' := hvS.keep hbA; have hvR' := hvR.keep hbA; clear hi fB hvS hvR; have hi := hi'; have fB := fB'; have hvS := hvS'; have hvR := hvR'; clear hi' fB' hvS' hvR'; have hb' := below_trans' hb hbA (Nat.le_of_lt hP.lt); have hP' := hP.keep hbA hP.lt; have hX' := hX.keep hbA hX.lt; clear hb; have hb := hb'; clear hb'; clear hP; have hP := hP'; clear hP'; clear hX; have hX := hX'; clear hX')
      | (go_at_call 18; refine (eqAlgebra_c dn dn n n (hi.ints' HL.out) (mi.ints' HL.out) hdn (fB.frms HT.out HLL.out HLn.out) (mB.frms HT.out HLL.out HLn.out) hn HLL.out).mono ?_; rintro e wF ⟨rfl, hbE⟩; have hi' := IntBlk.keep hi hbE (IntBlk.lt hi); have fB' := fB.keep hbE; have hvS' := hvS.keep hbE; have hvR' := hvR.keep hbE; clear hi fB hvS hvR; have hi := hi'; have fB := fB'; have hvS := hvS'; have hvR := hvR'; clear hi' fB' hvS' hvR'; have hb' := below_trans' hb hbE (Nat.le_of_lt hP.lt); have hP' := hP.keep hbE hP.lt; have hX' := hX.keep hbE hX.lt; clear hb; have hb := hb'; clear hb'; clear hP; have hP := hP'; clear hP'; clear hX; have hX := hX'; clear hX'))
  have x0 := hX.cell 0
  have x1 := hX.cell 1
  go_wp2_with fail
  clear x0 x1
  refine (markAlgebra_c dn n hi HL.out hdn hkg fB HT.out HLn.out hn (by rw [HSL.out]; exact hSLb) (by omega) (by omega)).mono ?_
  rintro e wM ⟨rfl, hTo0⟩
  rw [HSL.out]
  have hTo : Touch (fun k => kd ≤ k ∧ k < gX) _ wM := hTo0.mono (rk_range hkg hgX HKS.out)
  clear hTo0
  replace hb := hb.trans (hTo.bel (B := G) (fun k hk => by omega) (Nat.le_of_lt hP.lt))
  replace hP := hTo.own hP (by omega)
  replace hX := hTo.own hX (by omega)
  replace hvS := hvS.touch hTo (fun q h1 h2 => by omega)
  replace hvR := hvR.touch hTo (fun q h1 h2 => by omega)
  clear hTo hi fB
  generalize hK1 : (1 : Int) + (dn : Nat) + (SL * 9 : Nat) = K1 at *
  have hK1a : ¬ K1 < 0 := by omega
  clear hK1
  go_wp2_with fail
  refine (eqInts_c _ _ hvR.ints hvS.ints hVl).mono ?_
  rintro e w2 ⟨rfl, hbE⟩
  replace hb := below_trans' hb hbE (Nat.le_of_lt hP.lt)
  replace hP := hP.keep hbE hP.lt
  replace hX := hX.keep hbE hX.lt
  replace hvS := hvS.keep hbE
  replace hvR := hvR.keep hbE
  clear hbE
  obtain ⟨gv, tv, csv, hOv, hszv, hav, hgv⟩ := hvR.block hX
  go_wp2_with fail
  refine (markInt64S_c rc hOv hszv hav hVl (by omega) (by omega)).mono ?_
  rintro e w3 ⟨rfl, hOw, ho⟩
  have hTo := Touch.of_only ho
  replace hb := hb.trans (ho.below G (by omega))
  replace hP := ho.own hP (by omega)
  replace hvS := hvS.touch hTo (fun q h1 h2 => by omega)
  clear ho hTo hOv hvR hX
  generalize hM : (1 : Int) + (nV : Nat) = M at *
  have HM := Lib.hid hM
  have hmn : ¬ (M < 0) := by omega
  clear hM
  go_wp2_with fail
  refine (heldInt64S_c rc hOw hszv hav hVl (by omega) (by omega)).mono ?_
  rintro e w4 ⟨rfl, hb7⟩
  rw [HM.out]
  replace hb := below_trans' hb hb7 (Nat.le_of_lt hP.lt)
  replace hP := hP.keep hb7 hP.lt
  replace hOw := hOw.keep hb7 hOw.lt
  replace hvS := hvS.keep hb7
  clear hb7
  have p0 := hP.cell 0
  have p1 := hP.cell 1
  go_wp2_with fail
  refine (toAlgebra_c dc c (HD.out.keep (show Below w.heap.size w _ by rw [HG.out]; exact hb)) hdn (HF.out.keep (show Below w.heap.size w _ by rw [HG.out]; exact hb)) hn HLL.out).mono ?_
  rintro e w5 ⟨md, mg, ms, rfl, hmd, hmg, mi, mB, hbA⟩
  clear p0 p1
  replace hb := below_trans' hb hbA (Nat.le_of_lt hP.lt)
  replace hP := hP.keep hbA hP.lt
  replace hOw := hOw.keep hbA hOw.lt
  replace hvS := hvS.keep hbA
  clear hbA
  go_wp2_with fail
  refine (HCC.out _ _ _ _ _ hdn hn HLL.out (mi.ints' HL.out) (mB.frms HT.out HLL.out HLn.out)).mono ?_
  rintro e w6 ⟨ta, tn, tc, rfl, hvT, hbR⟩
  have htn : nV = tn := by rw [← HnV.out, hvT.1]
  subst htn
  replace hb := below_trans' hb hbR (Nat.le_of_lt hP.lt)
  replace hP := hP.keep hbR hP.lt
  replace hOw := hOw.keep hbR hOw.lt
  replace hvS := hvS.keep hbR
  clear hbR mi mB hmd hmg
  go_wp2_with fail
  refine (eqInts_c _ _ hvT.ints hvS.ints hVl).mono ?_
  rintro e w7 ⟨rfl, hbE⟩
  replace hb := below_trans' hb hbE (Nat.le_of_lt hP.lt)
  replace hP := hP.keep hbE hP.lt
  replace hOw := hOw.keep hbE hOw.lt
  clear hbE hvT hvS
  go_wp2_with fail
  refine (heldInt64S_c rc hOw hszv hav hVl (by omega) (by omega)).mono ?_
  rintro e w8 ⟨rfl, hb7⟩
  rw [HM.out]
  replace hb := below_trans' hb hb7 (Nat.le_of_lt hP.lt)
  clear hb7
  go_wp2_with fail
  go_ret
  exact ⟨rfl, by rw [HG.out]; exact hb⟩
theorem fpV_len2 (zs : List Int) (ims : List (List Tm)) : (fpV zs ims).length ≤ 1048576 := by
  unfold fpV
  split
  · split <;> simp
  · simp
theorem firstPair_walk (da : Option Addr) (dn dc : Nat) (zs : List Int) (a : Option Addr) (n c : Nat) (fss : List (List Tm)) (w : World) (hd : Ints w da dn zs) (hdm : (dn : Int) ≤ 9223372036854775807) (hF : Frms w a n fss) (hnm : (n : Int) ≤ 9223372036854775807) :
    Calls Try.prog 12 #[.agg #[.slice da dn dc, .slice a n c]] w fun e w' => e = .returned (.bool true) ∧ Below w.heap.size w w' :=
  lawPair_walk da dn dc zs a n c fss w hd hdm hF hnm (fpV zs fss) (fpE zs fss) _ rfl (fpV_len2 _ _) (fun _ _ dc' _ c' h1 h2 h3 h4 h5 => FirstPair_s dc' c' h4 h1 h5 h2 h3) (fun _ _ dc' _ c' h1 h2 h3 h4 h5 => FirstPair_c dc' c' h4 h1 h5 h2 h3)
end Go.Proofs.Ytndnkeijddagiaa
