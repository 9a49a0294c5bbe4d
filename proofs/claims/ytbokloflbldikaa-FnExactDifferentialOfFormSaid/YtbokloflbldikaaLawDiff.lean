
import Derived.Test.YtbokloflbldikaaAlgS
import Derived.Test.YtbokloflbldikaaLawForm
import Derived.Test.YtbokloflbldikaaIsAlg
import Derived.Deep.DeepCutAuto
namespace Go.Proofs.Ytbokloflbldikaa
open Go.RowKit Go.Deep
theorem ints_of_blk {w : World} {g n : Nat} {zs : List Int} (h : Own w g 2 ((zs.map (Value.int .i64)).toArray)) (hn : zs.length = n) : Ints w (some ⟨g, 0, none⟩) n zs := IntBlk.ints' h hn
theorem touch_range {kd kg gX : Nat} {ks : List Nat} (h1 : kd < kg) (h2 : kg < gX) (h3 : ∀ x ∈ ks, kg < x ∧ x < gX) : ∀ k, (k = kd ∨ k ∈ ks) → kd ≤ k ∧ k < gX := by
  intro k hk
  rcases hk with h | h
  · omega
  · have := h3 k h
    omega
set_option maxHeartbeats 16000000 in
set_option maxRecDepth 100000 in
theorem lawDiff_walk (da : Option Addr) (dn dc : Nat) (zs : List Int) (a : Option Addr) (n c : Nat) (fss : List (List Tm)) (a2 : Option Addr) (n2 c2 : Nat) (fs : List Tm) (w : World) (hd : Ints w da dn zs) (hdm : (dn : Int) ≤ 9223372036854775807) (hF : Frms w a n fss) (hnm : (n : Int) ≤ 9223372036854775807) (h2 : Terms w a2 n2 fs) (hm2 : (n2 : Int) ≤ 9223372036854775807)
    (V : List Tm) (E : Int) (nV : Nat) (hVt : ∀ t ∈ V, IsTm t) (hnV : V.length = nV) (hVl : nV ≤ 1048576)
    (CS : ∀ (w' : World) (da' : Option Addr) (dc' : Nat) (a' : Option Addr) (c' : Nat) (b : Option Addr) (q : Nat), dn ≤ 1048576 → n ≤ 1048576 → (∀ ts ∈ fss, (ts.length : Int) ≤ 1048576) → n2 ≤ 1048576 → Ints w' da' dn zs → Frms w' a' n fss → Terms w' b n2 fs → Calls Try.prog 18 #[.agg #[.slice da' dn dc', .slice a' n c'], .agg #[.slice b n2 q]] w' fun e w'' => ∃ v, e = .returned (.tuple #[.agg #[v], .int .i64 E]) ∧ OwnR w'' w'.heap.size v V ∧ Below w'.heap.size w' w'')
    (CC : ∀ (w' : World) (da' : Option Addr) (dc' : Nat) (a' : Option Addr) (c' : Nat) (b : Option Addr) (q : Nat), dn ≤ 1048576 → n ≤ 1048576 → (∀ ts ∈ fss, (ts.length : Int) ≤ 1048576) → n2 ≤ 1048576 → Ints w' da' dn zs → Frms w' a' n fss → Terms w' b n2 fs → Calls Try.prog 20 #[.agg #[.slice da' dn dc', .slice a' n c'], .agg #[.slice b n2 q]] w' fun e w'' => ∃ v, e = .returned (.tuple #[.agg #[v], .int .i64 E]) ∧ OwnR w'' w'.heap.size v V ∧ Below w'.heap.size w' w'') :
    Calls Try.prog 4 #[.agg #[.slice da dn dc, .slice a n c], .agg #[.slice a2 n2 c2]] w fun e w' => e = .returned (.bool true) ∧ Below w.heap.size w w' := by
  have HL := Lib.hid hd.len
  have HLn := Lib.hid hF.len
  have HD := Lib.hid hd
  have HF := Lib.hid hF
  have HT := Lib.hid hF.tm
  have HCS := Lib.hid CS
  have HCC := Lib.hid CC
  have HVt := Lib.hid hVt
  have HnV := Lib.hid hnV
  clear CS CC hVt hnV
  have HL2 := Lib.hid h2.len
  have H2 := Lib.hid h2
  have HT2 := Lib.hid h2.2.1
  have hP := (Own.new w 41 #[.slice da dn dc, .slice a n c]).alloc (.cells #[.slice a2 n2 c2] 25)
  have hQ := Own.new (w.alloc (.cells #[.slice da dn dc, .slice a n c] 41)) 25 #[.slice a2 n2 c2]
  rw [size_alloc] at hQ
  have hb := below_then (below_alloc1 w (.cells #[.slice da dn dc, .slice a n c] 41)) (below_alloc1 _ (.cells #[.slice a2 n2 c2] 25))
  rcases szA_spec (L := 1048576) (dn := dn) (n := n) (fss := fss) with hz | ⟨h1, hR, h3, h4, h5⟩
  · have HZ := Lib.hid hz
    clear hz
    go_enter Try.func4, Try.ntmps4
    go_upto_region 2 with fail
    generalize (w.alloc (.cells #[.slice da dn dc, .slice a n c] 41)).alloc (.cells #[.slice a2 n2 c2] 25) = w0 at *
    generalize hG : w.heap.size = G at *
    have HG := Lib.hid hG
    clear hG
    have hbw : Below w.heap.size w w0 := by rw [HG.out]; exact hb
    have p0 := hP.cell 0
    have p1 := hP.cell 1
    go_wp2_with fail
    refine (szAlgebra_c dc c 1048576 (by omega) (by omega) hdm (HF.out.keep hbw) hnm).mono ?_
    rintro e w1 ⟨rfl, hb1⟩
    rw [HZ.out]
    clear p0 p1 hbw
    go_wp2_with fail
    go_ret
    exact ⟨rfl, by rw [HG.out]; exact below_trans' hb hb1 (Nat.le_of_lt hP.lt)⟩
  have hsum := szA_sum (L := 1048576) (dn := dn) (n := n) (fss := fss) (by omega)
  generalize hz : szA 1048576 dn n fss = R at *
  have HZ := Lib.hid hz
  clear hz
  have hdn : dn ≤ 1048576 := by omega
  have hn : n ≤ 1048576 := by omega
  have HLL := Lib.hid h5
  clear h5
  have hRn : ¬ R < 0 := by omega
  have HSM := Lib.hid (show sumLen fss ≤ 1048576 by omega)
  obtain ⟨SL, hSL⟩ : ∃ SL, sumLen fss = SL := ⟨_, rfl⟩
  have HSL := Lib.hid hSL
  have hSLb : SL ≤ 1048576 := by have := HSM.out; omega
  clear hSL hsum
  by_cases hs2 : (n2 : Int) ≤ R
  rotate_left
  · skip
    go_enter Try.func4, Try.ntmps4
    go_upto_region 2 with fail
    generalize (w.alloc (.cells #[.slice da dn dc, .slice a n c] 41)).alloc (.cells #[.slice a2 n2 c2] 25) = w0 at *
    generalize hG : w.heap.size = G at *
    have HG := Lib.hid hG
    clear hG
    have hbw : Below w.heap.size w w0 := by rw [HG.out]; exact hb
    have p0 := hP.cell 0
    have p1 := hP.cell 1
    go_wp2_with fail
    refine (szAlgebra_c dc c 1048576 (by omega) (by omega) hdm (HF.out.keep hbw) hnm).mono ?_
    rintro e w1 ⟨rfl, hb1⟩
    rw [HZ.out]
    clear p0 p1 hbw
    replace hb := below_trans' hb hb1 (Nat.le_of_lt hP.lt)
    replace hP := hP.keep hb1 hP.lt
    replace hQ := hQ.keep hb1 hQ.lt
    clear hb1
    have cQ := hQ.cell 0
    go_wp2_with fail
    refine (szForm_c a2 n2 c2 R h1 hR hm2).mono ?_
    rintro e w2 ⟨rfl, hb2⟩
    rw [if_neg (by omega)]
    go_wp2_with fail
    go_ret
    exact ⟨rfl, by rw [HG.out]; exact below_trans' hb hb2 (Nat.le_of_lt hP.lt)⟩
  have hn2 : n2 ≤ 1048576 := by omega
  have hRn2 : ¬ R - (n2 : Int) < 0 := by omega
  go_enter Try.func4, Try.ntmps4
  go_upto_region 2 with fail
  generalize (w.alloc (.cells #[.slice da dn dc, .slice a n c] 41)).alloc (.cells #[.slice a2 n2 c2] 25) = w0 at *
  generalize hG : w.heap.size = G at *
  have HG := Lib.hid hG
  clear hG
  have hbw : Below w.heap.size w w0 := by rw [HG.out]; exact hb
  have p0 := hP.cell 0
  have p1 := hP.cell 1
  go_wp2_with fail
  refine (szAlgebra_c dc c 1048576 (by omega) (by omega) hdm (HF.out.keep hbw) hnm).mono ?_
  rintro e w1 ⟨rfl, hb1⟩
  rw [HZ.out]
  clear p0 p1 hbw
  replace hb := below_trans' hb hb1 (Nat.le_of_lt hP.lt)
  replace hP := hP.keep hb1 hP.lt
  replace hQ := hQ.keep hb1 hQ.lt
  clear hb1
  have cQ := hQ.cell 0
  go_wp2_with fail
  refine (szForm_c a2 n2 c2 R h1 hR hm2).mono ?_
  rintro e wb ⟨rfl, hb2⟩
  rw [if_pos (by omega)]
  clear cQ
  replace hb := below_trans' hb hb2 (Nat.le_of_lt hP.lt)
  replace hP := hP.keep hb2 hP.lt
  replace hQ := hQ.keep hb2 hQ.lt
  clear hb2
  go_upto_region 8 with fail
  go_cut [6, 7] from 17 (fun p e wr => ∃ g av cv, p = .pointer (some ⟨g, 0, none⟩) ∧ e = .int .i64 E ∧ Below wb.heap.size wb wr ∧ wb.heap.size ≤ g ∧ Own wr g 29 #[.slice av nV cv] ∧ OwnR wr wb.heap.size (.slice av nV cv) V)
  case first =>
    have hbwB : Below w.heap.size w wb := by rw [HG.out]; exact hb
    have hdB := HD.out.keep hbwB
    have hFB := HF.out.keep hbwB
    have hTB := H2.out.keep hbwB
    have oP := hP
    have oQ := hQ
    have lP := hP.lt
    have lQ := hQ.lt
    have hbb : Below wb.heap.size wb wb.drew := (Below.refl _ _).drew
    clear hb hbwB hP hQ 
    go_region_held3 (fun w' => w'.cell? ⟨G, 0, none⟩ = some (.slice da dn dc) ∧ w'.cell? ⟨G, 1, none⟩ = some (.slice a n c) ∧ w'.cell? ⟨G + 1, 0, none⟩ = some (.slice a2 n2 c2)) ((first | with_reducible exact ⟨(oP.keep hbb oP.lt).cell 0, (oP.keep hbb oP.lt).cell 1, (oQ.keep hbb oQ.lt).cell 0⟩ | with_reducible exact ⟨(oP.keep (below_alw hbb hbb.size _) oP.lt).cell 0, (oP.keep (below_alw hbb hbb.size _) oP.lt).cell 1, (oQ.keep (below_alw hbb hbb.size _) oQ.lt).cell 0⟩ | with_reducible exact ⟨(oP.keep (below_ahw _ _) oP.lt).cell 0, (oP.keep (below_ahw _ _) oP.lt).cell 1, (oQ.keep (below_ahw _ _) oQ.lt).cell 0⟩ | exact ⟨(oP.keep hbb oP.lt).cell 0, (oP.keep hbb oP.lt).cell 1, (oQ.keep hbb oQ.lt).cell 0⟩ | exact ⟨(oP.keep (below_alw hbb hbb.size _) oP.lt).cell 0, (oP.keep (below_alw hbb hbb.size _) oP.lt).cell 1, (oQ.keep (below_alw hbb hbb.size _) oQ.lt).cell 0⟩ | exact ⟨(oP.keep (below_ahw _ _) oP.lt).cell 0, (oP.keep (below_ahw _ _) oP.lt).cell 1, (oQ.keep (below_ahw _ _) oQ.lt).cell 0⟩ | exact ⟨((oP.keep hbb oP.lt).far (by dsimp only; omega) _).cell 0, ((oP.keep hbb oP.lt).far (by dsimp only; omega) _).cell 1, ((oQ.keep hbb oQ.lt).far (by dsimp only; omega) _).cell 0⟩ | exact ⟨((oP.keep (below_alw hbb hbb.size _) oP.lt).far (by dsimp only; omega) _).cell 0, ((oP.keep (below_alw hbb hbb.size _) oP.lt).far (by dsimp only; omega) _).cell 1, ((oQ.keep (below_alw hbb hbb.size _) oQ.lt).far (by dsimp only; omega) _).cell 0⟩))
      (first
        | (go_at_call 19; (first | (with_reducible refine (toAlgebra_c dc c (hdB.keep hbb) hdn (hFB.keep hbb) hn HLL.out).mono ?_) | (with_reducible refine (toAlgebra_c dc c (hdB.keep (below_alw hbb hbb.size _)) hdn (hFB.keep (below_alw hbb hbb.size _)) hn HLL.out).mono ?_) | (with_reducible refine (toAlgebra_c dc c (hdB.keep (below_ahw _ _)) hdn (hFB.keep (below_ahw _ _)) hn HLL.out).mono ?_)); rintro e wA ⟨gd, g, gs, rfl, hgd, hdg, hi0, fB, hbA⟩; have hi : Own wA gd 2 ((zs.map (Value.int .i64)).toArray) := hi0; clear hi0; (first | ((have hbb' : Below wb.heap.size wb wA := by with_reducible exact below_pl hbb hbA hbb.size); (try (have oN := oN.keep hbA oN.lt))) | ((have hbb' : Below wb.heap.size wb wA := by with_reducible exact below_al hbb hbA hbb.size); have oN := own_al hbA; have hgN := hbb.size) | ((have hbb' : Below wb.heap.size wb wA := by with_reducible exact below_ah hbA); have oN := own_ah hbA; have hgN := Nat.le_refl wb.heap.size)); clear hbb; have hbb := hbb'; clear hbb')
        | (go_at_call 10; (first | (with_reducible refine (toForm_c c2 (hTB.keep hbb) hn2).mono ?_) | (with_reducible refine (toForm_c c2 (hTB.keep (below_alw hbb hbb.size _)) hn2).mono ?_) | (with_reducible refine (toForm_c c2 (hTB.keep (below_ahw _ _)) hn2).mono ?_)); rintro e wF ⟨g2, rfl, hg2, hf2, hbF⟩; (first | ((have hbb' : Below wb.heap.size wb wF := by with_reducible exact below_pl hbb hbF hbb.size); (try (have oN := oN.keep hbF oN.lt)); (try (have hi := hi.keep hbF hi.lt)); (try (have fB := fB.keep hbF))) | ((have hbb' : Below wb.heap.size wb wF := by with_reducible exact below_al hbb hbF hbb.size); have oN := own_al hbF; have hgN := hbb.size; (try (have hi := (hi.alloc _).keep hbF (hi.alloc _).lt)); (try (have fB := (fB.keep (below_alloc1 _ _)).keep hbF))) | ((have hbb' : Below wb.heap.size wb wF := by with_reducible exact below_ah hbF); have oN := own_ah hbF; have hgN := Nat.le_refl wb.heap.size)); clear hbb; have hbb := hbb'; clear hbb')
        | (go_at_call 18; (first | (with_reducible refine (HCS.out _ _ _ _ _ _ _ hdn hn HLL.out hn2 (ints_of_blk hi HL.out) (FrmsBlk.frms fB HT.out HLL.out HLn.out) (Own.terms hf2 HT2.out HL2.out)).mono ?_) | (with_reducible refine (HCS.out _ _ _ _ _ _ _ hdn hn HLL.out hn2 (ints_of_blk (hi.alloc _) HL.out) (FrmsBlk.frms (fB.keep (below_alloc1 _ _)) HT.out HLL.out HLn.out) (Own.terms (hf2.alloc _) HT2.out HL2.out)).mono ?_)); rintro e wS ⟨v, rfl, hvR, hbS⟩; obtain ⟨av, cv, rfl, -⟩ := OwnR.terms hvR HVt.out HnV.out; (have hvW : OwnR wS wb.heap.size (.slice av nV cv) V := by first | with_reducible exact hvR.weaken hbb.size | with_reducible exact hvR.weaken (below_alw hbb hbb.size _).size | with_reducible exact hvR.weaken (below_ahw _ _).size); (first | (have hne : (Value.slice av nV cv).ownBlock ≠ some _ := fun e => Nat.lt_irrefl _ (Nat.lt_of_lt_of_le oN.lt (hvR.at_ e).1)) | (have hne : (Value.slice av nV cv).ownBlock ≠ some _ := fun e => Nat.lt_irrefl _ (Nat.lt_of_lt_of_le (Own.new _ 29 #[.slice none 0 0]).lt (hvR.at_ e).1)) | skip); (first | ((have hbb' : Below wb.heap.size wb wS := by with_reducible exact below_pl hbb hbS hbb.size); (try (have oN := oN.keep hbS oN.lt))) | ((have hbb' : Below wb.heap.size wb wS := by with_reducible exact below_al hbb hbS hbb.size); have oN := own_al hbS; have hgN := hbb.size) | ((have hbb' : Below wb.heap.size wb wS := by with_reducible exact below_ah hbS); have oN := own_ah hbS; have hgN := Nat.le_refl wb.heap.size)); clear hbb; have hbb := hbb'; clear hbb'; (first | (have cN := oN.cell 0; have fN := oN.frozen 0) | (have oF := Own.new wS 29 #[.slice none 0 0]; have cN := oF.cell 0; have fN := oF.frozen 0))))
    all_goals go_wp2_with fail
    all_goals go_meet
    all_goals (first
      | exact ⟨_, _, _, rfl, rfl, below_alw hbb hbb.size _, hbb.size, Own.new _ _ _, hvW.keep (below_alloc1 _ _)⟩
      | exact ⟨_, _, _, rfl, rfl, hbb.setCell (p := ⟨_, 0, none⟩) hgN _, hgN, oN.set 0 _, hvW.far (p := ⟨_, 0, none⟩) hne _⟩)
  case rest =>
    obtain ⟨g8, a8, c8, rfl, rfl, hbR, hg8, hO8, hV8⟩ := hcut
    have hG8 : G + 1 < g8 := Nat.lt_of_lt_of_le hQ.lt hg8
    replace hb := below_trans' hb hbR (Nat.le_of_lt hP.lt)
    replace hP := hP.keep hbR hP.lt
    replace hQ := hQ.keep hbR hQ.lt
    clear hbR hg8
    have p0 := hP.cell 0
    have p1 := hP.cell 1
    go_wp2_with fail
    have hqa := fun q (e : (Value.slice a8 nV c8).ownBlock = some q) => (hV8.at_ e).2
    have hl8 := hO8.lt
    refine (toAlgebra_c dc c (HD.out.keep (show Below w.heap.size w _ by rw [HG.out]; exact hb)) hdn (HF.out.keep (show Below w.heap.size w _ by rw [HG.out]; exact hb)) hn HLL.out).mono ?_
    rintro e wC ⟨kd, kg, ks, rfl, hkd, hkg, hi0, fB, hbA⟩
    clear p0 p1
    have hq_hV8 : ∀ q, (Value.slice a8 nV c8).ownBlock = some q → q < kd := fun q e => Nat.lt_of_lt_of_le (hqa q e) hkd
    have h8k : g8 < kd := Nat.lt_of_lt_of_le hl8 hkd
    clear hqa hl8 hkd
    replace hb := below_trans' hb hbA (Nat.le_of_lt hP.lt)
    replace hP := hP.keep hbA hP.lt
    replace hQ := hQ.keep hbA hQ.lt
    replace hO8 := hO8.keep hbA hO8.lt
    replace hV8 := hV8.keep hbA
    clear hbA
    have hi : Own wC kd 2 ((zs.map (Value.int .i64)).toArray) := hi0
    clear hi0
    go_upto_region 10 with fail
    have hba := below_alloc1 wC (.cells #[.slice (some ⟨kd, 0, none⟩) dn dn, .slice (some ⟨kg, 0, none⟩) n n] 46)
    have hX := Own.new wC 46 #[.slice (some ⟨kd, 0, none⟩) dn dn, .slice (some ⟨kg, 0, none⟩) n n]
    have hks := fun x (hx : x ∈ ks) => (fB.lt x hx)
    have hgX : kg < wC.heap.size := fB.own.lt
    replace hb := below_trans' hb hba (Nat.le_of_lt hP.lt)
    replace hP := hP.keep hba hP.lt
    replace hQ := hQ.keep hba hQ.lt
    replace hO8 := hO8.keep hba hO8.lt
    replace hi := hi.keep hba hi.lt
    replace hV8 := hV8.keep hba
    replace fB := fB.keep hba
    generalize wC.alloc (.cells #[.slice (some ⟨kd, 0, none⟩) dn dn, .slice (some ⟨kg, 0, none⟩) n n] 46) = wx at *
    generalize wC.heap.size = gX at *
    clear hba
    have HKS := Lib.hid hks
    clear hks
    have cQ := hQ.cell 0
    go_wp2_with fail
    have hlx := hX.lt
    refine (toForm_c c2 (H2.out.keep (show Below w.heap.size w _ by rw [HG.out]; exact hb)) hn2).mono ?_
    rintro e wF ⟨kf, rfl, hkf, hf2, hbF⟩
    have hXf : gX < kf := Nat.lt_of_lt_of_le hlx hkf
    clear cQ hkf hlx
    replace hb := below_trans' hb hbF (Nat.le_of_lt hP.lt)
    replace hP := hP.keep hbF hP.lt
    replace hQ := hQ.keep hbF hQ.lt
    replace hO8 := hO8.keep hbF hO8.lt
    replace hi := hi.keep hbF hi.lt
    replace hX := hX.keep hbF hX.lt
    replace hV8 := hV8.keep hbF
    replace fB := fB.keep hbF
    clear hbF
    go_upto_region 11 with fail
    have hba := below_alloc1 wF (.cells #[.slice (some ⟨kf, 0, none⟩) n2 n2] 29)
    have hY := Own.new wF 29 #[.slice (some ⟨kf, 0, none⟩) n2 n2]
    have hfY : kf < wF.heap.size := hf2.lt
    replace hb := below_trans' hb hba (Nat.le_of_lt hP.lt)
    replace hP := hP.keep hba hP.lt
    replace hQ := hQ.keep hba hQ.lt
    replace hO8 := hO8.keep hba hO8.lt
    replace hi := hi.keep hba hi.lt
    replace hX := hX.keep hba hX.lt
    replace hf2 := hf2.keep hba hf2.lt
    replace hV8 := hV8.keep hba
    replace fB := fB.keep hba
    generalize wF.alloc (.cells #[.slice (some ⟨kf, 0, none⟩) n2 n2] 29) = wy at *
    generalize wF.heap.size = gY at *
    clear hba
    have x0 := hX.cell 0
    have x1 := hX.cell 1
    have y0 := hY.cell 0
    go_wp2_with fail
    have hly := hY.lt
    refine (HCC.out _ _ _ _ _ _ _ hdn hn HLL.out hn2 (IntBlk.ints' hi HL.out) (fB.frms HT.out HLL.out HLn.out) (hf2.terms HT2.out HL2.out)).mono ?_
    rintro e w5 ⟨v, rfl, hvR, hbR⟩
    clear x0 x1 y0
    obtain ⟨a12, c12, rfl, -⟩ := hvR.terms HVt.out HnV.out
    have hq_hvR : ∀ q, (Value.slice a12 nV c12).ownBlock = some q → gY < q := fun q e => Nat.lt_of_lt_of_le hly (hvR.at_ e).1
    replace hb := below_trans' hb hbR (Nat.le_of_lt hP.lt)
    replace hP := hP.keep hbR hP.lt
    replace hQ := hQ.keep hbR hQ.lt
    replace hO8 := hO8.keep hbR hO8.lt
    replace hi := hi.keep hbR hi.lt
    replace hX := hX.keep hbR hX.lt
    replace hf2 := hf2.keep hbR hf2.lt
    replace hY := hY.keep hbR hY.lt
    replace hV8 := hV8.keep hbR
    replace fB := fB.keep hbR
    obtain ⟨gv, tv, csv, hOv, hszv, hav, hgv0⟩ := hvR.block hY
    have hgv : gY ≤ gv := by rcases hgv0 with h | h <;> omega
    clear hbR hgv0 hly
    have h12 := Own.new w5 29 #[.slice a12 nV c12]
    have hba := below_alloc1 w5 (.cells #[.slice a12 nV c12] 29)
    have hv12 : gv < w5.heap.size := hOv.lt
    have hqb := fun q (e : (Value.slice a12 nV c12).ownBlock = some q) => (hvR.at_ e).2
    replace hb := below_trans' hb hba (Nat.le_of_lt hP.lt)
    replace hP := hP.keep hba hP.lt
    replace hQ := hQ.keep hba hQ.lt
    replace hO8 := hO8.keep hba hO8.lt
    replace hi := hi.keep hba hi.lt
    replace hX := hX.keep hba hX.lt
    replace hf2 := hf2.keep hba hf2.lt
    replace hY := hY.keep hba hY.lt
    replace hOv := hOv.keep hba hOv.lt
    replace hV8 := hV8.keep hba
    replace hvR := hvR.keep hba
    replace fB := fB.keep hba
    clear hba
    have hc12 := h12.cell 0
    have hc8 := hO8.cell 0
    go_wp2_with fail
    clear hc12 hc8
    generalize w5.alloc (.cells #[.slice a12 nV c12] 29) = w6 at *
    generalize hg12 : w5.heap.size = g12 at *
    clear hg12
    refine (eqForm_c _ _ (hvR.read HVt.out) (hV8.read HVt.out) hVl).mono ?_
    rintro e w7 ⟨rfl, hb7⟩
    replace hb := below_trans' hb hb7 (Nat.le_of_lt hP.lt)
    replace hP := hP.keep hb7 hP.lt
    replace hQ := hQ.keep hb7 hQ.lt
    replace hO8 := hO8.keep hb7 hO8.lt
    replace hi := hi.keep hb7 hi.lt
    replace hX := hX.keep hb7 hX.lt
    replace hf2 := hf2.keep hb7 hf2.lt
    replace hY := hY.keep hb7 hY.lt
    replace hOv := hOv.keep hb7 hOv.lt
    replace h12 := h12.keep hb7 h12.lt
    replace hV8 := hV8.keep hb7
    replace hvR := hvR.keep hb7
    replace fB := fB.keep hb7
    clear hb7
    have hee : (E != E) = false := by simp
    go_upto_region 14 with fail
    have hdr : Below w7.heap.size w7 w7.drew := (Below.refl _ _).drew
    replace hb := below_trans' hb hdr (Nat.le_of_lt hP.lt)
    replace hP := hP.keep hdr hP.lt
    replace hQ := hQ.keep hdr hQ.lt
    replace hO8 := hO8.keep hdr hO8.lt
    replace hi := hi.keep hdr hi.lt
    replace hX := hX.keep hdr hX.lt
    replace hf2 := hf2.keep hdr hf2.lt
    replace hY := hY.keep hdr hY.lt
    replace hOv := hOv.keep hdr hOv.lt
    replace h12 := h12.keep hdr h12.lt
    replace hV8 := hV8.keep hdr
    replace hvR := hvR.keep hdr
    replace fB := fB.keep hdr
    clear hdr
    go_region_held3 (fun w' => w'.cell? ⟨gX, 0, none⟩ = some (.slice (some ⟨kd, 0, none⟩) dn dn) ∧ w'.cell? ⟨gX, 1, none⟩ = some (.slice (some ⟨kg, 0, none⟩) n n) ∧ w'.cell? ⟨G, 0, none⟩ = some (.slice da dn dc) ∧ w'.cell? ⟨G, 1, none⟩ = some (.slice a n c)) (exact ⟨hX.cell 0, hX.cell 1, hP.cell 0, hP.cell 1⟩)
      (first
        | (go_at_call 19; refine (toAlgebra_c dc c (HD.out.keep (show Below w.heap.size w _ by rw [HG.out]; exact hb)) hdn (HF.out.keep (show Below w.heap.size w _ by rw [HG.out]; exact hb)) hn HLL.out).mono ?_; rintro e wA ⟨md, mg, ms, rfl, hmd, hmg, mi, mB, hbA⟩; have hb' := below_trans' hb hbA (Nat.le_of_lt hP.lt); have hP' := hP.keep hbA hP.lt; have hQ' := hQ.keep hbA hQ.lt; have hO8' := hO8.keep hbA hO8.lt; have hi' := hi.keep hbA hi.lt; have hX' := hX.keep hbA hX.lt; have hf2' := hf2.keep hbA hf2.lt; have hY' := hY.keep hbA hY.lt; have hOv' := hOv.keep hbA hOv.lt; have h12' := h12.keep hbA h12.lt; have hV8' := hV8.keep hbA; have hvR' := hvR.keep hbA; have fB' := fB.keep hbA; clear hb; have hb := hb'; clear hb'; clear hP; have hP := hP'; clear hP'; clear hQ; have hQ := hQ'; clear hQ'; clear hO8; have hO8 := hO8'; clear hO8'; clear hi; have hi := hi'; clear hi'; clear hX; have hX := hX'; clear hX'; clear hf2; have hf2 := hf2'; clear hf2'; clear hY; have hY := hY'; clear hY'; clear hOv; have hOv := hOv'; clear hOv'; clear h12; have h12 := h12'; clear h12'; clear hV8; have hV8 := hV8'; clear hV8'; clear hvR; have hvR := hvR'; clear hvR'; clear fB; have fB := fB'; clear fB'; clear hbA)
        | (go_at_call 21; refine (eqAlgebra_c dn dn n n (IntBlk.ints' hi HL.out) (mi.ints' HL.out) hdn (fB.frms HT.out HLL.out HLn.out) (mB.frms HT.out HLL.out HLn.out) hn HLL.out).mono ?_; rintro e wE ⟨rfl, hbE⟩; have hb' := below_trans' hb hbE (Nat.le_of_lt hP.lt); have hP' := hP.keep hbE hP.lt; have hQ' := hQ.keep hbE hQ.lt; have hO8' := hO8.keep hbE hO8.lt; have hi' := hi.keep hbE hi.lt; have hX' := hX.keep hbE hX.lt; have hf2' := hf2.keep hbE hf2.lt; have hY' := hY.keep hbE hY.lt; have hOv' := hOv.keep hbE hOv.lt; have h12' := h12.keep hbE h12.lt; have hV8' := hV8.keep hbE; have hvR' := hvR.keep hbE; have fB' := fB.keep hbE; clear hb; have hb := hb'; clear hb'; clear hP; have hP := hP'; clear hP'; clear hQ; have hQ := hQ'; clear hQ'; clear hO8; have hO8 := hO8'; clear hO8'; clear hi; have hi := hi'; clear hi'; clear hX; have hX := hX'; clear hX'; clear hf2; have hf2 := hf2'; clear hf2'; clear hY; have hY := hY'; clear hY'; clear hOv; have hOv := hOv'; clear hOv'; clear h12; have h12 := h12'; clear h12'; clear hV8; have hV8 := hV8'; clear hV8'; clear hvR; have hvR := hvR'; clear hvR'; clear fB; have fB := fB'; clear fB'; clear hbE mi mB))
    go_upto_region 16 with fail
    have hdr : Below wE.heap.size wE wE.drew := (Below.refl _ _).drew
    replace hb := below_trans' hb hdr (Nat.le_of_lt hP.lt)
    replace hP := hP.keep hdr hP.lt
    replace hQ := hQ.keep hdr hQ.lt
    replace hO8 := hO8.keep hdr hO8.lt
    replace hi := hi.keep hdr hi.lt
    replace hX := hX.keep hdr hX.lt
    replace hf2 := hf2.keep hdr hf2.lt
    replace hY := hY.keep hdr hY.lt
    replace hOv := hOv.keep hdr hOv.lt
    replace h12 := h12.keep hdr h12.lt
    replace hV8 := hV8.keep hdr
    replace hvR := hvR.keep hdr
    replace fB := fB.keep hdr
    clear hdr
    go_region_held3 (fun w' => w'.cell? ⟨gY, 0, none⟩ = some (.slice (some ⟨kf, 0, none⟩) n2 n2) ∧ w'.cell? ⟨G + 1, 0, none⟩ = some (.slice a2 n2 c2)) (exact ⟨hY.cell 0, hQ.cell 0⟩)
      (first
        | (go_at_call 10; refine (toForm_c c2 (H2.out.keep (show Below w.heap.size w _ by rw [HG.out]; exact hb)) hn2).mono ?_; rintro e wG ⟨mg, rfl, hmg, mf, hbF⟩; have hb' := below_trans' hb hbF (Nat.le_of_lt hP.lt); have hP' := hP.keep hbF hP.lt; have hQ' := hQ.keep hbF hQ.lt; have hO8' := hO8.keep hbF hO8.lt; have hi' := hi.keep hbF hi.lt; have hX' := hX.keep hbF hX.lt; have hf2' := hf2.keep hbF hf2.lt; have hY' := hY.keep hbF hY.lt; have hOv' := hOv.keep hbF hOv.lt; have h12' := h12.keep hbF h12.lt; have hV8' := hV8.keep hbF; have hvR' := hvR.keep hbF; have fB' := fB.keep hbF; clear hb; have hb := hb'; clear hb'; clear hP; have hP := hP'; clear hP'; clear hQ; have hQ := hQ'; clear hQ'; clear hO8; have hO8 := hO8'; clear hO8'; clear hi; have hi := hi'; clear hi'; clear hX; have hX := hX'; clear hX'; clear hf2; have hf2 := hf2'; clear hf2'; clear hY; have hY := hY'; clear hY'; clear hOv; have hOv := hOv'; clear hOv'; clear h12; have h12 := h12'; clear h12'; clear hV8; have hV8 := hV8'; clear hV8'; clear hvR; have hvR := hvR'; clear hvR'; clear fB; have fB := fB'; clear fB'; clear hbF)
        | (go_at_call 12; refine (eqForm_c n2 n2 (hf2.terms HT2.out HL2.out) (mf.terms HT2.out HL2.out) hn2).mono ?_; rintro e wZ ⟨rfl, hbZ⟩; have hb' := below_trans' hb hbZ (Nat.le_of_lt hP.lt); have hP' := hP.keep hbZ hP.lt; have hQ' := hQ.keep hbZ hQ.lt; have hO8' := hO8.keep hbZ hO8.lt; have hi' := hi.keep hbZ hi.lt; have hX' := hX.keep hbZ hX.lt; have hf2' := hf2.keep hbZ hf2.lt; have hY' := hY.keep hbZ hY.lt; have hOv' := hOv.keep hbZ hOv.lt; have h12' := h12.keep hbZ h12.lt; have hV8' := hV8.keep hbZ; have hvR' := hvR.keep hbZ; have fB' := fB.keep hbZ; clear hb; have hb := hb'; clear hb'; clear hP; have hP := hP'; clear hP'; clear hQ; have hQ := hQ'; clear hQ'; clear hO8; have hO8 := hO8'; clear hO8'; clear hi; have hi := hi'; clear hi'; clear hX; have hX := hX'; clear hX'; clear hf2; have hf2 := hf2'; clear hf2'; clear hY; have hY := hY'; clear hY'; clear hOv; have hOv := hOv'; clear hOv'; clear h12; have h12 := h12'; clear h12'; clear hV8; have hV8 := hV8'; clear hV8'; clear hvR; have hvR := hvR'; clear hvR'; clear fB; have fB := fB'; clear fB'; clear hbZ mf))
    have x0 := hX.cell 0
    have x1 := hX.cell 1
    go_wp2_with fail
    clear x0 x1
    refine (markAlgebra_c dn n hi HL.out hdn hkg fB HT.out HLn.out hn (by rw [HSL.out]; exact hSLb) (by omega) (by omega)).mono ?_
    rintro e wM ⟨rfl, hTo0⟩
    rw [HSL.out]
    have hTo : Touch (fun k => kd ≤ k ∧ k < gX) _ wM := hTo0.mono (touch_range hkg hgX HKS.out)
    clear hTo0
    replace hb := hb.trans (hTo.bel (B := G) (fun k hk => by omega) (Nat.le_of_lt hP.lt))
    replace hP := hTo.own hP (by omega)
    replace hQ := hTo.own hQ (by omega)
    replace hO8 := hTo.own hO8 (by omega)
    replace hX := hTo.own hX (by omega)
    replace hf2 := hTo.own hf2 (by omega)
    replace hY := hTo.own hY (by omega)
    replace hOv := hTo.own hOv (by omega)
    replace h12 := hTo.own h12 (by omega)
    replace hV8 := hTo.form hV8 (fun q e hh => by have := hq_hV8 q e; omega)
    replace hvR := hTo.form hvR (fun q e hh => by have := hq_hvR q e; omega)
    clear hTo hi fB
    generalize hK1 : (1 : Int) + (dn : Nat) + (SL * 9 : Nat) = K1 at *
    have hK1a : 0 ≤ K1 := by omega
    have hK1b : K1 ≤ 20000000 := by omega
    clear hK1
    have y0 := hY.cell 0
    go_wp2_with fail
    clear y0
    refine (markForm_c n2 hf2 (by rw [show (rcells fs).toArray.size = n2 * 9 by rw [List.size_toArray, rcells_length HT2.out, HL2.out]]; exact Nat.le_refl _) (fun _ => rfl) hn2 hK1a (by omega)).mono ?_
    rintro e wN ⟨rfl, hf9, ho⟩
    have hba := below_alloc1 wM (.cells #[.slice (some ⟨kf, 0, none⟩) n2 n2] 29)
    replace hb := below_trans' hb hba (Nat.le_of_lt hP.lt)
    replace hP := hP.keep hba hP.lt
    replace hQ := hQ.keep hba hQ.lt
    replace hO8 := hO8.keep hba hO8.lt
    replace hX := hX.keep hba hX.lt
    replace hY := hY.keep hba hY.lt
    replace hOv := hOv.keep hba hOv.lt
    replace h12 := h12.keep hba h12.lt
    replace hV8 := hV8.keep hba
    replace hvR := hvR.keep hba
    replace hb := hb.trans (ho.below G (by omega))
    replace hP := ho.own hP (by omega)
    replace hQ := ho.own hQ (by omega)
    replace hO8 := ho.own hO8 (by omega)
    replace hX := ho.own hX (by omega)
    replace hY := ho.own hY (by omega)
    replace hOv := ho.own hOv (by omega)
    replace h12 := ho.own h12 (by omega)
    replace hV8 := hV8.only ho (fun e => by have := hq_hV8 _ e; omega)
    replace hvR := hvR.only ho (fun e => by have := hq_hvR _ e; omega)
    clear ho hba hf9 hf2
    generalize hK2 : K1 + ((n2 * 9 : Nat) : Int) = K2 at *
    have hkn : ¬ (K2 < 0) := by omega
    clear hK2
    have hc12 := h12.cell 0
    have hc8 := hO8.cell 0
    go_wp2_with fail
    clear hc12 hc8
    refine (eqForm_c _ _ (hvR.read HVt.out) (hV8.read HVt.out) hVl).mono ?_
    rintro e w11 ⟨rfl, hb7⟩
    replace hb := below_trans' hb hb7 (Nat.le_of_lt hP.lt)
    replace hP := hP.keep hb7 hP.lt
    replace hQ := hQ.keep hb7 hQ.lt
    replace hO8 := hO8.keep hb7 hO8.lt
    replace hX := hX.keep hb7 hX.lt
    replace hY := hY.keep hb7 hY.lt
    replace hOv := hOv.keep hb7 hOv.lt
    replace h12 := h12.keep hb7 h12.lt
    replace hV8 := hV8.keep hb7
    replace hvR := hvR.keep hb7
    clear hb7
    have hc12 := h12.cell 0
    go_wp2_with fail
    clear hc12
    refine (markForm_c c12 hOv hszv hav hVl (by omega) (by omega)).mono ?_
    rintro e w12 ⟨rfl, hOw, ho⟩
    have hba := below_alloc1 w11 (.cells #[.slice a12 nV c12] 29)
    replace hb := below_trans' hb hba (Nat.le_of_lt hP.lt)
    replace hP := hP.keep hba hP.lt
    replace hQ := hQ.keep hba hQ.lt
    replace hO8 := hO8.keep hba hO8.lt
    replace h12 := h12.keep hba h12.lt
    replace hV8 := hV8.keep hba
    replace hb := hb.trans (ho.below G (by omega))
    replace hP := ho.own hP (by omega)
    replace hQ := ho.own hQ (by omega)
    replace hO8 := ho.own hO8 (by omega)
    replace h12 := ho.own h12 (by omega)
    replace hV8 := hV8.only ho (fun e => by have := hq_hV8 _ e; omega)
    clear ho hba hOv hvR hX hY
    generalize hM : (1 : Int) + ((nV * 9 : Nat) : Int) = M at *
    have HM := Lib.hid hM
    have hmn : ¬ (M < 0) := by omega
    clear hM
    have hc12 := h12.cell 0
    go_wp2_with fail
    clear hc12
    refine (heldForm_c c12 hOw hszv hav hVl (by omega) (by omega)).mono ?_
    rintro e w13 ⟨rfl, hb7⟩
    rw [HM.out]
    replace hb := below_trans' hb hb7 (Nat.le_of_lt hP.lt)
    replace hP := hP.keep hb7 hP.lt
    replace hQ := hQ.keep hb7 hQ.lt
    replace hO8 := hO8.keep hb7 hO8.lt
    replace h12 := h12.keep hb7 h12.lt
    replace hOw := hOw.keep hb7 hOw.lt
    replace hV8 := hV8.keep hb7
    clear hb7
    go_upto_region 31 with fail
    go_cut [15, 16] from 17 (fun p e wr => ∃ g av cv, p = .pointer (some ⟨g, 0, none⟩) ∧ e = .int .i64 E ∧ Below w13.heap.size w13 wr ∧ w13.heap.size ≤ g ∧ Own wr g 29 #[.slice av nV cv] ∧ OwnR wr w13.heap.size (.slice av nV cv) V)
    case first =>
      have hbwB : Below w.heap.size w w13 := by rw [HG.out]; exact hb
      have hdB := HD.out.keep hbwB
      have hFB := HF.out.keep hbwB
      have hTB := H2.out.keep hbwB
      have oP := hP
      have oQ := hQ
      have lP := hP.lt
      have lQ := hQ.lt
      have hbb : Below w13.heap.size w13 w13.drew := (Below.refl _ _).drew
      clear hb hbwB hP hQ hO8 hV8 h12 hOw
      go_region_held3 (fun w' => w'.cell? ⟨G, 0, none⟩ = some (.slice da dn dc) ∧ w'.cell? ⟨G, 1, none⟩ = some (.slice a n c) ∧ w'.cell? ⟨G + 1, 0, none⟩ = some (.slice a2 n2 c2)) ((first | with_reducible exact ⟨(oP.keep hbb oP.lt).cell 0, (oP.keep hbb oP.lt).cell 1, (oQ.keep hbb oQ.lt).cell 0⟩ | with_reducible exact ⟨(oP.keep (below_alw hbb hbb.size _) oP.lt).cell 0, (oP.keep (below_alw hbb hbb.size _) oP.lt).cell 1, (oQ.keep (below_alw hbb hbb.size _) oQ.lt).cell 0⟩ | with_reducible exact ⟨(oP.keep (below_ahw _ _) oP.lt).cell 0, (oP.keep (below_ahw _ _) oP.lt).cell 1, (oQ.keep (below_ahw _ _) oQ.lt).cell 0⟩ | exact ⟨(oP.keep hbb oP.lt).cell 0, (oP.keep hbb oP.lt).cell 1, (oQ.keep hbb oQ.lt).cell 0⟩ | exact ⟨(oP.keep (below_alw hbb hbb.size _) oP.lt).cell 0, (oP.keep (below_alw hbb hbb.size _) oP.lt).cell 1, (oQ.keep (below_alw hbb hbb.size _) oQ.lt).cell 0⟩ | exact ⟨(oP.keep (below_ahw _ _) oP.lt).cell 0, (oP.keep (below_ahw _ _) oP.lt).cell 1, (oQ.keep (below_ahw _ _) oQ.lt).cell 0⟩ | exact ⟨((oP.keep hbb oP.lt).far (by dsimp only; omega) _).cell 0, ((oP.keep hbb oP.lt).far (by dsimp only; omega) _).cell 1, ((oQ.keep hbb oQ.lt).far (by dsimp only; omega) _).cell 0⟩ | exact ⟨((oP.keep (below_alw hbb hbb.size _) oP.lt).far (by dsimp only; omega) _).cell 0, ((oP.keep (below_alw hbb hbb.size _) oP.lt).far (by dsimp only; omega) _).cell 1, ((oQ.keep (below_alw hbb hbb.size _) oQ.lt).far (by dsimp only; omega) _).cell 0⟩))
        (first
          | (go_at_call 19; (first | (with_reducible refine (toAlgebra_c dc c (hdB.keep hbb) hdn (hFB.keep hbb) hn HLL.out).mono ?_) | (with_reducible refine (toAlgebra_c dc c (hdB.keep (below_alw hbb hbb.size _)) hdn (hFB.keep (below_alw hbb hbb.size _)) hn HLL.out).mono ?_) | (with_reducible refine (toAlgebra_c dc c (hdB.keep (below_ahw _ _)) hdn (hFB.keep (below_ahw _ _)) hn HLL.out).mono ?_)); rintro e wA ⟨gd, g, gs, rfl, hgd, hdg, hi0, fB, hbA⟩; have hi : Own wA gd 2 ((zs.map (Value.int .i64)).toArray) := hi0; clear hi0; (first | ((have hbb' : Below w13.heap.size w13 wA := by with_reducible exact below_pl hbb hbA hbb.size); (try (have oN := oN.keep hbA oN.lt))) | ((have hbb' : Below w13.heap.size w13 wA := by with_reducible exact below_al hbb hbA hbb.size); have oN := own_al hbA; have hgN := hbb.size) | ((have hbb' : Below w13.heap.size w13 wA := by with_reducible exact below_ah hbA); have oN := own_ah hbA; have hgN := Nat.le_refl w13.heap.size)); clear hbb; have hbb := hbb'; clear hbb')
          | (go_at_call 10; (first | (with_reducible refine (toForm_c c2 (hTB.keep hbb) hn2).mono ?_) | (with_reducible refine (toForm_c c2 (hTB.keep (below_alw hbb hbb.size _)) hn2).mono ?_) | (with_reducible refine (toForm_c c2 (hTB.keep (below_ahw _ _)) hn2).mono ?_)); rintro e wF ⟨g2, rfl, hg2, hf2, hbF⟩; (first | ((have hbb' : Below w13.heap.size w13 wF := by with_reducible exact below_pl hbb hbF hbb.size); (try (have oN := oN.keep hbF oN.lt)); (try (have hi := hi.keep hbF hi.lt)); (try (have fB := fB.keep hbF))) | ((have hbb' : Below w13.heap.size w13 wF := by with_reducible exact below_al hbb hbF hbb.size); have oN := own_al hbF; have hgN := hbb.size; (try (have hi := (hi.alloc _).keep hbF (hi.alloc _).lt)); (try (have fB := (fB.keep (below_alloc1 _ _)).keep hbF))) | ((have hbb' : Below w13.heap.size w13 wF := by with_reducible exact below_ah hbF); have oN := own_ah hbF; have hgN := Nat.le_refl w13.heap.size)); clear hbb; have hbb := hbb'; clear hbb')
          | (go_at_call 20; (first | (with_reducible refine (HCC.out _ _ _ _ _ _ _ hdn hn HLL.out hn2 (ints_of_blk hi HL.out) (FrmsBlk.frms fB HT.out HLL.out HLn.out) (Own.terms hf2 HT2.out HL2.out)).mono ?_) | (with_reducible refine (HCC.out _ _ _ _ _ _ _ hdn hn HLL.out hn2 (ints_of_blk (hi.alloc _) HL.out) (FrmsBlk.frms (fB.keep (below_alloc1 _ _)) HT.out HLL.out HLn.out) (Own.terms (hf2.alloc _) HT2.out HL2.out)).mono ?_)); rintro e wS ⟨v, rfl, hvR, hbS⟩; obtain ⟨av, cv, rfl, -⟩ := OwnR.terms hvR HVt.out HnV.out; (have hvW : OwnR wS w13.heap.size (.slice av nV cv) V := by first | with_reducible exact hvR.weaken hbb.size | with_reducible exact hvR.weaken (below_alw hbb hbb.size _).size | with_reducible exact hvR.weaken (below_ahw _ _).size); (first | (have hne : (Value.slice av nV cv).ownBlock ≠ some _ := fun e => Nat.lt_irrefl _ (Nat.lt_of_lt_of_le oN.lt (hvR.at_ e).1)) | (have hne : (Value.slice av nV cv).ownBlock ≠ some _ := fun e => Nat.lt_irrefl _ (Nat.lt_of_lt_of_le (Own.new _ 29 #[.slice none 0 0]).lt (hvR.at_ e).1)) | skip); (first | ((have hbb' : Below w13.heap.size w13 wS := by with_reducible exact below_pl hbb hbS hbb.size); (try (have oN := oN.keep hbS oN.lt))) | ((have hbb' : Below w13.heap.size w13 wS := by with_reducible exact below_al hbb hbS hbb.size); have oN := own_al hbS; have hgN := hbb.size) | ((have hbb' : Below w13.heap.size w13 wS := by with_reducible exact below_ah hbS); have oN := own_ah hbS; have hgN := Nat.le_refl w13.heap.size)); clear hbb; have hbb := hbb'; clear hbb'; (first | (have cN := oN.cell 0; have fN := oN.frozen 0) | (have oF := Own.new wS 29 #[.slice none 0 0]; have cN := oF.cell 0; have fN := oF.frozen 0))))
      all_goals go_wp2_with fail
      all_goals go_meet
      all_goals (first
        | exact ⟨_, _, _, rfl, rfl, below_alw hbb hbb.size _, hbb.size, Own.new _ _ _, hvW.keep (below_alloc1 _ _)⟩
        | exact ⟨_, _, _, rfl, rfl, hbb.setCell (p := ⟨_, 0, none⟩) hgN _, hgN, oN.set 0 _, hvW.far (p := ⟨_, 0, none⟩) hne _⟩)
    case rest =>
      obtain ⟨g17, a17, c17, rfl, rfl, hbR, -, hO17, hV17⟩ := hcut
      replace hb := below_trans' hb hbR (Nat.le_of_lt hP.lt)
      replace hP := hP.keep hbR hP.lt
      replace hQ := hQ.keep hbR hQ.lt
      replace hO8 := hO8.keep hbR hO8.lt
      replace h12 := h12.keep hbR h12.lt
      replace hOw := hOw.keep hbR hOw.lt
      replace hV8 := hV8.keep hbR
      have hc17 := hO17.cell 0
      have hc8 := hO8.cell 0
      go_wp2_with fail
      clear hc17 hc8
      refine (eqForm_c _ _ (hV17.read HVt.out) (hV8.read HVt.out) hVl).mono ?_
      rintro e w14 ⟨rfl, hb7⟩
      replace hb := below_trans' hb hb7 (Nat.le_of_lt hP.lt)
      replace hP := hP.keep hb7 hP.lt
      replace hQ := hQ.keep hb7 hQ.lt
      replace hO8 := hO8.keep hb7 hO8.lt
      replace h12 := h12.keep hb7 h12.lt
      replace hOw := hOw.keep hb7 hOw.lt
      replace hO17 := hO17.keep hb7 hO17.lt
      replace hV8 := hV8.keep hb7
      replace hV17 := hV17.keep hb7
      clear hb7
      have hc12 := h12.cell 0
      go_wp2_with fail
      clear hc12
      refine (heldForm_c c12 hOw hszv hav hVl (by omega) (by omega)).mono ?_
      rintro e w15 ⟨rfl, hb7⟩
      rw [HM.out]
      replace hb := below_trans' hb hb7 (Nat.le_of_lt hP.lt)
      replace hP := hP.keep hb7 hP.lt
      replace hQ := hQ.keep hb7 hQ.lt
      replace hO8 := hO8.keep hb7 hO8.lt
      replace h12 := h12.keep hb7 h12.lt
      replace hOw := hOw.keep hb7 hOw.lt
      replace hO17 := hO17.keep hb7 hO17.lt
      replace hV8 := hV8.keep hb7
      replace hV17 := hV17.keep hb7
      clear hb7
      go_wp2_with fail
      go_ret
      exact ⟨rfl, by rw [HG.out]; exact hb⟩
end Go.Proofs.Ytbokloflbldikaa
