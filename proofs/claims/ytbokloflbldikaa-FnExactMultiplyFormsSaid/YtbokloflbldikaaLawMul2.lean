
import Derived.Test.YtbokloflbldikaaResult
import Derived.Test.YtbokloflbldikaaLawForm
import Derived.Test.YtbokloflbldikaaMul2
import Derived.Test.YtbokloflbldikaaLawPart
namespace Go.Proofs.Ytbokloflbldikaa
open Go.RowKit Go.Deep
set_option maxHeartbeats 8000000 in
set_option maxRecDepth 100000 in
theorem lawMul2_walk (da : Option Addr) (dn dc : Nat) (zs : List Int) (a0 : Option Addr) (n0 c0 : Nat) (ts0 : List Tm) (a1 : Option Addr) (n1 c1 : Nat) (ts1 : List Tm) (w : World) (hd : Ints w da dn zs) (h0 : Terms w a0 n0 ts0) (hmx0 : (n0 : Int) ≤ 9223372036854775807) (h1 : Terms w a1 n1 ts1) (hmx1 : (n1 : Int) ≤ 9223372036854775807)
    (V : List Tm) (E : Int) (nV : Nat) (hVt : ∀ t ∈ V, IsTm t) (hnV : V.length = nV) (hVl : nV ≤ 1048576)
    (CS : ∀ (w' : World) (da' : Option Addr) (dc' : Nat) (b0 o0 e0 : Nat) (b1 o1 e1 : Nat), dn ≤ 1048576 → n0 ≤ 1048576 → n1 ≤ 1048576 → n0 ≤ e0 → n1 ≤ e1 → Ints w' da' dn zs → Terms w' (some ⟨b0, o0, none⟩) n0 ts0 → Terms w' (some ⟨b1, o1, none⟩) n1 ts1 → Calls Try.prog 8 #[.slice da' dn dc', .agg #[.slice (some ⟨b0, o0, none⟩) n0 e0], .agg #[.slice (some ⟨b1, o1, none⟩) n1 e1]] w' fun e w'' => ∃ v, e = .returned (.tuple #[.agg #[v], .int .i64 E]) ∧ OwnR w'' w'.heap.size v V ∧ Below w'.heap.size w' w'')
    (CC : ∀ (w' : World) (da' : Option Addr) (dc' : Nat) (b0 o0 e0 : Nat) (b1 o1 e1 : Nat), dn ≤ 1048576 → n0 ≤ 1048576 → n1 ≤ 1048576 → n0 ≤ e0 → n1 ≤ e1 → Ints w' da' dn zs → Terms w' (some ⟨b0, o0, none⟩) n0 ts0 → Terms w' (some ⟨b1, o1, none⟩) n1 ts1 → Calls Try.prog 11 #[.slice da' dn dc', .agg #[.slice (some ⟨b0, o0, none⟩) n0 e0], .agg #[.slice (some ⟨b1, o1, none⟩) n1 e1]] w' fun e w'' => ∃ v, e = .returned (.tuple #[.agg #[v], .int .i64 E]) ∧ OwnR w'' w'.heap.size v V ∧ Below w'.heap.size w' w'') :
    Calls Try.prog 3 #[.slice da dn dc, .agg #[.slice a0 n0 c0], .agg #[.slice a1 n1 c1]] w fun e w' => e = .returned (.bool true) ∧ Below w.heap.size w w' := by
  have HL := Lib.hid hd.len
  have HT0 := Lib.hid h0.2.1
  have HLt0 := Lib.hid h0.len
  have HT1 := Lib.hid h1.2.1
  have HLt1 := Lib.hid h1.len
  have HVt := Lib.hid hVt
  have HnV := Lib.hid hnV
  have HCS := Lib.hid CS
  have HCC := Lib.hid CC
  clear CS CC hVt hnV
  have hP0 := (Own.new w 25 #[.slice a0 n0 c0]).alloc (.cells #[.slice a1 n1 c1] 25)
  have hP1 := Own.new (w.alloc (.cells #[.slice a0 n0 c0] 25)) 25 #[.slice a1 n1 c1]
  rw [size_alloc] at hP1
  have hb0 := below_then (below_alloc1 w (.cells #[.slice a0 n0 c0] 25)) (below_alloc1 _ (.cells #[.slice a1 n1 c1] 25))
  by_cases hdn : dn ≤ 1048576
  rotate_left
  · go_enter Try.func3, Try.ntmps3
    go_wp2_with fail
    go_ret
    exact ⟨rfl, hb0⟩
  by_cases hs0 : (n0 : Int) ≤ 1048576
  rotate_left
  · skip
    go_enter Try.func3, Try.ntmps3
    have cP := hP0.cell 0
    go_wp2_with fail
    clear cP
    refine (szForm_c a0 n0 c0 (1048576) (by omega) (by omega) hmx0).mono ?_
    rintro e w1 ⟨rfl, hbz⟩
    rw [if_neg (by omega)]
    go_wp2_with fail
    go_ret
    exact ⟨rfl, below_trans' hb0 hbz hb0.size⟩
  by_cases hs1 : (n1 : Int) ≤ 1048576 - (n0 : Int)
  rotate_left
  · skip
    have hnn0 : ¬ (1048576 - (n0 : Int) < 0) := by omega
    go_enter Try.func3, Try.ntmps3
    have cP := hP0.cell 0
    go_wp2_with fail
    clear cP
    refine (szForm_c a0 n0 c0 (1048576) (by omega) (by omega) hmx0).mono ?_
    rintro e wz0 ⟨rfl, hbz⟩
    rw [if_pos (by omega)]
    replace hP0 := hP0.keep hbz hP0.lt
    replace hP1 := hP1.keep hbz hP1.lt
    replace hb0 := below_trans' hb0 hbz hb0.size
    clear hbz
    have cP := hP1.cell 0
    go_wp2_with fail
    clear cP
    refine (szForm_c a1 n1 c1 (1048576 - (n0 : Int)) (by omega) (by omega) hmx1).mono ?_
    rintro e w1 ⟨rfl, hbz⟩
    rw [if_neg (by omega)]
    go_wp2_with fail
    go_ret
    exact ⟨rfl, below_trans' hb0 hbz hb0.size⟩
  have hn0 : n0 ≤ 1048576 := by omega
  have hnn0 : ¬ (1048576 - (n0 : Int) < 0) := by omega
  have hn1 : n1 ≤ 1048576 := by omega
  have hnn1 : ¬ (1048576 - (n0 : Int) - (n1 : Int) < 0) := by omega
  go_enter Try.func3, Try.ntmps3
  have cP := hP0.cell 0
  go_wp2_with fail
  clear cP
  refine (szForm_c a0 n0 c0 (1048576) (by omega) (by omega) hmx0).mono ?_
  rintro e wz0 ⟨rfl, hbz⟩
  rw [if_pos (by omega)]
  replace hP0 := hP0.keep hbz hP0.lt
  replace hP1 := hP1.keep hbz hP1.lt
  replace hb0 := below_trans' hb0 hbz hb0.size
  clear hbz
  have cP := hP1.cell 0
  go_wp2_with fail
  clear cP
  refine (szForm_c a1 n1 c1 (1048576 - (n0 : Int)) (by omega) (by omega) hmx1).mono ?_
  rintro e wz1 ⟨rfl, hbz⟩
  rw [if_pos (by omega)]
  replace hP0 := hP0.keep hbz hP0.lt
  replace hP1 := hP1.keep hbz hP1.lt
  replace hb0 := below_trans' hb0 hbz hb0.size
  clear hbz
  have hb1 := hb0
  clear hb0
  generalize hG : w.heap.size = G at *
  have HG := Lib.hid hG
  clear hG
  have hc0 := hP0.cell 0
  have hc1 := hP1.cell 0
  go_upto_region 10 with fail
  clear hc0 hc1
  have hGw : G < wz1.heap.size := hP0.lt
  have hbC := hb1
  clear hb1
  go_cut [8, 9] (fun p e wr => ∃ g av cv, p = .pointer (some ⟨g, 0, none⟩) ∧ e = .int .i64 E ∧ Below wz1.heap.size wz1 wr ∧ wz1.heap.size ≤ g ∧ Own wr g 29 #[.slice av nV cv] ∧ OwnR wr wz1.heap.size (.slice av nV cv) V)
  case first =>
    have hdB := hd.keep (hG' HG.out hbC)
    have hB0 := h0.keep (hG' HG.out hbC)
    have oP0 := hP0
    have lP0 := hP0.lt
    have hB1 := h1.keep (hG' HG.out hbC)
    have oP1 := hP1
    have lP1 := hP1.lt
    have hbb : Below wz1.heap.size wz1 wz1.drew := (Below.refl _ _).drew
    clear hbC hP0 hP1 
    go_region_held3 (fun w' => w'.cell? ⟨G, 0, none⟩ = some (.slice a0 n0 c0) ∧ w'.cell? ⟨G + 1, 0, none⟩ = some (.slice a1 n1 c1)) ((first | with_reducible exact ⟨cell0 (oP0.keep hbb oP0.lt), cell0 (oP1.keep hbb oP1.lt)⟩ | with_reducible exact ⟨cell0 (oP0.keep (below_alw hbb hbb.size _) oP0.lt), cell0 (oP1.keep (below_alw hbb hbb.size _) oP1.lt)⟩ | with_reducible exact ⟨cell0 (oP0.keep (below_ahw _ _) oP0.lt), cell0 (oP1.keep (below_ahw _ _) oP1.lt)⟩ | exact ⟨cell0 (((oP0.keep hbb oP0.lt).far (by dsimp only; omega) _)), cell0 (((oP1.keep hbb oP1.lt).far (by dsimp only; omega) _))⟩ | exact ⟨cell0 (((oP0.keep (below_alw hbb hbb.size _) oP0.lt).far (by dsimp only; omega) _)), cell0 (((oP1.keep (below_alw hbb hbb.size _) oP1.lt).far (by dsimp only; omega) _))⟩))
      (first
        | (go_at_call 9; (first | (with_reducible refine (toInt64S_b dc (hdB.keep hbb) hdn).mono ?_) | (with_reducible refine (toInt64S_b dc (hdB.keep (below_alw hbb hbb.size _)) hdn).mono ?_) | (with_reducible refine (toInt64S_b dc (hdB.keep (below_ahw _ _)) hdn).mono ?_)); rintro e wI ⟨g1, rfl, hg1, hi10, hbI⟩; have hi1 : Own wI g1 2 ((zs.map (Value.int .i64)).toArray) := hi10; clear hi10; (first | ((have hbb' : Below wz1.heap.size wz1 wI := by with_reducible exact below_pl hbb hbI hbb.size); (try (have oN := oN.keep hbI oN.lt)); (try (have hf1 := hf1.keep hbI hf1.lt)); (try (have hf2 := hf2.keep hbI hf2.lt))) | ((have hbb' : Below wz1.heap.size wz1 wI := by with_reducible exact below_al hbb hbI hbb.size); have oN := own_al hbI; have hgN := hbb.size; (try (have hf1 := (hf1.alloc _).keep hbI (hf1.alloc _).lt)); (try (have hf2 := (hf2.alloc _).keep hbI (hf2.alloc _).lt))) | ((have hbb' : Below wz1.heap.size wz1 wI := by with_reducible exact below_ah hbI); have oN := own_ah hbI; have hgN := Nat.le_refl wz1.heap.size)); clear hbb; have hbb := hbb'; clear hbb')
        | (go_at_call 10; (first | (with_reducible refine (toForm_c c0 (hB0.keep hbb) hn0).mono ?_) | (with_reducible refine (toForm_c c0 (hB0.keep (below_alw hbb hbb.size _)) hn0).mono ?_) | (with_reducible refine (toForm_c c0 (hB0.keep (below_ahw _ _)) hn0).mono ?_)); rintro e wF0 ⟨g2, rfl, hgf0, hf1, hbF⟩; (first | ((have hbb' : Below wz1.heap.size wz1 wF0 := by with_reducible exact below_pl hbb hbF hbb.size); (try (have oN := oN.keep hbF oN.lt)); (try (have hi1 := hi1.keep hbF hi1.lt)); (try (have hf2 := hf2.keep hbF hf2.lt))) | ((have hbb' : Below wz1.heap.size wz1 wF0 := by with_reducible exact below_al hbb hbF hbb.size); have oN := own_al hbF; have hgN := hbb.size; (try (have hi1 := (hi1.alloc _).keep hbF (hi1.alloc _).lt)); (try (have hf2 := (hf2.alloc _).keep hbF (hf2.alloc _).lt))) | ((have hbb' : Below wz1.heap.size wz1 wF0 := by with_reducible exact below_ah hbF); have oN := own_ah hbF; have hgN := Nat.le_refl wz1.heap.size)); clear hbb; have hbb := hbb'; clear hbb')
        | (go_at_call 10; (first | (with_reducible refine (toForm_c c1 (hB1.keep hbb) hn1).mono ?_) | (with_reducible refine (toForm_c c1 (hB1.keep (below_alw hbb hbb.size _)) hn1).mono ?_) | (with_reducible refine (toForm_c c1 (hB1.keep (below_ahw _ _)) hn1).mono ?_)); rintro e wF1 ⟨g3, rfl, hgf1, hf2, hbF⟩; (first | ((have hbb' : Below wz1.heap.size wz1 wF1 := by with_reducible exact below_pl hbb hbF hbb.size); (try (have oN := oN.keep hbF oN.lt)); (try (have hi1 := hi1.keep hbF hi1.lt)); (try (have hf1 := hf1.keep hbF hf1.lt))) | ((have hbb' : Below wz1.heap.size wz1 wF1 := by with_reducible exact below_al hbb hbF hbb.size); have oN := own_al hbF; have hgN := hbb.size; (try (have hi1 := (hi1.alloc _).keep hbF (hi1.alloc _).lt)); (try (have hf1 := (hf1.alloc _).keep hbF (hf1.alloc _).lt))) | ((have hbb' : Below wz1.heap.size wz1 wF1 := by with_reducible exact below_ah hbF); have oN := own_ah hbF; have hgN := Nat.le_refl wz1.heap.size)); clear hbb; have hbb := hbb'; clear hbb')
        | (go_at_call 8; (first | (with_reducible refine (HCS.out _ _ _ _ _ _ _ _ _ hdn hn0 hn1 (Nat.le_refl _) (Nat.le_refl _) (ints_of_own' hi1 HL.out) (Own.terms hf1 HT0.out HLt0.out) (Own.terms hf2 HT1.out HLt1.out)).mono ?_) | (with_reducible refine (HCS.out _ _ _ _ _ _ _ _ _ hdn hn0 hn1 (Nat.le_refl _) (Nat.le_refl _) (ints_of_own' (hi1.alloc _) HL.out) (Own.terms (hf1.alloc _) HT0.out HLt0.out) (Own.terms (hf2.alloc _) HT1.out HLt1.out)).mono ?_)); rintro e wS ⟨v, rfl, hvR, hbS⟩; obtain ⟨av, cv, rfl, -⟩ := OwnR.terms hvR HVt.out HnV.out; (have hvW : OwnR wS wz1.heap.size (.slice av nV cv) V := by first | with_reducible exact hvR.weaken hbb.size | with_reducible exact hvR.weaken (below_alw hbb hbb.size _).size | with_reducible exact hvR.weaken (below_ahw _ _).size); (first | (have hne : (Value.slice av nV cv).ownBlock ≠ some _ := fun e => Nat.lt_irrefl _ (Nat.lt_of_lt_of_le oN.lt (hvR.at_ e).1)) | (have hne : (Value.slice av nV cv).ownBlock ≠ some _ := fun e => Nat.lt_irrefl _ (Nat.lt_of_lt_of_le (Own.new _ 29 #[.slice none 0 0]).lt (hvR.at_ e).1)) | skip); (first | ((have hbb' : Below wz1.heap.size wz1 wS := by with_reducible exact below_pl hbb hbS hbb.size); (try (have oN := oN.keep hbS oN.lt))) | ((have hbb' : Below wz1.heap.size wz1 wS := by with_reducible exact below_al hbb hbS hbb.size); have oN := own_al hbS; have hgN := hbb.size) | ((have hbb' : Below wz1.heap.size wz1 wS := by with_reducible exact below_ah hbS); have oN := own_ah hbS; have hgN := Nat.le_refl wz1.heap.size)); clear hbb; have hbb := hbb'; clear hbb'; (first | (have cN := oN.cell 0; have fN := oN.frozen 0) | (have oF := Own.new wS 29 #[.slice none 0 0]; have cN := oF.cell 0; have fN := oF.frozen 0))))
    all_goals go_wp2_with fail
    all_goals go_meet
    all_goals (first
      | exact ⟨_, _, _, rfl, rfl, below_alw hbb hbb.size _, hbb.size, Own.new _ _ _, hvW.keep (below_alloc1 _ _)⟩
      | exact ⟨_, _, _, rfl, rfl, hbb.setCell (p := ⟨_, 0, none⟩) hgN _, hgN, oN.set 0 _, hvW.far (p := ⟨_, 0, none⟩) hne _⟩)
  case rest =>
    obtain ⟨g8, a8, c8, rfl, rfl, hbR, hgR, hO8, hV8⟩ := hcut
    have lP0 := hP0.lt
    have lP1 := hP1.lt
    replace hbC := below_trans' hbC hbR (Nat.le_of_lt hP0.lt)
    replace hP0 := hP0.keep hbR hP0.lt
    replace hP1 := hP1.keep hbR hP1.lt
    have hl8 := hO8.lt
    have hq_hV8 := fun q (e : (Value.slice a8 nV c8).ownBlock = some q) => (hV8.at_ e)
    clear hbR
    go_wp2_with fail
    refine (toInt64S_b dc (hd.keep (hG' HG.out hbC)) hdn).mono ?_
    rintro e w2 ⟨g10, rfl, hg10, hi2, hb2⟩
    replace hbC := below_trans' hbC hb2 (Nat.le_of_lt hP0.lt)
    replace hP0 := hP0.keep hb2 hP0.lt
    replace hP1 := hP1.keep hb2 hP1.lt
    replace hO8 := hO8.keep hb2 hO8.lt
    replace hV8 := hV8.keep hb2
    replace hi2 : Own w2 g10 2 ((zs.map (Value.int .i64)).toArray) := hi2
    have hl10 := hi2.lt
    clear hb2
    have hc := hP0.cell 0
    go_wp2_with fail
    clear hc
    refine (toForm_c c0 (h0.keep (hG' HG.out hbC)) hn0).mono ?_
    rintro e w30 ⟨g30, rfl, hg30, hf0, hb3⟩
    replace hbC := below_trans' hbC hb3 (Nat.le_of_lt hP0.lt)
    replace hP0 := hP0.keep hb3 hP0.lt
    replace hP1 := hP1.keep hb3 hP1.lt
    replace hO8 := hO8.keep hb3 hO8.lt
    replace hi2 := hi2.keep hb3 hi2.lt
    replace hV8 := hV8.keep hb3
    clear hb3
    have hl30 := hf0.lt
    have hX0 := Own.new w30 29 #[.slice (some ⟨g30, 0, none⟩) n0 n0]
    have hba := below_alloc1 w30 (.cells #[.slice (some ⟨g30, 0, none⟩) n0 n0] 29)
    replace hbC := below_trans' hbC hba (Nat.le_of_lt hP0.lt)
    replace hP0 := hP0.keep hba hP0.lt
    replace hP1 := hP1.keep hba hP1.lt
    replace hO8 := hO8.keep hba hO8.lt
    replace hi2 := hi2.keep hba hi2.lt
    replace hf0 := hf0.keep hba hf0.lt
    replace hV8 := hV8.keep hba
    clear hba
    have hc9 := hX0.cell 0
    have hcN := hP1.cell 0
    go_wp2_with fail
    clear hc9 hcN
    have hlx0 := size_alloc w30 (.cells #[.slice (some ⟨g30, 0, none⟩) n0 n0] 29)
    generalize w30.alloc (.cells #[.slice (some ⟨g30, 0, none⟩) n0 n0] 29) = w40 at *
    generalize hgx : w30.heap.size = gx0 at *
    clear hgx
    refine (toForm_c c1 (h1.keep (hG' HG.out hbC)) hn1).mono ?_
    rintro e w31 ⟨g31, rfl, hg31, hf1, hb3⟩
    replace hbC := below_trans' hbC hb3 (Nat.le_of_lt hP0.lt)
    replace hP0 := hP0.keep hb3 hP0.lt
    replace hP1 := hP1.keep hb3 hP1.lt
    replace hO8 := hO8.keep hb3 hO8.lt
    replace hi2 := hi2.keep hb3 hi2.lt
    replace hf0 := hf0.keep hb3 hf0.lt
    replace hX0 := hX0.keep hb3 hX0.lt
    replace hV8 := hV8.keep hb3
    clear hb3
    have hl31 := hf1.lt
    have hX1 := Own.new w31 29 #[.slice (some ⟨g31, 0, none⟩) n1 n1]
    have hba := below_alloc1 w31 (.cells #[.slice (some ⟨g31, 0, none⟩) n1 n1] 29)
    replace hbC := below_trans' hbC hba (Nat.le_of_lt hP0.lt)
    replace hP0 := hP0.keep hba hP0.lt
    replace hP1 := hP1.keep hba hP1.lt
    replace hO8 := hO8.keep hba hO8.lt
    replace hi2 := hi2.keep hba hi2.lt
    replace hf0 := hf0.keep hba hf0.lt
    replace hX0 := hX0.keep hba hX0.lt
    replace hf1 := hf1.keep hba hf1.lt
    replace hV8 := hV8.keep hba
    clear hba
    have hc9 := hX1.cell 0
    have hcx0 := hX0.cell 0
    go_wp2_with fail
    clear hc9 hcx0
    have hlx1 := size_alloc w31 (.cells #[.slice (some ⟨g31, 0, none⟩) n1 n1] 29)
    generalize w31.alloc (.cells #[.slice (some ⟨g31, 0, none⟩) n1 n1] 29) = w4 at *
    generalize hgx : w31.heap.size = gx1 at *
    clear hgx
    refine (HCC.out _ _ _ _ _ _ _ _ _ hdn hn0 hn1 (Nat.le_refl _) (Nat.le_refl _) (ints_of_own' hi2 HL.out) (hf0.terms HT0.out HLt0.out) (hf1.terms HT1.out HLt1.out)).mono ?_
    rintro e w5 ⟨v, rfl, hvR, hb5⟩
    obtain ⟨a12, c12, rfl, -⟩ := hvR.terms HVt.out HnV.out
    replace hbC := below_trans' hbC hb5 (Nat.le_of_lt hP0.lt)
    replace hP0 := hP0.keep hb5 hP0.lt
    replace hP1 := hP1.keep hb5 hP1.lt
    replace hO8 := hO8.keep hb5 hO8.lt
    replace hi2 := hi2.keep hb5 hi2.lt
    replace hf0 := hf0.keep hb5 hf0.lt
    replace hX0 := hX0.keep hb5 hX0.lt
    replace hf1 := hf1.keep hb5 hf1.lt
    replace hX1 := hX1.keep hb5 hX1.lt
    replace hV8 := hV8.keep hb5
    obtain ⟨gv, tv, csv, hOv, hszv, hav, hgv⟩ := hvR.block hX1
    have hlv := hOv.lt
    have hs5 := hb5.size
    clear hb5
    have h12 := Own.new w5 29 #[.slice a12 nV c12]
    have hba := below_alloc1 w5 (.cells #[.slice a12 nV c12] 29)
    have hl12 := size_alloc w5 (.cells #[.slice a12 nV c12] 29)
    have hq_hvR := fun q (e : (Value.slice a12 nV c12).ownBlock = some q) => (hvR.at_ e)
    replace hbC := below_trans' hbC hba (Nat.le_of_lt hP0.lt)
    replace hP0 := hP0.keep hba hP0.lt
    replace hP1 := hP1.keep hba hP1.lt
    replace hO8 := hO8.keep hba hO8.lt
    replace hi2 := hi2.keep hba hi2.lt
    replace hf0 := hf0.keep hba hf0.lt
    replace hX0 := hX0.keep hba hX0.lt
    replace hf1 := hf1.keep hba hf1.lt
    replace hX1 := hX1.keep hba hX1.lt
    replace hOv := hOv.keep hba hOv.lt
    replace hV8 := hV8.keep hba
    replace hvR := hvR.keep hba
    clear hba
    have hc12 := h12.cell 0
    have hc8 := hO8.cell 0
    go_wp2_with fail
    clear hc12 hc8
    generalize w5.alloc (.cells #[.slice a12 nV c12] 29) = w6 at *
    generalize hg12 : w5.heap.size = g12 at *
    clear hg12
    refine (eqForm_c _ _ (hvR.read HVt.out) (hV8.read HVt.out) hVl).mono ?_
    rintro e w7 ⟨rfl, hb7⟩
    replace hbC := below_trans' hbC hb7 (Nat.le_of_lt hP0.lt)
    replace hP0 := hP0.keep hb7 hP0.lt
    replace hP1 := hP1.keep hb7 hP1.lt
    replace hO8 := hO8.keep hb7 hO8.lt
    replace hi2 := hi2.keep hb7 hi2.lt
    replace hf0 := hf0.keep hb7 hf0.lt
    replace hX0 := hX0.keep hb7 hX0.lt
    replace hf1 := hf1.keep hb7 hf1.lt
    replace hX1 := hX1.keep hb7 hX1.lt
    replace hOv := hOv.keep hb7 hOv.lt
    replace h12 := h12.keep hb7 h12.lt
    replace hV8 := hV8.keep hb7
    replace hvR := hvR.keep hb7
    clear hb7
    go_wp2_with fail
    refine (toInt64S_b dc (hd.keep (hG' HG.out hbC)) hdn).mono ?_
    rintro e w8 ⟨g13, rfl, -, hi8, hb8⟩
    replace hbC := below_trans' hbC hb8 (Nat.le_of_lt hP0.lt)
    replace hP0 := hP0.keep hb8 hP0.lt
    replace hP1 := hP1.keep hb8 hP1.lt
    replace hO8 := hO8.keep hb8 hO8.lt
    replace hi2 := hi2.keep hb8 hi2.lt
    replace hf0 := hf0.keep hb8 hf0.lt
    replace hX0 := hX0.keep hb8 hX0.lt
    replace hf1 := hf1.keep hb8 hf1.lt
    replace hX1 := hX1.keep hb8 hX1.lt
    replace hOv := hOv.keep hb8 hOv.lt
    replace h12 := h12.keep hb8 h12.lt
    replace hV8 := hV8.keep hb8
    replace hvR := hvR.keep hb8
    clear hb8
    go_wp2_with fail
    refine (eqInt64S_c dn dn (ints_of_own' hi2 HL.out) (hi8.ints' HL.out) hdn hdn).mono ?_
    rintro e w9 ⟨rfl, q, rfl⟩
    have hdr : Below w8.heap.size w8 (w8.drewN q) := below_drewN (Below.refl _ _) q
    replace hbC := below_trans' hbC hdr (Nat.le_of_lt hP0.lt)
    replace hP0 := hP0.keep hdr hP0.lt
    replace hP1 := hP1.keep hdr hP1.lt
    replace hO8 := hO8.keep hdr hO8.lt
    replace hi2 := hi2.keep hdr hi2.lt
    replace hf0 := hf0.keep hdr hf0.lt
    replace hX0 := hX0.keep hdr hX0.lt
    replace hf1 := hf1.keep hdr hf1.lt
    replace hX1 := hX1.keep hdr hX1.lt
    replace hOv := hOv.keep hdr hOv.lt
    replace h12 := h12.keep hdr h12.lt
    replace hV8 := hV8.keep hdr
    replace hvR := hvR.keep hdr
    clear hdr hi8
    generalize w8.drewN q = w10 at *
    go_upto_region 19 with fail
    have hdr : Below w10.heap.size w10 w10.drew := (Below.refl _ _).drew
    replace hbC := below_trans' hbC hdr (Nat.le_of_lt hP0.lt)
    replace hP0 := hP0.keep hdr hP0.lt
    replace hP1 := hP1.keep hdr hP1.lt
    replace hO8 := hO8.keep hdr hO8.lt
    replace hi2 := hi2.keep hdr hi2.lt
    replace hf0 := hf0.keep hdr hf0.lt
    replace hX0 := hX0.keep hdr hX0.lt
    replace hf1 := hf1.keep hdr hf1.lt
    replace hX1 := hX1.keep hdr hX1.lt
    replace hOv := hOv.keep hdr hOv.lt
    replace h12 := h12.keep hdr h12.lt
    replace hV8 := hV8.keep hdr
    replace hvR := hvR.keep hdr
    clear hdr
    go_region_held3 (fun w' => w'.cell? ⟨gx0, 0, none⟩ = some (.slice (some ⟨g30, 0, none⟩) n0 n0) ∧ w'.cell? ⟨G, 0, none⟩ = some (.slice a0 n0 c0)) (exact ⟨hX0.cell 0, hP0.cell 0⟩)
      (first
        | (go_at_call 10; refine (toForm_c c0 (h0.keep (hG' HG.out hbC)) hn0).mono ?_; rintro e wF ⟨gg, rfl, hgg, hfg, hbF⟩; replace hbC := below_trans' hbC hbF (Nat.le_of_lt hP0.lt); replace hP0 := hP0.keep hbF hP0.lt; replace hP1 := hP1.keep hbF hP1.lt; replace hO8 := hO8.keep hbF hO8.lt; replace hi2 := hi2.keep hbF hi2.lt; replace hf0 := hf0.keep hbF hf0.lt; replace hX0 := hX0.keep hbF hX0.lt; replace hf1 := hf1.keep hbF hf1.lt; replace hX1 := hX1.keep hbF hX1.lt; replace hOv := hOv.keep hbF hOv.lt; replace h12 := h12.keep hbF h12.lt; replace hV8 := hV8.keep hbF; replace hvR := hvR.keep hbF; clear hbF)
        | (go_at_call 12; refine (eqForm_c n0 n0 (hf0.terms HT0.out HLt0.out) (hfg.terms HT0.out HLt0.out) hn0).mono ?_; rintro e we0 ⟨rfl, hbF⟩; replace hbC := below_trans' hbC hbF (Nat.le_of_lt hP0.lt); replace hP0 := hP0.keep hbF hP0.lt; replace hP1 := hP1.keep hbF hP1.lt; replace hO8 := hO8.keep hbF hO8.lt; replace hi2 := hi2.keep hbF hi2.lt; replace hf0 := hf0.keep hbF hf0.lt; replace hX0 := hX0.keep hbF hX0.lt; replace hf1 := hf1.keep hbF hf1.lt; replace hX1 := hX1.keep hbF hX1.lt; replace hOv := hOv.keep hbF hOv.lt; replace h12 := h12.keep hbF h12.lt; replace hV8 := hV8.keep hbF; replace hvR := hvR.keep hbF; clear hbF hfg))
    go_upto_region 21 with fail
    have hdr : Below we0.heap.size we0 we0.drew := (Below.refl _ _).drew
    replace hbC := below_trans' hbC hdr (Nat.le_of_lt hP0.lt)
    replace hP0 := hP0.keep hdr hP0.lt
    replace hP1 := hP1.keep hdr hP1.lt
    replace hO8 := hO8.keep hdr hO8.lt
    replace hi2 := hi2.keep hdr hi2.lt
    replace hf0 := hf0.keep hdr hf0.lt
    replace hX0 := hX0.keep hdr hX0.lt
    replace hf1 := hf1.keep hdr hf1.lt
    replace hX1 := hX1.keep hdr hX1.lt
    replace hOv := hOv.keep hdr hOv.lt
    replace h12 := h12.keep hdr h12.lt
    replace hV8 := hV8.keep hdr
    replace hvR := hvR.keep hdr
    clear hdr
    go_region_held3 (fun w' => w'.cell? ⟨gx1, 0, none⟩ = some (.slice (some ⟨g31, 0, none⟩) n1 n1) ∧ w'.cell? ⟨G + 1, 0, none⟩ = some (.slice a1 n1 c1)) (exact ⟨hX1.cell 0, hP1.cell 0⟩)
      (first
        | (go_at_call 10; refine (toForm_c c1 (h1.keep (hG' HG.out hbC)) hn1).mono ?_; rintro e wF ⟨gg, rfl, hgg, hfg, hbF⟩; replace hbC := below_trans' hbC hbF (Nat.le_of_lt hP0.lt); replace hP0 := hP0.keep hbF hP0.lt; replace hP1 := hP1.keep hbF hP1.lt; replace hO8 := hO8.keep hbF hO8.lt; replace hi2 := hi2.keep hbF hi2.lt; replace hf0 := hf0.keep hbF hf0.lt; replace hX0 := hX0.keep hbF hX0.lt; replace hf1 := hf1.keep hbF hf1.lt; replace hX1 := hX1.keep hbF hX1.lt; replace hOv := hOv.keep hbF hOv.lt; replace h12 := h12.keep hbF h12.lt; replace hV8 := hV8.keep hbF; replace hvR := hvR.keep hbF; clear hbF)
        | (go_at_call 12; refine (eqForm_c n1 n1 (hf1.terms HT1.out HLt1.out) (hfg.terms HT1.out HLt1.out) hn1).mono ?_; rintro e we1 ⟨rfl, hbF⟩; replace hbC := below_trans' hbC hbF (Nat.le_of_lt hP0.lt); replace hP0 := hP0.keep hbF hP0.lt; replace hP1 := hP1.keep hbF hP1.lt; replace hO8 := hO8.keep hbF hO8.lt; replace hi2 := hi2.keep hbF hi2.lt; replace hf0 := hf0.keep hbF hf0.lt; replace hX0 := hX0.keep hbF hX0.lt; replace hf1 := hf1.keep hbF hf1.lt; replace hX1 := hX1.keep hbF hX1.lt; replace hOv := hOv.keep hbF hOv.lt; replace h12 := h12.keep hbF h12.lt; replace hV8 := hV8.keep hbF; replace hvR := hvR.keep hbF; clear hbF hfg))
    go_wp2_with fail
    refine (markInt64S_c dn hi2 (by simp [HL.out]) (fun _ => rfl) hdn (by omega) (by omega)).mono ?_
    rintro e wm0 ⟨rfl, hi9, ho⟩
    replace hbC := hbC.trans (ho.below G (by omega))
    replace hP0 := ho.own hP0 (by omega)
    replace hP1 := ho.own hP1 (by omega)
    replace hO8 := ho.own hO8 (by omega)
    replace hf0 := ho.own hf0 (by omega)
    replace hX0 := ho.own hX0 (by omega)
    replace hf1 := ho.own hf1 (by omega)
    replace hX1 := ho.own hX1 (by omega)
    replace hOv := ho.own hOv (by omega)
    replace h12 := ho.own h12 (by omega)
    replace hV8 := hV8.only ho (fun e => by have := hq_hV8 _ e; omega)
    replace hvR := hvR.only ho (fun e => by have := hq_hvR _ e; omega)
    clear ho hi2 hi9
    generalize hK0 : (1 : Int) + (dn : Int) = K0 at *
    have hcx := hX0.cell 0
    go_wp2_with fail
    clear hcx
    refine (markForm_c n0 hf0 (by rw [show (rcells ts0).toArray.size = n0 * 9 by rw [List.size_toArray, rcells_length HT0.out, HLt0.out]]; exact Nat.le_refl _) (fun _ => rfl) hn0 (by omega) (by omega)).mono ?_
    rintro e wn0 ⟨rfl, hf9, ho⟩
    have hba := below_alloc1 wm0 (.cells #[.slice (some ⟨g30, 0, none⟩) n0 n0] 29)
    replace hbC := below_trans' hbC hba (Nat.le_of_lt hP0.lt)
    replace hP0 := hP0.keep hba hP0.lt
    replace hP1 := hP1.keep hba hP1.lt
    replace hO8 := hO8.keep hba hO8.lt
    replace hX0 := hX0.keep hba hX0.lt
    replace hf1 := hf1.keep hba hf1.lt
    replace hX1 := hX1.keep hba hX1.lt
    replace hOv := hOv.keep hba hOv.lt
    replace h12 := h12.keep hba h12.lt
    replace hV8 := hV8.keep hba
    replace hvR := hvR.keep hba
    replace hbC := hbC.trans (ho.below G (by omega))
    replace hP0 := ho.own hP0 (by omega)
    replace hP1 := ho.own hP1 (by omega)
    replace hO8 := ho.own hO8 (by omega)
    replace hX0 := ho.own hX0 (by omega)
    replace hf1 := ho.own hf1 (by omega)
    replace hX1 := ho.own hX1 (by omega)
    replace hOv := ho.own hOv (by omega)
    replace h12 := ho.own h12 (by omega)
    replace hV8 := hV8.only ho (fun e => by have := hq_hV8 _ e; omega)
    replace hvR := hvR.only ho (fun e => by have := hq_hvR _ e; omega)
    clear ho hba hf9 hf0
    generalize hK1 : K0 + ((n0 * 9 : Nat) : Int) = K1 at *
    have hcx := hX1.cell 0
    go_wp2_with fail
    clear hcx
    refine (markForm_c n1 hf1 (by rw [show (rcells ts1).toArray.size = n1 * 9 by rw [List.size_toArray, rcells_length HT1.out, HLt1.out]]; exact Nat.le_refl _) (fun _ => rfl) hn1 (by omega) (by omega)).mono ?_
    rintro e wn1 ⟨rfl, hf9, ho⟩
    have hba := below_alloc1 wn0 (.cells #[.slice (some ⟨g31, 0, none⟩) n1 n1] 29)
    replace hbC := below_trans' hbC hba (Nat.le_of_lt hP0.lt)
    replace hP0 := hP0.keep hba hP0.lt
    replace hP1 := hP1.keep hba hP1.lt
    replace hO8 := hO8.keep hba hO8.lt
    replace hX0 := hX0.keep hba hX0.lt
    replace hX1 := hX1.keep hba hX1.lt
    replace hOv := hOv.keep hba hOv.lt
    replace h12 := h12.keep hba h12.lt
    replace hV8 := hV8.keep hba
    replace hvR := hvR.keep hba
    replace hbC := hbC.trans (ho.below G (by omega))
    replace hP0 := ho.own hP0 (by omega)
    replace hP1 := ho.own hP1 (by omega)
    replace hO8 := ho.own hO8 (by omega)
    replace hX0 := ho.own hX0 (by omega)
    replace hX1 := ho.own hX1 (by omega)
    replace hOv := ho.own hOv (by omega)
    replace h12 := ho.own h12 (by omega)
    replace hV8 := hV8.only ho (fun e => by have := hq_hV8 _ e; omega)
    replace hvR := hvR.only ho (fun e => by have := hq_hvR _ e; omega)
    clear ho hba hf9 hf1
    generalize hK2 : K1 + ((n1 * 9 : Nat) : Int) = K2 at *
    have hkn : ¬ (K2 < 0) := by omega
    have hc12 := h12.cell 0
    have hc8 := hO8.cell 0
    go_wp2_with fail
    clear hc12 hc8
    refine (eqForm_c _ _ (hvR.read HVt.out) (hV8.read HVt.out) hVl).mono ?_
    rintro e w11 ⟨rfl, hb7⟩
    replace hbC := below_trans' hbC hb7 (Nat.le_of_lt hP0.lt)
    replace hP0 := hP0.keep hb7 hP0.lt
    replace hP1 := hP1.keep hb7 hP1.lt
    replace hO8 := hO8.keep hb7 hO8.lt
    replace hX0 := hX0.keep hb7 hX0.lt
    replace hX1 := hX1.keep hb7 hX1.lt
    replace hOv := hOv.keep hb7 hOv.lt
    replace h12 := h12.keep hb7 h12.lt
    replace hV8 := hV8.keep hb7
    replace hvR := hvR.keep hb7
    clear hb7
    have hc12 := h12.cell 0
    go_wp2_with fail
    clear hc12
    refine (markForm_c c12 hOv hszv hav hVl (by omega) (by omega)).mono ?_
    rintro e w12 ⟨rfl, hOw, ho⟩
    have hba := below_alloc1 w11 (.cells #[.slice a12 nV c12] 29)
    replace hbC := below_trans' hbC hba (Nat.le_of_lt hP0.lt)
    replace hP0 := hP0.keep hba hP0.lt
    replace hP1 := hP1.keep hba hP1.lt
    replace hO8 := hO8.keep hba hO8.lt
    replace h12 := h12.keep hba h12.lt
    replace hV8 := hV8.keep hba
    replace hbC := hbC.trans (ho.below G (by omega))
    replace hP0 := ho.own hP0 (by omega)
    replace hP1 := ho.own hP1 (by omega)
    replace hO8 := ho.own hO8 (by omega)
    replace h12 := ho.own h12 (by omega)
    replace hV8 := hV8.only ho (fun e => by have := hq_hV8 _ e; omega)
    clear ho hba hOv hvR hX0 hX1
    generalize hM : (1 : Int) + ((nV * 9 : Nat) : Int) = M at *
    have HM := Lib.hid hM
    have hmn : ¬ (M < 0) := by omega
    clear hM
    have hc12 := h12.cell 0
    go_wp2_with fail
    clear hc12
    refine (heldForm_c c12 hOw hszv hav hVl (by omega) (by omega)).mono ?_
    rintro e w13 ⟨rfl, hb7⟩
    rw [HM.out]
    replace hbC := below_trans' hbC hb7 (Nat.le_of_lt hP0.lt)
    replace hP0 := hP0.keep hb7 hP0.lt
    replace hP1 := hP1.keep hb7 hP1.lt
    replace hO8 := hO8.keep hb7 hO8.lt
    replace h12 := h12.keep hb7 h12.lt
    replace hOw := hOw.keep hb7 hOw.lt
    replace hV8 := hV8.keep hb7
    clear hb7
    have hc0 := hP0.cell 0
    have hc1 := hP1.cell 0
    go_upto_region 37 with fail
    clear hc0 hc1
    go_cut [18, 19] (fun p e wr => ∃ g av cv, p = .pointer (some ⟨g, 0, none⟩) ∧ e = .int .i64 E ∧ Below w13.heap.size w13 wr ∧ w13.heap.size ≤ g ∧ Own wr g 29 #[.slice av nV cv] ∧ OwnR wr w13.heap.size (.slice av nV cv) V)
    case first =>
      have hdB := hd.keep (hG' HG.out hbC)
      have hB0 := h0.keep (hG' HG.out hbC)
      have oP0 := hP0
      have lP0 := hP0.lt
      have hB1 := h1.keep (hG' HG.out hbC)
      have oP1 := hP1
      have lP1 := hP1.lt
      have hbb : Below w13.heap.size w13 w13.drew := (Below.refl _ _).drew
      clear hbC hP0 hP1 hO8 hV8 h12 hOw
      go_region_held3 (fun w' => w'.cell? ⟨G, 0, none⟩ = some (.slice a0 n0 c0) ∧ w'.cell? ⟨G + 1, 0, none⟩ = some (.slice a1 n1 c1)) ((first | with_reducible exact ⟨cell0 (oP0.keep hbb oP0.lt), cell0 (oP1.keep hbb oP1.lt)⟩ | with_reducible exact ⟨cell0 (oP0.keep (below_alw hbb hbb.size _) oP0.lt), cell0 (oP1.keep (below_alw hbb hbb.size _) oP1.lt)⟩ | with_reducible exact ⟨cell0 (oP0.keep (below_ahw _ _) oP0.lt), cell0 (oP1.keep (below_ahw _ _) oP1.lt)⟩ | exact ⟨cell0 (((oP0.keep hbb oP0.lt).far (by dsimp only; omega) _)), cell0 (((oP1.keep hbb oP1.lt).far (by dsimp only; omega) _))⟩ | exact ⟨cell0 (((oP0.keep (below_alw hbb hbb.size _) oP0.lt).far (by dsimp only; omega) _)), cell0 (((oP1.keep (below_alw hbb hbb.size _) oP1.lt).far (by dsimp only; omega) _))⟩))
        (first
          | (go_at_call 9; (first | (with_reducible refine (toInt64S_b dc (hdB.keep hbb) hdn).mono ?_) | (with_reducible refine (toInt64S_b dc (hdB.keep (below_alw hbb hbb.size _)) hdn).mono ?_) | (with_reducible refine (toInt64S_b dc (hdB.keep (below_ahw _ _)) hdn).mono ?_)); rintro e wI ⟨g1, rfl, hg1, hi10, hbI⟩; have hi1 : Own wI g1 2 ((zs.map (Value.int .i64)).toArray) := hi10; clear hi10; (first | ((have hbb' : Below w13.heap.size w13 wI := by with_reducible exact below_pl hbb hbI hbb.size); (try (have oN := oN.keep hbI oN.lt)); (try (have hf1 := hf1.keep hbI hf1.lt)); (try (have hf2 := hf2.keep hbI hf2.lt))) | ((have hbb' : Below w13.heap.size w13 wI := by with_reducible exact below_al hbb hbI hbb.size); have oN := own_al hbI; have hgN := hbb.size; (try (have hf1 := (hf1.alloc _).keep hbI (hf1.alloc _).lt)); (try (have hf2 := (hf2.alloc _).keep hbI (hf2.alloc _).lt))) | ((have hbb' : Below w13.heap.size w13 wI := by with_reducible exact below_ah hbI); have oN := own_ah hbI; have hgN := Nat.le_refl w13.heap.size)); clear hbb; have hbb := hbb'; clear hbb')
          | (go_at_call 10; (first | (with_reducible refine (toForm_c c0 (hB0.keep hbb) hn0).mono ?_) | (with_reducible refine (toForm_c c0 (hB0.keep (below_alw hbb hbb.size _)) hn0).mono ?_) | (with_reducible refine (toForm_c c0 (hB0.keep (below_ahw _ _)) hn0).mono ?_)); rintro e wF0 ⟨g2, rfl, hgf0, hf1, hbF⟩; (first | ((have hbb' : Below w13.heap.size w13 wF0 := by with_reducible exact below_pl hbb hbF hbb.size); (try (have oN := oN.keep hbF oN.lt)); (try (have hi1 := hi1.keep hbF hi1.lt)); (try (have hf2 := hf2.keep hbF hf2.lt))) | ((have hbb' : Below w13.heap.size w13 wF0 := by with_reducible exact below_al hbb hbF hbb.size); have oN := own_al hbF; have hgN := hbb.size; (try (have hi1 := (hi1.alloc _).keep hbF (hi1.alloc _).lt)); (try (have hf2 := (hf2.alloc _).keep hbF (hf2.alloc _).lt))) | ((have hbb' : Below w13.heap.size w13 wF0 := by with_reducible exact below_ah hbF); have oN := own_ah hbF; have hgN := Nat.le_refl w13.heap.size)); clear hbb; have hbb := hbb'; clear hbb')
          | (go_at_call 10; (first | (with_reducible refine (toForm_c c1 (hB1.keep hbb) hn1).mono ?_) | (with_reducible refine (toForm_c c1 (hB1.keep (below_alw hbb hbb.size _)) hn1).mono ?_) | (with_reducible refine (toForm_c c1 (hB1.keep (below_ahw _ _)) hn1).mono ?_)); rintro e wF1 ⟨g3, rfl, hgf1, hf2, hbF⟩; (first | ((have hbb' : Below w13.heap.size w13 wF1 := by with_reducible exact below_pl hbb hbF hbb.size); (try (have oN := oN.keep hbF oN.lt)); (try (have hi1 := hi1.keep hbF hi1.lt)); (try (have hf1 := hf1.keep hbF hf1.lt))) | ((have hbb' : Below w13.heap.size w13 wF1 := by with_reducible exact below_al hbb hbF hbb.size); have oN := own_al hbF; have hgN := hbb.size; (try (have hi1 := (hi1.alloc _).keep hbF (hi1.alloc _).lt)); (try (have hf1 := (hf1.alloc _).keep hbF (hf1.alloc _).lt))) | ((have hbb' : Below w13.heap.size w13 wF1 := by with_reducible exact below_ah hbF); have oN := own_ah hbF; have hgN := Nat.le_refl w13.heap.size)); clear hbb; have hbb := hbb'; clear hbb')
          | (go_at_call 11; (first | (with_reducible refine (HCC.out _ _ _ _ _ _ _ _ _ hdn hn0 hn1 (Nat.le_refl _) (Nat.le_refl _) (ints_of_own' hi1 HL.out) (Own.terms hf1 HT0.out HLt0.out) (Own.terms hf2 HT1.out HLt1.out)).mono ?_) | (with_reducible refine (HCC.out _ _ _ _ _ _ _ _ _ hdn hn0 hn1 (Nat.le_refl _) (Nat.le_refl _) (ints_of_own' (hi1.alloc _) HL.out) (Own.terms (hf1.alloc _) HT0.out HLt0.out) (Own.terms (hf2.alloc _) HT1.out HLt1.out)).mono ?_)); rintro e wS ⟨v, rfl, hvR, hbS⟩; obtain ⟨av, cv, rfl, -⟩ := OwnR.terms hvR HVt.out HnV.out; (have hvW : OwnR wS w13.heap.size (.slice av nV cv) V := by first | with_reducible exact hvR.weaken hbb.size | with_reducible exact hvR.weaken (below_alw hbb hbb.size _).size | with_reducible exact hvR.weaken (below_ahw _ _).size); (first | (have hne : (Value.slice av nV cv).ownBlock ≠ some _ := fun e => Nat.lt_irrefl _ (Nat.lt_of_lt_of_le oN.lt (hvR.at_ e).1)) | (have hne : (Value.slice av nV cv).ownBlock ≠ some _ := fun e => Nat.lt_irrefl _ (Nat.lt_of_lt_of_le (Own.new _ 29 #[.slice none 0 0]).lt (hvR.at_ e).1)) | skip); (first | ((have hbb' : Below w13.heap.size w13 wS := by with_reducible exact below_pl hbb hbS hbb.size); (try (have oN := oN.keep hbS oN.lt))) | ((have hbb' : Below w13.heap.size w13 wS := by with_reducible exact below_al hbb hbS hbb.size); have oN := own_al hbS; have hgN := hbb.size) | ((have hbb' : Below w13.heap.size w13 wS := by with_reducible exact below_ah hbS); have oN := own_ah hbS; have hgN := Nat.le_refl w13.heap.size)); clear hbb; have hbb := hbb'; clear hbb'; (first | (have cN := oN.cell 0; have fN := oN.frozen 0) | (have oF := Own.new wS 29 #[.slice none 0 0]; have cN := oF.cell 0; have fN := oF.frozen 0))))
      all_goals go_wp2_with fail
      all_goals go_meet
      all_goals (first
        | exact ⟨_, _, _, rfl, rfl, below_alw hbb hbb.size _, hbb.size, Own.new _ _ _, hvW.keep (below_alloc1 _ _)⟩
        | exact ⟨_, _, _, rfl, rfl, hbb.setCell (p := ⟨_, 0, none⟩) hgN _, hgN, oN.set 0 _, hvW.far (p := ⟨_, 0, none⟩) hne _⟩)
    case rest =>
      obtain ⟨g17, a17, c17, rfl, rfl, hbR, -, hO17, hV17⟩ := hcut
      replace hbC := below_trans' hbC hbR (Nat.le_of_lt hP0.lt)
      replace hP0 := hP0.keep hbR hP0.lt
      replace hP1 := hP1.keep hbR hP1.lt
      replace hO8 := hO8.keep hbR hO8.lt
      replace h12 := h12.keep hbR h12.lt
      replace hOw := hOw.keep hbR hOw.lt
      replace hV8 := hV8.keep hbR
      have hc17 := hO17.cell 0
      have hc8 := hO8.cell 0
      go_wp2_with fail
      clear hc17 hc8
      refine (eqForm_c _ _ (hV17.read HVt.out) (hV8.read HVt.out) hVl).mono ?_
      rintro e w14 ⟨rfl, hb7⟩
      replace hbC := below_trans' hbC hb7 (Nat.le_of_lt hP0.lt)
      replace hP0 := hP0.keep hb7 hP0.lt
      replace hP1 := hP1.keep hb7 hP1.lt
      replace hO8 := hO8.keep hb7 hO8.lt
      replace h12 := h12.keep hb7 h12.lt
      replace hOw := hOw.keep hb7 hOw.lt
      replace hO17 := hO17.keep hb7 hO17.lt
      replace hV8 := hV8.keep hb7
      replace hV17 := hV17.keep hb7
      clear hb7
      have hc12 := h12.cell 0
      go_wp2_with fail
      clear hc12
      refine (heldForm_c c12 hOw hszv hav hVl (by omega) (by omega)).mono ?_
      rintro e w15 ⟨rfl, hb7⟩
      rw [HM.out]
      replace hbC := below_trans' hbC hb7 (Nat.le_of_lt hP0.lt)
      replace hP0 := hP0.keep hb7 hP0.lt
      replace hP1 := hP1.keep hb7 hP1.lt
      replace hO8 := hO8.keep hb7 hO8.lt
      replace h12 := h12.keep hb7 h12.lt
      replace hOw := hOw.keep hb7 hOw.lt
      replace hO17 := hO17.keep hb7 hO17.lt
      replace hV8 := hV8.keep hb7
      replace hV17 := hV17.keep hb7
      clear hb7
      go_wp2_with fail
      go_ret
      exact ⟨rfl, by rw [HG.out]; exact hbC⟩
theorem prodV_400 {zs : List Int} {fs gs : List Tm} : (prodV zs fs gs).length ≤ 400 := by
  unfold prodV
  split
  · rename_i h
    have := h.2.2
    simp only [Bool.and_eq_true, decide_eq_true_eq] at this
    exact this.2
  · simp
theorem prodV_tm {zs : List Int} {fs gs : List Tm} (h1 : ∀ t ∈ fs, IsTm t) (h2 : ∀ t ∈ gs, IsTm t) : ∀ t ∈ prodV zs fs gs, IsTm t := by
  intro t ht
  unfold prodV at ht
  split at ht
  · rename_i h
    exact (two_of (isForm_degs h.1) h.1 h.2.1 h1 h2).tm t ht
  · simp at ht
theorem multiplyForms_walk (da : Option Addr) (dn dc : Nat) (zs : List Int) (a1 : Option Addr) (n1 c1 : Nat) (fs : List Tm) (a2 : Option Addr) (n2 c2 : Nat) (gs : List Tm) (w : World) (hd : Ints w da dn zs) (h1 : Terms w a1 n1 fs) (hm1 : (n1 : Int) ≤ 9223372036854775807) (h2 : Terms w a2 n2 gs) (hm2 : (n2 : Int) ≤ 9223372036854775807) :
    Calls Try.prog 3 #[.slice da dn dc, .agg #[.slice a1 n1 c1], .agg #[.slice a2 n2 c2]] w fun e w' => e = .returned (.bool true) ∧ Below w.heap.size w w' :=
  lawMul2_walk da dn dc zs a1 n1 c1 fs a2 n2 c2 gs w hd h1 hm1 h2 hm2 (prodV zs fs gs) (prodE zs fs gs) _ (prodV_tm h1.2.1 h2.2.1) rfl (Nat.le_trans prodV_400 (by decide))
    (fun _ _ _ _ _ _ _ _ _ h1 h2 h3 _ _ hI hT hU => (MultiplyForms_s _ _ _ hI h1 hT h2 hU h3).mono fun _ _ ⟨v, he, ho, hb⟩ => ⟨v, he, ho, hb⟩)
    (fun _ _ _ _ _ _ _ _ _ h1 h2 h3 h4 h5 hI hT hU => (MultiplyForms_c _ _ _ hI h1 hT h2 hU h3).mono fun _ _ ⟨v, he, ho, hb⟩ => ⟨v, he, ho, hb⟩)
end Go.Proofs.Ytbokloflbldikaa
