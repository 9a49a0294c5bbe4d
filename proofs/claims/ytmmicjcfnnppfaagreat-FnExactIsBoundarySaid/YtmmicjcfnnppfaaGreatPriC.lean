
import Derived.Test.YtmmicjcfnnppfaaGreatHomS
import Derived.Test.YtmmicjcfnnppfaaGreatCohG
namespace Go.Proofs.YtmmicjcfnnppfaaGreat
set_option maxRecDepth 100000
open Go.RowKit Go.Deep
set_option maxHeartbeats 4000000 in
theorem PrimitiveOf_c {w : World} {da : Option Addr} {dn : Nat} {zs : List Int} {a : Option Addr} {n : Nat} {ims : List (List Tm)} {a2 : Option Addr} {n2 : Nat} {fs : List Tm} (dc c c2 : Nat) (hd : Ints w da dn zs) (hdn : dn ≤ 1048576) (hF : Frms w a n ims) (hn : n ≤ 1048576) (hL : ∀ im ∈ ims, (im.length : Int) ≤ 1048576) (h : Terms w a2 n2 fs) (hn2 : n2 ≤ 1048576) :
    Calls Tryz.prog 38 #[.agg #[.slice da dn dc, .slice a n c], .agg #[.slice a2 n2 c2]] w fun e w' => ∃ v, e = .returned (.tuple #[.agg #[v], .int .i64 (poC zs ims fs)]) ∧ OwnR w' w.heap.size v (pmV zs ims fs) ∧ Below w.heap.size w w' := by
 have HLL := Lib.hid hL
 have HD := Lib.hid hd
 have HF := Lib.hid hF
 have HH := Lib.hid h
 have HTM := Lib.hid h.2.1
 have HT := Lib.hid hF.tm
 have hO := ((Own.new w 31 #[.slice da dn dc, .slice a n c]).alloc (.cells #[.slice a2 n2 c2] 46)).alloc (.cells #[.slice none 0 0] 46)
 have hG := (Own.new (w.alloc (.cells #[.slice da dn dc, .slice a n c] 31)) 46 #[.slice a2 n2 c2]).alloc (.cells #[.slice none 0 0] 46)
 have hX := Own.new ((w.alloc (.cells #[.slice da dn dc, .slice a n c] 31)).alloc (.cells #[.slice a2 n2 c2] 46)) 46 #[.slice none 0 0]
 simp only [size_alloc] at hG hX
 have hb := below_then (below_then (bA1 w (.cells #[.slice da dn dc, .slice a n c] 31)) (bA1 _ (.cells #[.slice a2 n2 c2] 46))) (bA1 _ (.cells #[.slice none 0 0] 46))
 have c0 := hO.cell 0
 have c1 := hO.cell 1
 have cg := hG.cell 0
 clear hL hd hF h
 go_enter Tryz.func38, Tryz.ntmps38
 go_upto_region 1 with fail
 generalize ((w.alloc (.cells #[.slice da dn dc, .slice a n c] 31)).alloc (.cells #[.slice a2 n2 c2] 46)).alloc (.cells #[.slice none 0 0] 46) = w0 at *
 obtain ⟨gX, hgX⟩ : ∃ gX, w.heap.size + 1 + 1 = gX := ⟨_, rfl⟩
 rw [hgX] at hX
 try rw [hgX]
 have hgx1 : w.heap.size ≤ gX := by omega
 have hgx2 : w.heap.size + 1 < gX := by omega
 clear hgX
 go_wp2_with fail
 refine (askedDegreeOf_c dc c c2 (HD.out.keep hb) hdn (HF.out.keep hb) hn HLL.out (HH.out.keep hb) hn2).mono ?_
 rintro e w2 ⟨rfl, hbX⟩
 have hs := hb.size
 replace hO := hO.keep hbX hO.lt
 replace hG := hG.keep hbX hG.lt
 replace hX := hX.keep hbX hX.lt
 replace hb := bT' hb hbX hs
 replace hs := hb.size
 clear hbX c0 c1 cg
 by_cases hc0 : hoC false zs ims fs = 0
 rotate_left
 · have hcb : (hoC false zs ims fs != 0) = true := by simpa using hc0
   rw [hoN_no hc0]
   have HP := Lib.hid (poC_no hc0)
   obtain ⟨q, hq⟩ : ∃ q, hoC false zs ims fs = q := ⟨_, rfl⟩
   rw [hq] at hcb hc0 ⊢
   have HQ := Lib.hid hq
   clear hq
   have cR := hX.cell 0
   have fR := hX.frozen 0
   go_wp2_with fail
   have q4 := hX.set 0 (.slice none 0 0)
   refine bodyPost_ret (results_row2 rfl _ _ gX 46 #[.slice none 0 0] (0, 0) _ rfl q4 Tryz.underlying46 rfl Tryz.info_form) rfl ⟨.slice none 0 0, by rw [HP.out.1, HQ.out]; rfl, ?_, hb.setCell (p := ⟨gX, 0, none⟩) (by dsimp only; omega) _⟩
   rw [HP.out.2]
   exact World.ownsRow_nil _ _ _ _
 rw [hoN_yes hc0]
 obtain ⟨v, hv⟩ : ∃ v, headW zs fs = v := ⟨_, rfl⟩
 obtain ⟨hA, hf, hcase⟩ := ho_facts hc0 HTM.out
 have hz := isAlg_dg hA
 have HAO := isAlg_ok hA HT.out
 obtain ⟨W, N, V, V0, L, HSP, HC0, HC1, hW, hN, hOrd, hmem, hLR, hVl, hV0l, hDl, hvl, hpz, hpm⟩ : ∃ (W N : Nat) (V V0 L : List (List Int)),
     Hid (∀ w', Below w.heap.size w w' → Calls Tryz.prog 60 #[.agg #[.slice da dn dc, .slice a n c], .int .i64 (v - 1)] w' fun e w'' => ∃ x, e = .returned x ∧ SplitV w'' w'.heap.size x W N L ∧ Below w'.heap.size w' w'') ∧
     Hid (∀ w', Below w.heap.size w w' → Calls Tryz.prog 58 #[.agg #[.slice da dn dc, .slice a n c], .int .i64 (v - 1)] w' fun e w'' => ∃ ra rc, e = .returned (.slice ra N rc) ∧ OwnM w'' w'.heap.size w''.heap.size ra N V0 ∧ Below w'.heap.size w' w'') ∧
     Hid (∀ w', Below w.heap.size w w' → Calls Tryz.prog 58 #[.agg #[.slice da dn dc, .slice a n c], .int .i64 v] w' fun e w'' => ∃ ra rc, e = .returned (.slice ra W rc) ∧ Mos w'' ra W V ∧ Below w'.heap.size w' w'') ∧
     W ≤ 120 ∧ N ≤ 120 ∧ Ord V ∧ (∀ t ∈ fs, t.m ∈ V) ∧ RedI (W + N) L ∧ V.length = W ∧ V0.length = N ∧ (bndR W L).length ≤ 120 ∧ (-1 ≤ v ∧ v ≤ 20) ∧ pzB zs ims fs = zeroR (byR (rowT V fs) (bndR W L)) ∧ pmR zs ims fs (headW zs fs).toNat = fmR V0 (sumTo N (facR (rowT V fs) (bndR W L)) (priR W L) (bndR W L).length) := by
  have hcol : ∀ (x : Int) (N : Nat) (V0 : List (List Int)), moV zs x = V0 → V0.length = N → ∀ w', Below w.heap.size w w' → Calls Tryz.prog 58 #[.agg #[.slice da dn dc, .slice a n c], .int .i64 x] w' fun e w'' => ∃ ra rc, e = .returned (.slice ra N rc) ∧ OwnM w'' w'.heap.size w''.heap.size ra N V0 ∧ Below w'.heap.size w' w'' := fun x N V0 h1 h2 w' hb' => by
   refine (columnsOf_c dc c (HD.out.keep hb') hdn).mono ?_
   rintro e w'' ⟨ra, rn, rc, rfl, hM, hb2⟩
   rw [h1] at hM
   obtain rfl : N = rn := by rw [← hM.1, h2]
   exact ⟨ra, rc, rfl, hM, hb2⟩
  rcases hcase with ⟨h1, h2, h3⟩ | ⟨m, h2, h3, h4, h5, h6, h7⟩
  · obtain rfl : v = -1 := by omega
    exact ⟨0, 0, [], [], [], Lib.hid (fun w' hb' => splitByDM_c dc c (HD.out.keep hb') hdn hz), Lib.hid (hcol _ _ _ (mo_err (mo_2 hz (by omega)) (by omega)).2 rfl), Lib.hid (fun w' hb' => columnsN_c dc c (HD.out.keep hb') hdn hz (by omega)), by omega, by omega, List.Pairwise.nil, by rw [h1]; simp, RedI.nil _, rfl, rfl, by simp [bndR], by omega, by rw [pzB, hv, decide_eq_true (by omega), Bool.or_true]; rfl, by rw [hv]; rfl⟩
  · obtain rfl : v = (m : Int) := by omega
    have g2 := nbR_lt (zs := zs) h6
    have g1 := bdR_len zs ims m
    have hlo : moV zs ((m : Int) - 1) = loS zs m := by
     rw [loS]
     split
     · rename_i h0
       subst h0
       exact (mo_err (mo_2 hz (by omega)) (by omega)).2
     · rename_i h0
       have := moV_side (n := m - 1) hz (by omega) (by have := h6 h0; omega)
       rwa [show ((m - 1 : Nat) : Int) = (m : Int) - 1 by omega] at this
    exact ⟨cnt zs m, nbR zs m, side zs m, loS zs m, lgR zs ims m, Lib.hid (fun w' hb' => splitLow_c dc c (HD.out.keep hb') hdn (HF.out.keep hb') HAO hA hz h3 h4 h6 rfl), Lib.hid (hcol _ _ _ hlo (loS_len zs m)), Lib.hid (fun w' hb' => columnsOf_m dc c (HD.out.keep hb') hdn hz (by omega) h4), h4, g2, ext_ord _ _, h7, lgR_red HAO hz m, side_len zs m, loS_len zs m, by rw [bndR_lg HAO hz]; omega, by omega, by rw [pzB, hv, decide_eq_false (by omega), Bool.or_false, Int.toNat_natCast, bndR_lg HAO hz], by rw [hv, Int.toNat_natCast, pmR, ← priR_len, bndR_lg HAO hz]⟩
 have HR0 : Hid (RowOk W (rowT V fs)) := Lib.hid (by have := rowT_ok (V := V) (isForm_f hf); rwa [hVl] at this)
 have HSR := Lib.hid (isForm_srt hf)
 have HORD := Lib.hid hOrd
 have HMEM := Lib.hid hmem
 have HBR := Lib.hid (bndR_red hLR)
 have HPO := Lib.hid (priR_ok (N := N) hLR.ok)
 have HPL := Lib.hid (priR_len W L)
 have HV0 := Lib.hid hV0l
 have HPM := Lib.hid hpm
 have HPZ := Lib.hid hpz
 have HC0' := Lib.hid hc0
 have hwv : IntKind.i64.wrap (v - 1) = v - 1 := IntWalk.i64_in _ (by omega)
 rw [hc0, hv]
 obtain ⟨D, hD⟩ : ∃ D, bndR W L = D := ⟨_, rfl⟩
 obtain ⟨P, hP⟩ : ∃ P, priR W L = P := ⟨_, rfl⟩
 rw [hD] at HBR HPL HPM HPZ hDl
 rw [hP] at HPO HPL HPM
 obtain ⟨r0, hr0⟩ : ∃ r0, rowT V fs = r0 := ⟨_, rfl⟩
 have HRE := Lib.hid hr0
 rw [hr0] at HPM HPZ HR0
 obtain ⟨K0, hK0⟩ : ∃ K0, D.length = K0 := ⟨_, rfl⟩
 rw [hK0] at hDl HPL HPM
 have HKE := Lib.hid hK0
 have HDE := Lib.hid hD
 have HPE := Lib.hid hP
 have hv0 := hvl.1
 have hv1 := hvl.2
 clear hcase hz HAO hA hf hOrd hmem hLR hpm hpz hc0 hv hVl hV0l hD hP hvl hr0 hK0
 go_upto_region 4 with fail
 go_cut [8, 9, 10] (fun p q r wr => ∃ (s1 : Option Addr) (m1 d1 : Nat) (s2 : Option Addr) (m2 d2 : Nat) (s3 : Option Addr) (m3 d3 : Nat) (s4 : Option Addr) (m4 d4 : Nat) (s5 : Option Addr) (m5 d5 gS lo1 hi1 lo2 hi2 : Nat) (ra : Option Addr) (rc gr : Nat), p = .pointer (some ⟨gS, 0, none⟩) ∧ q = .slice ra N rc ∧ r = .slice (some ⟨gr, 0, none⟩) W W ∧ Own wr gS 83 #[.slice s1 m1 d1, .slice s2 m2 d2, .slice s3 m3 d3, .slice s4 m4 d4, .slice s5 m5 d5] ∧ BasV wr lo1 hi1 (.agg #[.slice s3 m3 d3, .slice s4 m4 d4]) W D ∧ RwB wr lo1 hi1 (.slice s5 m5 d5) N P ∧ OwnM wr lo2 hi2 ra N V0 ∧ Own wr gr 106 (ofI r0) ∧ Own wr gX 46 #[.slice none 0 0] ∧ Below w.heap.size w wr ∧ hi1 ≤ wr.heap.size ∧ hi2 ≤ wr.heap.size ∧ hi1 ≤ gr ∧ hi2 ≤ gr ∧ gX < gr ∧ w.heap.size ≤ gr ∧ gS ≠ gr ∧ gX ≠ gS ∧ w.heap.size ≤ lo1 ∧ w.heap.size ≤ lo2)
 case first =>
  replace hO : Own w2.drew w.heap.size 31 #[.slice da dn dc, .slice a n c] := hO
  replace hG : Own w2.drew (w.heap.size + 1) 46 #[.slice a2 n2 c2] := hG
  replace hX : Own w2.drew gX 46 #[.slice none 0 0] := hX
  replace hb : Below w.heap.size w w2.drew := hb.drew
  replace hs := hb.size
  refine wp_region_held_drew (S := (fun w' => w'.cell? ⟨w.heap.size, 0, none⟩ = some (.slice da dn dc) ∧ w'.cell? ⟨w.heap.size, 1, none⟩ = some (.slice a n c) ∧ w'.cell? ⟨w.heap.size + 1, 0, none⟩ = some (.slice a2 n2 c2))) (by kernel_rfl) ?_ (fun _ => ?_)
  · ((try dsimp only); (exact ⟨hO.cell 0, hO.cell 1, hG.cell 0⟩))
  generalize w2.drew = W0 at *
  refine hdT 0 ?_
  refine hdT 1 ?_
  refine hdT 2 ?_
  refine hdT 4 ?_
  refine hdT 5 ?_
  refine hdT 6 ?_
  refine hdT 8 ?_
  refine hdT 9 ?_
  refine hdT 11 ?_
  try rw [hwv]
  have hGs : w.heap.size + 1 < W0.heap.size := hG.lt
  refine wpAnyH_ready (rs := [3, 13]) (by kernel_rfl) (by simp) ?_
  refine AllReadyH.cons (hdAt (i := 3) rfl) (fun K hK => ?_) (AllReadyH.cons (hdAt (i := 13) rfl) (fun K hK => ?_) AllReadyH.nil)
  · (go_simp; (go_at_call 60; (first | refine (HSP.out _ hb).mono ?_ | (rw [hwv]; refine (HSP.out _ hb).mono ?_)); rintro e W1 ⟨x, rfl, hSV, hbX⟩; obtain ⟨s1, m1, d1, s2, m2, d2, s3, m3, d3, s4, m4, d4, s5, m5, d5, rfl⟩ := hSV.slices); go_wp2_with fail)
    obtain ⟨vc, vcf, vb, vbf, vp, hve, -, hBB, hRP⟩ := hSV.two
    simp only [Value.agg.injEq, Array.mk.injEq, List.cons.injEq, and_true] at hve
    obtain ⟨rfl, rfl, rfl, rfl, rfl⟩ := hve
    have hRB := RwB.of hRP
    rw [HDE.out] at hBB
    rw [HPE.out] at hRB
    obtain ⟨lo1, hl1⟩ : ∃ x, W0.heap.size = x := ⟨_, rfl⟩
    obtain ⟨hi1, hl2⟩ : ∃ x, W1.heap.size = x := ⟨_, rfl⟩
    rw [hl1, hl2] at hBB hRB
    have hh1 : hi1 ≤ W1.heap.size := Nat.le_of_eq hl2.symm
    have hlw1 : w.heap.size ≤ lo1 := by omega
    replace hO := hO.keep hbX hO.lt
    replace hG := hG.keep hbX hG.lt
    replace hX := hX.keep hbX hX.lt
    replace hb := bT' hb hbX hs
    replace hs := hb.size
    clear hbX hSV hRP hl1 hl2
    refine hK.out _ _ ?_ (fun _ => ?_)
    · ((try dsimp only); (exact ⟨hO.cell 0, hO.cell 1, hG.cell 0⟩))
    clear hK K
    (try simp only [Act.put, pA, pB, pC])
    refine wpAnyH_ready (rs := [7, 13]) (by kernel_rfl) (by simp) ?_
    refine AllReadyH.cons (hdAt (i := 7) rfl) (fun K hK => ?_) (AllReadyH.cons (hdAt (i := 13) rfl) (fun K hK => ?_) AllReadyH.nil)
    · (go_simp; (go_at_call 58; (first | refine (HC0.out _ hb).mono ?_ | (rw [hwv]; refine (HC0.out _ hb).mono ?_)); rintro e W2 ⟨ra, rc, rfl, hM0, hbX⟩); go_wp2_with fail)
      obtain ⟨lo2, hl1⟩ : ∃ x, W1.heap.size = x := ⟨_, rfl⟩
      obtain ⟨hi2, hl2⟩ : ∃ x, W2.heap.size = x := ⟨_, rfl⟩
      rw [hl1, hl2] at hM0
      have hh2 : hi2 ≤ W2.heap.size := Nat.le_of_eq hl2.symm
      have hlw2 : w.heap.size ≤ lo2 := by omega
      replace hBB := hBB.keep hbX hh1
      replace hRB := hRB.keep hbX hh1
      replace hh1 := Nat.le_trans hh1 hbX.size
      replace hO := hO.keep hbX hO.lt
      replace hG := hG.keep hbX hG.lt
      replace hX := hX.keep hbX hX.lt
      replace hb := bT' hb hbX hs
      replace hs := hb.size
      clear hbX hl1 hl2
      refine hK.out _ _ ?_ (fun _ => ?_)
      · ((try dsimp only); (exact ⟨hO.cell 0, hO.cell 1, hG.cell 0⟩))
      clear hK K
      (try simp only [Act.put, pA, pB, pC])
      refine wpAnyH_ready (rs := [10, 13]) (by kernel_rfl) (by simp) ?_
      refine AllReadyH.cons (hdAt (i := 10) rfl) (fun K hK => ?_) (AllReadyH.cons (hdAt (i := 13) rfl) (fun K hK => ?_) AllReadyH.nil)
      · (go_simp; (go_at_call 58; refine (HC1.out _ hb).mono ?_; rintro e W3 ⟨ya, yc, rfl, hM1, hbX⟩); go_wp2_with fail)
        replace hBB := hBB.keep hbX hh1
        replace hRB := hRB.keep hbX hh1
        replace hh1 := Nat.le_trans hh1 hbX.size
        replace hM0 := hM0.keep hbX
        replace hh2 := Nat.le_trans hh2 hbX.size
        replace hO := hO.keep hbX hO.lt
        replace hG := hG.keep hbX hG.lt
        replace hX := hX.keep hbX hX.lt
        replace hb := bT' hb hbX hs
        replace hs := hb.size
        clear hbX
        refine hK.out _ _ ?_ (fun _ => ?_)
        · ((try dsimp only); (exact ⟨hO.cell 0, hO.cell 1, hG.cell 0⟩))
        clear hK K
        (try simp only [Act.put, pA, pB, pC])
        refine wpAnyH_ready (rs := [12, 13]) (by kernel_rfl) (by simp) ?_
        refine AllReadyH.cons (hdAt (i := 12) rfl) (fun K hK => ?_) (AllReadyH.cons (hdAt (i := 13) rfl) (fun K hK => ?_) AllReadyH.nil)
        · (go_simp; (go_at_call 73; refine (rowC_c yc c2 hM1 HORD.out (by omega) (HH.out.keep hb) hn2 HSR.out HMEM.out).mono ?_; rintro e W4 ⟨gr, rfl, hgr, hR, hbX⟩); go_wp2_with fail)
          rw [HRE.out] at hR
          have hg1 := Nat.le_trans hh1 hgr
          have hg2 := Nat.le_trans hh2 hgr
          have hgX : gX < gr := Nat.lt_of_lt_of_le hX.lt hgr
          have hgw := Nat.le_trans hs hgr
          replace hBB := hBB.keep hbX hh1
          replace hRB := hRB.keep hbX hh1
          replace hh1 := Nat.le_trans hh1 hbX.size
          replace hM0 := hM0.keep hbX
          replace hh2 := Nat.le_trans hh2 hbX.size
          replace hM1 := hM1.keep hbX
          replace hO := hO.keep hbX hO.lt
          replace hG := hG.keep hbX hG.lt
          replace hX := hX.keep hbX hX.lt
          replace hb := bT' hb hbX hs
          replace hs := hb.size
          clear hbX hM1 hgr
          refine hK.out _ _ ?_ (fun _ => ?_)
          · ((try dsimp only); (exact ⟨hO.cell 0, hO.cell 1, hG.cell 0⟩))
          clear hK K
          (try simp only [Act.put, pA, pB, pC])
          refine hdC 13 (fun K hK => ?_)
          (go_simp; try go_wp2_with fail)
          have hbX := bA1 W4 (.cells #[.slice none 0 0, .slice none 0 0, .slice none 0 0, .slice none 0 0, .slice none 0 0] 83)
          have hS := Own.new W4 83 #[.slice none 0 0, .slice none 0 0, .slice none 0 0, .slice none 0 0, .slice none 0 0]
          have hxs : gX ≠ W4.heap.size := Nat.ne_of_lt hX.lt
          have hsw : w.heap.size + 1 < W4.heap.size := hG.lt
          have hq1 : W4.heap.size < lo1 ∨ hi1 ≤ W4.heap.size := Or.inr hh1
          have hq2 : W4.heap.size < lo2 ∨ hi2 ≤ W4.heap.size := Or.inr hh2
          have hSr : W4.heap.size ≠ gr := fun e => by have := hR.lt; omega
          replace hBB := hBB.keep hbX hh1
          replace hRB := hRB.keep hbX hh1
          replace hh1 := Nat.le_trans hh1 hbX.size
          replace hM0 := hM0.keep hbX
          replace hh2 := Nat.le_trans hh2 hbX.size
          replace hR := hR.keep hbX hR.lt
          replace hO := hO.keep hbX hO.lt
          replace hG := hG.keep hbX hG.lt
          replace hX := hX.keep hbX hX.lt
          replace hb := bT' hb hbX hs
          replace hs := hb.size
          clear hbX
          generalize W4.alloc (.cells #[.slice none 0 0, .slice none 0 0, .slice none 0 0, .slice none 0 0, .slice none 0 0] 83) = W5 at *
          obtain ⟨gS, hgS⟩ : ∃ x, W4.heap.size = x := ⟨_, rfl⟩
          rw [hgS] at hS hxs hsw hq1 hq2 hSr
          try rw [hgS]
          clear hgS
          refine hK.out _ _ ?_ (fun _ => ?_)
          · ((try dsimp only); (exact ⟨hO.cell 0, hO.cell 1, hG.cell 0⟩))
          clear hK K
          (try simp only [Act.put, pA, pB, pC])
          refine hdC 14 (fun K hK => ?_)
          have cS0 := hS.cell 0
          have fS0 := hS.frozen 0
          have cS1 := hS.cell 1
          have fS1 := hS.frozen 1
          have cS2 := hS.cell 2
          have fS2 := hS.frozen 2
          have cS3 := hS.cell 3
          have fS3 := hS.frozen 3
          have cS4 := hS.cell 4
          have fS4 := hS.frozen 4
          (go_simp; go_wp2_with fail)
          clear cS0 fS0 cS1 fS1 cS2 fS2 cS3 fS3 cS4 fS4
          have hon := Touch.of_only ((((((Only.refl gS W5).set 0 (.slice s1 m1 d1)).set 1 (.slice s2 m2 d2)).set 2 (.slice s3 m3 d3)).set 3 (.slice s4 m4 d4)).set 4 (.slice s5 m5 d5))
          replace hb := hb.setCell (p := ⟨gS, 0, none⟩) (by dsimp only; omega) (.slice s1 m1 d1)
          replace hO := hO.far (p := ⟨gS, 0, none⟩) (by dsimp only; omega) (.slice s1 m1 d1)
          replace hG := hG.far (p := ⟨gS, 0, none⟩) (by dsimp only; omega) (.slice s1 m1 d1)
          replace hX := hX.far (p := ⟨gS, 0, none⟩) (by dsimp only; exact hxs) (.slice s1 m1 d1)
          replace hR := hR.far (p := ⟨gS, 0, none⟩) (by dsimp only; exact hSr.symm) (.slice s1 m1 d1)
          replace hS := hS.set 0 (.slice s1 m1 d1)
          replace hb := hb.setCell (p := ⟨gS, 1, none⟩) (by dsimp only; omega) (.slice s2 m2 d2)
          replace hO := hO.far (p := ⟨gS, 1, none⟩) (by dsimp only; omega) (.slice s2 m2 d2)
          replace hG := hG.far (p := ⟨gS, 1, none⟩) (by dsimp only; omega) (.slice s2 m2 d2)
          replace hX := hX.far (p := ⟨gS, 1, none⟩) (by dsimp only; exact hxs) (.slice s2 m2 d2)
          replace hR := hR.far (p := ⟨gS, 1, none⟩) (by dsimp only; exact hSr.symm) (.slice s2 m2 d2)
          replace hS := hS.set 1 (.slice s2 m2 d2)
          replace hb := hb.setCell (p := ⟨gS, 2, none⟩) (by dsimp only; omega) (.slice s3 m3 d3)
          replace hO := hO.far (p := ⟨gS, 2, none⟩) (by dsimp only; omega) (.slice s3 m3 d3)
          replace hG := hG.far (p := ⟨gS, 2, none⟩) (by dsimp only; omega) (.slice s3 m3 d3)
          replace hX := hX.far (p := ⟨gS, 2, none⟩) (by dsimp only; exact hxs) (.slice s3 m3 d3)
          replace hR := hR.far (p := ⟨gS, 2, none⟩) (by dsimp only; exact hSr.symm) (.slice s3 m3 d3)
          replace hS := hS.set 2 (.slice s3 m3 d3)
          replace hb := hb.setCell (p := ⟨gS, 3, none⟩) (by dsimp only; omega) (.slice s4 m4 d4)
          replace hO := hO.far (p := ⟨gS, 3, none⟩) (by dsimp only; omega) (.slice s4 m4 d4)
          replace hG := hG.far (p := ⟨gS, 3, none⟩) (by dsimp only; omega) (.slice s4 m4 d4)
          replace hX := hX.far (p := ⟨gS, 3, none⟩) (by dsimp only; exact hxs) (.slice s4 m4 d4)
          replace hR := hR.far (p := ⟨gS, 3, none⟩) (by dsimp only; exact hSr.symm) (.slice s4 m4 d4)
          replace hS := hS.set 3 (.slice s4 m4 d4)
          replace hb := hb.setCell (p := ⟨gS, 4, none⟩) (by dsimp only; omega) (.slice s5 m5 d5)
          replace hO := hO.far (p := ⟨gS, 4, none⟩) (by dsimp only; omega) (.slice s5 m5 d5)
          replace hG := hG.far (p := ⟨gS, 4, none⟩) (by dsimp only; omega) (.slice s5 m5 d5)
          replace hX := hX.far (p := ⟨gS, 4, none⟩) (by dsimp only; exact hxs) (.slice s5 m5 d5)
          replace hR := hR.far (p := ⟨gS, 4, none⟩) (by dsimp only; exact hSr.symm) (.slice s5 m5 d5)
          replace hS := hS.set 4 (.slice s5 m5 d5)
          replace hBB := hBB.touch hon (fun q h1 h2 => by omega) hh1
          replace hRB := hRB.touch hon (fun q h1 h2 => by omega) hh1
          replace hM0 := hM0.touch hon (fun q h1 h2 => by omega)
          replace hh1 := Nat.le_trans hh1 hon.below.size
          replace hh2 := Nat.le_trans hh2 hon.below.size
          clear hon
          generalize (((((W5).setCell ⟨gS, 0, none⟩ (.slice s1 m1 d1)).setCell ⟨gS, 1, none⟩ (.slice s2 m2 d2)).setCell ⟨gS, 2, none⟩ (.slice s3 m3 d3)).setCell ⟨gS, 3, none⟩ (.slice s4 m4 d4)).setCell ⟨gS, 4, none⟩ (.slice s5 m5 d5) = W9 at *
          refine hK.out _ _ ?_ (fun _ => ?_)
          · ((try dsimp only); (exact ⟨hO.cell 0, hO.cell 1, hG.cell 0⟩))
          clear hK K
          (try simp only [Act.put, pA, pB, pC])
          refine hdT 15 ?_
          refine hdT 16 ?_
          refine wpAnyH_done (by kernel_rfl) ?_ _
          go_wp2_with fail
          go_meet
          exact ⟨s1, m1, d1, s2, m2, d2, s3, m3, d3, s4, m4, d4, s5, m5, d5, gS, lo1, hi1, lo2, hi2, ra, rc, gr, rfl, rfl, rfl, hS, hBB, hRB, hM0, hR, hX, hb, hh1, hh2, hg1, hg2, hgX, hgw, hSr, hxs, hlw1, hlw2⟩
        · (go_simp; try go_wp2_with fail)
          have hbX := bA1 W3 (.cells #[.slice none 0 0, .slice none 0 0, .slice none 0 0, .slice none 0 0, .slice none 0 0] 83)
          have hS := Own.new W3 83 #[.slice none 0 0, .slice none 0 0, .slice none 0 0, .slice none 0 0, .slice none 0 0]
          have hxs : gX ≠ W3.heap.size := Nat.ne_of_lt hX.lt
          have hsw : w.heap.size + 1 < W3.heap.size := hG.lt
          have hq1 : W3.heap.size < lo1 ∨ hi1 ≤ W3.heap.size := Or.inr hh1
          have hq2 : W3.heap.size < lo2 ∨ hi2 ≤ W3.heap.size := Or.inr hh2
          replace hBB := hBB.keep hbX hh1
          replace hRB := hRB.keep hbX hh1
          replace hh1 := Nat.le_trans hh1 hbX.size
          replace hM0 := hM0.keep hbX
          replace hh2 := Nat.le_trans hh2 hbX.size
          replace hM1 := hM1.keep hbX
          replace hO := hO.keep hbX hO.lt
          replace hG := hG.keep hbX hG.lt
          replace hX := hX.keep hbX hX.lt
          replace hb := bT' hb hbX hs
          replace hs := hb.size
          clear hbX
          generalize W3.alloc (.cells #[.slice none 0 0, .slice none 0 0, .slice none 0 0, .slice none 0 0, .slice none 0 0] 83) = W4 at *
          obtain ⟨gS, hgS⟩ : ∃ x, W3.heap.size = x := ⟨_, rfl⟩
          rw [hgS] at hS hxs hsw hq1 hq2
          try rw [hgS]
          clear hgS
          refine hK.out _ _ ?_ (fun _ => ?_)
          · ((try dsimp only); (exact ⟨hO.cell 0, hO.cell 1, hG.cell 0⟩))
          clear hK K
          (try simp only [Act.put, pA, pB, pC])
          refine hdC 12 (fun K hK => ?_)
          (go_simp; (go_at_call 73; refine (rowC_c yc c2 hM1 HORD.out (by omega) (HH.out.keep hb) hn2 HSR.out HMEM.out).mono ?_; rintro e W5 ⟨gr, rfl, hgr, hR, hbX⟩); go_wp2_with fail)
          rw [HRE.out] at hR
          have hg1 := Nat.le_trans hh1 hgr
          have hg2 := Nat.le_trans hh2 hgr
          have hgX : gX < gr := Nat.lt_of_lt_of_le hX.lt hgr
          have hgw := Nat.le_trans hs hgr
          have hSr : gS ≠ gr := by have := hS.lt; omega
          replace hBB := hBB.keep hbX hh1
          replace hRB := hRB.keep hbX hh1
          replace hh1 := Nat.le_trans hh1 hbX.size
          replace hM0 := hM0.keep hbX
          replace hh2 := Nat.le_trans hh2 hbX.size
          replace hM1 := hM1.keep hbX
          replace hS := hS.keep hbX hS.lt
          replace hO := hO.keep hbX hO.lt
          replace hG := hG.keep hbX hG.lt
          replace hX := hX.keep hbX hX.lt
          replace hb := bT' hb hbX hs
          replace hs := hb.size
          clear hbX hM1 hgr
          refine hK.out _ _ ?_ (fun _ => ?_)
          · ((try dsimp only); (exact ⟨hO.cell 0, hO.cell 1, hG.cell 0⟩))
          clear hK K
          (try simp only [Act.put, pA, pB, pC])
          refine hdC 14 (fun K hK => ?_)
          have cS0 := hS.cell 0
          have fS0 := hS.frozen 0
          have cS1 := hS.cell 1
          have fS1 := hS.frozen 1
          have cS2 := hS.cell 2
          have fS2 := hS.frozen 2
          have cS3 := hS.cell 3
          have fS3 := hS.frozen 3
          have cS4 := hS.cell 4
          have fS4 := hS.frozen 4
          (go_simp; go_wp2_with fail)
          clear cS0 fS0 cS1 fS1 cS2 fS2 cS3 fS3 cS4 fS4
          have hon := Touch.of_only ((((((Only.refl gS W5).set 0 (.slice s1 m1 d1)).set 1 (.slice s2 m2 d2)).set 2 (.slice s3 m3 d3)).set 3 (.slice s4 m4 d4)).set 4 (.slice s5 m5 d5))
          replace hb := hb.setCell (p := ⟨gS, 0, none⟩) (by dsimp only; omega) (.slice s1 m1 d1)
          replace hO := hO.far (p := ⟨gS, 0, none⟩) (by dsimp only; omega) (.slice s1 m1 d1)
          replace hG := hG.far (p := ⟨gS, 0, none⟩) (by dsimp only; omega) (.slice s1 m1 d1)
          replace hX := hX.far (p := ⟨gS, 0, none⟩) (by dsimp only; exact hxs) (.slice s1 m1 d1)
          replace hR := hR.far (p := ⟨gS, 0, none⟩) (by dsimp only; exact hSr.symm) (.slice s1 m1 d1)
          replace hS := hS.set 0 (.slice s1 m1 d1)
          replace hb := hb.setCell (p := ⟨gS, 1, none⟩) (by dsimp only; omega) (.slice s2 m2 d2)
          replace hO := hO.far (p := ⟨gS, 1, none⟩) (by dsimp only; omega) (.slice s2 m2 d2)
          replace hG := hG.far (p := ⟨gS, 1, none⟩) (by dsimp only; omega) (.slice s2 m2 d2)
          replace hX := hX.far (p := ⟨gS, 1, none⟩) (by dsimp only; exact hxs) (.slice s2 m2 d2)
          replace hR := hR.far (p := ⟨gS, 1, none⟩) (by dsimp only; exact hSr.symm) (.slice s2 m2 d2)
          replace hS := hS.set 1 (.slice s2 m2 d2)
          replace hb := hb.setCell (p := ⟨gS, 2, none⟩) (by dsimp only; omega) (.slice s3 m3 d3)
          replace hO := hO.far (p := ⟨gS, 2, none⟩) (by dsimp only; omega) (.slice s3 m3 d3)
          replace hG := hG.far (p := ⟨gS, 2, none⟩) (by dsimp only; omega) (.slice s3 m3 d3)
          replace hX := hX.far (p := ⟨gS, 2, none⟩) (by dsimp only; exact hxs) (.slice s3 m3 d3)
          replace hR := hR.far (p := ⟨gS, 2, none⟩) (by dsimp only; exact hSr.symm) (.slice s3 m3 d3)
          replace hS := hS.set 2 (.slice s3 m3 d3)
          replace hb := hb.setCell (p := ⟨gS, 3, none⟩) (by dsimp only; omega) (.slice s4 m4 d4)
          replace hO := hO.far (p := ⟨gS, 3, none⟩) (by dsimp only; omega) (.slice s4 m4 d4)
          replace hG := hG.far (p := ⟨gS, 3, none⟩) (by dsimp only; omega) (.slice s4 m4 d4)
          replace hX := hX.far (p := ⟨gS, 3, none⟩) (by dsimp only; exact hxs) (.slice s4 m4 d4)
          replace hR := hR.far (p := ⟨gS, 3, none⟩) (by dsimp only; exact hSr.symm) (.slice s4 m4 d4)
          replace hS := hS.set 3 (.slice s4 m4 d4)
          replace hb := hb.setCell (p := ⟨gS, 4, none⟩) (by dsimp only; omega) (.slice s5 m5 d5)
          replace hO := hO.far (p := ⟨gS, 4, none⟩) (by dsimp only; omega) (.slice s5 m5 d5)
          replace hG := hG.far (p := ⟨gS, 4, none⟩) (by dsimp only; omega) (.slice s5 m5 d5)
          replace hX := hX.far (p := ⟨gS, 4, none⟩) (by dsimp only; exact hxs) (.slice s5 m5 d5)
          replace hR := hR.far (p := ⟨gS, 4, none⟩) (by dsimp only; exact hSr.symm) (.slice s5 m5 d5)
          replace hS := hS.set 4 (.slice s5 m5 d5)
          replace hBB := hBB.touch hon (fun q h1 h2 => by omega) hh1
          replace hRB := hRB.touch hon (fun q h1 h2 => by omega) hh1
          replace hM0 := hM0.touch hon (fun q h1 h2 => by omega)
          replace hh1 := Nat.le_trans hh1 hon.below.size
          replace hh2 := Nat.le_trans hh2 hon.below.size
          clear hon
          generalize (((((W5).setCell ⟨gS, 0, none⟩ (.slice s1 m1 d1)).setCell ⟨gS, 1, none⟩ (.slice s2 m2 d2)).setCell ⟨gS, 2, none⟩ (.slice s3 m3 d3)).setCell ⟨gS, 3, none⟩ (.slice s4 m4 d4)).setCell ⟨gS, 4, none⟩ (.slice s5 m5 d5) = W9 at *
          refine hK.out _ _ ?_ (fun _ => ?_)
          · ((try dsimp only); (exact ⟨hO.cell 0, hO.cell 1, hG.cell 0⟩))
          clear hK K
          (try simp only [Act.put, pA, pB, pC])
          refine hdT 15 ?_
          refine hdT 16 ?_
          refine wpAnyH_done (by kernel_rfl) ?_ _
          go_wp2_with fail
          go_meet
          exact ⟨s1, m1, d1, s2, m2, d2, s3, m3, d3, s4, m4, d4, s5, m5, d5, gS, lo1, hi1, lo2, hi2, ra, rc, gr, rfl, rfl, rfl, hS, hBB, hRB, hM0, hR, hX, hb, hh1, hh2, hg1, hg2, hgX, hgw, hSr, hxs, hlw1, hlw2⟩
      · (go_simp; try go_wp2_with fail)
        have hbX := bA1 W2 (.cells #[.slice none 0 0, .slice none 0 0, .slice none 0 0, .slice none 0 0, .slice none 0 0] 83)
        have hS := Own.new W2 83 #[.slice none 0 0, .slice none 0 0, .slice none 0 0, .slice none 0 0, .slice none 0 0]
        have hxs : gX ≠ W2.heap.size := Nat.ne_of_lt hX.lt
        have hsw : w.heap.size + 1 < W2.heap.size := hG.lt
        have hq1 : W2.heap.size < lo1 ∨ hi1 ≤ W2.heap.size := Or.inr hh1
        have hq2 : W2.heap.size < lo2 ∨ hi2 ≤ W2.heap.size := Or.inr hh2
        replace hBB := hBB.keep hbX hh1
        replace hRB := hRB.keep hbX hh1
        replace hh1 := Nat.le_trans hh1 hbX.size
        replace hM0 := hM0.keep hbX
        replace hh2 := Nat.le_trans hh2 hbX.size
        replace hO := hO.keep hbX hO.lt
        replace hG := hG.keep hbX hG.lt
        replace hX := hX.keep hbX hX.lt
        replace hb := bT' hb hbX hs
        replace hs := hb.size
        clear hbX
        generalize W2.alloc (.cells #[.slice none 0 0, .slice none 0 0, .slice none 0 0, .slice none 0 0, .slice none 0 0] 83) = W3 at *
        obtain ⟨gS, hgS⟩ : ∃ x, W2.heap.size = x := ⟨_, rfl⟩
        rw [hgS] at hS hxs hsw hq1 hq2
        try rw [hgS]
        clear hgS
        refine hK.out _ _ ?_ (fun _ => ?_)
        · ((try dsimp only); (exact ⟨hO.cell 0, hO.cell 1, hG.cell 0⟩))
        clear hK K
        (try simp only [Act.put, pA, pB, pC])
        refine hdC 10 (fun K hK => ?_)
        (go_simp; (go_at_call 58; refine (HC1.out _ hb).mono ?_; rintro e W4 ⟨ya, yc, rfl, hM1, hbX⟩); go_wp2_with fail)
        replace hBB := hBB.keep hbX hh1
        replace hRB := hRB.keep hbX hh1
        replace hh1 := Nat.le_trans hh1 hbX.size
        replace hM0 := hM0.keep hbX
        replace hh2 := Nat.le_trans hh2 hbX.size
        replace hS := hS.keep hbX hS.lt
        replace hO := hO.keep hbX hO.lt
        replace hG := hG.keep hbX hG.lt
        replace hX := hX.keep hbX hX.lt
        replace hb := bT' hb hbX hs
        replace hs := hb.size
        clear hbX
        refine hK.out _ _ ?_ (fun _ => ?_)
        · ((try dsimp only); (exact ⟨hO.cell 0, hO.cell 1, hG.cell 0⟩))
        clear hK K
        (try simp only [Act.put, pA, pB, pC])
        refine hdC 12 (fun K hK => ?_)
        (go_simp; (go_at_call 73; refine (rowC_c yc c2 hM1 HORD.out (by omega) (HH.out.keep hb) hn2 HSR.out HMEM.out).mono ?_; rintro e W5 ⟨gr, rfl, hgr, hR, hbX⟩); go_wp2_with fail)
        rw [HRE.out] at hR
        have hg1 := Nat.le_trans hh1 hgr
        have hg2 := Nat.le_trans hh2 hgr
        have hgX : gX < gr := Nat.lt_of_lt_of_le hX.lt hgr
        have hgw := Nat.le_trans hs hgr
        have hSr : gS ≠ gr := by have := hS.lt; omega
        replace hBB := hBB.keep hbX hh1
        replace hRB := hRB.keep hbX hh1
        replace hh1 := Nat.le_trans hh1 hbX.size
        replace hM0 := hM0.keep hbX
        replace hh2 := Nat.le_trans hh2 hbX.size
        replace hM1 := hM1.keep hbX
        replace hS := hS.keep hbX hS.lt
        replace hO := hO.keep hbX hO.lt
        replace hG := hG.keep hbX hG.lt
        replace hX := hX.keep hbX hX.lt
        replace hb := bT' hb hbX hs
        replace hs := hb.size
        clear hbX hM1 hgr
        refine hK.out _ _ ?_ (fun _ => ?_)
        · ((try dsimp only); (exact ⟨hO.cell 0, hO.cell 1, hG.cell 0⟩))
        clear hK K
        (try simp only [Act.put, pA, pB, pC])
        refine hdC 14 (fun K hK => ?_)
        have cS0 := hS.cell 0
        have fS0 := hS.frozen 0
        have cS1 := hS.cell 1
        have fS1 := hS.frozen 1
        have cS2 := hS.cell 2
        have fS2 := hS.frozen 2
        have cS3 := hS.cell 3
        have fS3 := hS.frozen 3
        have cS4 := hS.cell 4
        have fS4 := hS.frozen 4
        (go_simp; go_wp2_with fail)
        clear cS0 fS0 cS1 fS1 cS2 fS2 cS3 fS3 cS4 fS4
        have hon := Touch.of_only ((((((Only.refl gS W5).set 0 (.slice s1 m1 d1)).set 1 (.slice s2 m2 d2)).set 2 (.slice s3 m3 d3)).set 3 (.slice s4 m4 d4)).set 4 (.slice s5 m5 d5))
        replace hb := hb.setCell (p := ⟨gS, 0, none⟩) (by dsimp only; omega) (.slice s1 m1 d1)
        replace hO := hO.far (p := ⟨gS, 0, none⟩) (by dsimp only; omega) (.slice s1 m1 d1)
        replace hG := hG.far (p := ⟨gS, 0, none⟩) (by dsimp only; omega) (.slice s1 m1 d1)
        replace hX := hX.far (p := ⟨gS, 0, none⟩) (by dsimp only; exact hxs) (.slice s1 m1 d1)
        replace hR := hR.far (p := ⟨gS, 0, none⟩) (by dsimp only; exact hSr.symm) (.slice s1 m1 d1)
        replace hS := hS.set 0 (.slice s1 m1 d1)
        replace hb := hb.setCell (p := ⟨gS, 1, none⟩) (by dsimp only; omega) (.slice s2 m2 d2)
        replace hO := hO.far (p := ⟨gS, 1, none⟩) (by dsimp only; omega) (.slice s2 m2 d2)
        replace hG := hG.far (p := ⟨gS, 1, none⟩) (by dsimp only; omega) (.slice s2 m2 d2)
        replace hX := hX.far (p := ⟨gS, 1, none⟩) (by dsimp only; exact hxs) (.slice s2 m2 d2)
        replace hR := hR.far (p := ⟨gS, 1, none⟩) (by dsimp only; exact hSr.symm) (.slice s2 m2 d2)
        replace hS := hS.set 1 (.slice s2 m2 d2)
        replace hb := hb.setCell (p := ⟨gS, 2, none⟩) (by dsimp only; omega) (.slice s3 m3 d3)
        replace hO := hO.far (p := ⟨gS, 2, none⟩) (by dsimp only; omega) (.slice s3 m3 d3)
        replace hG := hG.far (p := ⟨gS, 2, none⟩) (by dsimp only; omega) (.slice s3 m3 d3)
        replace hX := hX.far (p := ⟨gS, 2, none⟩) (by dsimp only; exact hxs) (.slice s3 m3 d3)
        replace hR := hR.far (p := ⟨gS, 2, none⟩) (by dsimp only; exact hSr.symm) (.slice s3 m3 d3)
        replace hS := hS.set 2 (.slice s3 m3 d3)
        replace hb := hb.setCell (p := ⟨gS, 3, none⟩) (by dsimp only; omega) (.slice s4 m4 d4)
        replace hO := hO.far (p := ⟨gS, 3, none⟩) (by dsimp only; omega) (.slice s4 m4 d4)
        replace hG := hG.far (p := ⟨gS, 3, none⟩) (by dsimp only; omega) (.slice s4 m4 d4)
        replace hX := hX.far (p := ⟨gS, 3, none⟩) (by dsimp only; exact hxs) (.slice s4 m4 d4)
        replace hR := hR.far (p := ⟨gS, 3, none⟩) (by dsimp only; exact hSr.symm) (.slice s4 m4 d4)
        replace hS := hS.set 3 (.slice s4 m4 d4)
        replace hb := hb.setCell (p := ⟨gS, 4, none⟩) (by dsimp only; omega) (.slice s5 m5 d5)
        replace hO := hO.far (p := ⟨gS, 4, none⟩) (by dsimp only; omega) (.slice s5 m5 d5)
        replace hG := hG.far (p := ⟨gS, 4, none⟩) (by dsimp only; omega) (.slice s5 m5 d5)
        replace hX := hX.far (p := ⟨gS, 4, none⟩) (by dsimp only; exact hxs) (.slice s5 m5 d5)
        replace hR := hR.far (p := ⟨gS, 4, none⟩) (by dsimp only; exact hSr.symm) (.slice s5 m5 d5)
        replace hS := hS.set 4 (.slice s5 m5 d5)
        replace hBB := hBB.touch hon (fun q h1 h2 => by omega) hh1
        replace hRB := hRB.touch hon (fun q h1 h2 => by omega) hh1
        replace hM0 := hM0.touch hon (fun q h1 h2 => by omega)
        replace hh1 := Nat.le_trans hh1 hon.below.size
        replace hh2 := Nat.le_trans hh2 hon.below.size
        clear hon
        generalize (((((W5).setCell ⟨gS, 0, none⟩ (.slice s1 m1 d1)).setCell ⟨gS, 1, none⟩ (.slice s2 m2 d2)).setCell ⟨gS, 2, none⟩ (.slice s3 m3 d3)).setCell ⟨gS, 3, none⟩ (.slice s4 m4 d4)).setCell ⟨gS, 4, none⟩ (.slice s5 m5 d5) = W9 at *
        refine hK.out _ _ ?_ (fun _ => ?_)
        · ((try dsimp only); (exact ⟨hO.cell 0, hO.cell 1, hG.cell 0⟩))
        clear hK K
        (try simp only [Act.put, pA, pB, pC])
        refine hdT 15 ?_
        refine hdT 16 ?_
        refine wpAnyH_done (by kernel_rfl) ?_ _
        go_wp2_with fail
        go_meet
        exact ⟨s1, m1, d1, s2, m2, d2, s3, m3, d3, s4, m4, d4, s5, m5, d5, gS, lo1, hi1, lo2, hi2, ra, rc, gr, rfl, rfl, rfl, hS, hBB, hRB, hM0, hR, hX, hb, hh1, hh2, hg1, hg2, hgX, hgw, hSr, hxs, hlw1, hlw2⟩
    · (go_simp; try go_wp2_with fail)
      have hbX := bA1 W1 (.cells #[.slice none 0 0, .slice none 0 0, .slice none 0 0, .slice none 0 0, .slice none 0 0] 83)
      have hS := Own.new W1 83 #[.slice none 0 0, .slice none 0 0, .slice none 0 0, .slice none 0 0, .slice none 0 0]
      have hxs : gX ≠ W1.heap.size := Nat.ne_of_lt hX.lt
      have hsw : w.heap.size + 1 < W1.heap.size := hG.lt
      have hq1 : W1.heap.size < lo1 ∨ hi1 ≤ W1.heap.size := Or.inr hh1
      replace hBB := hBB.keep hbX hh1
      replace hRB := hRB.keep hbX hh1
      replace hh1 := Nat.le_trans hh1 hbX.size
      replace hO := hO.keep hbX hO.lt
      replace hG := hG.keep hbX hG.lt
      replace hX := hX.keep hbX hX.lt
      replace hb := bT' hb hbX hs
      replace hs := hb.size
      clear hbX
      generalize W1.alloc (.cells #[.slice none 0 0, .slice none 0 0, .slice none 0 0, .slice none 0 0, .slice none 0 0] 83) = W2 at *
      obtain ⟨gS, hgS⟩ : ∃ x, W1.heap.size = x := ⟨_, rfl⟩
      rw [hgS] at hS hxs hsw hq1
      try rw [hgS]
      clear hgS
      refine hK.out _ _ ?_ (fun _ => ?_)
      · ((try dsimp only); (exact ⟨hO.cell 0, hO.cell 1, hG.cell 0⟩))
      clear hK K
      (try simp only [Act.put, pA, pB, pC])
      refine hdC 7 (fun K hK => ?_)
      (go_simp; (go_at_call 58; (first | refine (HC0.out _ hb).mono ?_ | (rw [hwv]; refine (HC0.out _ hb).mono ?_)); rintro e W3 ⟨ra, rc, rfl, hM0, hbX⟩); go_wp2_with fail)
      obtain ⟨lo2, hl1⟩ : ∃ x, W2.heap.size = x := ⟨_, rfl⟩
      obtain ⟨hi2, hl2⟩ : ∃ x, W3.heap.size = x := ⟨_, rfl⟩
      rw [hl1, hl2] at hM0
      have hh2 : hi2 ≤ W3.heap.size := Nat.le_of_eq hl2.symm
      have hlw2 : w.heap.size ≤ lo2 := by omega
      have hq2 : gS < lo2 ∨ hi2 ≤ gS := Or.inl (by have := hS.lt; omega)
      replace hBB := hBB.keep hbX hh1
      replace hRB := hRB.keep hbX hh1
      replace hh1 := Nat.le_trans hh1 hbX.size
      replace hS := hS.keep hbX hS.lt
      replace hO := hO.keep hbX hO.lt
      replace hG := hG.keep hbX hG.lt
      replace hX := hX.keep hbX hX.lt
      replace hb := bT' hb hbX hs
      replace hs := hb.size
      clear hbX hl1 hl2
      refine hK.out _ _ ?_ (fun _ => ?_)
      · ((try dsimp only); (exact ⟨hO.cell 0, hO.cell 1, hG.cell 0⟩))
      clear hK K
      (try simp only [Act.put, pA, pB, pC])
      refine hdC 10 (fun K hK => ?_)
      (go_simp; (go_at_call 58; refine (HC1.out _ hb).mono ?_; rintro e W4 ⟨ya, yc, rfl, hM1, hbX⟩); go_wp2_with fail)
      replace hBB := hBB.keep hbX hh1
      replace hRB := hRB.keep hbX hh1
      replace hh1 := Nat.le_trans hh1 hbX.size
      replace hM0 := hM0.keep hbX
      replace hh2 := Nat.le_trans hh2 hbX.size
      replace hS := hS.keep hbX hS.lt
      replace hO := hO.keep hbX hO.lt
      replace hG := hG.keep hbX hG.lt
      replace hX := hX.keep hbX hX.lt
      replace hb := bT' hb hbX hs
      replace hs := hb.size
      clear hbX
      refine hK.out _ _ ?_ (fun _ => ?_)
      · ((try dsimp only); (exact ⟨hO.cell 0, hO.cell 1, hG.cell 0⟩))
      clear hK K
      (try simp only [Act.put, pA, pB, pC])
      refine hdC 12 (fun K hK => ?_)
      (go_simp; (go_at_call 73; refine (rowC_c yc c2 hM1 HORD.out (by omega) (HH.out.keep hb) hn2 HSR.out HMEM.out).mono ?_; rintro e W5 ⟨gr, rfl, hgr, hR, hbX⟩); go_wp2_with fail)
      rw [HRE.out] at hR
      have hg1 := Nat.le_trans hh1 hgr
      have hg2 := Nat.le_trans hh2 hgr
      have hgX : gX < gr := Nat.lt_of_lt_of_le hX.lt hgr
      have hgw := Nat.le_trans hs hgr
      have hSr : gS ≠ gr := by have := hS.lt; omega
      replace hBB := hBB.keep hbX hh1
      replace hRB := hRB.keep hbX hh1
      replace hh1 := Nat.le_trans hh1 hbX.size
      replace hM0 := hM0.keep hbX
      replace hh2 := Nat.le_trans hh2 hbX.size
      replace hM1 := hM1.keep hbX
      replace hS := hS.keep hbX hS.lt
      replace hO := hO.keep hbX hO.lt
      replace hG := hG.keep hbX hG.lt
      replace hX := hX.keep hbX hX.lt
      replace hb := bT' hb hbX hs
      replace hs := hb.size
      clear hbX hM1 hgr
      refine hK.out _ _ ?_ (fun _ => ?_)
      · ((try dsimp only); (exact ⟨hO.cell 0, hO.cell 1, hG.cell 0⟩))
      clear hK K
      (try simp only [Act.put, pA, pB, pC])
      refine hdC 14 (fun K hK => ?_)
      have cS0 := hS.cell 0
      have fS0 := hS.frozen 0
      have cS1 := hS.cell 1
      have fS1 := hS.frozen 1
      have cS2 := hS.cell 2
      have fS2 := hS.frozen 2
      have cS3 := hS.cell 3
      have fS3 := hS.frozen 3
      have cS4 := hS.cell 4
      have fS4 := hS.frozen 4
      (go_simp; go_wp2_with fail)
      clear cS0 fS0 cS1 fS1 cS2 fS2 cS3 fS3 cS4 fS4
      have hon := Touch.of_only ((((((Only.refl gS W5).set 0 (.slice s1 m1 d1)).set 1 (.slice s2 m2 d2)).set 2 (.slice s3 m3 d3)).set 3 (.slice s4 m4 d4)).set 4 (.slice s5 m5 d5))
      replace hb := hb.setCell (p := ⟨gS, 0, none⟩) (by dsimp only; omega) (.slice s1 m1 d1)
      replace hO := hO.far (p := ⟨gS, 0, none⟩) (by dsimp only; omega) (.slice s1 m1 d1)
      replace hG := hG.far (p := ⟨gS, 0, none⟩) (by dsimp only; omega) (.slice s1 m1 d1)
      replace hX := hX.far (p := ⟨gS, 0, none⟩) (by dsimp only; exact hxs) (.slice s1 m1 d1)
      replace hR := hR.far (p := ⟨gS, 0, none⟩) (by dsimp only; exact hSr.symm) (.slice s1 m1 d1)
      replace hS := hS.set 0 (.slice s1 m1 d1)
      replace hb := hb.setCell (p := ⟨gS, 1, none⟩) (by dsimp only; omega) (.slice s2 m2 d2)
      replace hO := hO.far (p := ⟨gS, 1, none⟩) (by dsimp only; omega) (.slice s2 m2 d2)
      replace hG := hG.far (p := ⟨gS, 1, none⟩) (by dsimp only; omega) (.slice s2 m2 d2)
      replace hX := hX.far (p := ⟨gS, 1, none⟩) (by dsimp only; exact hxs) (.slice s2 m2 d2)
      replace hR := hR.far (p := ⟨gS, 1, none⟩) (by dsimp only; exact hSr.symm) (.slice s2 m2 d2)
      replace hS := hS.set 1 (.slice s2 m2 d2)
      replace hb := hb.setCell (p := ⟨gS, 2, none⟩) (by dsimp only; omega) (.slice s3 m3 d3)
      replace hO := hO.far (p := ⟨gS, 2, none⟩) (by dsimp only; omega) (.slice s3 m3 d3)
      replace hG := hG.far (p := ⟨gS, 2, none⟩) (by dsimp only; omega) (.slice s3 m3 d3)
      replace hX := hX.far (p := ⟨gS, 2, none⟩) (by dsimp only; exact hxs) (.slice s3 m3 d3)
      replace hR := hR.far (p := ⟨gS, 2, none⟩) (by dsimp only; exact hSr.symm) (.slice s3 m3 d3)
      replace hS := hS.set 2 (.slice s3 m3 d3)
      replace hb := hb.setCell (p := ⟨gS, 3, none⟩) (by dsimp only; omega) (.slice s4 m4 d4)
      replace hO := hO.far (p := ⟨gS, 3, none⟩) (by dsimp only; omega) (.slice s4 m4 d4)
      replace hG := hG.far (p := ⟨gS, 3, none⟩) (by dsimp only; omega) (.slice s4 m4 d4)
      replace hX := hX.far (p := ⟨gS, 3, none⟩) (by dsimp only; exact hxs) (.slice s4 m4 d4)
      replace hR := hR.far (p := ⟨gS, 3, none⟩) (by dsimp only; exact hSr.symm) (.slice s4 m4 d4)
      replace hS := hS.set 3 (.slice s4 m4 d4)
      replace hb := hb.setCell (p := ⟨gS, 4, none⟩) (by dsimp only; omega) (.slice s5 m5 d5)
      replace hO := hO.far (p := ⟨gS, 4, none⟩) (by dsimp only; omega) (.slice s5 m5 d5)
      replace hG := hG.far (p := ⟨gS, 4, none⟩) (by dsimp only; omega) (.slice s5 m5 d5)
      replace hX := hX.far (p := ⟨gS, 4, none⟩) (by dsimp only; exact hxs) (.slice s5 m5 d5)
      replace hR := hR.far (p := ⟨gS, 4, none⟩) (by dsimp only; exact hSr.symm) (.slice s5 m5 d5)
      replace hS := hS.set 4 (.slice s5 m5 d5)
      replace hBB := hBB.touch hon (fun q h1 h2 => by omega) hh1
      replace hRB := hRB.touch hon (fun q h1 h2 => by omega) hh1
      replace hM0 := hM0.touch hon (fun q h1 h2 => by omega)
      replace hh1 := Nat.le_trans hh1 hon.below.size
      replace hh2 := Nat.le_trans hh2 hon.below.size
      clear hon
      generalize (((((W5).setCell ⟨gS, 0, none⟩ (.slice s1 m1 d1)).setCell ⟨gS, 1, none⟩ (.slice s2 m2 d2)).setCell ⟨gS, 2, none⟩ (.slice s3 m3 d3)).setCell ⟨gS, 3, none⟩ (.slice s4 m4 d4)).setCell ⟨gS, 4, none⟩ (.slice s5 m5 d5) = W9 at *
      refine hK.out _ _ ?_ (fun _ => ?_)
      · ((try dsimp only); (exact ⟨hO.cell 0, hO.cell 1, hG.cell 0⟩))
      clear hK K
      (try simp only [Act.put, pA, pB, pC])
      refine hdT 15 ?_
      refine hdT 16 ?_
      refine wpAnyH_done (by kernel_rfl) ?_ _
      go_wp2_with fail
      go_meet
      exact ⟨s1, m1, d1, s2, m2, d2, s3, m3, d3, s4, m4, d4, s5, m5, d5, gS, lo1, hi1, lo2, hi2, ra, rc, gr, rfl, rfl, rfl, hS, hBB, hRB, hM0, hR, hX, hb, hh1, hh2, hg1, hg2, hgX, hgw, hSr, hxs, hlw1, hlw2⟩
  · (go_simp; try go_wp2_with fail)
    have hbX := bA1 W0 (.cells #[.slice none 0 0, .slice none 0 0, .slice none 0 0, .slice none 0 0, .slice none 0 0] 83)
    have hS := Own.new W0 83 #[.slice none 0 0, .slice none 0 0, .slice none 0 0, .slice none 0 0, .slice none 0 0]
    have hxs : gX ≠ W0.heap.size := Nat.ne_of_lt hX.lt
    have hsw : w.heap.size + 1 < W0.heap.size := hG.lt
    replace hO := hO.keep hbX hO.lt
    replace hG := hG.keep hbX hG.lt
    replace hX := hX.keep hbX hX.lt
    replace hb := bT' hb hbX hs
    replace hs := hb.size
    clear hbX
    generalize W0.alloc (.cells #[.slice none 0 0, .slice none 0 0, .slice none 0 0, .slice none 0 0, .slice none 0 0] 83) = W1 at *
    obtain ⟨gS, hgS⟩ : ∃ x, W0.heap.size = x := ⟨_, rfl⟩
    rw [hgS] at hS hxs hsw
    try rw [hgS]
    clear hgS
    refine hK.out _ _ ?_ (fun _ => ?_)
    · ((try dsimp only); (exact ⟨hO.cell 0, hO.cell 1, hG.cell 0⟩))
    clear hK K
    (try simp only [Act.put, pA, pB, pC])
    refine hdC 3 (fun K hK => ?_)
    (go_simp; (go_at_call 60; (first | refine (HSP.out _ hb).mono ?_ | (rw [hwv]; refine (HSP.out _ hb).mono ?_)); rintro e W2 ⟨x, rfl, hSV, hbX⟩; obtain ⟨s1, m1, d1, s2, m2, d2, s3, m3, d3, s4, m4, d4, s5, m5, d5, rfl⟩ := hSV.slices); go_wp2_with fail)
    obtain ⟨vc, vcf, vb, vbf, vp, hve, -, hBB, hRP⟩ := hSV.two
    simp only [Value.agg.injEq, Array.mk.injEq, List.cons.injEq, and_true] at hve
    obtain ⟨rfl, rfl, rfl, rfl, rfl⟩ := hve
    have hRB := RwB.of hRP
    rw [HDE.out] at hBB
    rw [HPE.out] at hRB
    obtain ⟨lo1, hl1⟩ : ∃ x, W1.heap.size = x := ⟨_, rfl⟩
    obtain ⟨hi1, hl2⟩ : ∃ x, W2.heap.size = x := ⟨_, rfl⟩
    rw [hl1, hl2] at hBB hRB
    have hh1 : hi1 ≤ W2.heap.size := Nat.le_of_eq hl2.symm
    have hlw1 : w.heap.size ≤ lo1 := by omega
    have hq1 : gS < lo1 ∨ hi1 ≤ gS := Or.inl (by have := hS.lt; omega)
    replace hS := hS.keep hbX hS.lt
    replace hO := hO.keep hbX hO.lt
    replace hG := hG.keep hbX hG.lt
    replace hX := hX.keep hbX hX.lt
    replace hb := bT' hb hbX hs
    replace hs := hb.size
    clear hbX hSV hRP hl1 hl2
    refine hK.out _ _ ?_ (fun _ => ?_)
    · ((try dsimp only); (exact ⟨hO.cell 0, hO.cell 1, hG.cell 0⟩))
    clear hK K
    (try simp only [Act.put, pA, pB, pC])
    refine hdC 7 (fun K hK => ?_)
    (go_simp; (go_at_call 58; (first | refine (HC0.out _ hb).mono ?_ | (rw [hwv]; refine (HC0.out _ hb).mono ?_)); rintro e W3 ⟨ra, rc, rfl, hM0, hbX⟩); go_wp2_with fail)
    obtain ⟨lo2, hl1⟩ : ∃ x, W2.heap.size = x := ⟨_, rfl⟩
    obtain ⟨hi2, hl2⟩ : ∃ x, W3.heap.size = x := ⟨_, rfl⟩
    rw [hl1, hl2] at hM0
    have hh2 : hi2 ≤ W3.heap.size := Nat.le_of_eq hl2.symm
    have hlw2 : w.heap.size ≤ lo2 := by omega
    have hq2 : gS < lo2 ∨ hi2 ≤ gS := Or.inl (by have := hS.lt; omega)
    replace hBB := hBB.keep hbX hh1
    replace hRB := hRB.keep hbX hh1
    replace hh1 := Nat.le_trans hh1 hbX.size
    replace hS := hS.keep hbX hS.lt
    replace hO := hO.keep hbX hO.lt
    replace hG := hG.keep hbX hG.lt
    replace hX := hX.keep hbX hX.lt
    replace hb := bT' hb hbX hs
    replace hs := hb.size
    clear hbX hl1 hl2
    refine hK.out _ _ ?_ (fun _ => ?_)
    · ((try dsimp only); (exact ⟨hO.cell 0, hO.cell 1, hG.cell 0⟩))
    clear hK K
    (try simp only [Act.put, pA, pB, pC])
    refine hdC 10 (fun K hK => ?_)
    (go_simp; (go_at_call 58; refine (HC1.out _ hb).mono ?_; rintro e W4 ⟨ya, yc, rfl, hM1, hbX⟩); go_wp2_with fail)
    replace hBB := hBB.keep hbX hh1
    replace hRB := hRB.keep hbX hh1
    replace hh1 := Nat.le_trans hh1 hbX.size
    replace hM0 := hM0.keep hbX
    replace hh2 := Nat.le_trans hh2 hbX.size
    replace hS := hS.keep hbX hS.lt
    replace hO := hO.keep hbX hO.lt
    replace hG := hG.keep hbX hG.lt
    replace hX := hX.keep hbX hX.lt
    replace hb := bT' hb hbX hs
    replace hs := hb.size
    clear hbX
    refine hK.out _ _ ?_ (fun _ => ?_)
    · ((try dsimp only); (exact ⟨hO.cell 0, hO.cell 1, hG.cell 0⟩))
    clear hK K
    (try simp only [Act.put, pA, pB, pC])
    refine hdC 12 (fun K hK => ?_)
    (go_simp; (go_at_call 73; refine (rowC_c yc c2 hM1 HORD.out (by omega) (HH.out.keep hb) hn2 HSR.out HMEM.out).mono ?_; rintro e W5 ⟨gr, rfl, hgr, hR, hbX⟩); go_wp2_with fail)
    rw [HRE.out] at hR
    have hg1 := Nat.le_trans hh1 hgr
    have hg2 := Nat.le_trans hh2 hgr
    have hgX : gX < gr := Nat.lt_of_lt_of_le hX.lt hgr
    have hgw := Nat.le_trans hs hgr
    have hSr : gS ≠ gr := by have := hS.lt; omega
    replace hBB := hBB.keep hbX hh1
    replace hRB := hRB.keep hbX hh1
    replace hh1 := Nat.le_trans hh1 hbX.size
    replace hM0 := hM0.keep hbX
    replace hh2 := Nat.le_trans hh2 hbX.size
    replace hM1 := hM1.keep hbX
    replace hS := hS.keep hbX hS.lt
    replace hO := hO.keep hbX hO.lt
    replace hG := hG.keep hbX hG.lt
    replace hX := hX.keep hbX hX.lt
    replace hb := bT' hb hbX hs
    replace hs := hb.size
    clear hbX hM1 hgr
    refine hK.out _ _ ?_ (fun _ => ?_)
    · ((try dsimp only); (exact ⟨hO.cell 0, hO.cell 1, hG.cell 0⟩))
    clear hK K
    (try simp only [Act.put, pA, pB, pC])
    refine hdC 14 (fun K hK => ?_)
    have cS0 := hS.cell 0
    have fS0 := hS.frozen 0
    have cS1 := hS.cell 1
    have fS1 := hS.frozen 1
    have cS2 := hS.cell 2
    have fS2 := hS.frozen 2
    have cS3 := hS.cell 3
    have fS3 := hS.frozen 3
    have cS4 := hS.cell 4
    have fS4 := hS.frozen 4
    (go_simp; go_wp2_with fail)
    clear cS0 fS0 cS1 fS1 cS2 fS2 cS3 fS3 cS4 fS4
    have hon := Touch.of_only ((((((Only.refl gS W5).set 0 (.slice s1 m1 d1)).set 1 (.slice s2 m2 d2)).set 2 (.slice s3 m3 d3)).set 3 (.slice s4 m4 d4)).set 4 (.slice s5 m5 d5))
    replace hb := hb.setCell (p := ⟨gS, 0, none⟩) (by dsimp only; omega) (.slice s1 m1 d1)
    replace hO := hO.far (p := ⟨gS, 0, none⟩) (by dsimp only; omega) (.slice s1 m1 d1)
    replace hG := hG.far (p := ⟨gS, 0, none⟩) (by dsimp only; omega) (.slice s1 m1 d1)
    replace hX := hX.far (p := ⟨gS, 0, none⟩) (by dsimp only; exact hxs) (.slice s1 m1 d1)
    replace hR := hR.far (p := ⟨gS, 0, none⟩) (by dsimp only; exact hSr.symm) (.slice s1 m1 d1)
    replace hS := hS.set 0 (.slice s1 m1 d1)
    replace hb := hb.setCell (p := ⟨gS, 1, none⟩) (by dsimp only; omega) (.slice s2 m2 d2)
    replace hO := hO.far (p := ⟨gS, 1, none⟩) (by dsimp only; omega) (.slice s2 m2 d2)
    replace hG := hG.far (p := ⟨gS, 1, none⟩) (by dsimp only; omega) (.slice s2 m2 d2)
    replace hX := hX.far (p := ⟨gS, 1, none⟩) (by dsimp only; exact hxs) (.slice s2 m2 d2)
    replace hR := hR.far (p := ⟨gS, 1, none⟩) (by dsimp only; exact hSr.symm) (.slice s2 m2 d2)
    replace hS := hS.set 1 (.slice s2 m2 d2)
    replace hb := hb.setCell (p := ⟨gS, 2, none⟩) (by dsimp only; omega) (.slice s3 m3 d3)
    replace hO := hO.far (p := ⟨gS, 2, none⟩) (by dsimp only; omega) (.slice s3 m3 d3)
    replace hG := hG.far (p := ⟨gS, 2, none⟩) (by dsimp only; omega) (.slice s3 m3 d3)
    replace hX := hX.far (p := ⟨gS, 2, none⟩) (by dsimp only; exact hxs) (.slice s3 m3 d3)
    replace hR := hR.far (p := ⟨gS, 2, none⟩) (by dsimp only; exact hSr.symm) (.slice s3 m3 d3)
    replace hS := hS.set 2 (.slice s3 m3 d3)
    replace hb := hb.setCell (p := ⟨gS, 3, none⟩) (by dsimp only; omega) (.slice s4 m4 d4)
    replace hO := hO.far (p := ⟨gS, 3, none⟩) (by dsimp only; omega) (.slice s4 m4 d4)
    replace hG := hG.far (p := ⟨gS, 3, none⟩) (by dsimp only; omega) (.slice s4 m4 d4)
    replace hX := hX.far (p := ⟨gS, 3, none⟩) (by dsimp only; exact hxs) (.slice s4 m4 d4)
    replace hR := hR.far (p := ⟨gS, 3, none⟩) (by dsimp only; exact hSr.symm) (.slice s4 m4 d4)
    replace hS := hS.set 3 (.slice s4 m4 d4)
    replace hb := hb.setCell (p := ⟨gS, 4, none⟩) (by dsimp only; omega) (.slice s5 m5 d5)
    replace hO := hO.far (p := ⟨gS, 4, none⟩) (by dsimp only; omega) (.slice s5 m5 d5)
    replace hG := hG.far (p := ⟨gS, 4, none⟩) (by dsimp only; omega) (.slice s5 m5 d5)
    replace hX := hX.far (p := ⟨gS, 4, none⟩) (by dsimp only; exact hxs) (.slice s5 m5 d5)
    replace hR := hR.far (p := ⟨gS, 4, none⟩) (by dsimp only; exact hSr.symm) (.slice s5 m5 d5)
    replace hS := hS.set 4 (.slice s5 m5 d5)
    replace hBB := hBB.touch hon (fun q h1 h2 => by omega) hh1
    replace hRB := hRB.touch hon (fun q h1 h2 => by omega) hh1
    replace hM0 := hM0.touch hon (fun q h1 h2 => by omega)
    replace hh1 := Nat.le_trans hh1 hon.below.size
    replace hh2 := Nat.le_trans hh2 hon.below.size
    clear hon
    generalize (((((W5).setCell ⟨gS, 0, none⟩ (.slice s1 m1 d1)).setCell ⟨gS, 1, none⟩ (.slice s2 m2 d2)).setCell ⟨gS, 2, none⟩ (.slice s3 m3 d3)).setCell ⟨gS, 3, none⟩ (.slice s4 m4 d4)).setCell ⟨gS, 4, none⟩ (.slice s5 m5 d5) = W9 at *
    refine hK.out _ _ ?_ (fun _ => ?_)
    · ((try dsimp only); (exact ⟨hO.cell 0, hO.cell 1, hG.cell 0⟩))
    clear hK K
    (try simp only [Act.put, pA, pB, pC])
    refine hdT 15 ?_
    refine hdT 16 ?_
    refine wpAnyH_done (by kernel_rfl) ?_ _
    go_wp2_with fail
    go_meet
    exact ⟨s1, m1, d1, s2, m2, d2, s3, m3, d3, s4, m4, d4, s5, m5, d5, gS, lo1, hi1, lo2, hi2, ra, rc, gr, rfl, rfl, rfl, hS, hBB, hRB, hM0, hR, hX, hb, hh1, hh2, hg1, hg2, hgX, hgw, hSr, hxs, hlw1, hlw2⟩
 case rest =>
  obtain ⟨s1, m1, d1, s2, m2, d2, s3, m3, d3, s4, m4, d4, s5, m5, d5, gS, lo1, hi1, lo2, hi2, ra, rc, gr, rfl, rfl, rfl, hS, hBB, hRB, hM0, hR, hX', hb', hh1, hh2, hg1, hg2, hgX, hgw, hSr, hxs, hlw1, hlw2⟩ := hcut
  clear hO hG hX hb hs
  clear w2
  have hX := hX'
  have hb := hb'
  clear hX' hb'
  rename_i wr
  have hs := hb.size
  have HO1 := Lib.hid (show ¬ (lo1 ≤ gr ∧ gr < hi1) by omega)
  have c2 := hS.cell 2
  have c3 := hS.cell 3
  have HXC := Lib.hid hX
  have HS := Lib.hid hS
  go_wp2_with fail
  refine (reduce_c W hBB hh1 HBR.out HR0.out (RowAt.of_own hR) HO1.out (by omega) (by rw [HKE.out]; omega)).mono ?_
  rintro e w3 ⟨gf, rfl, hgf, hFa, hRr, ht⟩
  rw [HKE.out]
  have hb3 := hb.trans (ht.bel3 hgw hs)
  have hX3 := ht.own hX (show ¬ gX = gr by omega)
  have hS3 := ht.own hS hSr
  have hRB3 := hRB.touch ht (fun k h1 h2 => by omega) hh1
  have hM3 := hM0.touch ht (fun k h1 h2 => by omega)
  have hh13 := Nat.le_trans hh1 ht.below.size
  have hh23 := Nat.le_trans hh2 ht.below.size
  have hs3 := hb3.size
  have HHI := Lib.hid (show hi1 ≤ gr ∧ hi2 ≤ gr from ⟨hg1, hg2⟩)
  clear hBB hRB hM0 hR hX hS hb hs c2 c3 HXC HS hh1 hh2 HO1 hg1 hg2
  have hrl : (byR r0 D).length = W := (byR_ok HR0.out HBR.out.ok).len
  go_wp2_with fail
  refine (isZeroR_c W hrl (by omega) hRr.rd0).mono ?_
  rintro e w4 ⟨rfl, rfl⟩
  clear hrl hRr ht
  cases hzb : zeroR (byR r0 D) with
  | false =>
    have HP := Lib.hid (poC_4 HC0'.out (HPZ.out.trans hzb))
    have cR := hX3.cell 0
    have fR := hX3.frozen 0
    clear hzb
    go_wp2_with fail
    have q4 := hX3.set 0 (.slice none 0 0)
    refine bodyPost_ret (results_row2 rfl _ _ gX 46 #[.slice none 0 0] (0, 0) _ rfl q4 Tryz.underlying46 rfl Tryz.info_form) rfl ⟨.slice none 0 0, by rw [HP.out.1]; rfl, ?_, hb3.setCell (p := ⟨gX, 0, none⟩) (by dsimp only; omega) _⟩
    rw [HP.out.2]
    exact World.ownsRow_nil _ _ _ _
  | true =>
    have HP := Lib.hid (poC_0 HC0'.out (HPZ.out.trans hzb))
    clear hzb
    have hmk := make_num3 N (by omega) w3
    have hP5 := Own.new w3 106 (Array.replicate N (Value.int .i64 0))
    have hba := bA1 w3 (.cells (Array.replicate N (Value.int .i64 0)) 106)
    go_upto_region 9 with fail
    clear hmk
    have hX5 := hX3.keep hba hX3.lt
    have hS5 := hS3.keep hba hS3.lt
    have hF5 := hFa.keep hba hFa.lt
    have hRB5 := hRB3.keep hba hh13
    have hM5 := hM3.keep hba
    have hb5 := bT' hb3 hba hs3
    have hfl := hFa.lt
    have hxl := hX3.lt
    have hsl := hS3.lt
    clear hX3 hS3 hFa hRB3 hM3 hb3 hba
    generalize w3.alloc (.cells (Array.replicate N (Value.int .i64 0)) 106) = w5 at *
    obtain ⟨gP, hgP⟩ : ∃ gP, w3.heap.size = gP := ⟨_, rfl⟩
    rw [hgP] at hP5 hh13 hh23 hs3 hfl hxl hsl
    try rw [hgP]
    clear hgP
    have hP6 : RowAt w5 gP (sumTo N (facR r0 D) P 0) := by
     rw [sumTo_zero]
     refine RowAt.of_own ?_
     rw [← ofI_rep]
     exact hP5
    obtain ⟨pa, pc, hpv, hRBe⟩ := hRB5
    simp only [Value.slice.injEq] at hpv
    obtain ⟨rfl, hm5, rfl⟩ := hpv
    obtain rfl : m5 = K0 := by rw [hm5, HPL.out]
    clear hm5
    have HRB := Lib.hid hRBe
    have HM := Lib.hid hM5
    have HS5 := Lib.hid hS5
    have HX5 := Lib.hid hX5
    have HF5 := Lib.hid hF5
    have HB5 := Lib.hid hb5
    have HHH := Lib.hid (show hi1 ≤ gP ∧ hi2 ≤ gP ∧ w.heap.size ≤ gP ∧ gf < gP ∧ gX < gP ∧ gS < gP from ⟨hh13, hh23, hs3, hfl, hxl, hsl⟩)
    have ht0 := Touch.refl (fun k => k = gP) w5
    have HPL5 := Lib.hid hP6.lt
    clear hRBe hM5 hS5 hX5 hF5 hb5 hP5 hh13 hh23 hfl hxl hsl
    go_upto_region 10 with fail
    go_loopw [51] (fun y wr => ∃ k : Nat, k ≤ m5 ∧ y = .int .i64 k ∧ Touch (fun k => k = gP) w5 wr ∧ RowAt wr gP (sumTo N (facR r0 D) P k)) (fun y _ => m5 - (intOf y).toNat)
    case atStart => exact ⟨0, Nat.zero_le _, rfl, ht0, hP6⟩
    case round =>
     clear ht0 hP6
     obtain ⟨k, hk, rfl, ht, hP⟩ := hrel
     by_cases hin : k < m5
     · have hk0 : (0 : Int) ≤ (k : Int) := by omega
       have hkn : (k : Int) < (m5 : Int) := by omega
       obtain ⟨s, hs⟩ : ∃ s, P[k]? = some s := ⟨_, List.getElem?_eq_getElem (by rw [HPL.out]; exact hin)⟩
       obtain ⟨x, hx⟩ : ∃ x, (facR r0 D)[k]? = some x := ⟨_, List.getElem?_eq_getElem (by rw [facR_len, HKE.out]; exact hin)⟩
       have hxb := facR_ok HR0.out x (List.mem_of_getElem? hx)
       obtain ⟨g, q, off, cap, rfl, g1, g2, cc, q1, q2, hrd⟩ := HRB.out k s hs
       have hbd := HHH.out
       have cc' := (World.cell?_of_block (a := ⟨g, k, none⟩) (ht.other g (by have := HPL5.out; omega) (show ¬ g = gP by omega))).trans cc
       have hF := ht.own HF5.out (show ¬ gf = gP by omega)
       have hS := ht.own HS5.out (show ¬ gS = gP by omega)
       have cF : wr.cell? ⟨gf, k, none⟩ = some (.int .i64 x) := by rw [hF.cell k, ofI_get hx]
       have cS := hS.cell 4
       have HST := Lib.hid (sumTo_step (N := N) hx hs)
       have HCU := Lib.hid (sumTo_ok (F := facR r0 D) HPO.out k (by rw [HPL.out]; exact hk))
       have HSO := Lib.hid (HPO.out s (List.mem_of_getElem? hs))
       have HRD : Hid (∀ w', Touch (fun k => k = gP) w5 w' → RdAt w' q off s) := Lib.hid (fun w' h => hrd.block (h.other q (by have := HPL5.out; omega) (show ¬ q = gP by omega)))
       have HXB := Lib.hid hxb
       clear hs hx cc hrd hF hS hbd g1 g2 q1 q2 hxb
       go_wp2_with fail
       refine (addA_c (off := off) N cap x HCU.out.len HSO.out.len (by omega) hP HCU.out.bd HSO.out.bd HXB.out (fun w' h => HRD.out w' (ht.trans h))).mono ?_
       rintro e w7 ⟨rfl, hP7, ht7⟩
       have ht8 := ht.trans ht7
       clear cc' cF cS ht ht7 hP
       go_wp2_with fail
       go_roundw
       case rel => exact ⟨k + 1, by omega, by go_num, ht8, by rw [HST.out]; exact hP7⟩
       case measure => simp [intOf] <;> omega
     · have he : k = m5 := by omega
       subst he
       have hbd := HHH.out
       have hM := (HM.out.touch ht (fun g h1 h2 => show ¬ g = gP by omega)).mos
       have hX := ht.own HX5.out (show ¬ gX = gP by omega)
       have hb := HB5.out.trans (ht.bel3 hbd.2.2.1 (by have := HB5.out.size; omega))
       have hsu := (sumTo_ok (F := facR r0 D) HPO.out k (by rw [HPL.out]; exact Nat.le_refl _)).len
       have HGX := Lib.hid (show w.heap.size ≤ gX ∧ gX < wr.heap.size from ⟨hgx1, hX.lt⟩)
       clear ht hbd
       go_wp2_with fail
       refine (formR_c rc N hM hP.rd0 hP.lt hsu (by omega)).mono ?_
       rintro e w9 ⟨vv, rfl, hO, hb9⟩
       obtain ⟨va, vn, vc, rfl⟩ := hO.isSlice
       have hX9 := hX.keep hb9 hX.lt
       have hb10 := bT' hb hb9 hb.size
       have HO := Lib.hid hO
       have HSW := Lib.hid hb.size
       clear hX hb hb9 hM hP hsu hO
       have cR := hX9.cell 0
       have fR := hX9.frozen 0
       go_wp2_with fail
       have q4 := hX9.set 0 (.slice va vn vc)
       refine bodyPost_ret (results_row2 rfl _ _ gX 46 #[.slice va vn vc] (0, 0) _ rfl q4 Tryz.underlying46 rfl Tryz.info_form) rfl ⟨.slice va vn vc, by rw [HP.out.1]; rfl, ?_, hb10.setCell (p := ⟨gX, 0, none⟩) (by dsimp only; omega) _⟩
       rw [HP.out.2, HPM.out]
       exact (HO.out.set (p := ⟨gX, 0, none⟩) (by dsimp only; exact HGX.out.2) _).weaken HSW.out
end Go.Proofs.YtmmicjcfnnppfaaGreat
