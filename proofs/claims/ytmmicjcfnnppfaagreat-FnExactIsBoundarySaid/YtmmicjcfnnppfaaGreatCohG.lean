
import Derived.Test.YtmmicjcfnnppfaaGreatBasV
import Derived.Test.YtmmicjcfnnppfaaGreatBin
import Derived.Test.YtmmicjcfnnppfaaGreatNewA
import Derived.Test.YtmmicjcfnnppfaaGreatHomS
namespace Go.Proofs.YtmmicjcfnnppfaaGreat
set_option maxRecDepth 100000
open Go.RowKit Go.Deep
set_option maxHeartbeats 4000000 in
theorem formR_c {w : World} {ca : Option Addr} {n p off : Nat} {V : List (List Int)} {R : List Int} (cc rc : Nat) (hM : Mos w ca n V) (hR : RdAt w p off R) (hpl : p < w.heap.size) (hRl : R.length = n) (hn : n ≤ 120) :
    Calls Tryz.prog 81 #[.slice ca n cc, .slice (some ⟨p, off, none⟩) n rc] w fun e w' => ∃ v, e = .returned (.agg #[v]) ∧ OwnR w' w.heap.size v (fmR V R) ∧ Below w.heap.size w w' := by
 have HVL := Lib.hid hM.1
 have HRL := Lib.hid hRl
 have HRD := Lib.hid hR
 have HPL := Lib.hid hpl
 clear hR hRl hpl
 have hR2 := (Own.new w 46 #[.slice none 0 0]).alloc (.cells #[.slice none 0 0] 46)
 have hG2 := Own.new (w.alloc (.cells #[.slice none 0 0] 46)) 46 #[.slice none 0 0]
 rw [size_alloc] at hG2
 have hb02 := below_then (bA1 w (.cells #[.slice none 0 0] 46)) (bA1 _ (.cells #[.slice none 0 0] 46))
 go_enter Tryz.func81, Tryz.ntmps81
 go_upto_region 2 with fail
 generalize (w.alloc (.cells #[.slice none 0 0] 46)).alloc (.cells #[.slice none 0 0] 46) = w2 at *
 obtain ⟨g8, hg8⟩ : ∃ g8, w.heap.size + 1 = g8 := ⟨_, rfl⟩
 rw [hg8] at hG2
 have hl1 : w.heap.size < g8 := by omega
 try rw [hg8]
 clear hg8
 go_upto_region 3 with fail
 go_loopw [10] (fun y wr => ∃ (k : Nat) (v : Value), k ≤ n ∧ y = .int .i64 k ∧ Below w.heap.size w wr ∧ Own wr w.heap.size 46 #[.slice none 0 0] ∧ Own wr g8 46 #[v] ∧ OwnForm wr (g8 + 1) v (fmR (V.take k) (R.take k))) (fun y _ => n - (intOf y).toNat)
 case atStart => exact ⟨0, .slice none 0 0, Nat.zero_le _, rfl, hb02, hR2, hG2, by rw [fmR_zero]; exact ⟨World.ownsRow_nil _ _ _ _, by simp⟩⟩
 case round =>
  clear hb02 hR2 hG2
  obtain ⟨k, v, hk, rfl, hb, hF, hG, hO⟩ := hrel
  obtain ⟨va, vn, vc, rfl⟩ := hO.isSlice
  have hk0 : (0 : Int) ≤ (k : Int) := by omega
  by_cases hlt : k < n
  · have hkn : (k : Int) < (n : Int) := by omega
    obtain ⟨x, hx⟩ : ∃ x, R[k]? = some x := ⟨_, List.getElem?_eq_getElem (by rw [HRL.out]; exact hlt)⟩
    have hcx0 := HRD.out k x hx
    have hcx := (World.cell?_of_block (a := ⟨p, off + k, none⟩) (hb.block p HPL.out)).trans hcx0
    have HX := Lib.hid hx
    obtain ⟨b, o, mt, rfl, hbl, hr0, hmt, hm⟩ := hM.at_ hlt
    have HMM := Lib.hid hm.out
    clear hx hm
    obtain ⟨p0, p1, p2, p3, p4, p5, p6, p7, rfl⟩ := mono8 hmt
    by_cases hx0 : x = 0
    · subst hx0
      go_wp2_with fail
      go_roundw
      case rel => exact ⟨k + 1, .slice va vn vc, by omega, by go_num, hb, hF, hG, by rw [fmR_no HMM.out HX.out]; exact hO⟩
      case measure => simp [intOf] <;> omega
    · have hxb : (x != 0) = true := by simpa using hx0
      have hGc : Own wr.drew g8 46 #[.slice va vn vc] := hG
      have hFc : Own wr.drew w.heap.size 46 #[.slice none 0 0] := hF
      have hOc : OwnForm wr.drew (g8 + 1) (.slice va vn vc) (fmR (V.take k) (R.take k)) := hO
      have hbc : Below w.heap.size w wr.drew := hb.drew
      have hrc := rangeAt_keep hr0 (hbc.block b hbl)
      have cG := hGc.cell 0
      have hnews : ∀ j u, ([Value.int .u8 p0, .int .u8 p1, .int .u8 p2, .int .u8 p3, .int .u8 p4, .int .u8 p5, .int .u8 p6, .int .u8 p7, .int .i64 x] : List Value)[j]? = some u → (wr.drew.alloc (.cells #[.int .u8 p0, .int .u8 p1, .int .u8 p2, .int .u8 p3, .int .u8 p4, .int .u8 p5, .int .u8 p6, .int .u8 p7, .int .i64 x] 150)).cell? ((⟨wr.heap.size, 0, none⟩ : Addr).add j) = some u := fun j u hu => by
       rw [Addr.add_mid]
       exact (Own.new wr.drew 150 #[.int .u8 p0, .int .u8 p1, .int .u8 p2, .int .u8 p3, .int .u8 p4, .int .u8 p5, .int .u8 p6, .int .u8 p7, .int .i64 x]).range j u hu
      have hone : ∀ u ∈ ([Value.int .u8 p0, .int .u8 p1, .int .u8 p2, .int .u8 p3, .int .u8 p4, .int .u8 p5, .int .u8 p6, .int .u8 p7, .int .i64 x] : List Value), u.oneCell' = true := by simp [Value.oneCell']
      have hpl : (fmR (V.take k) (R.take k)).length ≤ 400 := by
       have h1 := fmR_len (V.take k) (R.take k)
       rw [List.length_take] at h1
       omega
      obtain ⟨ti, tz, hti, htz, hts, htb, htzs⟩ := Tryz.info_termA
      have HN := Lib.hid hnews
      have HO := Lib.hid hone
      have HP := Lib.hid hpl
      have HI := Lib.hid hti
      have HZ := Lib.hid htz
      have HS := Lib.hid hts
      have HBt := Lib.hid htb
      have HZs := Lib.hid htzs
      clear hnews hone hpl hti htz hts htb htzs
      go_upto_region 6 with fail
      clear hF hG hO hb
      refine wp_region_held_drew (S := (fun w' => w'.cell? ⟨b, o + k * 8, none⟩ = some (.int .u8 p0) ∧ w'.cell? ⟨b, o + k * 8 + 1, none⟩ = some (.int .u8 p1) ∧ w'.cell? ⟨b, o + k * 8 + 2, none⟩ = some (.int .u8 p2) ∧ w'.cell? ⟨b, o + k * 8 + 3, none⟩ = some (.int .u8 p3) ∧ w'.cell? ⟨b, o + k * 8 + 4, none⟩ = some (.int .u8 p4) ∧ w'.cell? ⟨b, o + k * 8 + 5, none⟩ = some (.int .u8 p5) ∧ w'.cell? ⟨b, o + k * 8 + 6, none⟩ = some (.int .u8 p6) ∧ w'.cell? ⟨b, o + k * 8 + 7, none⟩ = some (.int .u8 p7))) (by kernel_rfl) ?_ (fun hHeld => ?_)
      · ((try dsimp only); (exact eight hrc))
      refine hdT 0 ?_
      refine hdT 2 ?_
      refine hdT 3 ?_
      refine hdT 4 ?_
      refine hdT 5 ?_
      refine hdT 6 ?_
      refine hdT 7 ?_
      refine wpAnyH_ready (rs := [1, 8]) (by kernel_rfl) (by simp) ?_
      refine AllReadyH.cons (hdAt (i := 1) rfl) (fun K hK => ?_) (AllReadyH.cons (hdAt (i := 8) rfl) (fun K hK => ?_) AllReadyH.nil)
      · (go_simp; try go_wp2_with fail)
        refine hK.out _ _ ?_ (fun _ => ?_)
        · ((try dsimp only); (exact eight hrc))
        clear hK K
        (try simp only [Act.put, pA, pB, pC])
        refine hdC 8 (fun K hK => ?_)
        (go_simp; try go_wp2_with fail)
        have hFa := hFc.alloc (.cells #[.int .u8 p0, .int .u8 p1, .int .u8 p2, .int .u8 p3, .int .u8 p4, .int .u8 p5, .int .u8 p6, .int .u8 p7, .int .i64 x] 150)
        have hGa := hGc.alloc (.cells #[.int .u8 p0, .int .u8 p1, .int .u8 p2, .int .u8 p3, .int .u8 p4, .int .u8 p5, .int .u8 p6, .int .u8 p7, .int .i64 x] 150)
        have hOa := (hOc.keep (bA1 wr.drew (.cells #[.int .u8 p0, .int .u8 p1, .int .u8 p2, .int .u8 p3, .int .u8 p4, .int .u8 p5, .int .u8 p6, .int .u8 p7, .int .i64 x] 150))).1
        have hba := bT' hbc (bA1 wr.drew (.cells #[.int .u8 p0, .int .u8 p1, .int .u8 p2, .int .u8 p3, .int .u8 p4, .int .u8 p5, .int .u8 p6, .int .u8 p7, .int .i64 x] 150)) hbc.size
        have hra := rangeAt_keep hr0 (hba.block b hbl)
        refine hK.out _ _ ?_ (fun _ => ?_)
        · ((try dsimp only); (exact eight hra))
        clear hK K
        (try simp only [Act.put, pA, pB, pC])
        refine hdC 9 (fun K hK => ?_)
        rw [if_pos (by rfl)]
        refine wp_append_own_wide _ (.tmp 18) (.tmp 25) 44 rfl (g8 + 1) 150 ti tz 9 16 Tryz.underlying44 HI.out HZ.out HS.out HBt.out HZs.out (by omega) (.slice va vn vc) _ _ rfl hOa ⟨wr.heap.size, 0, none⟩ 1 1 [Value.int .u8 p0, .int .u8 p1, .int .u8 p2, .int .u8 p3, .int .u8 p4, .int .u8 p5, .int .u8 p6, .int .u8 p7, .int .i64 x] rfl rfl HN.out HO.out (by have := HP.out; simp only [maxLen]; omega) (by have := HP.out; omega) (Nat.succ_le_of_lt hGa.lt) (fun v' w' h2 h3 h4 => ?_)
        obtain ⟨gg, vk, cp, rfl⟩ : ∃ gg vk cp, v' = .slice gg vk cp := by
         rcases h2.2 with ⟨h0, _⟩ | ⟨g, cap, cur, hv, _⟩
         · exact ⟨_, _, _, h0⟩
         · exact ⟨_, _, _, hv⟩
        have hF7 := hFa.grown h3 (fun e => by have := (hOa.lt _ e.symm).1; omega)
        have hG7 := hGa.grown h3 (fun e => by have := (hOa.lt _ e.symm).1; omega)
        have hb7 := grown_below hba h3 (fun q e => by have := (hOa.lt q e).1; omega) hba.size
        have hr7 := rangeAt_keep hr0 (hb7.block b hbl)
        have c7 := hG7.cell 0
        have f7 := hG7.frozen 0
        have H2 := Lib.hid h2
        have H4 := Lib.hid h4
        clear h2 h3 h4 hOa hFa hGa hba
        refine hK.out _ _ ?_ (fun _ => ?_)
        · ((try dsimp only); (exact eight hr7))
        clear hK K
        (try simp only [Act.put, pA, pB, pC])
        refine hdT 10 ?_
        refine hdC 11 (fun K hK => ?_)
        (go_simp; go_wp2_with fail)
        have hF8 := hF7.far (p := ⟨g8, 0, none⟩) (by dsimp only; omega) (.slice gg vk cp)
        have hb8 := hb7.setCell (p := ⟨g8, 0, none⟩) (by dsimp only; omega) (.slice gg vk cp)
        have hr8 := rangeAt_keep hr0 (hb8.block b hbl)
        refine hK.out _ _ ?_ (fun _ => ?_)
        · ((try dsimp only); (exact eight hr8))
        clear hK K
        (try simp only [Act.put, pA, pB, pC])
        refine wpAnyH_done (by kernel_rfl) ?_ _
        go_wp2_with fail
        go_roundw
        case rel =>
         refine ⟨k + 1, .slice gg vk cp, by omega, by go_num, hb8, hF8, hG7.set 0 _, ?_⟩
         rw [fmR_yes HMM.out HX.out hx0]
         exact OwnForm.set (p := ⟨g8, 0, none⟩) (OwnForm.of H2.out (by simp) (by rw [rcells_append]; rfl) ⟨fun e => absurd (H4.out.1 e).2 (by omega), fun e => by omega⟩) (by dsimp only; omega) _
        case measure => simp [intOf] <;> omega
      · (go_simp; try go_wp2_with fail)
        have hFa := hFc.alloc (.cells #[.int .u8 p0, .int .u8 p1, .int .u8 p2, .int .u8 p3, .int .u8 p4, .int .u8 p5, .int .u8 p6, .int .u8 p7, .int .i64 x] 150)
        have hGa := hGc.alloc (.cells #[.int .u8 p0, .int .u8 p1, .int .u8 p2, .int .u8 p3, .int .u8 p4, .int .u8 p5, .int .u8 p6, .int .u8 p7, .int .i64 x] 150)
        have hOa := (hOc.keep (bA1 wr.drew (.cells #[.int .u8 p0, .int .u8 p1, .int .u8 p2, .int .u8 p3, .int .u8 p4, .int .u8 p5, .int .u8 p6, .int .u8 p7, .int .i64 x] 150))).1
        have hba := bT' hbc (bA1 wr.drew (.cells #[.int .u8 p0, .int .u8 p1, .int .u8 p2, .int .u8 p3, .int .u8 p4, .int .u8 p5, .int .u8 p6, .int .u8 p7, .int .i64 x] 150)) hbc.size
        have hra := rangeAt_keep hr0 (hba.block b hbl)
        refine hK.out _ _ ?_ (fun _ => ?_)
        · ((try dsimp only); (exact eight hra))
        clear hK K
        (try simp only [Act.put, pA, pB, pC])
        have cGa : (wr.alloc (.cells #[.int .u8 p0, .int .u8 p1, .int .u8 p2, .int .u8 p3, .int .u8 p4, .int .u8 p5, .int .u8 p6, .int .u8 p7, .int .i64 x] 150)).drew.cell? ⟨g8, 0, none⟩ = some (.slice va vn vc) := hGa.cell 0
        refine hdC 1 (fun K hK => ?_)
        (go_simp; try go_wp2_with fail)
        refine hK.out _ _ ?_ (fun _ => ?_)
        · ((try dsimp only); (exact eight hra))
        clear hK K
        (try simp only [Act.put, pA, pB, pC])
        refine hdC 9 (fun K hK => ?_)
        rw [if_pos (by rfl)]
        refine wp_append_own_wide _ (.tmp 18) (.tmp 25) 44 rfl (g8 + 1) 150 ti tz 9 16 Tryz.underlying44 HI.out HZ.out HS.out HBt.out HZs.out (by omega) (.slice va vn vc) _ _ rfl hOa ⟨wr.heap.size, 0, none⟩ 1 1 [Value.int .u8 p0, .int .u8 p1, .int .u8 p2, .int .u8 p3, .int .u8 p4, .int .u8 p5, .int .u8 p6, .int .u8 p7, .int .i64 x] rfl rfl HN.out HO.out (by have := HP.out; simp only [maxLen]; omega) (by have := HP.out; omega) (Nat.succ_le_of_lt hGa.lt) (fun v' w' h2 h3 h4 => ?_)
        obtain ⟨gg, vk, cp, rfl⟩ : ∃ gg vk cp, v' = .slice gg vk cp := by
         rcases h2.2 with ⟨h0, _⟩ | ⟨g, cap, cur, hv, _⟩
         · exact ⟨_, _, _, h0⟩
         · exact ⟨_, _, _, hv⟩
        have hF7 := hFa.grown h3 (fun e => by have := (hOa.lt _ e.symm).1; omega)
        have hG7 := hGa.grown h3 (fun e => by have := (hOa.lt _ e.symm).1; omega)
        have hb7 := grown_below hba h3 (fun q e => by have := (hOa.lt q e).1; omega) hba.size
        have hr7 := rangeAt_keep hr0 (hb7.block b hbl)
        have c7 := hG7.cell 0
        have f7 := hG7.frozen 0
        have H2 := Lib.hid h2
        have H4 := Lib.hid h4
        clear h2 h3 h4 hOa hFa hGa hba
        refine hK.out _ _ ?_ (fun _ => ?_)
        · ((try dsimp only); (exact eight hr7))
        clear hK K
        (try simp only [Act.put, pA, pB, pC])
        refine hdT 10 ?_
        refine hdC 11 (fun K hK => ?_)
        (go_simp; go_wp2_with fail)
        have hF8 := hF7.far (p := ⟨g8, 0, none⟩) (by dsimp only; omega) (.slice gg vk cp)
        have hb8 := hb7.setCell (p := ⟨g8, 0, none⟩) (by dsimp only; omega) (.slice gg vk cp)
        have hr8 := rangeAt_keep hr0 (hb8.block b hbl)
        refine hK.out _ _ ?_ (fun _ => ?_)
        · ((try dsimp only); (exact eight hr8))
        clear hK K
        (try simp only [Act.put, pA, pB, pC])
        refine wpAnyH_done (by kernel_rfl) ?_ _
        go_wp2_with fail
        go_roundw
        case rel =>
         refine ⟨k + 1, .slice gg vk cp, by omega, by go_num, hb8, hF8, hG7.set 0 _, ?_⟩
         rw [fmR_yes HMM.out HX.out hx0]
         exact OwnForm.set (p := ⟨g8, 0, none⟩) (OwnForm.of H2.out (by simp) (by rw [rcells_append]; rfl) ⟨fun e => absurd (H4.out.1 e).2 (by omega), fun e => by omega⟩) (by dsimp only; omega) _
        case measure => simp [intOf] <;> omega
  · have he : k = n := by omega
    subst he
    have c3 := hG.cell 0
    have cR := hF.cell 0
    have fR := hF.frozen 0
    go_wp2_with fail
    have q := hF.set 0 (.slice va vn vc)
    have q3 : OwnR (wr.setCell ⟨w.heap.size, 0, none⟩ (.slice va vn vc)) w.heap.size (.slice va vn vc) (fmR V R) := by
     have := (hO.set (p := ⟨w.heap.size, 0, none⟩) (by dsimp only; omega) (.slice va vn vc)).r.weaken (B' := w.heap.size) (by omega)
     rwa [List.take_of_length_le (Nat.le_of_eq HVL.out), List.take_of_length_le (Nat.le_of_eq HRL.out)] at this
    exact bodyPost_ret (results_cell_row rfl _ _ w.heap.size 46 #[.slice va vn vc] (0, 0) _ rfl q Tryz.underlying46 rfl Tryz.info_form) rfl ⟨_, rfl, q3, hb.setCell (p := ⟨w.heap.size, 0, none⟩) (by dsimp only; omega) _⟩
theorem columnsOf_m {w : World} {da : Option Addr} {dn : Nat} {zs : List Int} {a : Option Addr} {n m : Nat} (dc c : Nat) (hd : Ints w da dn zs) (hdn : dn ≤ 1048576) (hz : degsOk zs = true) (hm : m ≤ 40) (hc : cnt zs m ≤ 120) :
    Calls Tryz.prog 58 #[.agg #[.slice da dn dc, .slice a n c], .int .i64 m] w fun e w' => ∃ ra rc, e = .returned (.slice ra (cnt zs m) rc) ∧ Mos w' ra (cnt zs m) (side zs m) ∧ Below w.heap.size w w' := by
 refine (columnsOf_c dc c hd hdn).mono ?_
 rintro e w' ⟨ra, rn, rc, rfl, hM, hb⟩
 rw [moV_side (n := m) hz (by omega) (by omega)] at hM
 obtain rfl : cnt zs m = rn := by rw [← hM.1, side_len]
 exact ⟨ra, rc, rfl, hM.mos, hb⟩
theorem splitLow_c {w : World} {da : Option Addr} {dn : Nat} {zs : List Int} {a : Option Addr} {k : Nat} {ims : List (List Tm)} {m : Nat} {x : Int} (dc c : Nat) (hd : Ints w da dn zs) (hdn : dn ≤ 1048576) (hF : Frms w a k ims) (HA : AlgOk zs ims) (hA : isAlg zs ims = true) (hz : degsOk zs = true) (hm : m ≤ 20) (hc : cnt zs m ≤ 120) (hl : ¬ m = 0 → cnt zs (m - 1) ≤ 120) (hx : x = (m : Int) - 1 := by rfl) :
    Calls Tryz.prog 60 #[.agg #[.slice da dn dc, .slice a k c], .int .i64 x] w fun e w' => ∃ v, e = .returned v ∧ SplitV w' w.heap.size v (cnt zs m) (nbR zs m) (lgR zs ims m) ∧ Below w.heap.size w w' := by
 by_cases h0 : m = 0
 · subst h0
   refine (splitByDN_c dc c (by omega) hd hdn hz hc).mono ?_
   rintro e w' ⟨v, rfl, h1, h2⟩
   exact ⟨v, rfl, h1, h2⟩
 · obtain ⟨j, rfl⟩ : ∃ j, m = j + 1 := ⟨m - 1, by omega⟩
   have e1 : x = (j : Int) := by omega
   rw [e1]
   have hl2 := hl h0
   rw [show j + 1 - 1 = j by omega] at hl2
   refine (splitByD_c dc c hd hdn hF HA hA hz (by omega) hl2 hc).mono ?_
   rintro e w' ⟨v, rfl, h1, h2⟩
   refine ⟨v, rfl, ?_, h2⟩
   rw [nbR, lgR, if_neg h0, if_neg h0, show j + 1 - 1 = j by omega]
   exact h1
theorem nbR_lt {zs : List Int} {m : Nat} (h : ¬ m = 0 → cnt zs (m - 1) ≤ 120) : nbR zs m ≤ 120 := by
 rw [nbR]
 split
 · omega
 · rename_i h0
   exact h h0
theorem columnsN_c {w : World} {da : Option Addr} {dn : Nat} {zs : List Int} {a : Option Addr} {n : Nat} {x : Int} (dc c : Nat) (hd : Ints w da dn zs) (hdn : dn ≤ 1048576) (hz : degsOk zs = true) (hx : x < 0) :
    Calls Tryz.prog 58 #[.agg #[.slice da dn dc, .slice a n c], .int .i64 x] w fun e w' => ∃ ra rc, e = .returned (.slice ra 0 rc) ∧ Mos w' ra 0 [] ∧ Below w.heap.size w w' := by
 refine (columnsOf_c dc c hd hdn).mono ?_
 rintro e w' ⟨ra, rn, rc, rfl, hM, hb⟩
 have e0 : moV zs x = [] := (mo_err (mo_2 hz (by omega)) (by omega)).2
 rw [e0] at hM
 obtain rfl : 0 = rn := hM.1
 exact ⟨ra, rc, rfl, hM.mos, hb⟩
theorem splitByDM_c {w : World} {da : Option Addr} {dn : Nat} {zs : List Int} {a : Option Addr} {k : Nat} (dc c : Nat) (hd : Ints w da dn zs) (hdn : dn ≤ 1048576) (hz : degsOk zs = true) :
    Calls Tryz.prog 60 #[.agg #[.slice da dn dc, .slice a k c], .int .i64 (-2)] w fun e w' => ∃ v, e = .returned v ∧ SplitV w' w.heap.size v 0 0 [] ∧ Below w.heap.size w w' := by
 have hwx : IntKind.i64.wrap ((-2 : Int) + 1) = (-2 : Int) + 1 := IntWalk.i64_in _ (by omega)
 have h1 : ∀ x : Int, x < 0 → ∀ w', Below w.heap.size w w' → Calls Tryz.prog 58 #[.agg #[.slice da dn dc, .slice a k c], .int .i64 x] w' fun e w'' => ∃ ra rc, e = .returned (.slice ra 0 rc) ∧ Below w'.heap.size w' w'' := fun x hx w' hb => by
  refine (columnsN_c dc c (hd.keep hb) hdn hz hx).mono ?_
  rintro e w'' ⟨ra, rc, rfl, -, hb2⟩
  exact ⟨ra, rc, rfl, hb2⟩
 exact splitByD_g (M := []) (Fl := []) hwx (fun w' hb => matrixOfN_c hwx (Nat.zero_le _) (fun w'' hb2 => h1 (-2) (by omega) w'' (bT' hb hb2 hb.size)) (fun w'' hb2 => h1 (-2 + 1) (by omega) w'' (bT' hb hb2 hb.size))) (fun w' hb => h1 (-2 + 1) (by omega) w' hb) rfl (by simp) (by simp) (by omega) (by omega)
end Go.Proofs.YtmmicjcfnnppfaaGreat
