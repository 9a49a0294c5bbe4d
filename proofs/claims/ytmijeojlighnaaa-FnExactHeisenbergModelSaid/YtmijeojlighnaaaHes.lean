
import Derived.Test.YtmijeojlighnaaaHei
import Derived.Test.YtmijeojlighnaaaToS
import Derived.Test.YtmijeojlighnaaaAlgR
namespace Go.Proofs.Ytmijeojlighnaaa
open Go.RowKit Go.Deep
theorem num_one : num (1 * 1) = 1 := by decide
theorem own1_one (m : List Int) : own1 m (num (1 * 1)) = [⟨m, 1⟩] := by rw [num_one]; rfl
theorem hei_add0 : addT 1 (heiT 0) [⟨[1, 1, 0, 0, 0, 0, 0, 0], 1⟩] = heiT 1 := by
  show addT 1 [] [⟨[1, 1, 0, 0, 0, 0, 0, 0], 1⟩] = [⟨[1, 1, 0, 0, 0, 0, 0, 0], 1⟩]
  rw [addT_left, own1_one, addT_right]; rfl
theorem hei_add1 : addT 1 (heiT 1) [⟨[0, 0, 1, 1, 0, 0, 0, 0], 1⟩] = heiT 2 := by
  show addT 1 [⟨[1, 1, 0, 0, 0, 0, 0, 0], 1⟩] [⟨[0, 0, 1, 1, 0, 0, 0, 0], 1⟩] = [⟨[1, 1, 0, 0, 0, 0, 0, 0], 1⟩, ⟨[0, 0, 1, 1, 0, 0, 0, 0], 1⟩]
  rw [addT_lt (by decide), addT_left, own1_one, addT_right]; rfl
theorem hei_add2 : addT 1 (heiT 2) [⟨[0, 0, 0, 0, 1, 1, 0, 0], 1⟩] = heiT 3 := by
  show addT 1 [⟨[1, 1, 0, 0, 0, 0, 0, 0], 1⟩, ⟨[0, 0, 1, 1, 0, 0, 0, 0], 1⟩] [⟨[0, 0, 0, 0, 1, 1, 0, 0], 1⟩] = [⟨[1, 1, 0, 0, 0, 0, 0, 0], 1⟩, ⟨[0, 0, 1, 1, 0, 0, 0, 0], 1⟩, ⟨[0, 0, 0, 0, 1, 1, 0, 0], 1⟩]
  rw [addT_lt (by decide), addT_lt (by decide), addT_left, own1_one, addT_right]; rfl
theorem heiT_f (n : Nat) : ∀ t ∈ heiT n, 0 ≤ t.f ∧ t.f ≤ 10006 := by
  intro t ht
  have h := List.mem_of_mem_take ht
  simp at h
  rcases h with rfl | rfl | rfl <;> simp
theorem one_f {m : List Int} : ∀ t ∈ ([⟨m, 1⟩] : List Tm), 0 ≤ t.f ∧ t.f ≤ 10006 := by
  intro t ht
  rw [List.mem_singleton.1 ht]
  simp
theorem mono_b0 : IsMono [1, 1, 0, 0, 0, 0, 0, 0] := ⟨rfl, by intro x hx; simp at hx; omega⟩
theorem mono_b1 : IsMono [0, 0, 1, 1, 0, 0, 0, 0] := ⟨rfl, by intro x hx; simp at hx; omega⟩
theorem mono_b2 : IsMono [0, 0, 0, 0, 1, 1, 0, 0] := ⟨rfl, by intro x hx; simp at hx; omega⟩
set_option maxHeartbeats 4000000 in
set_option maxRecDepth 100000 in
theorem hei_s1 (w : World) :
    Calls Try.prog 22 #[.int .i64 1] w fun e w' => SpO (List.replicate 3 1) (List.replicate 2 [] ++ [heiT 1]) 0 w e w' := by
  have hX := Own.new w 25 #[.slice none 0 0, .slice none 0 0]
  have hb := below_alloc1 w (.cells #[.slice none 0 0, .slice none 0 0] 25)
  go_enter Try.func22, Try.ntmps22
  go_upto_region 1 with fail
  generalize w.alloc (.cells #[.slice none 0 0, .slice none 0 0] 25) = w1 at *
  obtain ⟨gX, hgX⟩ : ∃ g, w.heap.size = g := ⟨_, rfl⟩
  rw [hgX] at hX
  try rw [hgX]
  have hwX : w.heap.size ≤ gX := by omega
  clear hgX
  have hlX := hX.lt
  have hs1 := hb.size
  have hq : Calls Try.prog 43 #[.int .i64 3] w1 fun e w' => ∃ g dc, e = .returned (.slice (some ⟨g, 0, none⟩) 3 dc) ∧ w1.heap.size ≤ g ∧ w'.ownsRow w1.heap.size 2 1 (.slice (some ⟨g, 0, none⟩) 3 dc) 3 ((List.replicate 3 (1 : Int)).map (Value.int .i64)) ∧ Below w1.heap.size w1 w' := l08Ones_c 3 w1 (by omega)
  go_wp2_with fail
  refine (l01In_c 1 1 3 _).mono ?_
  rintro e w5 ⟨rfl, rfl⟩
  rw [show decide ((1 : Int) ≤ 1 ∧ (1 : Int) ≤ 3) = true by decide]
  go_wp2_with fail
  refine hq.mono ?_
  rintro e w3 ⟨g, dc, rfl, hg, hR, hb3⟩
  have hI := row_intsS hR
  have hs3 := hb3.size
  replace hX := hX.keep hb3 hX.lt
  replace hb := below_trans' hb hb3 hb.size
  clear hq hb3 hR
  go_wp2_with fail
  refine (l02FreeI_c dc hI (by omega)).mono ?_
  rintro e w4 ⟨a, ac, rb, rfl, hV, hE, hb4⟩
  obtain ⟨gI, rfl, hI1, hI2, hO⟩ := hE (by omega)
  have hs4 := hb4.size
  replace hX := hX.keep hb4 hX.lt
  replace hb := below_trans' hb hb4 hb.size
  clear hb4 hI hE
  obtain ⟨lo, hlo⟩ : ∃ l, w3.heap.size = l := ⟨_, rfl⟩
  rw [hlo] at hV hI1 hs3 hs4
  clear hlo
  have hA := (Own.new w4 25 #[.slice a 3 ac, .slice (some ⟨gI, 0, none⟩) 3 3]).alloc (.cells #[.slice none 0 0] 47)
  have hG := Own.new (w4.alloc (.cells #[.slice a 3 ac, .slice (some ⟨gI, 0, none⟩) 3 3] 25)) 47 #[.slice none 0 0]
  rw [size_alloc] at hG
  have hba := below_then (below_alloc1 w4 (.cells #[.slice a 3 ac, .slice (some ⟨gI, 0, none⟩) 3 3] 25)) (below_alloc1 _ (.cells #[.slice none 0 0] 47))
  replace hX := hX.keep hba hX.lt
  replace hO := hO.keep hba hO.lt
  replace hV := hV.keep hba
  replace hb := below_trans' hb hba hb.size
  clear hba
  go_upto_region 4 with fail
  generalize (w4.alloc (.cells #[.slice a 3 ac, .slice (some ⟨gI, 0, none⟩) 3 3] 25)).alloc (.cells #[.slice none 0 0] 47) = w6 at *
  obtain ⟨gA, hgA⟩ : ∃ g, w4.heap.size = g := ⟨_, rfl⟩
  obtain ⟨gf, hgf⟩ : ∃ g, w4.heap.size + 1 = g := ⟨_, rfl⟩
  rw [hgf] at hG
  rw [hgA] at hA hI2 hs4
  rw [hgA] at hV
  try rw [hgf]
  try rw [hgA]
  have hAf : gA < gf := by omega
  clear hgA hgf
  go_upto_region 5 with fail
  go_loopw [6] (fun y wr => ∃ (k : Nat) (va : Option Addr) (vn vc : Nat), k ≤ 1 ∧ y = .int .i64 k ∧ Below w.heap.size w wr ∧ Own wr gX 25 #[.slice none 0 0, .slice none 0 0] ∧ Own wr gA 25 #[.slice a 3 ac, .slice (some ⟨gI, 0, none⟩) 3 3] ∧ Own wr gf 47 #[.slice va vn vc] ∧ Own wr gI 47 (Array.replicate 3 (.slice none 0 0)) ∧ OwnV wr lo gA a 3 (List.replicate 3 1) ∧ OwnR wr gA (.slice va vn vc) (heiT k)) (fun y _ => 1 - (intOf y).toNat)
  case atStart => exact ⟨0, none, 0, 0, Nat.zero_le _, rfl, hb, hX, hA, hG, hO, hV, World.ownsRow_nil _ _ _ _⟩
  case round =>
    clear hb hX hA hG hO hV
    obtain ⟨k, va, vn, vc, hk, rfl, hb, hX, hA, hG, hO, hV, hR⟩ := hrel
    by_cases hlt : k < 1
    · obtain rfl : k = 0 := by omega
      have HRL := Lib.hid hR
      have HVL := Lib.hid hV
      have hgAM : gA < wr.heap.size := hA.lt
      have hgfM : gf < wr.heap.size := hG.lt
      have hM := Own.new wr 56 #[.int .u8 0, .int .u8 0, .int .u8 0, .int .u8 0, .int .u8 0, .int .u8 0, .int .u8 0, .int .u8 0]
      have hBa := below_alloc1 wr (.cells #[.int .u8 0, .int .u8 0, .int .u8 0, .int .u8 0, .int .u8 0, .int .u8 0, .int .u8 0, .int .u8 0] 56)
      go_upto_region 8 with fail
      generalize wr.alloc (.cells #[.int .u8 0, .int .u8 0, .int .u8 0, .int .u8 0, .int .u8 0, .int .u8 0, .int .u8 0, .int .u8 0] 56) = w5 at *
      obtain ⟨gM, hgM⟩ : ∃ g, wr.heap.size = g := ⟨_, rfl⟩
      have hgM2 : wr.heap.size ≤ gM := by omega
      rw [hgM] at hM
      try rw [hgM]
      clear hgM
      have e0 := hM.cell 0
      have e1 := hM.cell 1
      have e2 := hM.frozen 0
      have e3 := hM.frozen 1
      go_upto_region 10 with fail
      clear e0 e1 e2 e3
      have hM2 : Own ((w5.setCell ⟨gM, 0, none⟩ (.int .u8 1)).setCell ⟨gM, 1, none⟩ (.int .u8 1)) gM 56 #[.int .u8 1, .int .u8 1, .int .u8 0, .int .u8 0, .int .u8 0, .int .u8 0, .int .u8 0, .int .u8 0] := (hM.set 0 (.int .u8 1)).set 1 (.int .u8 1)
      have hB0 := (hBa.setCell (p := ⟨gM, 0, none⟩) hgM2 (.int .u8 1)).setCell (p := ⟨gM, 1, none⟩) hgM2 (.int .u8 1)
      generalize (w5.setCell ⟨gM, 0, none⟩ (.int .u8 1)).setCell ⟨gM, 1, none⟩ (.int .u8 1) = w6 at *
      clear hM hBa
      have hX := hX.keep hB0 hX.lt
      have hA := hA.keep hB0 hA.lt
      have hG := hG.keep hB0 hG.lt
      have hO := hO.keep hB0 hO.lt
      have HRL := Lib.hid (HRL.out.keep hB0)
      have HVL := Lib.hid (HVL.out.keep hB0)
      replace hb := below_trans' hb hB0 hb.size
      clear hB0 hR hV
      replace hX : Own w6.drew gX 25 #[.slice none 0 0, .slice none 0 0] := hX
      replace hA : Own w6.drew gA 25 #[.slice a 3 ac, .slice (some ⟨gI, 0, none⟩) 3 3] := hA
      replace hG : Own w6.drew gf 47 #[.slice va vn vc] := hG
      replace hO : Own w6.drew gI 47 (Array.replicate 3 (.slice none 0 0)) := hO
      have hM : Own w6.drew gM 56 #[.int .u8 1, .int .u8 1, .int .u8 0, .int .u8 0, .int .u8 0, .int .u8 0, .int .u8 0, .int .u8 0] := hM2
      have hdr : Below w6.heap.size w6 w6.drew := (Below.refl _ _).drew
      have HRL := Lib.hid (HRL.out.keep hdr)
      have HVL := Lib.hid (HVL.out.keep hdr)
      clear hdr hM2
      replace hb : Below w.heap.size w w6.drew := hb.drew
      refine wp_region_held_drew (S := (fun w' => w'.cell? ⟨gM, 0, none⟩ = some (.int .u8 1) ∧ w'.cell? ⟨gM, 1, none⟩ = some (.int .u8 1) ∧ w'.cell? ⟨gM, 2, none⟩ = some (.int .u8 0) ∧ w'.cell? ⟨gM, 3, none⟩ = some (.int .u8 0) ∧ w'.cell? ⟨gM, 4, none⟩ = some (.int .u8 0) ∧ w'.cell? ⟨gM, 5, none⟩ = some (.int .u8 0) ∧ w'.cell? ⟨gM, 6, none⟩ = some (.int .u8 0) ∧ w'.cell? ⟨gM, 7, none⟩ = some (.int .u8 0))) (by kernel_rfl) ?_ (fun hHeld0 => ?_)
      · ((try dsimp only); (exact ⟨hM.cell 0, hM.cell 1, hM.cell 2, hM.cell 3, hM.cell 4, hM.cell 5, hM.cell 6, hM.cell 7⟩))
      generalize w6.drew = W0 at *
      have hBB := Below.refl W0.heap.size W0
      have hA0 : gA < W0.heap.size := hA.lt
      (refine hdTake (i := 1) (v := ?_) rfl (by kernel_rfl) (by kernel_rfl) (by kernel_rfl) (fun _ _ _ h => h) (by rfl) ?_ (by assumption) ?_; rotate_left; (intro w hSw; (try dsimp only at hSw); go_simp; (try with_reducible rfl)); (try simp only [Act.put, List.setIfInBounds_toArray, List.set_cons_zero, List.set_cons_succ]))
      refine wpAnyH_ready (rs := [0, 2]) (by kernel_rfl) (by simp) ?_
      refine AllReadyH.cons (hdAt (i := 0) rfl) (fun K hK => ?_) (AllReadyH.cons (hdAt (i := 2) rfl) (fun K hK => ?_) AllReadyH.nil)
      · have cG := (hG.keep hBB hG.lt).cell 0
        (go_simp; go_wp2_with fail)
        clear cG
        refine hK.out _ _ ?_ (fun hHeld1 => ?_)
        · ((try dsimp only); (exact ⟨(hM.keep hBB hM.lt).cell 0, (hM.keep hBB hM.lt).cell 1, (hM.keep hBB hM.lt).cell 2, (hM.keep hBB hM.lt).cell 3, (hM.keep hBB hM.lt).cell 4, (hM.keep hBB hM.lt).cell 5, (hM.keep hBB hM.lt).cell 6, (hM.keep hBB hM.lt).cell 7⟩))
        clear hK K
        (try simp only [Act.put, List.setIfInBounds_toArray, List.set_cons_zero, List.set_cons_succ])
        refine hdCall (i := 2) (by kernel_rfl) rfl (fun K hK => ?_)
        (go_simp; (go_at_call 45; refine (l01SingleO_c mono_b0).mono ?_; rintro e W1 ⟨g1, rfl, hg1, hN1, hbX⟩); go_wp2_with fail)
        have hl1 := hN1.lt
        replace hBB := below_trans' hBB hbX hBB.size
        clear hbX
        refine hK.out _ _ ?_ (fun hHeld2 => ?_)
        · ((try dsimp only); (exact ⟨(hM.keep hBB hM.lt).cell 0, (hM.keep hBB hM.lt).cell 1, (hM.keep hBB hM.lt).cell 2, (hM.keep hBB hM.lt).cell 3, (hM.keep hBB hM.lt).cell 4, (hM.keep hBB hM.lt).cell 5, (hM.keep hBB hM.lt).cell 6, (hM.keep hBB hM.lt).cell 7⟩))
        clear hK K
        (try simp only [Act.put, List.setIfInBounds_toArray, List.set_cons_zero, List.set_cons_succ])
        refine hdCall (i := 3) (by kernel_rfl) rfl (fun K hK => ?_)
        have hT1 := (HRL.out.keep hBB).read (heiT_tm 0)
        have hlen := hT1.len
        have hl3 : (heiT 0).length = 0 := rfl
        have hsum : vn + 1 ≤ 2000000 := by omega
        have hT2 : Terms W1 (some ⟨g1, 0, none⟩) 1 [⟨[1, 1, 0, 0, 0, 0, 0, 0], 1⟩] := (ownR_one mono_b0 hN1 (Nat.le_refl _)).read (fun t ht => by rw [List.mem_singleton.1 ht]; exact ⟨mono_b0, by simp⟩)
        (go_simp; (go_at_call 44; (with_reducible refine (l01Add_c vc 1 1 (by omega) (by omega) hT1 hT2 hsum (heiT_f 0) one_f).mono ?_); rintro e W2 ⟨v2, rfl, hAd, hbX⟩); go_wp2_with fail)
        have hs2 := hBB.size
        replace hBB := below_trans' hBB hbX hBB.size
        rw [hei_add0] at hAd
        have hR2 : OwnR W2 gA v2 (heiT 1) := hAd.r.weaken (by omega)
        obtain ⟨ua, un, uc, rfl⟩ := hR2.isSlice
        clear hbX hAd hT1 hT2 hlen hl3 hN1 hsum
        refine hK.out _ _ ?_ (fun hHeld3 => ?_)
        · ((try dsimp only); (exact ⟨(hM.keep hBB hM.lt).cell 0, (hM.keep hBB hM.lt).cell 1, (hM.keep hBB hM.lt).cell 2, (hM.keep hBB hM.lt).cell 3, (hM.keep hBB hM.lt).cell 4, (hM.keep hBB hM.lt).cell 5, (hM.keep hBB hM.lt).cell 6, (hM.keep hBB hM.lt).cell 7⟩))
        clear hK K
        (try simp only [Act.put, List.setIfInBounds_toArray, List.set_cons_zero, List.set_cons_succ])
        refine hdCall (i := 4) (by kernel_rfl) rfl (fun K hK => ?_)
        have cG := (hG.keep hBB hG.lt).cell 0
        have fG := (hG.keep hBB hG.lt).frozen 0
        (go_simp; go_wp2_with fail)
        clear cG fG
        have hG1 := hG.keep hBB hG.lt
        replace hb := (below_trans' hb hBB hb.size).setCell (p := ⟨gf, 0, none⟩) (by dsimp only; omega) (.slice ua un uc)
        replace hX := (hX.keep hBB hX.lt).far (p := ⟨gf, 0, none⟩) (by dsimp only; omega) (.slice ua un uc)
        replace hA := (hA.keep hBB hA.lt).far (p := ⟨gf, 0, none⟩) (by dsimp only; omega) (.slice ua un uc)
        replace hM := (hM.keep hBB hM.lt).far (p := ⟨gf, 0, none⟩) (by dsimp only; omega) (.slice ua un uc)
        replace hO := (hO.keep hBB hO.lt).far (p := ⟨gf, 0, none⟩) (by dsimp only; omega) (.slice ua un uc)
        have HV9 := Lib.hid ((HVL.out.keep hBB).farT (p := ⟨gf, 0, none⟩) hG1 (by decide) (.slice ua un uc))
        have HR9 := Lib.hid (hR2.far (p := ⟨gf, 0, none⟩) (hR2.ne_form hG1) (.slice ua un uc))
        have hG9 : Own (W2.setCell ⟨gf, 0, none⟩ (.slice ua un uc)) gf 47 #[.slice ua un uc] := hG1.set 0 (.slice ua un uc)
        clear hG hG1 hR2 HVL HRL hBB
        refine hK.out _ _ ?_ (fun hHeld6 => ?_)
        · ((try dsimp only); (exact ⟨hM.cell 0, hM.cell 1, hM.cell 2, hM.cell 3, hM.cell 4, hM.cell 5, hM.cell 6, hM.cell 7⟩))
        clear hK K
        (try simp only [Act.put, List.setIfInBounds_toArray, List.set_cons_zero, List.set_cons_succ])
        refine wpAnyH_done (by kernel_rfl) ?_ _
        go_wp2_with fail
        go_roundw
        case rel => exact ⟨1, ua, un, uc, by omega, by go_num, hb, hX, hA, hG9, hO, HV9.out, HR9.out⟩
        case measure => simp [intOf] <;> omega
      · (go_simp; (go_at_call 45; refine (l01SingleO_c mono_b0).mono ?_; rintro e W1 ⟨g1, rfl, hg1, hN1, hbX⟩); go_wp2_with fail)
        have hl1 := hN1.lt
        replace hBB := below_trans' hBB hbX hBB.size
        clear hbX
        refine hK.out _ _ ?_ (fun hHeld2 => ?_)
        · ((try dsimp only); (exact ⟨(hM.keep hBB hM.lt).cell 0, (hM.keep hBB hM.lt).cell 1, (hM.keep hBB hM.lt).cell 2, (hM.keep hBB hM.lt).cell 3, (hM.keep hBB hM.lt).cell 4, (hM.keep hBB hM.lt).cell 5, (hM.keep hBB hM.lt).cell 6, (hM.keep hBB hM.lt).cell 7⟩))
        clear hK K
        (try simp only [Act.put, List.setIfInBounds_toArray, List.set_cons_zero, List.set_cons_succ])
        refine hdCall (i := 0) (by kernel_rfl) rfl (fun K hK => ?_)
        have cG := (hG.keep hBB hG.lt).cell 0
        (go_simp; go_wp2_with fail)
        clear cG
        refine hK.out _ _ ?_ (fun hHeld1 => ?_)
        · ((try dsimp only); (exact ⟨(hM.keep hBB hM.lt).cell 0, (hM.keep hBB hM.lt).cell 1, (hM.keep hBB hM.lt).cell 2, (hM.keep hBB hM.lt).cell 3, (hM.keep hBB hM.lt).cell 4, (hM.keep hBB hM.lt).cell 5, (hM.keep hBB hM.lt).cell 6, (hM.keep hBB hM.lt).cell 7⟩))
        clear hK K
        (try simp only [Act.put, List.setIfInBounds_toArray, List.set_cons_zero, List.set_cons_succ])
        refine hdCall (i := 3) (by kernel_rfl) rfl (fun K hK => ?_)
        have hT1 := (HRL.out.keep hBB).read (heiT_tm 0)
        have hlen := hT1.len
        have hl3 : (heiT 0).length = 0 := rfl
        have hsum : vn + 1 ≤ 2000000 := by omega
        have hT2 : Terms W1 (some ⟨g1, 0, none⟩) 1 [⟨[1, 1, 0, 0, 0, 0, 0, 0], 1⟩] := (ownR_one mono_b0 hN1 (Nat.le_refl _)).read (fun t ht => by rw [List.mem_singleton.1 ht]; exact ⟨mono_b0, by simp⟩)
        (go_simp; (go_at_call 44; (with_reducible refine (l01Add_c vc 1 1 (by omega) (by omega) hT1 hT2 hsum (heiT_f 0) one_f).mono ?_); rintro e W2 ⟨v2, rfl, hAd, hbX⟩); go_wp2_with fail)
        have hs2 := hBB.size
        replace hBB := below_trans' hBB hbX hBB.size
        rw [hei_add0] at hAd
        have hR2 : OwnR W2 gA v2 (heiT 1) := hAd.r.weaken (by omega)
        obtain ⟨ua, un, uc, rfl⟩ := hR2.isSlice
        clear hbX hAd hT1 hT2 hlen hl3 hN1 hsum
        refine hK.out _ _ ?_ (fun hHeld3 => ?_)
        · ((try dsimp only); (exact ⟨(hM.keep hBB hM.lt).cell 0, (hM.keep hBB hM.lt).cell 1, (hM.keep hBB hM.lt).cell 2, (hM.keep hBB hM.lt).cell 3, (hM.keep hBB hM.lt).cell 4, (hM.keep hBB hM.lt).cell 5, (hM.keep hBB hM.lt).cell 6, (hM.keep hBB hM.lt).cell 7⟩))
        clear hK K
        (try simp only [Act.put, List.setIfInBounds_toArray, List.set_cons_zero, List.set_cons_succ])
        refine hdCall (i := 4) (by kernel_rfl) rfl (fun K hK => ?_)
        have cG := (hG.keep hBB hG.lt).cell 0
        have fG := (hG.keep hBB hG.lt).frozen 0
        (go_simp; go_wp2_with fail)
        clear cG fG
        have hG1 := hG.keep hBB hG.lt
        replace hb := (below_trans' hb hBB hb.size).setCell (p := ⟨gf, 0, none⟩) (by dsimp only; omega) (.slice ua un uc)
        replace hX := (hX.keep hBB hX.lt).far (p := ⟨gf, 0, none⟩) (by dsimp only; omega) (.slice ua un uc)
        replace hA := (hA.keep hBB hA.lt).far (p := ⟨gf, 0, none⟩) (by dsimp only; omega) (.slice ua un uc)
        replace hM := (hM.keep hBB hM.lt).far (p := ⟨gf, 0, none⟩) (by dsimp only; omega) (.slice ua un uc)
        replace hO := (hO.keep hBB hO.lt).far (p := ⟨gf, 0, none⟩) (by dsimp only; omega) (.slice ua un uc)
        have HV9 := Lib.hid ((HVL.out.keep hBB).farT (p := ⟨gf, 0, none⟩) hG1 (by decide) (.slice ua un uc))
        have HR9 := Lib.hid (hR2.far (p := ⟨gf, 0, none⟩) (hR2.ne_form hG1) (.slice ua un uc))
        have hG9 : Own (W2.setCell ⟨gf, 0, none⟩ (.slice ua un uc)) gf 47 #[.slice ua un uc] := hG1.set 0 (.slice ua un uc)
        clear hG hG1 hR2 HVL HRL hBB
        refine hK.out _ _ ?_ (fun hHeld6 => ?_)
        · ((try dsimp only); (exact ⟨hM.cell 0, hM.cell 1, hM.cell 2, hM.cell 3, hM.cell 4, hM.cell 5, hM.cell 6, hM.cell 7⟩))
        clear hK K
        (try simp only [Act.put, List.setIfInBounds_toArray, List.set_cons_zero, List.set_cons_succ])
        refine wpAnyH_done (by kernel_rfl) ?_ _
        go_wp2_with fail
        go_roundw
        case rel => exact ⟨1, ua, un, uc, by omega, by go_num, hb, hX, hA, hG9, hO, HV9.out, HR9.out⟩
        case measure => simp [intOf] <;> omega
    · obtain rfl : k = 1 := by omega
      have cA1 := hA.cell 1
      have cG := hG.cell 0
      have cO : wr.cell? ⟨gI, 2, none⟩ = some (.slice none 0 0) := hO.cell 2
      have fO := hO.frozen 2
      go_upto_region 12 with fail
      clear cA1 cG cO fO
      have hO9 : Own (wr.setCell ⟨gI, 2, none⟩ (.slice va vn vc)) gI 47 #[.slice none 0 0, .slice none 0 0, .slice va vn vc] := hO.set 2 (.slice va vn vc)
      have hR9 := hR.far (p := ⟨gI, 2, none⟩) (hR.ne_form hO) (.slice va vn vc)
      have hV9' := hV.farT (p := ⟨gI, 2, none⟩) hO (by decide) (.slice va vn vc)
      replace hX := hX.far (p := ⟨gI, 2, none⟩) (by dsimp only; omega) (.slice va vn vc)
      replace hA := hA.far (p := ⟨gI, 2, none⟩) (by dsimp only; omega) (.slice va vn vc)
      replace hb := hb.setCell (p := ⟨gI, 2, none⟩) (by dsimp only; omega) (.slice va vn vc)
      clear hO hR hV hG
      generalize wr.setCell ⟨gI, 2, none⟩ (.slice va vn vc) = w8 at *
      have cA0 := hA.cell 0
      have cA1 := hA.cell 1
      have c0 := hX.cell 0
      have c1 := hX.cell 1
      have f0 := hX.frozen 0
      have f1 := hX.frozen 1
      have hAl := hA.lt
      have hV := hV9'.weaken (lo' := lo) (hi' := w8.heap.size) (Nat.le_refl _) (by omega)
      have hVl : Vals w8 lo (List.replicate 2 (.slice none 0 0)) (List.replicate 2 []) := by
        have := vals_nils (Vals.nil w8 lo) (by omega) 2
        simpa using this
      have hVs : Vals w8 lo (List.replicate 2 (.slice none 0 0) ++ [.slice va vn vc]) (List.replicate 2 [] ++ [heiT 1]) := hVl.snoc (C := gA) (fun i u q h1 h2 => by
        rw [List.getElem?_replicate] at h1
        split at h1
        · cases h1
          simp [Value.ownBlock] at h2
        · cases h1) (by omega) hR9
      have hF := hVs.ownF (n := 3) rfl hO9 (fun i v hi => by
        have hi2 : i < 3 := by have := (List.getElem?_eq_some_iff.1 hi).1; simpa using this
        rcases (by omega : i = 0 ∨ i = 1 ∨ i = 2) with rfl | rfl | rfl <;> simp_all) (by omega) (fun ts hts t ht => by
        rcases List.mem_append.1 hts with h | h
        · rw [List.eq_of_mem_replicate h] at ht; simp at ht
        · rw [List.mem_singleton.1 h] at ht; exact heiT_tm _ t ht)
      clear hVl hVs hO9 hR9 hV9'
      go_wp2_with fail
      have s2 := (hX.set 0 (.slice a 3 ac)).set 1 (.slice (some ⟨gI, 0, none⟩) 3 3)
      have ht : Touch (fun k => k = gX) w8 ((w8.setCell ⟨gX, 0, none⟩ (.slice a 3 ac)).setCell ⟨gX, 1, none⟩ (.slice (some ⟨gI, 0, none⟩) 3 3)) := Touch.of_only (((Only.refl gX _).set 0 _).set 1 _)
      have hV9 := (hV.touch ht (fun g h1 h2 => by omega)).weaken (lo' := w.heap.size) (hi' := ((w8.setCell ⟨gX, 0, none⟩ (.slice a 3 ac)).setCell ⟨gX, 1, none⟩ (.slice (some ⟨gI, 0, none⟩) 3 3)).heap.size) (by omega) (by simp)
      have hF9 := (hF.touch ht (fun g h1 h2 => by omega)).weaken (lo' := w.heap.size) (hi' := ((w8.setCell ⟨gX, 0, none⟩ (.slice a 3 ac)).setCell ⟨gX, 1, none⟩ (.slice (some ⟨gI, 0, none⟩) 3 3)).heap.size) (by omega) (by simp)
      have hb9 := (hb.setCell (p := ⟨gX, 0, none⟩) hwX (.slice a 3 ac)).setCell (p := ⟨gX, 1, none⟩) hwX (.slice (some ⟨gI, 0, none⟩) 3 3)
      exact bodyPost_ret (results_row2 rfl _ _ gX 25 #[.slice a 3 ac, .slice (some ⟨gI, 0, none⟩) 3 3] (0, 0) _ rfl s2 Try.underlying25 rfl Try.info_alg) rfl ⟨_, _, _, _, _, _, rfl, hV9, hF9, hb9⟩
set_option maxHeartbeats 4000000 in
set_option maxRecDepth 100000 in
theorem hei_s2 (w : World) :
    Calls Try.prog 22 #[.int .i64 2] w fun e w' => SpO (List.replicate 5 1) (List.replicate 4 [] ++ [heiT 2]) 0 w e w' := by
  have hX := Own.new w 25 #[.slice none 0 0, .slice none 0 0]
  have hb := below_alloc1 w (.cells #[.slice none 0 0, .slice none 0 0] 25)
  go_enter Try.func22, Try.ntmps22
  go_upto_region 1 with fail
  generalize w.alloc (.cells #[.slice none 0 0, .slice none 0 0] 25) = w1 at *
  obtain ⟨gX, hgX⟩ : ∃ g, w.heap.size = g := ⟨_, rfl⟩
  rw [hgX] at hX
  try rw [hgX]
  have hwX : w.heap.size ≤ gX := by omega
  clear hgX
  have hlX := hX.lt
  have hs1 := hb.size
  have hq : Calls Try.prog 43 #[.int .i64 5] w1 fun e w' => ∃ g dc, e = .returned (.slice (some ⟨g, 0, none⟩) 5 dc) ∧ w1.heap.size ≤ g ∧ w'.ownsRow w1.heap.size 2 1 (.slice (some ⟨g, 0, none⟩) 5 dc) 5 ((List.replicate 5 (1 : Int)).map (Value.int .i64)) ∧ Below w1.heap.size w1 w' := l08Ones_c 5 w1 (by omega)
  go_wp2_with fail
  refine (l01In_c 2 1 3 _).mono ?_
  rintro e w5 ⟨rfl, rfl⟩
  rw [show decide ((1 : Int) ≤ 2 ∧ (2 : Int) ≤ 3) = true by decide]
  go_wp2_with fail
  refine hq.mono ?_
  rintro e w3 ⟨g, dc, rfl, hg, hR, hb3⟩
  have hI := row_intsS hR
  have hs3 := hb3.size
  replace hX := hX.keep hb3 hX.lt
  replace hb := below_trans' hb hb3 hb.size
  clear hq hb3 hR
  go_wp2_with fail
  refine (l02FreeI_c dc hI (by omega)).mono ?_
  rintro e w4 ⟨a, ac, rb, rfl, hV, hE, hb4⟩
  obtain ⟨gI, rfl, hI1, hI2, hO⟩ := hE (by omega)
  have hs4 := hb4.size
  replace hX := hX.keep hb4 hX.lt
  replace hb := below_trans' hb hb4 hb.size
  clear hb4 hI hE
  obtain ⟨lo, hlo⟩ : ∃ l, w3.heap.size = l := ⟨_, rfl⟩
  rw [hlo] at hV hI1 hs3 hs4
  clear hlo
  have hA := (Own.new w4 25 #[.slice a 5 ac, .slice (some ⟨gI, 0, none⟩) 5 5]).alloc (.cells #[.slice none 0 0] 47)
  have hG := Own.new (w4.alloc (.cells #[.slice a 5 ac, .slice (some ⟨gI, 0, none⟩) 5 5] 25)) 47 #[.slice none 0 0]
  rw [size_alloc] at hG
  have hba := below_then (below_alloc1 w4 (.cells #[.slice a 5 ac, .slice (some ⟨gI, 0, none⟩) 5 5] 25)) (below_alloc1 _ (.cells #[.slice none 0 0] 47))
  replace hX := hX.keep hba hX.lt
  replace hO := hO.keep hba hO.lt
  replace hV := hV.keep hba
  replace hb := below_trans' hb hba hb.size
  clear hba
  go_upto_region 4 with fail
  generalize (w4.alloc (.cells #[.slice a 5 ac, .slice (some ⟨gI, 0, none⟩) 5 5] 25)).alloc (.cells #[.slice none 0 0] 47) = w6 at *
  obtain ⟨gA, hgA⟩ : ∃ g, w4.heap.size = g := ⟨_, rfl⟩
  obtain ⟨gf, hgf⟩ : ∃ g, w4.heap.size + 1 = g := ⟨_, rfl⟩
  rw [hgf] at hG
  rw [hgA] at hA hI2 hs4
  rw [hgA] at hV
  try rw [hgf]
  try rw [hgA]
  have hAf : gA < gf := by omega
  clear hgA hgf
  go_upto_region 5 with fail
  go_loopw [6] (fun y wr => ∃ (k : Nat) (va : Option Addr) (vn vc : Nat), k ≤ 2 ∧ y = .int .i64 k ∧ Below w.heap.size w wr ∧ Own wr gX 25 #[.slice none 0 0, .slice none 0 0] ∧ Own wr gA 25 #[.slice a 5 ac, .slice (some ⟨gI, 0, none⟩) 5 5] ∧ Own wr gf 47 #[.slice va vn vc] ∧ Own wr gI 47 (Array.replicate 5 (.slice none 0 0)) ∧ OwnV wr lo gA a 5 (List.replicate 5 1) ∧ OwnR wr gA (.slice va vn vc) (heiT k)) (fun y _ => 2 - (intOf y).toNat)
  case atStart => exact ⟨0, none, 0, 0, Nat.zero_le _, rfl, hb, hX, hA, hG, hO, hV, World.ownsRow_nil _ _ _ _⟩
  case round =>
    clear hb hX hA hG hO hV
    obtain ⟨k, va, vn, vc, hk, rfl, hb, hX, hA, hG, hO, hV, hR⟩ := hrel
    by_cases hlt : k < 2
    · obtain rfl | rfl : k = 0 ∨ k = 1 := by omega
      · have HRL := Lib.hid hR
        have HVL := Lib.hid hV
        have hgAM : gA < wr.heap.size := hA.lt
        have hgfM : gf < wr.heap.size := hG.lt
        have hM := Own.new wr 56 #[.int .u8 0, .int .u8 0, .int .u8 0, .int .u8 0, .int .u8 0, .int .u8 0, .int .u8 0, .int .u8 0]
        have hBa := below_alloc1 wr (.cells #[.int .u8 0, .int .u8 0, .int .u8 0, .int .u8 0, .int .u8 0, .int .u8 0, .int .u8 0, .int .u8 0] 56)
        go_upto_region 8 with fail
        generalize wr.alloc (.cells #[.int .u8 0, .int .u8 0, .int .u8 0, .int .u8 0, .int .u8 0, .int .u8 0, .int .u8 0, .int .u8 0] 56) = w5 at *
        obtain ⟨gM, hgM⟩ : ∃ g, wr.heap.size = g := ⟨_, rfl⟩
        have hgM2 : wr.heap.size ≤ gM := by omega
        rw [hgM] at hM
        try rw [hgM]
        clear hgM
        have e0 := hM.cell 0
        have e1 := hM.cell 1
        have e2 := hM.frozen 0
        have e3 := hM.frozen 1
        go_upto_region 10 with fail
        clear e0 e1 e2 e3
        have hM2 : Own ((w5.setCell ⟨gM, 0, none⟩ (.int .u8 1)).setCell ⟨gM, 1, none⟩ (.int .u8 1)) gM 56 #[.int .u8 1, .int .u8 1, .int .u8 0, .int .u8 0, .int .u8 0, .int .u8 0, .int .u8 0, .int .u8 0] := (hM.set 0 (.int .u8 1)).set 1 (.int .u8 1)
        have hB0 := (hBa.setCell (p := ⟨gM, 0, none⟩) hgM2 (.int .u8 1)).setCell (p := ⟨gM, 1, none⟩) hgM2 (.int .u8 1)
        generalize (w5.setCell ⟨gM, 0, none⟩ (.int .u8 1)).setCell ⟨gM, 1, none⟩ (.int .u8 1) = w6 at *
        clear hM hBa
        have hX := hX.keep hB0 hX.lt
        have hA := hA.keep hB0 hA.lt
        have hG := hG.keep hB0 hG.lt
        have hO := hO.keep hB0 hO.lt
        have HRL := Lib.hid (HRL.out.keep hB0)
        have HVL := Lib.hid (HVL.out.keep hB0)
        replace hb := below_trans' hb hB0 hb.size
        clear hB0 hR hV
        replace hX : Own w6.drew gX 25 #[.slice none 0 0, .slice none 0 0] := hX
        replace hA : Own w6.drew gA 25 #[.slice a 5 ac, .slice (some ⟨gI, 0, none⟩) 5 5] := hA
        replace hG : Own w6.drew gf 47 #[.slice va vn vc] := hG
        replace hO : Own w6.drew gI 47 (Array.replicate 5 (.slice none 0 0)) := hO
        have hM : Own w6.drew gM 56 #[.int .u8 1, .int .u8 1, .int .u8 0, .int .u8 0, .int .u8 0, .int .u8 0, .int .u8 0, .int .u8 0] := hM2
        have hdr : Below w6.heap.size w6 w6.drew := (Below.refl _ _).drew
        have HRL := Lib.hid (HRL.out.keep hdr)
        have HVL := Lib.hid (HVL.out.keep hdr)
        clear hdr hM2
        replace hb : Below w.heap.size w w6.drew := hb.drew
        refine wp_region_held_drew (S := (fun w' => w'.cell? ⟨gM, 0, none⟩ = some (.int .u8 1) ∧ w'.cell? ⟨gM, 1, none⟩ = some (.int .u8 1) ∧ w'.cell? ⟨gM, 2, none⟩ = some (.int .u8 0) ∧ w'.cell? ⟨gM, 3, none⟩ = some (.int .u8 0) ∧ w'.cell? ⟨gM, 4, none⟩ = some (.int .u8 0) ∧ w'.cell? ⟨gM, 5, none⟩ = some (.int .u8 0) ∧ w'.cell? ⟨gM, 6, none⟩ = some (.int .u8 0) ∧ w'.cell? ⟨gM, 7, none⟩ = some (.int .u8 0))) (by kernel_rfl) ?_ (fun hHeld0 => ?_)
        · ((try dsimp only); (exact ⟨hM.cell 0, hM.cell 1, hM.cell 2, hM.cell 3, hM.cell 4, hM.cell 5, hM.cell 6, hM.cell 7⟩))
        generalize w6.drew = W0 at *
        have hBB := Below.refl W0.heap.size W0
        have hA0 : gA < W0.heap.size := hA.lt
        (refine hdTake (i := 1) (v := ?_) rfl (by kernel_rfl) (by kernel_rfl) (by kernel_rfl) (fun _ _ _ h => h) (by rfl) ?_ (by assumption) ?_; rotate_left; (intro w hSw; (try dsimp only at hSw); go_simp; (try with_reducible rfl)); (try simp only [Act.put, List.setIfInBounds_toArray, List.set_cons_zero, List.set_cons_succ]))
        refine wpAnyH_ready (rs := [0, 2]) (by kernel_rfl) (by simp) ?_
        refine AllReadyH.cons (hdAt (i := 0) rfl) (fun K hK => ?_) (AllReadyH.cons (hdAt (i := 2) rfl) (fun K hK => ?_) AllReadyH.nil)
        · have cG := (hG.keep hBB hG.lt).cell 0
          (go_simp; go_wp2_with fail)
          clear cG
          refine hK.out _ _ ?_ (fun hHeld1 => ?_)
          · ((try dsimp only); (exact ⟨(hM.keep hBB hM.lt).cell 0, (hM.keep hBB hM.lt).cell 1, (hM.keep hBB hM.lt).cell 2, (hM.keep hBB hM.lt).cell 3, (hM.keep hBB hM.lt).cell 4, (hM.keep hBB hM.lt).cell 5, (hM.keep hBB hM.lt).cell 6, (hM.keep hBB hM.lt).cell 7⟩))
          clear hK K
          (try simp only [Act.put, List.setIfInBounds_toArray, List.set_cons_zero, List.set_cons_succ])
          refine hdCall (i := 2) (by kernel_rfl) rfl (fun K hK => ?_)
          (go_simp; (go_at_call 45; refine (l01SingleO_c mono_b0).mono ?_; rintro e W1 ⟨g1, rfl, hg1, hN1, hbX⟩); go_wp2_with fail)
          have hl1 := hN1.lt
          replace hBB := below_trans' hBB hbX hBB.size
          clear hbX
          refine hK.out _ _ ?_ (fun hHeld2 => ?_)
          · ((try dsimp only); (exact ⟨(hM.keep hBB hM.lt).cell 0, (hM.keep hBB hM.lt).cell 1, (hM.keep hBB hM.lt).cell 2, (hM.keep hBB hM.lt).cell 3, (hM.keep hBB hM.lt).cell 4, (hM.keep hBB hM.lt).cell 5, (hM.keep hBB hM.lt).cell 6, (hM.keep hBB hM.lt).cell 7⟩))
          clear hK K
          (try simp only [Act.put, List.setIfInBounds_toArray, List.set_cons_zero, List.set_cons_succ])
          refine hdCall (i := 3) (by kernel_rfl) rfl (fun K hK => ?_)
          have hT1 := (HRL.out.keep hBB).read (heiT_tm 0)
          have hlen := hT1.len
          have hl3 : (heiT 0).length = 0 := rfl
          have hsum : vn + 1 ≤ 2000000 := by omega
          have hT2 : Terms W1 (some ⟨g1, 0, none⟩) 1 [⟨[1, 1, 0, 0, 0, 0, 0, 0], 1⟩] := (ownR_one mono_b0 hN1 (Nat.le_refl _)).read (fun t ht => by rw [List.mem_singleton.1 ht]; exact ⟨mono_b0, by simp⟩)
          (go_simp; (go_at_call 44; (with_reducible refine (l01Add_c vc 1 1 (by omega) (by omega) hT1 hT2 hsum (heiT_f 0) one_f).mono ?_); rintro e W2 ⟨v2, rfl, hAd, hbX⟩); go_wp2_with fail)
          have hs2 := hBB.size
          replace hBB := below_trans' hBB hbX hBB.size
          rw [hei_add0] at hAd
          have hR2 : OwnR W2 gA v2 (heiT 1) := hAd.r.weaken (by omega)
          obtain ⟨ua, un, uc, rfl⟩ := hR2.isSlice
          clear hbX hAd hT1 hT2 hlen hl3 hN1 hsum
          refine hK.out _ _ ?_ (fun hHeld3 => ?_)
          · ((try dsimp only); (exact ⟨(hM.keep hBB hM.lt).cell 0, (hM.keep hBB hM.lt).cell 1, (hM.keep hBB hM.lt).cell 2, (hM.keep hBB hM.lt).cell 3, (hM.keep hBB hM.lt).cell 4, (hM.keep hBB hM.lt).cell 5, (hM.keep hBB hM.lt).cell 6, (hM.keep hBB hM.lt).cell 7⟩))
          clear hK K
          (try simp only [Act.put, List.setIfInBounds_toArray, List.set_cons_zero, List.set_cons_succ])
          refine hdCall (i := 4) (by kernel_rfl) rfl (fun K hK => ?_)
          have cG := (hG.keep hBB hG.lt).cell 0
          have fG := (hG.keep hBB hG.lt).frozen 0
          (go_simp; go_wp2_with fail)
          clear cG fG
          have hG1 := hG.keep hBB hG.lt
          replace hb := (below_trans' hb hBB hb.size).setCell (p := ⟨gf, 0, none⟩) (by dsimp only; omega) (.slice ua un uc)
          replace hX := (hX.keep hBB hX.lt).far (p := ⟨gf, 0, none⟩) (by dsimp only; omega) (.slice ua un uc)
          replace hA := (hA.keep hBB hA.lt).far (p := ⟨gf, 0, none⟩) (by dsimp only; omega) (.slice ua un uc)
          replace hM := (hM.keep hBB hM.lt).far (p := ⟨gf, 0, none⟩) (by dsimp only; omega) (.slice ua un uc)
          replace hO := (hO.keep hBB hO.lt).far (p := ⟨gf, 0, none⟩) (by dsimp only; omega) (.slice ua un uc)
          have HV9 := Lib.hid ((HVL.out.keep hBB).farT (p := ⟨gf, 0, none⟩) hG1 (by decide) (.slice ua un uc))
          have HR9 := Lib.hid (hR2.far (p := ⟨gf, 0, none⟩) (hR2.ne_form hG1) (.slice ua un uc))
          have hG9 : Own (W2.setCell ⟨gf, 0, none⟩ (.slice ua un uc)) gf 47 #[.slice ua un uc] := hG1.set 0 (.slice ua un uc)
          clear hG hG1 hR2 HVL HRL hBB
          refine hK.out _ _ ?_ (fun hHeld6 => ?_)
          · ((try dsimp only); (exact ⟨hM.cell 0, hM.cell 1, hM.cell 2, hM.cell 3, hM.cell 4, hM.cell 5, hM.cell 6, hM.cell 7⟩))
          clear hK K
          (try simp only [Act.put, List.setIfInBounds_toArray, List.set_cons_zero, List.set_cons_succ])
          refine wpAnyH_done (by kernel_rfl) ?_ _
          go_wp2_with fail
          go_roundw
          case rel => exact ⟨1, ua, un, uc, by omega, by go_num, hb, hX, hA, hG9, hO, HV9.out, HR9.out⟩
          case measure => simp [intOf] <;> omega
        · (go_simp; (go_at_call 45; refine (l01SingleO_c mono_b0).mono ?_; rintro e W1 ⟨g1, rfl, hg1, hN1, hbX⟩); go_wp2_with fail)
          have hl1 := hN1.lt
          replace hBB := below_trans' hBB hbX hBB.size
          clear hbX
          refine hK.out _ _ ?_ (fun hHeld2 => ?_)
          · ((try dsimp only); (exact ⟨(hM.keep hBB hM.lt).cell 0, (hM.keep hBB hM.lt).cell 1, (hM.keep hBB hM.lt).cell 2, (hM.keep hBB hM.lt).cell 3, (hM.keep hBB hM.lt).cell 4, (hM.keep hBB hM.lt).cell 5, (hM.keep hBB hM.lt).cell 6, (hM.keep hBB hM.lt).cell 7⟩))
          clear hK K
          (try simp only [Act.put, List.setIfInBounds_toArray, List.set_cons_zero, List.set_cons_succ])
          refine hdCall (i := 0) (by kernel_rfl) rfl (fun K hK => ?_)
          have cG := (hG.keep hBB hG.lt).cell 0
          (go_simp; go_wp2_with fail)
          clear cG
          refine hK.out _ _ ?_ (fun hHeld1 => ?_)
          · ((try dsimp only); (exact ⟨(hM.keep hBB hM.lt).cell 0, (hM.keep hBB hM.lt).cell 1, (hM.keep hBB hM.lt).cell 2, (hM.keep hBB hM.lt).cell 3, (hM.keep hBB hM.lt).cell 4, (hM.keep hBB hM.lt).cell 5, (hM.keep hBB hM.lt).cell 6, (hM.keep hBB hM.lt).cell 7⟩))
          clear hK K
          (try simp only [Act.put, List.setIfInBounds_toArray, List.set_cons_zero, List.set_cons_succ])
          refine hdCall (i := 3) (by kernel_rfl) rfl (fun K hK => ?_)
          have hT1 := (HRL.out.keep hBB).read (heiT_tm 0)
          have hlen := hT1.len
          have hl3 : (heiT 0).length = 0 := rfl
          have hsum : vn + 1 ≤ 2000000 := by omega
          have hT2 : Terms W1 (some ⟨g1, 0, none⟩) 1 [⟨[1, 1, 0, 0, 0, 0, 0, 0], 1⟩] := (ownR_one mono_b0 hN1 (Nat.le_refl _)).read (fun t ht => by rw [List.mem_singleton.1 ht]; exact ⟨mono_b0, by simp⟩)
          (go_simp; (go_at_call 44; (with_reducible refine (l01Add_c vc 1 1 (by omega) (by omega) hT1 hT2 hsum (heiT_f 0) one_f).mono ?_); rintro e W2 ⟨v2, rfl, hAd, hbX⟩); go_wp2_with fail)
          have hs2 := hBB.size
          replace hBB := below_trans' hBB hbX hBB.size
          rw [hei_add0] at hAd
          have hR2 : OwnR W2 gA v2 (heiT 1) := hAd.r.weaken (by omega)
          obtain ⟨ua, un, uc, rfl⟩ := hR2.isSlice
          clear hbX hAd hT1 hT2 hlen hl3 hN1 hsum
          refine hK.out _ _ ?_ (fun hHeld3 => ?_)
          · ((try dsimp only); (exact ⟨(hM.keep hBB hM.lt).cell 0, (hM.keep hBB hM.lt).cell 1, (hM.keep hBB hM.lt).cell 2, (hM.keep hBB hM.lt).cell 3, (hM.keep hBB hM.lt).cell 4, (hM.keep hBB hM.lt).cell 5, (hM.keep hBB hM.lt).cell 6, (hM.keep hBB hM.lt).cell 7⟩))
          clear hK K
          (try simp only [Act.put, List.setIfInBounds_toArray, List.set_cons_zero, List.set_cons_succ])
          refine hdCall (i := 4) (by kernel_rfl) rfl (fun K hK => ?_)
          have cG := (hG.keep hBB hG.lt).cell 0
          have fG := (hG.keep hBB hG.lt).frozen 0
          (go_simp; go_wp2_with fail)
          clear cG fG
          have hG1 := hG.keep hBB hG.lt
          replace hb := (below_trans' hb hBB hb.size).setCell (p := ⟨gf, 0, none⟩) (by dsimp only; omega) (.slice ua un uc)
          replace hX := (hX.keep hBB hX.lt).far (p := ⟨gf, 0, none⟩) (by dsimp only; omega) (.slice ua un uc)
          replace hA := (hA.keep hBB hA.lt).far (p := ⟨gf, 0, none⟩) (by dsimp only; omega) (.slice ua un uc)
          replace hM := (hM.keep hBB hM.lt).far (p := ⟨gf, 0, none⟩) (by dsimp only; omega) (.slice ua un uc)
          replace hO := (hO.keep hBB hO.lt).far (p := ⟨gf, 0, none⟩) (by dsimp only; omega) (.slice ua un uc)
          have HV9 := Lib.hid ((HVL.out.keep hBB).farT (p := ⟨gf, 0, none⟩) hG1 (by decide) (.slice ua un uc))
          have HR9 := Lib.hid (hR2.far (p := ⟨gf, 0, none⟩) (hR2.ne_form hG1) (.slice ua un uc))
          have hG9 : Own (W2.setCell ⟨gf, 0, none⟩ (.slice ua un uc)) gf 47 #[.slice ua un uc] := hG1.set 0 (.slice ua un uc)
          clear hG hG1 hR2 HVL HRL hBB
          refine hK.out _ _ ?_ (fun hHeld6 => ?_)
          · ((try dsimp only); (exact ⟨hM.cell 0, hM.cell 1, hM.cell 2, hM.cell 3, hM.cell 4, hM.cell 5, hM.cell 6, hM.cell 7⟩))
          clear hK K
          (try simp only [Act.put, List.setIfInBounds_toArray, List.set_cons_zero, List.set_cons_succ])
          refine wpAnyH_done (by kernel_rfl) ?_ _
          go_wp2_with fail
          go_roundw
          case rel => exact ⟨1, ua, un, uc, by omega, by go_num, hb, hX, hA, hG9, hO, HV9.out, HR9.out⟩
          case measure => simp [intOf] <;> omega
      · have HRL := Lib.hid hR
        have HVL := Lib.hid hV
        have hgAM : gA < wr.heap.size := hA.lt
        have hgfM : gf < wr.heap.size := hG.lt
        have hM := Own.new wr 56 #[.int .u8 0, .int .u8 0, .int .u8 0, .int .u8 0, .int .u8 0, .int .u8 0, .int .u8 0, .int .u8 0]
        have hBa := below_alloc1 wr (.cells #[.int .u8 0, .int .u8 0, .int .u8 0, .int .u8 0, .int .u8 0, .int .u8 0, .int .u8 0, .int .u8 0] 56)
        go_upto_region 8 with fail
        generalize wr.alloc (.cells #[.int .u8 0, .int .u8 0, .int .u8 0, .int .u8 0, .int .u8 0, .int .u8 0, .int .u8 0, .int .u8 0] 56) = w5 at *
        obtain ⟨gM, hgM⟩ : ∃ g, wr.heap.size = g := ⟨_, rfl⟩
        have hgM2 : wr.heap.size ≤ gM := by omega
        rw [hgM] at hM
        try rw [hgM]
        clear hgM
        have e0 := hM.cell 2
        have e1 := hM.cell 3
        have e2 := hM.frozen 2
        have e3 := hM.frozen 3
        go_upto_region 10 with fail
        clear e0 e1 e2 e3
        have hM2 : Own ((w5.setCell ⟨gM, 2, none⟩ (.int .u8 1)).setCell ⟨gM, 3, none⟩ (.int .u8 1)) gM 56 #[.int .u8 0, .int .u8 0, .int .u8 1, .int .u8 1, .int .u8 0, .int .u8 0, .int .u8 0, .int .u8 0] := (hM.set 2 (.int .u8 1)).set 3 (.int .u8 1)
        have hB0 := (hBa.setCell (p := ⟨gM, 2, none⟩) hgM2 (.int .u8 1)).setCell (p := ⟨gM, 3, none⟩) hgM2 (.int .u8 1)
        generalize (w5.setCell ⟨gM, 2, none⟩ (.int .u8 1)).setCell ⟨gM, 3, none⟩ (.int .u8 1) = w6 at *
        clear hM hBa
        have hX := hX.keep hB0 hX.lt
        have hA := hA.keep hB0 hA.lt
        have hG := hG.keep hB0 hG.lt
        have hO := hO.keep hB0 hO.lt
        have HRL := Lib.hid (HRL.out.keep hB0)
        have HVL := Lib.hid (HVL.out.keep hB0)
        replace hb := below_trans' hb hB0 hb.size
        clear hB0 hR hV
        replace hX : Own w6.drew gX 25 #[.slice none 0 0, .slice none 0 0] := hX
        replace hA : Own w6.drew gA 25 #[.slice a 5 ac, .slice (some ⟨gI, 0, none⟩) 5 5] := hA
        replace hG : Own w6.drew gf 47 #[.slice va vn vc] := hG
        replace hO : Own w6.drew gI 47 (Array.replicate 5 (.slice none 0 0)) := hO
        have hM : Own w6.drew gM 56 #[.int .u8 0, .int .u8 0, .int .u8 1, .int .u8 1, .int .u8 0, .int .u8 0, .int .u8 0, .int .u8 0] := hM2
        have hdr : Below w6.heap.size w6 w6.drew := (Below.refl _ _).drew
        have HRL := Lib.hid (HRL.out.keep hdr)
        have HVL := Lib.hid (HVL.out.keep hdr)
        clear hdr hM2
        replace hb : Below w.heap.size w w6.drew := hb.drew
        refine wp_region_held_drew (S := (fun w' => w'.cell? ⟨gM, 0, none⟩ = some (.int .u8 0) ∧ w'.cell? ⟨gM, 1, none⟩ = some (.int .u8 0) ∧ w'.cell? ⟨gM, 2, none⟩ = some (.int .u8 1) ∧ w'.cell? ⟨gM, 3, none⟩ = some (.int .u8 1) ∧ w'.cell? ⟨gM, 4, none⟩ = some (.int .u8 0) ∧ w'.cell? ⟨gM, 5, none⟩ = some (.int .u8 0) ∧ w'.cell? ⟨gM, 6, none⟩ = some (.int .u8 0) ∧ w'.cell? ⟨gM, 7, none⟩ = some (.int .u8 0))) (by kernel_rfl) ?_ (fun hHeld0 => ?_)
        · ((try dsimp only); (exact ⟨hM.cell 0, hM.cell 1, hM.cell 2, hM.cell 3, hM.cell 4, hM.cell 5, hM.cell 6, hM.cell 7⟩))
        generalize w6.drew = W0 at *
        have hBB := Below.refl W0.heap.size W0
        have hA0 : gA < W0.heap.size := hA.lt
        (refine hdTake (i := 1) (v := ?_) rfl (by kernel_rfl) (by kernel_rfl) (by kernel_rfl) (fun _ _ _ h => h) (by rfl) ?_ (by assumption) ?_; rotate_left; (intro w hSw; (try dsimp only at hSw); go_simp; (try with_reducible rfl)); (try simp only [Act.put, List.setIfInBounds_toArray, List.set_cons_zero, List.set_cons_succ]))
        refine wpAnyH_ready (rs := [0, 2]) (by kernel_rfl) (by simp) ?_
        refine AllReadyH.cons (hdAt (i := 0) rfl) (fun K hK => ?_) (AllReadyH.cons (hdAt (i := 2) rfl) (fun K hK => ?_) AllReadyH.nil)
        · have cG := (hG.keep hBB hG.lt).cell 0
          (go_simp; go_wp2_with fail)
          clear cG
          refine hK.out _ _ ?_ (fun hHeld1 => ?_)
          · ((try dsimp only); (exact ⟨(hM.keep hBB hM.lt).cell 0, (hM.keep hBB hM.lt).cell 1, (hM.keep hBB hM.lt).cell 2, (hM.keep hBB hM.lt).cell 3, (hM.keep hBB hM.lt).cell 4, (hM.keep hBB hM.lt).cell 5, (hM.keep hBB hM.lt).cell 6, (hM.keep hBB hM.lt).cell 7⟩))
          clear hK K
          (try simp only [Act.put, List.setIfInBounds_toArray, List.set_cons_zero, List.set_cons_succ])
          refine hdCall (i := 2) (by kernel_rfl) rfl (fun K hK => ?_)
          (go_simp; (go_at_call 45; refine (l01SingleO_c mono_b1).mono ?_; rintro e W1 ⟨g1, rfl, hg1, hN1, hbX⟩); go_wp2_with fail)
          have hl1 := hN1.lt
          replace hBB := below_trans' hBB hbX hBB.size
          clear hbX
          refine hK.out _ _ ?_ (fun hHeld2 => ?_)
          · ((try dsimp only); (exact ⟨(hM.keep hBB hM.lt).cell 0, (hM.keep hBB hM.lt).cell 1, (hM.keep hBB hM.lt).cell 2, (hM.keep hBB hM.lt).cell 3, (hM.keep hBB hM.lt).cell 4, (hM.keep hBB hM.lt).cell 5, (hM.keep hBB hM.lt).cell 6, (hM.keep hBB hM.lt).cell 7⟩))
          clear hK K
          (try simp only [Act.put, List.setIfInBounds_toArray, List.set_cons_zero, List.set_cons_succ])
          refine hdCall (i := 3) (by kernel_rfl) rfl (fun K hK => ?_)
          have hT1 := (HRL.out.keep hBB).read (heiT_tm 1)
          have hlen := hT1.len
          have hl3 : (heiT 1).length = 1 := rfl
          have hsum : vn + 1 ≤ 2000000 := by omega
          have hT2 : Terms W1 (some ⟨g1, 0, none⟩) 1 [⟨[0, 0, 1, 1, 0, 0, 0, 0], 1⟩] := (ownR_one mono_b1 hN1 (Nat.le_refl _)).read (fun t ht => by rw [List.mem_singleton.1 ht]; exact ⟨mono_b1, by simp⟩)
          (go_simp; (go_at_call 44; (with_reducible refine (l01Add_c vc 1 1 (by omega) (by omega) hT1 hT2 hsum (heiT_f 1) one_f).mono ?_); rintro e W2 ⟨v2, rfl, hAd, hbX⟩); go_wp2_with fail)
          have hs2 := hBB.size
          replace hBB := below_trans' hBB hbX hBB.size
          rw [hei_add1] at hAd
          have hR2 : OwnR W2 gA v2 (heiT 2) := hAd.r.weaken (by omega)
          obtain ⟨ua, un, uc, rfl⟩ := hR2.isSlice
          clear hbX hAd hT1 hT2 hlen hl3 hN1 hsum
          refine hK.out _ _ ?_ (fun hHeld3 => ?_)
          · ((try dsimp only); (exact ⟨(hM.keep hBB hM.lt).cell 0, (hM.keep hBB hM.lt).cell 1, (hM.keep hBB hM.lt).cell 2, (hM.keep hBB hM.lt).cell 3, (hM.keep hBB hM.lt).cell 4, (hM.keep hBB hM.lt).cell 5, (hM.keep hBB hM.lt).cell 6, (hM.keep hBB hM.lt).cell 7⟩))
          clear hK K
          (try simp only [Act.put, List.setIfInBounds_toArray, List.set_cons_zero, List.set_cons_succ])
          refine hdCall (i := 4) (by kernel_rfl) rfl (fun K hK => ?_)
          have cG := (hG.keep hBB hG.lt).cell 0
          have fG := (hG.keep hBB hG.lt).frozen 0
          (go_simp; go_wp2_with fail)
          clear cG fG
          have hG1 := hG.keep hBB hG.lt
          replace hb := (below_trans' hb hBB hb.size).setCell (p := ⟨gf, 0, none⟩) (by dsimp only; omega) (.slice ua un uc)
          replace hX := (hX.keep hBB hX.lt).far (p := ⟨gf, 0, none⟩) (by dsimp only; omega) (.slice ua un uc)
          replace hA := (hA.keep hBB hA.lt).far (p := ⟨gf, 0, none⟩) (by dsimp only; omega) (.slice ua un uc)
          replace hM := (hM.keep hBB hM.lt).far (p := ⟨gf, 0, none⟩) (by dsimp only; omega) (.slice ua un uc)
          replace hO := (hO.keep hBB hO.lt).far (p := ⟨gf, 0, none⟩) (by dsimp only; omega) (.slice ua un uc)
          have HV9 := Lib.hid ((HVL.out.keep hBB).farT (p := ⟨gf, 0, none⟩) hG1 (by decide) (.slice ua un uc))
          have HR9 := Lib.hid (hR2.far (p := ⟨gf, 0, none⟩) (hR2.ne_form hG1) (.slice ua un uc))
          have hG9 : Own (W2.setCell ⟨gf, 0, none⟩ (.slice ua un uc)) gf 47 #[.slice ua un uc] := hG1.set 0 (.slice ua un uc)
          clear hG hG1 hR2 HVL HRL hBB
          refine hK.out _ _ ?_ (fun hHeld6 => ?_)
          · ((try dsimp only); (exact ⟨hM.cell 0, hM.cell 1, hM.cell 2, hM.cell 3, hM.cell 4, hM.cell 5, hM.cell 6, hM.cell 7⟩))
          clear hK K
          (try simp only [Act.put, List.setIfInBounds_toArray, List.set_cons_zero, List.set_cons_succ])
          refine wpAnyH_done (by kernel_rfl) ?_ _
          go_wp2_with fail
          go_roundw
          case rel => exact ⟨2, ua, un, uc, by omega, by go_num, hb, hX, hA, hG9, hO, HV9.out, HR9.out⟩
          case measure => simp [intOf] <;> omega
        · (go_simp; (go_at_call 45; refine (l01SingleO_c mono_b1).mono ?_; rintro e W1 ⟨g1, rfl, hg1, hN1, hbX⟩); go_wp2_with fail)
          have hl1 := hN1.lt
          replace hBB := below_trans' hBB hbX hBB.size
          clear hbX
          refine hK.out _ _ ?_ (fun hHeld2 => ?_)
          · ((try dsimp only); (exact ⟨(hM.keep hBB hM.lt).cell 0, (hM.keep hBB hM.lt).cell 1, (hM.keep hBB hM.lt).cell 2, (hM.keep hBB hM.lt).cell 3, (hM.keep hBB hM.lt).cell 4, (hM.keep hBB hM.lt).cell 5, (hM.keep hBB hM.lt).cell 6, (hM.keep hBB hM.lt).cell 7⟩))
          clear hK K
          (try simp only [Act.put, List.setIfInBounds_toArray, List.set_cons_zero, List.set_cons_succ])
          refine hdCall (i := 0) (by kernel_rfl) rfl (fun K hK => ?_)
          have cG := (hG.keep hBB hG.lt).cell 0
          (go_simp; go_wp2_with fail)
          clear cG
          refine hK.out _ _ ?_ (fun hHeld1 => ?_)
          · ((try dsimp only); (exact ⟨(hM.keep hBB hM.lt).cell 0, (hM.keep hBB hM.lt).cell 1, (hM.keep hBB hM.lt).cell 2, (hM.keep hBB hM.lt).cell 3, (hM.keep hBB hM.lt).cell 4, (hM.keep hBB hM.lt).cell 5, (hM.keep hBB hM.lt).cell 6, (hM.keep hBB hM.lt).cell 7⟩))
          clear hK K
          (try simp only [Act.put, List.setIfInBounds_toArray, List.set_cons_zero, List.set_cons_succ])
          refine hdCall (i := 3) (by kernel_rfl) rfl (fun K hK => ?_)
          have hT1 := (HRL.out.keep hBB).read (heiT_tm 1)
          have hlen := hT1.len
          have hl3 : (heiT 1).length = 1 := rfl
          have hsum : vn + 1 ≤ 2000000 := by omega
          have hT2 : Terms W1 (some ⟨g1, 0, none⟩) 1 [⟨[0, 0, 1, 1, 0, 0, 0, 0], 1⟩] := (ownR_one mono_b1 hN1 (Nat.le_refl _)).read (fun t ht => by rw [List.mem_singleton.1 ht]; exact ⟨mono_b1, by simp⟩)
          (go_simp; (go_at_call 44; (with_reducible refine (l01Add_c vc 1 1 (by omega) (by omega) hT1 hT2 hsum (heiT_f 1) one_f).mono ?_); rintro e W2 ⟨v2, rfl, hAd, hbX⟩); go_wp2_with fail)
          have hs2 := hBB.size
          replace hBB := below_trans' hBB hbX hBB.size
          rw [hei_add1] at hAd
          have hR2 : OwnR W2 gA v2 (heiT 2) := hAd.r.weaken (by omega)
          obtain ⟨ua, un, uc, rfl⟩ := hR2.isSlice
          clear hbX hAd hT1 hT2 hlen hl3 hN1 hsum
          refine hK.out _ _ ?_ (fun hHeld3 => ?_)
          · ((try dsimp only); (exact ⟨(hM.keep hBB hM.lt).cell 0, (hM.keep hBB hM.lt).cell 1, (hM.keep hBB hM.lt).cell 2, (hM.keep hBB hM.lt).cell 3, (hM.keep hBB hM.lt).cell 4, (hM.keep hBB hM.lt).cell 5, (hM.keep hBB hM.lt).cell 6, (hM.keep hBB hM.lt).cell 7⟩))
          clear hK K
          (try simp only [Act.put, List.setIfInBounds_toArray, List.set_cons_zero, List.set_cons_succ])
          refine hdCall (i := 4) (by kernel_rfl) rfl (fun K hK => ?_)
          have cG := (hG.keep hBB hG.lt).cell 0
          have fG := (hG.keep hBB hG.lt).frozen 0
          (go_simp; go_wp2_with fail)
          clear cG fG
          have hG1 := hG.keep hBB hG.lt
          replace hb := (below_trans' hb hBB hb.size).setCell (p := ⟨gf, 0, none⟩) (by dsimp only; omega) (.slice ua un uc)
          replace hX := (hX.keep hBB hX.lt).far (p := ⟨gf, 0, none⟩) (by dsimp only; omega) (.slice ua un uc)
          replace hA := (hA.keep hBB hA.lt).far (p := ⟨gf, 0, none⟩) (by dsimp only; omega) (.slice ua un uc)
          replace hM := (hM.keep hBB hM.lt).far (p := ⟨gf, 0, none⟩) (by dsimp only; omega) (.slice ua un uc)
          replace hO := (hO.keep hBB hO.lt).far (p := ⟨gf, 0, none⟩) (by dsimp only; omega) (.slice ua un uc)
          have HV9 := Lib.hid ((HVL.out.keep hBB).farT (p := ⟨gf, 0, none⟩) hG1 (by decide) (.slice ua un uc))
          have HR9 := Lib.hid (hR2.far (p := ⟨gf, 0, none⟩) (hR2.ne_form hG1) (.slice ua un uc))
          have hG9 : Own (W2.setCell ⟨gf, 0, none⟩ (.slice ua un uc)) gf 47 #[.slice ua un uc] := hG1.set 0 (.slice ua un uc)
          clear hG hG1 hR2 HVL HRL hBB
          refine hK.out _ _ ?_ (fun hHeld6 => ?_)
          · ((try dsimp only); (exact ⟨hM.cell 0, hM.cell 1, hM.cell 2, hM.cell 3, hM.cell 4, hM.cell 5, hM.cell 6, hM.cell 7⟩))
          clear hK K
          (try simp only [Act.put, List.setIfInBounds_toArray, List.set_cons_zero, List.set_cons_succ])
          refine wpAnyH_done (by kernel_rfl) ?_ _
          go_wp2_with fail
          go_roundw
          case rel => exact ⟨2, ua, un, uc, by omega, by go_num, hb, hX, hA, hG9, hO, HV9.out, HR9.out⟩
          case measure => simp [intOf] <;> omega
    · obtain rfl : k = 2 := by omega
      have cA1 := hA.cell 1
      have cG := hG.cell 0
      have cO : wr.cell? ⟨gI, 4, none⟩ = some (.slice none 0 0) := hO.cell 4
      have fO := hO.frozen 4
      go_upto_region 12 with fail
      clear cA1 cG cO fO
      have hO9 : Own (wr.setCell ⟨gI, 4, none⟩ (.slice va vn vc)) gI 47 #[.slice none 0 0, .slice none 0 0, .slice none 0 0, .slice none 0 0, .slice va vn vc] := hO.set 4 (.slice va vn vc)
      have hR9 := hR.far (p := ⟨gI, 4, none⟩) (hR.ne_form hO) (.slice va vn vc)
      have hV9' := hV.farT (p := ⟨gI, 4, none⟩) hO (by decide) (.slice va vn vc)
      replace hX := hX.far (p := ⟨gI, 4, none⟩) (by dsimp only; omega) (.slice va vn vc)
      replace hA := hA.far (p := ⟨gI, 4, none⟩) (by dsimp only; omega) (.slice va vn vc)
      replace hb := hb.setCell (p := ⟨gI, 4, none⟩) (by dsimp only; omega) (.slice va vn vc)
      clear hO hR hV hG
      generalize wr.setCell ⟨gI, 4, none⟩ (.slice va vn vc) = w8 at *
      have cA0 := hA.cell 0
      have cA1 := hA.cell 1
      have c0 := hX.cell 0
      have c1 := hX.cell 1
      have f0 := hX.frozen 0
      have f1 := hX.frozen 1
      have hAl := hA.lt
      have hV := hV9'.weaken (lo' := lo) (hi' := w8.heap.size) (Nat.le_refl _) (by omega)
      have hVl : Vals w8 lo (List.replicate 4 (.slice none 0 0)) (List.replicate 4 []) := by
        have := vals_nils (Vals.nil w8 lo) (by omega) 4
        simpa using this
      have hVs : Vals w8 lo (List.replicate 4 (.slice none 0 0) ++ [.slice va vn vc]) (List.replicate 4 [] ++ [heiT 2]) := hVl.snoc (C := gA) (fun i u q h1 h2 => by
        rw [List.getElem?_replicate] at h1
        split at h1
        · cases h1
          simp [Value.ownBlock] at h2
        · cases h1) (by omega) hR9
      have hF := hVs.ownF (n := 5) rfl hO9 (fun i v hi => by
        have hi2 : i < 5 := by have := (List.getElem?_eq_some_iff.1 hi).1; simpa using this
        rcases (by omega : i = 0 ∨ i = 1 ∨ i = 2 ∨ i = 3 ∨ i = 4) with rfl | rfl | rfl | rfl | rfl <;> simp_all) (by omega) (fun ts hts t ht => by
        rcases List.mem_append.1 hts with h | h
        · rw [List.eq_of_mem_replicate h] at ht; simp at ht
        · rw [List.mem_singleton.1 h] at ht; exact heiT_tm _ t ht)
      clear hVl hVs hO9 hR9 hV9'
      go_wp2_with fail
      have s2 := (hX.set 0 (.slice a 5 ac)).set 1 (.slice (some ⟨gI, 0, none⟩) 5 5)
      have ht : Touch (fun k => k = gX) w8 ((w8.setCell ⟨gX, 0, none⟩ (.slice a 5 ac)).setCell ⟨gX, 1, none⟩ (.slice (some ⟨gI, 0, none⟩) 5 5)) := Touch.of_only (((Only.refl gX _).set 0 _).set 1 _)
      have hV9 := (hV.touch ht (fun g h1 h2 => by omega)).weaken (lo' := w.heap.size) (hi' := ((w8.setCell ⟨gX, 0, none⟩ (.slice a 5 ac)).setCell ⟨gX, 1, none⟩ (.slice (some ⟨gI, 0, none⟩) 5 5)).heap.size) (by omega) (by simp)
      have hF9 := (hF.touch ht (fun g h1 h2 => by omega)).weaken (lo' := w.heap.size) (hi' := ((w8.setCell ⟨gX, 0, none⟩ (.slice a 5 ac)).setCell ⟨gX, 1, none⟩ (.slice (some ⟨gI, 0, none⟩) 5 5)).heap.size) (by omega) (by simp)
      have hb9 := (hb.setCell (p := ⟨gX, 0, none⟩) hwX (.slice a 5 ac)).setCell (p := ⟨gX, 1, none⟩) hwX (.slice (some ⟨gI, 0, none⟩) 5 5)
      exact bodyPost_ret (results_row2 rfl _ _ gX 25 #[.slice a 5 ac, .slice (some ⟨gI, 0, none⟩) 5 5] (0, 0) _ rfl s2 Try.underlying25 rfl Try.info_alg) rfl ⟨_, _, _, _, _, _, rfl, hV9, hF9, hb9⟩
set_option maxHeartbeats 4000000 in
set_option maxRecDepth 100000 in
theorem hei_s3 (w : World) :
    Calls Try.prog 22 #[.int .i64 3] w fun e w' => SpO (List.replicate 7 1) (List.replicate 6 [] ++ [heiT 3]) 0 w e w' := by
  have hX := Own.new w 25 #[.slice none 0 0, .slice none 0 0]
  have hb := below_alloc1 w (.cells #[.slice none 0 0, .slice none 0 0] 25)
  go_enter Try.func22, Try.ntmps22
  go_upto_region 1 with fail
  generalize w.alloc (.cells #[.slice none 0 0, .slice none 0 0] 25) = w1 at *
  obtain ⟨gX, hgX⟩ : ∃ g, w.heap.size = g := ⟨_, rfl⟩
  rw [hgX] at hX
  try rw [hgX]
  have hwX : w.heap.size ≤ gX := by omega
  clear hgX
  have hlX := hX.lt
  have hs1 := hb.size
  have hq : Calls Try.prog 43 #[.int .i64 7] w1 fun e w' => ∃ g dc, e = .returned (.slice (some ⟨g, 0, none⟩) 7 dc) ∧ w1.heap.size ≤ g ∧ w'.ownsRow w1.heap.size 2 1 (.slice (some ⟨g, 0, none⟩) 7 dc) 7 ((List.replicate 7 (1 : Int)).map (Value.int .i64)) ∧ Below w1.heap.size w1 w' := l08Ones_c 7 w1 (by omega)
  go_wp2_with fail
  refine (l01In_c 3 1 3 _).mono ?_
  rintro e w5 ⟨rfl, rfl⟩
  rw [show decide ((1 : Int) ≤ 3 ∧ (3 : Int) ≤ 3) = true by decide]
  go_wp2_with fail
  refine hq.mono ?_
  rintro e w3 ⟨g, dc, rfl, hg, hR, hb3⟩
  have hI := row_intsS hR
  have hs3 := hb3.size
  replace hX := hX.keep hb3 hX.lt
  replace hb := below_trans' hb hb3 hb.size
  clear hq hb3 hR
  go_wp2_with fail
  refine (l02FreeI_c dc hI (by omega)).mono ?_
  rintro e w4 ⟨a, ac, rb, rfl, hV, hE, hb4⟩
  obtain ⟨gI, rfl, hI1, hI2, hO⟩ := hE (by omega)
  have hs4 := hb4.size
  replace hX := hX.keep hb4 hX.lt
  replace hb := below_trans' hb hb4 hb.size
  clear hb4 hI hE
  obtain ⟨lo, hlo⟩ : ∃ l, w3.heap.size = l := ⟨_, rfl⟩
  rw [hlo] at hV hI1 hs3 hs4
  clear hlo
  have hA := (Own.new w4 25 #[.slice a 7 ac, .slice (some ⟨gI, 0, none⟩) 7 7]).alloc (.cells #[.slice none 0 0] 47)
  have hG := Own.new (w4.alloc (.cells #[.slice a 7 ac, .slice (some ⟨gI, 0, none⟩) 7 7] 25)) 47 #[.slice none 0 0]
  rw [size_alloc] at hG
  have hba := below_then (below_alloc1 w4 (.cells #[.slice a 7 ac, .slice (some ⟨gI, 0, none⟩) 7 7] 25)) (below_alloc1 _ (.cells #[.slice none 0 0] 47))
  replace hX := hX.keep hba hX.lt
  replace hO := hO.keep hba hO.lt
  replace hV := hV.keep hba
  replace hb := below_trans' hb hba hb.size
  clear hba
  go_upto_region 4 with fail
  generalize (w4.alloc (.cells #[.slice a 7 ac, .slice (some ⟨gI, 0, none⟩) 7 7] 25)).alloc (.cells #[.slice none 0 0] 47) = w6 at *
  obtain ⟨gA, hgA⟩ : ∃ g, w4.heap.size = g := ⟨_, rfl⟩
  obtain ⟨gf, hgf⟩ : ∃ g, w4.heap.size + 1 = g := ⟨_, rfl⟩
  rw [hgf] at hG
  rw [hgA] at hA hI2 hs4
  rw [hgA] at hV
  try rw [hgf]
  try rw [hgA]
  have hAf : gA < gf := by omega
  clear hgA hgf
  go_upto_region 5 with fail
  go_loopw [6] (fun y wr => ∃ (k : Nat) (va : Option Addr) (vn vc : Nat), k ≤ 3 ∧ y = .int .i64 k ∧ Below w.heap.size w wr ∧ Own wr gX 25 #[.slice none 0 0, .slice none 0 0] ∧ Own wr gA 25 #[.slice a 7 ac, .slice (some ⟨gI, 0, none⟩) 7 7] ∧ Own wr gf 47 #[.slice va vn vc] ∧ Own wr gI 47 (Array.replicate 7 (.slice none 0 0)) ∧ OwnV wr lo gA a 7 (List.replicate 7 1) ∧ OwnR wr gA (.slice va vn vc) (heiT k)) (fun y _ => 3 - (intOf y).toNat)
  case atStart => exact ⟨0, none, 0, 0, Nat.zero_le _, rfl, hb, hX, hA, hG, hO, hV, World.ownsRow_nil _ _ _ _⟩
  case round =>
    clear hb hX hA hG hO hV
    obtain ⟨k, va, vn, vc, hk, rfl, hb, hX, hA, hG, hO, hV, hR⟩ := hrel
    by_cases hlt : k < 3
    · obtain rfl | rfl | rfl : k = 0 ∨ k = 1 ∨ k = 2 := by omega
      · have HRL := Lib.hid hR
        have HVL := Lib.hid hV
        have hgAM : gA < wr.heap.size := hA.lt
        have hgfM : gf < wr.heap.size := hG.lt
        have hM := Own.new wr 56 #[.int .u8 0, .int .u8 0, .int .u8 0, .int .u8 0, .int .u8 0, .int .u8 0, .int .u8 0, .int .u8 0]
        have hBa := below_alloc1 wr (.cells #[.int .u8 0, .int .u8 0, .int .u8 0, .int .u8 0, .int .u8 0, .int .u8 0, .int .u8 0, .int .u8 0] 56)
        go_upto_region 8 with fail
        generalize wr.alloc (.cells #[.int .u8 0, .int .u8 0, .int .u8 0, .int .u8 0, .int .u8 0, .int .u8 0, .int .u8 0, .int .u8 0] 56) = w5 at *
        obtain ⟨gM, hgM⟩ : ∃ g, wr.heap.size = g := ⟨_, rfl⟩
        have hgM2 : wr.heap.size ≤ gM := by omega
        rw [hgM] at hM
        try rw [hgM]
        clear hgM
        have e0 := hM.cell 0
        have e1 := hM.cell 1
        have e2 := hM.frozen 0
        have e3 := hM.frozen 1
        go_upto_region 10 with fail
        clear e0 e1 e2 e3
        have hM2 : Own ((w5.setCell ⟨gM, 0, none⟩ (.int .u8 1)).setCell ⟨gM, 1, none⟩ (.int .u8 1)) gM 56 #[.int .u8 1, .int .u8 1, .int .u8 0, .int .u8 0, .int .u8 0, .int .u8 0, .int .u8 0, .int .u8 0] := (hM.set 0 (.int .u8 1)).set 1 (.int .u8 1)
        have hB0 := (hBa.setCell (p := ⟨gM, 0, none⟩) hgM2 (.int .u8 1)).setCell (p := ⟨gM, 1, none⟩) hgM2 (.int .u8 1)
        generalize (w5.setCell ⟨gM, 0, none⟩ (.int .u8 1)).setCell ⟨gM, 1, none⟩ (.int .u8 1) = w6 at *
        clear hM hBa
        have hX := hX.keep hB0 hX.lt
        have hA := hA.keep hB0 hA.lt
        have hG := hG.keep hB0 hG.lt
        have hO := hO.keep hB0 hO.lt
        have HRL := Lib.hid (HRL.out.keep hB0)
        have HVL := Lib.hid (HVL.out.keep hB0)
        replace hb := below_trans' hb hB0 hb.size
        clear hB0 hR hV
        replace hX : Own w6.drew gX 25 #[.slice none 0 0, .slice none 0 0] := hX
        replace hA : Own w6.drew gA 25 #[.slice a 7 ac, .slice (some ⟨gI, 0, none⟩) 7 7] := hA
        replace hG : Own w6.drew gf 47 #[.slice va vn vc] := hG
        replace hO : Own w6.drew gI 47 (Array.replicate 7 (.slice none 0 0)) := hO
        have hM : Own w6.drew gM 56 #[.int .u8 1, .int .u8 1, .int .u8 0, .int .u8 0, .int .u8 0, .int .u8 0, .int .u8 0, .int .u8 0] := hM2
        have hdr : Below w6.heap.size w6 w6.drew := (Below.refl _ _).drew
        have HRL := Lib.hid (HRL.out.keep hdr)
        have HVL := Lib.hid (HVL.out.keep hdr)
        clear hdr hM2
        replace hb : Below w.heap.size w w6.drew := hb.drew
        refine wp_region_held_drew (S := (fun w' => w'.cell? ⟨gM, 0, none⟩ = some (.int .u8 1) ∧ w'.cell? ⟨gM, 1, none⟩ = some (.int .u8 1) ∧ w'.cell? ⟨gM, 2, none⟩ = some (.int .u8 0) ∧ w'.cell? ⟨gM, 3, none⟩ = some (.int .u8 0) ∧ w'.cell? ⟨gM, 4, none⟩ = some (.int .u8 0) ∧ w'.cell? ⟨gM, 5, none⟩ = some (.int .u8 0) ∧ w'.cell? ⟨gM, 6, none⟩ = some (.int .u8 0) ∧ w'.cell? ⟨gM, 7, none⟩ = some (.int .u8 0))) (by kernel_rfl) ?_ (fun hHeld0 => ?_)
        · ((try dsimp only); (exact ⟨hM.cell 0, hM.cell 1, hM.cell 2, hM.cell 3, hM.cell 4, hM.cell 5, hM.cell 6, hM.cell 7⟩))
        generalize w6.drew = W0 at *
        have hBB := Below.refl W0.heap.size W0
        have hA0 : gA < W0.heap.size := hA.lt
        (refine hdTake (i := 1) (v := ?_) rfl (by kernel_rfl) (by kernel_rfl) (by kernel_rfl) (fun _ _ _ h => h) (by rfl) ?_ (by assumption) ?_; rotate_left; (intro w hSw; (try dsimp only at hSw); go_simp; (try with_reducible rfl)); (try simp only [Act.put, List.setIfInBounds_toArray, List.set_cons_zero, List.set_cons_succ]))
        refine wpAnyH_ready (rs := [0, 2]) (by kernel_rfl) (by simp) ?_
        refine AllReadyH.cons (hdAt (i := 0) rfl) (fun K hK => ?_) (AllReadyH.cons (hdAt (i := 2) rfl) (fun K hK => ?_) AllReadyH.nil)
        · have cG := (hG.keep hBB hG.lt).cell 0
          (go_simp; go_wp2_with fail)
          clear cG
          refine hK.out _ _ ?_ (fun hHeld1 => ?_)
          · ((try dsimp only); (exact ⟨(hM.keep hBB hM.lt).cell 0, (hM.keep hBB hM.lt).cell 1, (hM.keep hBB hM.lt).cell 2, (hM.keep hBB hM.lt).cell 3, (hM.keep hBB hM.lt).cell 4, (hM.keep hBB hM.lt).cell 5, (hM.keep hBB hM.lt).cell 6, (hM.keep hBB hM.lt).cell 7⟩))
          clear hK K
          (try simp only [Act.put, List.setIfInBounds_toArray, List.set_cons_zero, List.set_cons_succ])
          refine hdCall (i := 2) (by kernel_rfl) rfl (fun K hK => ?_)
          (go_simp; (go_at_call 45; refine (l01SingleO_c mono_b0).mono ?_; rintro e W1 ⟨g1, rfl, hg1, hN1, hbX⟩); go_wp2_with fail)
          have hl1 := hN1.lt
          replace hBB := below_trans' hBB hbX hBB.size
          clear hbX
          refine hK.out _ _ ?_ (fun hHeld2 => ?_)
          · ((try dsimp only); (exact ⟨(hM.keep hBB hM.lt).cell 0, (hM.keep hBB hM.lt).cell 1, (hM.keep hBB hM.lt).cell 2, (hM.keep hBB hM.lt).cell 3, (hM.keep hBB hM.lt).cell 4, (hM.keep hBB hM.lt).cell 5, (hM.keep hBB hM.lt).cell 6, (hM.keep hBB hM.lt).cell 7⟩))
          clear hK K
          (try simp only [Act.put, List.setIfInBounds_toArray, List.set_cons_zero, List.set_cons_succ])
          refine hdCall (i := 3) (by kernel_rfl) rfl (fun K hK => ?_)
          have hT1 := (HRL.out.keep hBB).read (heiT_tm 0)
          have hlen := hT1.len
          have hl3 : (heiT 0).length = 0 := rfl
          have hsum : vn + 1 ≤ 2000000 := by omega
          have hT2 : Terms W1 (some ⟨g1, 0, none⟩) 1 [⟨[1, 1, 0, 0, 0, 0, 0, 0], 1⟩] := (ownR_one mono_b0 hN1 (Nat.le_refl _)).read (fun t ht => by rw [List.mem_singleton.1 ht]; exact ⟨mono_b0, by simp⟩)
          (go_simp; (go_at_call 44; (with_reducible refine (l01Add_c vc 1 1 (by omega) (by omega) hT1 hT2 hsum (heiT_f 0) one_f).mono ?_); rintro e W2 ⟨v2, rfl, hAd, hbX⟩); go_wp2_with fail)
          have hs2 := hBB.size
          replace hBB := below_trans' hBB hbX hBB.size
          rw [hei_add0] at hAd
          have hR2 : OwnR W2 gA v2 (heiT 1) := hAd.r.weaken (by omega)
          obtain ⟨ua, un, uc, rfl⟩ := hR2.isSlice
          clear hbX hAd hT1 hT2 hlen hl3 hN1 hsum
          refine hK.out _ _ ?_ (fun hHeld3 => ?_)
          · ((try dsimp only); (exact ⟨(hM.keep hBB hM.lt).cell 0, (hM.keep hBB hM.lt).cell 1, (hM.keep hBB hM.lt).cell 2, (hM.keep hBB hM.lt).cell 3, (hM.keep hBB hM.lt).cell 4, (hM.keep hBB hM.lt).cell 5, (hM.keep hBB hM.lt).cell 6, (hM.keep hBB hM.lt).cell 7⟩))
          clear hK K
          (try simp only [Act.put, List.setIfInBounds_toArray, List.set_cons_zero, List.set_cons_succ])
          refine hdCall (i := 4) (by kernel_rfl) rfl (fun K hK => ?_)
          have cG := (hG.keep hBB hG.lt).cell 0
          have fG := (hG.keep hBB hG.lt).frozen 0
          (go_simp; go_wp2_with fail)
          clear cG fG
          have hG1 := hG.keep hBB hG.lt
          replace hb := (below_trans' hb hBB hb.size).setCell (p := ⟨gf, 0, none⟩) (by dsimp only; omega) (.slice ua un uc)
          replace hX := (hX.keep hBB hX.lt).far (p := ⟨gf, 0, none⟩) (by dsimp only; omega) (.slice ua un uc)
          replace hA := (hA.keep hBB hA.lt).far (p := ⟨gf, 0, none⟩) (by dsimp only; omega) (.slice ua un uc)
          replace hM := (hM.keep hBB hM.lt).far (p := ⟨gf, 0, none⟩) (by dsimp only; omega) (.slice ua un uc)
          replace hO := (hO.keep hBB hO.lt).far (p := ⟨gf, 0, none⟩) (by dsimp only; omega) (.slice ua un uc)
          have HV9 := Lib.hid ((HVL.out.keep hBB).farT (p := ⟨gf, 0, none⟩) hG1 (by decide) (.slice ua un uc))
          have HR9 := Lib.hid (hR2.far (p := ⟨gf, 0, none⟩) (hR2.ne_form hG1) (.slice ua un uc))
          have hG9 : Own (W2.setCell ⟨gf, 0, none⟩ (.slice ua un uc)) gf 47 #[.slice ua un uc] := hG1.set 0 (.slice ua un uc)
          clear hG hG1 hR2 HVL HRL hBB
          refine hK.out _ _ ?_ (fun hHeld6 => ?_)
          · ((try dsimp only); (exact ⟨hM.cell 0, hM.cell 1, hM.cell 2, hM.cell 3, hM.cell 4, hM.cell 5, hM.cell 6, hM.cell 7⟩))
          clear hK K
          (try simp only [Act.put, List.setIfInBounds_toArray, List.set_cons_zero, List.set_cons_succ])
          refine wpAnyH_done (by kernel_rfl) ?_ _
          go_wp2_with fail
          go_roundw
          case rel => exact ⟨1, ua, un, uc, by omega, by go_num, hb, hX, hA, hG9, hO, HV9.out, HR9.out⟩
          case measure => simp [intOf] <;> omega
        · (go_simp; (go_at_call 45; refine (l01SingleO_c mono_b0).mono ?_; rintro e W1 ⟨g1, rfl, hg1, hN1, hbX⟩); go_wp2_with fail)
          have hl1 := hN1.lt
          replace hBB := below_trans' hBB hbX hBB.size
          clear hbX
          refine hK.out _ _ ?_ (fun hHeld2 => ?_)
          · ((try dsimp only); (exact ⟨(hM.keep hBB hM.lt).cell 0, (hM.keep hBB hM.lt).cell 1, (hM.keep hBB hM.lt).cell 2, (hM.keep hBB hM.lt).cell 3, (hM.keep hBB hM.lt).cell 4, (hM.keep hBB hM.lt).cell 5, (hM.keep hBB hM.lt).cell 6, (hM.keep hBB hM.lt).cell 7⟩))
          clear hK K
          (try simp only [Act.put, List.setIfInBounds_toArray, List.set_cons_zero, List.set_cons_succ])
          refine hdCall (i := 0) (by kernel_rfl) rfl (fun K hK => ?_)
          have cG := (hG.keep hBB hG.lt).cell 0
          (go_simp; go_wp2_with fail)
          clear cG
          refine hK.out _ _ ?_ (fun hHeld1 => ?_)
          · ((try dsimp only); (exact ⟨(hM.keep hBB hM.lt).cell 0, (hM.keep hBB hM.lt).cell 1, (hM.keep hBB hM.lt).cell 2, (hM.keep hBB hM.lt).cell 3, (hM.keep hBB hM.lt).cell 4, (hM.keep hBB hM.lt).cell 5, (hM.keep hBB hM.lt).cell 6, (hM.keep hBB hM.lt).cell 7⟩))
          clear hK K
          (try simp only [Act.put, List.setIfInBounds_toArray, List.set_cons_zero, List.set_cons_succ])
          refine hdCall (i := 3) (by kernel_rfl) rfl (fun K hK => ?_)
          have hT1 := (HRL.out.keep hBB).read (heiT_tm 0)
          have hlen := hT1.len
          have hl3 : (heiT 0).length = 0 := rfl
          have hsum : vn + 1 ≤ 2000000 := by omega
          have hT2 : Terms W1 (some ⟨g1, 0, none⟩) 1 [⟨[1, 1, 0, 0, 0, 0, 0, 0], 1⟩] := (ownR_one mono_b0 hN1 (Nat.le_refl _)).read (fun t ht => by rw [List.mem_singleton.1 ht]; exact ⟨mono_b0, by simp⟩)
          (go_simp; (go_at_call 44; (with_reducible refine (l01Add_c vc 1 1 (by omega) (by omega) hT1 hT2 hsum (heiT_f 0) one_f).mono ?_); rintro e W2 ⟨v2, rfl, hAd, hbX⟩); go_wp2_with fail)
          have hs2 := hBB.size
          replace hBB := below_trans' hBB hbX hBB.size
          rw [hei_add0] at hAd
          have hR2 : OwnR W2 gA v2 (heiT 1) := hAd.r.weaken (by omega)
          obtain ⟨ua, un, uc, rfl⟩ := hR2.isSlice
          clear hbX hAd hT1 hT2 hlen hl3 hN1 hsum
          refine hK.out _ _ ?_ (fun hHeld3 => ?_)
          · ((try dsimp only); (exact ⟨(hM.keep hBB hM.lt).cell 0, (hM.keep hBB hM.lt).cell 1, (hM.keep hBB hM.lt).cell 2, (hM.keep hBB hM.lt).cell 3, (hM.keep hBB hM.lt).cell 4, (hM.keep hBB hM.lt).cell 5, (hM.keep hBB hM.lt).cell 6, (hM.keep hBB hM.lt).cell 7⟩))
          clear hK K
          (try simp only [Act.put, List.setIfInBounds_toArray, List.set_cons_zero, List.set_cons_succ])
          refine hdCall (i := 4) (by kernel_rfl) rfl (fun K hK => ?_)
          have cG := (hG.keep hBB hG.lt).cell 0
          have fG := (hG.keep hBB hG.lt).frozen 0
          (go_simp; go_wp2_with fail)
          clear cG fG
          have hG1 := hG.keep hBB hG.lt
          replace hb := (below_trans' hb hBB hb.size).setCell (p := ⟨gf, 0, none⟩) (by dsimp only; omega) (.slice ua un uc)
          replace hX := (hX.keep hBB hX.lt).far (p := ⟨gf, 0, none⟩) (by dsimp only; omega) (.slice ua un uc)
          replace hA := (hA.keep hBB hA.lt).far (p := ⟨gf, 0, none⟩) (by dsimp only; omega) (.slice ua un uc)
          replace hM := (hM.keep hBB hM.lt).far (p := ⟨gf, 0, none⟩) (by dsimp only; omega) (.slice ua un uc)
          replace hO := (hO.keep hBB hO.lt).far (p := ⟨gf, 0, none⟩) (by dsimp only; omega) (.slice ua un uc)
          have HV9 := Lib.hid ((HVL.out.keep hBB).farT (p := ⟨gf, 0, none⟩) hG1 (by decide) (.slice ua un uc))
          have HR9 := Lib.hid (hR2.far (p := ⟨gf, 0, none⟩) (hR2.ne_form hG1) (.slice ua un uc))
          have hG9 : Own (W2.setCell ⟨gf, 0, none⟩ (.slice ua un uc)) gf 47 #[.slice ua un uc] := hG1.set 0 (.slice ua un uc)
          clear hG hG1 hR2 HVL HRL hBB
          refine hK.out _ _ ?_ (fun hHeld6 => ?_)
          · ((try dsimp only); (exact ⟨hM.cell 0, hM.cell 1, hM.cell 2, hM.cell 3, hM.cell 4, hM.cell 5, hM.cell 6, hM.cell 7⟩))
          clear hK K
          (try simp only [Act.put, List.setIfInBounds_toArray, List.set_cons_zero, List.set_cons_succ])
          refine wpAnyH_done (by kernel_rfl) ?_ _
          go_wp2_with fail
          go_roundw
          case rel => exact ⟨1, ua, un, uc, by omega, by go_num, hb, hX, hA, hG9, hO, HV9.out, HR9.out⟩
          case measure => simp [intOf] <;> omega
      · have HRL := Lib.hid hR
        have HVL := Lib.hid hV
        have hgAM : gA < wr.heap.size := hA.lt
        have hgfM : gf < wr.heap.size := hG.lt
        have hM := Own.new wr 56 #[.int .u8 0, .int .u8 0, .int .u8 0, .int .u8 0, .int .u8 0, .int .u8 0, .int .u8 0, .int .u8 0]
        have hBa := below_alloc1 wr (.cells #[.int .u8 0, .int .u8 0, .int .u8 0, .int .u8 0, .int .u8 0, .int .u8 0, .int .u8 0, .int .u8 0] 56)
        go_upto_region 8 with fail
        generalize wr.alloc (.cells #[.int .u8 0, .int .u8 0, .int .u8 0, .int .u8 0, .int .u8 0, .int .u8 0, .int .u8 0, .int .u8 0] 56) = w5 at *
        obtain ⟨gM, hgM⟩ : ∃ g, wr.heap.size = g := ⟨_, rfl⟩
        have hgM2 : wr.heap.size ≤ gM := by omega
        rw [hgM] at hM
        try rw [hgM]
        clear hgM
        have e0 := hM.cell 2
        have e1 := hM.cell 3
        have e2 := hM.frozen 2
        have e3 := hM.frozen 3
        go_upto_region 10 with fail
        clear e0 e1 e2 e3
        have hM2 : Own ((w5.setCell ⟨gM, 2, none⟩ (.int .u8 1)).setCell ⟨gM, 3, none⟩ (.int .u8 1)) gM 56 #[.int .u8 0, .int .u8 0, .int .u8 1, .int .u8 1, .int .u8 0, .int .u8 0, .int .u8 0, .int .u8 0] := (hM.set 2 (.int .u8 1)).set 3 (.int .u8 1)
        have hB0 := (hBa.setCell (p := ⟨gM, 2, none⟩) hgM2 (.int .u8 1)).setCell (p := ⟨gM, 3, none⟩) hgM2 (.int .u8 1)
        generalize (w5.setCell ⟨gM, 2, none⟩ (.int .u8 1)).setCell ⟨gM, 3, none⟩ (.int .u8 1) = w6 at *
        clear hM hBa
        have hX := hX.keep hB0 hX.lt
        have hA := hA.keep hB0 hA.lt
        have hG := hG.keep hB0 hG.lt
        have hO := hO.keep hB0 hO.lt
        have HRL := Lib.hid (HRL.out.keep hB0)
        have HVL := Lib.hid (HVL.out.keep hB0)
        replace hb := below_trans' hb hB0 hb.size
        clear hB0 hR hV
        replace hX : Own w6.drew gX 25 #[.slice none 0 0, .slice none 0 0] := hX
        replace hA : Own w6.drew gA 25 #[.slice a 7 ac, .slice (some ⟨gI, 0, none⟩) 7 7] := hA
        replace hG : Own w6.drew gf 47 #[.slice va vn vc] := hG
        replace hO : Own w6.drew gI 47 (Array.replicate 7 (.slice none 0 0)) := hO
        have hM : Own w6.drew gM 56 #[.int .u8 0, .int .u8 0, .int .u8 1, .int .u8 1, .int .u8 0, .int .u8 0, .int .u8 0, .int .u8 0] := hM2
        have hdr : Below w6.heap.size w6 w6.drew := (Below.refl _ _).drew
        have HRL := Lib.hid (HRL.out.keep hdr)
        have HVL := Lib.hid (HVL.out.keep hdr)
        clear hdr hM2
        replace hb : Below w.heap.size w w6.drew := hb.drew
        refine wp_region_held_drew (S := (fun w' => w'.cell? ⟨gM, 0, none⟩ = some (.int .u8 0) ∧ w'.cell? ⟨gM, 1, none⟩ = some (.int .u8 0) ∧ w'.cell? ⟨gM, 2, none⟩ = some (.int .u8 1) ∧ w'.cell? ⟨gM, 3, none⟩ = some (.int .u8 1) ∧ w'.cell? ⟨gM, 4, none⟩ = some (.int .u8 0) ∧ w'.cell? ⟨gM, 5, none⟩ = some (.int .u8 0) ∧ w'.cell? ⟨gM, 6, none⟩ = some (.int .u8 0) ∧ w'.cell? ⟨gM, 7, none⟩ = some (.int .u8 0))) (by kernel_rfl) ?_ (fun hHeld0 => ?_)
        · ((try dsimp only); (exact ⟨hM.cell 0, hM.cell 1, hM.cell 2, hM.cell 3, hM.cell 4, hM.cell 5, hM.cell 6, hM.cell 7⟩))
        generalize w6.drew = W0 at *
        have hBB := Below.refl W0.heap.size W0
        have hA0 : gA < W0.heap.size := hA.lt
        (refine hdTake (i := 1) (v := ?_) rfl (by kernel_rfl) (by kernel_rfl) (by kernel_rfl) (fun _ _ _ h => h) (by rfl) ?_ (by assumption) ?_; rotate_left; (intro w hSw; (try dsimp only at hSw); go_simp; (try with_reducible rfl)); (try simp only [Act.put, List.setIfInBounds_toArray, List.set_cons_zero, List.set_cons_succ]))
        refine wpAnyH_ready (rs := [0, 2]) (by kernel_rfl) (by simp) ?_
        refine AllReadyH.cons (hdAt (i := 0) rfl) (fun K hK => ?_) (AllReadyH.cons (hdAt (i := 2) rfl) (fun K hK => ?_) AllReadyH.nil)
        · have cG := (hG.keep hBB hG.lt).cell 0
          (go_simp; go_wp2_with fail)
          clear cG
          refine hK.out _ _ ?_ (fun hHeld1 => ?_)
          · ((try dsimp only); (exact ⟨(hM.keep hBB hM.lt).cell 0, (hM.keep hBB hM.lt).cell 1, (hM.keep hBB hM.lt).cell 2, (hM.keep hBB hM.lt).cell 3, (hM.keep hBB hM.lt).cell 4, (hM.keep hBB hM.lt).cell 5, (hM.keep hBB hM.lt).cell 6, (hM.keep hBB hM.lt).cell 7⟩))
          clear hK K
          (try simp only [Act.put, List.setIfInBounds_toArray, List.set_cons_zero, List.set_cons_succ])
          refine hdCall (i := 2) (by kernel_rfl) rfl (fun K hK => ?_)
          (go_simp; (go_at_call 45; refine (l01SingleO_c mono_b1).mono ?_; rintro e W1 ⟨g1, rfl, hg1, hN1, hbX⟩); go_wp2_with fail)
          have hl1 := hN1.lt
          replace hBB := below_trans' hBB hbX hBB.size
          clear hbX
          refine hK.out _ _ ?_ (fun hHeld2 => ?_)
          · ((try dsimp only); (exact ⟨(hM.keep hBB hM.lt).cell 0, (hM.keep hBB hM.lt).cell 1, (hM.keep hBB hM.lt).cell 2, (hM.keep hBB hM.lt).cell 3, (hM.keep hBB hM.lt).cell 4, (hM.keep hBB hM.lt).cell 5, (hM.keep hBB hM.lt).cell 6, (hM.keep hBB hM.lt).cell 7⟩))
          clear hK K
          (try simp only [Act.put, List.setIfInBounds_toArray, List.set_cons_zero, List.set_cons_succ])
          refine hdCall (i := 3) (by kernel_rfl) rfl (fun K hK => ?_)
          have hT1 := (HRL.out.keep hBB).read (heiT_tm 1)
          have hlen := hT1.len
          have hl3 : (heiT 1).length = 1 := rfl
          have hsum : vn + 1 ≤ 2000000 := by omega
          have hT2 : Terms W1 (some ⟨g1, 0, none⟩) 1 [⟨[0, 0, 1, 1, 0, 0, 0, 0], 1⟩] := (ownR_one mono_b1 hN1 (Nat.le_refl _)).read (fun t ht => by rw [List.mem_singleton.1 ht]; exact ⟨mono_b1, by simp⟩)
          (go_simp; (go_at_call 44; (with_reducible refine (l01Add_c vc 1 1 (by omega) (by omega) hT1 hT2 hsum (heiT_f 1) one_f).mono ?_); rintro e W2 ⟨v2, rfl, hAd, hbX⟩); go_wp2_with fail)
          have hs2 := hBB.size
          replace hBB := below_trans' hBB hbX hBB.size
          rw [hei_add1] at hAd
          have hR2 : OwnR W2 gA v2 (heiT 2) := hAd.r.weaken (by omega)
          obtain ⟨ua, un, uc, rfl⟩ := hR2.isSlice
          clear hbX hAd hT1 hT2 hlen hl3 hN1 hsum
          refine hK.out _ _ ?_ (fun hHeld3 => ?_)
          · ((try dsimp only); (exact ⟨(hM.keep hBB hM.lt).cell 0, (hM.keep hBB hM.lt).cell 1, (hM.keep hBB hM.lt).cell 2, (hM.keep hBB hM.lt).cell 3, (hM.keep hBB hM.lt).cell 4, (hM.keep hBB hM.lt).cell 5, (hM.keep hBB hM.lt).cell 6, (hM.keep hBB hM.lt).cell 7⟩))
          clear hK K
          (try simp only [Act.put, List.setIfInBounds_toArray, List.set_cons_zero, List.set_cons_succ])
          refine hdCall (i := 4) (by kernel_rfl) rfl (fun K hK => ?_)
          have cG := (hG.keep hBB hG.lt).cell 0
          have fG := (hG.keep hBB hG.lt).frozen 0
          (go_simp; go_wp2_with fail)
          clear cG fG
          have hG1 := hG.keep hBB hG.lt
          replace hb := (below_trans' hb hBB hb.size).setCell (p := ⟨gf, 0, none⟩) (by dsimp only; omega) (.slice ua un uc)
          replace hX := (hX.keep hBB hX.lt).far (p := ⟨gf, 0, none⟩) (by dsimp only; omega) (.slice ua un uc)
          replace hA := (hA.keep hBB hA.lt).far (p := ⟨gf, 0, none⟩) (by dsimp only; omega) (.slice ua un uc)
          replace hM := (hM.keep hBB hM.lt).far (p := ⟨gf, 0, none⟩) (by dsimp only; omega) (.slice ua un uc)
          replace hO := (hO.keep hBB hO.lt).far (p := ⟨gf, 0, none⟩) (by dsimp only; omega) (.slice ua un uc)
          have HV9 := Lib.hid ((HVL.out.keep hBB).farT (p := ⟨gf, 0, none⟩) hG1 (by decide) (.slice ua un uc))
          have HR9 := Lib.hid (hR2.far (p := ⟨gf, 0, none⟩) (hR2.ne_form hG1) (.slice ua un uc))
          have hG9 : Own (W2.setCell ⟨gf, 0, none⟩ (.slice ua un uc)) gf 47 #[.slice ua un uc] := hG1.set 0 (.slice ua un uc)
          clear hG hG1 hR2 HVL HRL hBB
          refine hK.out _ _ ?_ (fun hHeld6 => ?_)
          · ((try dsimp only); (exact ⟨hM.cell 0, hM.cell 1, hM.cell 2, hM.cell 3, hM.cell 4, hM.cell 5, hM.cell 6, hM.cell 7⟩))
          clear hK K
          (try simp only [Act.put, List.setIfInBounds_toArray, List.set_cons_zero, List.set_cons_succ])
          refine wpAnyH_done (by kernel_rfl) ?_ _
          go_wp2_with fail
          go_roundw
          case rel => exact ⟨2, ua, un, uc, by omega, by go_num, hb, hX, hA, hG9, hO, HV9.out, HR9.out⟩
          case measure => simp [intOf] <;> omega
        · (go_simp; (go_at_call 45; refine (l01SingleO_c mono_b1).mono ?_; rintro e W1 ⟨g1, rfl, hg1, hN1, hbX⟩); go_wp2_with fail)
          have hl1 := hN1.lt
          replace hBB := below_trans' hBB hbX hBB.size
          clear hbX
          refine hK.out _ _ ?_ (fun hHeld2 => ?_)
          · ((try dsimp only); (exact ⟨(hM.keep hBB hM.lt).cell 0, (hM.keep hBB hM.lt).cell 1, (hM.keep hBB hM.lt).cell 2, (hM.keep hBB hM.lt).cell 3, (hM.keep hBB hM.lt).cell 4, (hM.keep hBB hM.lt).cell 5, (hM.keep hBB hM.lt).cell 6, (hM.keep hBB hM.lt).cell 7⟩))
          clear hK K
          (try simp only [Act.put, List.setIfInBounds_toArray, List.set_cons_zero, List.set_cons_succ])
          refine hdCall (i := 0) (by kernel_rfl) rfl (fun K hK => ?_)
          have cG := (hG.keep hBB hG.lt).cell 0
          (go_simp; go_wp2_with fail)
          clear cG
          refine hK.out _ _ ?_ (fun hHeld1 => ?_)
          · ((try dsimp only); (exact ⟨(hM.keep hBB hM.lt).cell 0, (hM.keep hBB hM.lt).cell 1, (hM.keep hBB hM.lt).cell 2, (hM.keep hBB hM.lt).cell 3, (hM.keep hBB hM.lt).cell 4, (hM.keep hBB hM.lt).cell 5, (hM.keep hBB hM.lt).cell 6, (hM.keep hBB hM.lt).cell 7⟩))
          clear hK K
          (try simp only [Act.put, List.setIfInBounds_toArray, List.set_cons_zero, List.set_cons_succ])
          refine hdCall (i := 3) (by kernel_rfl) rfl (fun K hK => ?_)
          have hT1 := (HRL.out.keep hBB).read (heiT_tm 1)
          have hlen := hT1.len
          have hl3 : (heiT 1).length = 1 := rfl
          have hsum : vn + 1 ≤ 2000000 := by omega
          have hT2 : Terms W1 (some ⟨g1, 0, none⟩) 1 [⟨[0, 0, 1, 1, 0, 0, 0, 0], 1⟩] := (ownR_one mono_b1 hN1 (Nat.le_refl _)).read (fun t ht => by rw [List.mem_singleton.1 ht]; exact ⟨mono_b1, by simp⟩)
          (go_simp; (go_at_call 44; (with_reducible refine (l01Add_c vc 1 1 (by omega) (by omega) hT1 hT2 hsum (heiT_f 1) one_f).mono ?_); rintro e W2 ⟨v2, rfl, hAd, hbX⟩); go_wp2_with fail)
          have hs2 := hBB.size
          replace hBB := below_trans' hBB hbX hBB.size
          rw [hei_add1] at hAd
          have hR2 : OwnR W2 gA v2 (heiT 2) := hAd.r.weaken (by omega)
          obtain ⟨ua, un, uc, rfl⟩ := hR2.isSlice
          clear hbX hAd hT1 hT2 hlen hl3 hN1 hsum
          refine hK.out _ _ ?_ (fun hHeld3 => ?_)
          · ((try dsimp only); (exact ⟨(hM.keep hBB hM.lt).cell 0, (hM.keep hBB hM.lt).cell 1, (hM.keep hBB hM.lt).cell 2, (hM.keep hBB hM.lt).cell 3, (hM.keep hBB hM.lt).cell 4, (hM.keep hBB hM.lt).cell 5, (hM.keep hBB hM.lt).cell 6, (hM.keep hBB hM.lt).cell 7⟩))
          clear hK K
          (try simp only [Act.put, List.setIfInBounds_toArray, List.set_cons_zero, List.set_cons_succ])
          refine hdCall (i := 4) (by kernel_rfl) rfl (fun K hK => ?_)
          have cG := (hG.keep hBB hG.lt).cell 0
          have fG := (hG.keep hBB hG.lt).frozen 0
          (go_simp; go_wp2_with fail)
          clear cG fG
          have hG1 := hG.keep hBB hG.lt
          replace hb := (below_trans' hb hBB hb.size).setCell (p := ⟨gf, 0, none⟩) (by dsimp only; omega) (.slice ua un uc)
          replace hX := (hX.keep hBB hX.lt).far (p := ⟨gf, 0, none⟩) (by dsimp only; omega) (.slice ua un uc)
          replace hA := (hA.keep hBB hA.lt).far (p := ⟨gf, 0, none⟩) (by dsimp only; omega) (.slice ua un uc)
          replace hM := (hM.keep hBB hM.lt).far (p := ⟨gf, 0, none⟩) (by dsimp only; omega) (.slice ua un uc)
          replace hO := (hO.keep hBB hO.lt).far (p := ⟨gf, 0, none⟩) (by dsimp only; omega) (.slice ua un uc)
          have HV9 := Lib.hid ((HVL.out.keep hBB).farT (p := ⟨gf, 0, none⟩) hG1 (by decide) (.slice ua un uc))
          have HR9 := Lib.hid (hR2.far (p := ⟨gf, 0, none⟩) (hR2.ne_form hG1) (.slice ua un uc))
          have hG9 : Own (W2.setCell ⟨gf, 0, none⟩ (.slice ua un uc)) gf 47 #[.slice ua un uc] := hG1.set 0 (.slice ua un uc)
          clear hG hG1 hR2 HVL HRL hBB
          refine hK.out _ _ ?_ (fun hHeld6 => ?_)
          · ((try dsimp only); (exact ⟨hM.cell 0, hM.cell 1, hM.cell 2, hM.cell 3, hM.cell 4, hM.cell 5, hM.cell 6, hM.cell 7⟩))
          clear hK K
          (try simp only [Act.put, List.setIfInBounds_toArray, List.set_cons_zero, List.set_cons_succ])
          refine wpAnyH_done (by kernel_rfl) ?_ _
          go_wp2_with fail
          go_roundw
          case rel => exact ⟨2, ua, un, uc, by omega, by go_num, hb, hX, hA, hG9, hO, HV9.out, HR9.out⟩
          case measure => simp [intOf] <;> omega
      · have HRL := Lib.hid hR
        have HVL := Lib.hid hV
        have hgAM : gA < wr.heap.size := hA.lt
        have hgfM : gf < wr.heap.size := hG.lt
        have hM := Own.new wr 56 #[.int .u8 0, .int .u8 0, .int .u8 0, .int .u8 0, .int .u8 0, .int .u8 0, .int .u8 0, .int .u8 0]
        have hBa := below_alloc1 wr (.cells #[.int .u8 0, .int .u8 0, .int .u8 0, .int .u8 0, .int .u8 0, .int .u8 0, .int .u8 0, .int .u8 0] 56)
        go_upto_region 8 with fail
        generalize wr.alloc (.cells #[.int .u8 0, .int .u8 0, .int .u8 0, .int .u8 0, .int .u8 0, .int .u8 0, .int .u8 0, .int .u8 0] 56) = w5 at *
        obtain ⟨gM, hgM⟩ : ∃ g, wr.heap.size = g := ⟨_, rfl⟩
        have hgM2 : wr.heap.size ≤ gM := by omega
        rw [hgM] at hM
        try rw [hgM]
        clear hgM
        have e0 := hM.cell 4
        have e1 := hM.cell 5
        have e2 := hM.frozen 4
        have e3 := hM.frozen 5
        go_upto_region 10 with fail
        clear e0 e1 e2 e3
        have hM2 : Own ((w5.setCell ⟨gM, 4, none⟩ (.int .u8 1)).setCell ⟨gM, 5, none⟩ (.int .u8 1)) gM 56 #[.int .u8 0, .int .u8 0, .int .u8 0, .int .u8 0, .int .u8 1, .int .u8 1, .int .u8 0, .int .u8 0] := (hM.set 4 (.int .u8 1)).set 5 (.int .u8 1)
        have hB0 := (hBa.setCell (p := ⟨gM, 4, none⟩) hgM2 (.int .u8 1)).setCell (p := ⟨gM, 5, none⟩) hgM2 (.int .u8 1)
        generalize (w5.setCell ⟨gM, 4, none⟩ (.int .u8 1)).setCell ⟨gM, 5, none⟩ (.int .u8 1) = w6 at *
        clear hM hBa
        have hX := hX.keep hB0 hX.lt
        have hA := hA.keep hB0 hA.lt
        have hG := hG.keep hB0 hG.lt
        have hO := hO.keep hB0 hO.lt
        have HRL := Lib.hid (HRL.out.keep hB0)
        have HVL := Lib.hid (HVL.out.keep hB0)
        replace hb := below_trans' hb hB0 hb.size
        clear hB0 hR hV
        replace hX : Own w6.drew gX 25 #[.slice none 0 0, .slice none 0 0] := hX
        replace hA : Own w6.drew gA 25 #[.slice a 7 ac, .slice (some ⟨gI, 0, none⟩) 7 7] := hA
        replace hG : Own w6.drew gf 47 #[.slice va vn vc] := hG
        replace hO : Own w6.drew gI 47 (Array.replicate 7 (.slice none 0 0)) := hO
        have hM : Own w6.drew gM 56 #[.int .u8 0, .int .u8 0, .int .u8 0, .int .u8 0, .int .u8 1, .int .u8 1, .int .u8 0, .int .u8 0] := hM2
        have hdr : Below w6.heap.size w6 w6.drew := (Below.refl _ _).drew
        have HRL := Lib.hid (HRL.out.keep hdr)
        have HVL := Lib.hid (HVL.out.keep hdr)
        clear hdr hM2
        replace hb : Below w.heap.size w w6.drew := hb.drew
        refine wp_region_held_drew (S := (fun w' => w'.cell? ⟨gM, 0, none⟩ = some (.int .u8 0) ∧ w'.cell? ⟨gM, 1, none⟩ = some (.int .u8 0) ∧ w'.cell? ⟨gM, 2, none⟩ = some (.int .u8 0) ∧ w'.cell? ⟨gM, 3, none⟩ = some (.int .u8 0) ∧ w'.cell? ⟨gM, 4, none⟩ = some (.int .u8 1) ∧ w'.cell? ⟨gM, 5, none⟩ = some (.int .u8 1) ∧ w'.cell? ⟨gM, 6, none⟩ = some (.int .u8 0) ∧ w'.cell? ⟨gM, 7, none⟩ = some (.int .u8 0))) (by kernel_rfl) ?_ (fun hHeld0 => ?_)
        · ((try dsimp only); (exact ⟨hM.cell 0, hM.cell 1, hM.cell 2, hM.cell 3, hM.cell 4, hM.cell 5, hM.cell 6, hM.cell 7⟩))
        generalize w6.drew = W0 at *
        have hBB := Below.refl W0.heap.size W0
        have hA0 : gA < W0.heap.size := hA.lt
        (refine hdTake (i := 1) (v := ?_) rfl (by kernel_rfl) (by kernel_rfl) (by kernel_rfl) (fun _ _ _ h => h) (by rfl) ?_ (by assumption) ?_; rotate_left; (intro w hSw; (try dsimp only at hSw); go_simp; (try with_reducible rfl)); (try simp only [Act.put, List.setIfInBounds_toArray, List.set_cons_zero, List.set_cons_succ]))
        refine wpAnyH_ready (rs := [0, 2]) (by kernel_rfl) (by simp) ?_
        refine AllReadyH.cons (hdAt (i := 0) rfl) (fun K hK => ?_) (AllReadyH.cons (hdAt (i := 2) rfl) (fun K hK => ?_) AllReadyH.nil)
        · have cG := (hG.keep hBB hG.lt).cell 0
          (go_simp; go_wp2_with fail)
          clear cG
          refine hK.out _ _ ?_ (fun hHeld1 => ?_)
          · ((try dsimp only); (exact ⟨(hM.keep hBB hM.lt).cell 0, (hM.keep hBB hM.lt).cell 1, (hM.keep hBB hM.lt).cell 2, (hM.keep hBB hM.lt).cell 3, (hM.keep hBB hM.lt).cell 4, (hM.keep hBB hM.lt).cell 5, (hM.keep hBB hM.lt).cell 6, (hM.keep hBB hM.lt).cell 7⟩))
          clear hK K
          (try simp only [Act.put, List.setIfInBounds_toArray, List.set_cons_zero, List.set_cons_succ])
          refine hdCall (i := 2) (by kernel_rfl) rfl (fun K hK => ?_)
          (go_simp; (go_at_call 45; refine (l01SingleO_c mono_b2).mono ?_; rintro e W1 ⟨g1, rfl, hg1, hN1, hbX⟩); go_wp2_with fail)
          have hl1 := hN1.lt
          replace hBB := below_trans' hBB hbX hBB.size
          clear hbX
          refine hK.out _ _ ?_ (fun hHeld2 => ?_)
          · ((try dsimp only); (exact ⟨(hM.keep hBB hM.lt).cell 0, (hM.keep hBB hM.lt).cell 1, (hM.keep hBB hM.lt).cell 2, (hM.keep hBB hM.lt).cell 3, (hM.keep hBB hM.lt).cell 4, (hM.keep hBB hM.lt).cell 5, (hM.keep hBB hM.lt).cell 6, (hM.keep hBB hM.lt).cell 7⟩))
          clear hK K
          (try simp only [Act.put, List.setIfInBounds_toArray, List.set_cons_zero, List.set_cons_succ])
          refine hdCall (i := 3) (by kernel_rfl) rfl (fun K hK => ?_)
          have hT1 := (HRL.out.keep hBB).read (heiT_tm 2)
          have hlen := hT1.len
          have hl3 : (heiT 2).length = 2 := rfl
          have hsum : vn + 1 ≤ 2000000 := by omega
          have hT2 : Terms W1 (some ⟨g1, 0, none⟩) 1 [⟨[0, 0, 0, 0, 1, 1, 0, 0], 1⟩] := (ownR_one mono_b2 hN1 (Nat.le_refl _)).read (fun t ht => by rw [List.mem_singleton.1 ht]; exact ⟨mono_b2, by simp⟩)
          (go_simp; (go_at_call 44; (with_reducible refine (l01Add_c vc 1 1 (by omega) (by omega) hT1 hT2 hsum (heiT_f 2) one_f).mono ?_); rintro e W2 ⟨v2, rfl, hAd, hbX⟩); go_wp2_with fail)
          have hs2 := hBB.size
          replace hBB := below_trans' hBB hbX hBB.size
          rw [hei_add2] at hAd
          have hR2 : OwnR W2 gA v2 (heiT 3) := hAd.r.weaken (by omega)
          obtain ⟨ua, un, uc, rfl⟩ := hR2.isSlice
          clear hbX hAd hT1 hT2 hlen hl3 hN1 hsum
          refine hK.out _ _ ?_ (fun hHeld3 => ?_)
          · ((try dsimp only); (exact ⟨(hM.keep hBB hM.lt).cell 0, (hM.keep hBB hM.lt).cell 1, (hM.keep hBB hM.lt).cell 2, (hM.keep hBB hM.lt).cell 3, (hM.keep hBB hM.lt).cell 4, (hM.keep hBB hM.lt).cell 5, (hM.keep hBB hM.lt).cell 6, (hM.keep hBB hM.lt).cell 7⟩))
          clear hK K
          (try simp only [Act.put, List.setIfInBounds_toArray, List.set_cons_zero, List.set_cons_succ])
          refine hdCall (i := 4) (by kernel_rfl) rfl (fun K hK => ?_)
          have cG := (hG.keep hBB hG.lt).cell 0
          have fG := (hG.keep hBB hG.lt).frozen 0
          (go_simp; go_wp2_with fail)
          clear cG fG
          have hG1 := hG.keep hBB hG.lt
          replace hb := (below_trans' hb hBB hb.size).setCell (p := ⟨gf, 0, none⟩) (by dsimp only; omega) (.slice ua un uc)
          replace hX := (hX.keep hBB hX.lt).far (p := ⟨gf, 0, none⟩) (by dsimp only; omega) (.slice ua un uc)
          replace hA := (hA.keep hBB hA.lt).far (p := ⟨gf, 0, none⟩) (by dsimp only; omega) (.slice ua un uc)
          replace hM := (hM.keep hBB hM.lt).far (p := ⟨gf, 0, none⟩) (by dsimp only; omega) (.slice ua un uc)
          replace hO := (hO.keep hBB hO.lt).far (p := ⟨gf, 0, none⟩) (by dsimp only; omega) (.slice ua un uc)
          have HV9 := Lib.hid ((HVL.out.keep hBB).farT (p := ⟨gf, 0, none⟩) hG1 (by decide) (.slice ua un uc))
          have HR9 := Lib.hid (hR2.far (p := ⟨gf, 0, none⟩) (hR2.ne_form hG1) (.slice ua un uc))
          have hG9 : Own (W2.setCell ⟨gf, 0, none⟩ (.slice ua un uc)) gf 47 #[.slice ua un uc] := hG1.set 0 (.slice ua un uc)
          clear hG hG1 hR2 HVL HRL hBB
          refine hK.out _ _ ?_ (fun hHeld6 => ?_)
          · ((try dsimp only); (exact ⟨hM.cell 0, hM.cell 1, hM.cell 2, hM.cell 3, hM.cell 4, hM.cell 5, hM.cell 6, hM.cell 7⟩))
          clear hK K
          (try simp only [Act.put, List.setIfInBounds_toArray, List.set_cons_zero, List.set_cons_succ])
          refine wpAnyH_done (by kernel_rfl) ?_ _
          go_wp2_with fail
          go_roundw
          case rel => exact ⟨3, ua, un, uc, by omega, by go_num, hb, hX, hA, hG9, hO, HV9.out, HR9.out⟩
          case measure => simp [intOf] <;> omega
        · (go_simp; (go_at_call 45; refine (l01SingleO_c mono_b2).mono ?_; rintro e W1 ⟨g1, rfl, hg1, hN1, hbX⟩); go_wp2_with fail)
          have hl1 := hN1.lt
          replace hBB := below_trans' hBB hbX hBB.size
          clear hbX
          refine hK.out _ _ ?_ (fun hHeld2 => ?_)
          · ((try dsimp only); (exact ⟨(hM.keep hBB hM.lt).cell 0, (hM.keep hBB hM.lt).cell 1, (hM.keep hBB hM.lt).cell 2, (hM.keep hBB hM.lt).cell 3, (hM.keep hBB hM.lt).cell 4, (hM.keep hBB hM.lt).cell 5, (hM.keep hBB hM.lt).cell 6, (hM.keep hBB hM.lt).cell 7⟩))
          clear hK K
          (try simp only [Act.put, List.setIfInBounds_toArray, List.set_cons_zero, List.set_cons_succ])
          refine hdCall (i := 0) (by kernel_rfl) rfl (fun K hK => ?_)
          have cG := (hG.keep hBB hG.lt).cell 0
          (go_simp; go_wp2_with fail)
          clear cG
          refine hK.out _ _ ?_ (fun hHeld1 => ?_)
          · ((try dsimp only); (exact ⟨(hM.keep hBB hM.lt).cell 0, (hM.keep hBB hM.lt).cell 1, (hM.keep hBB hM.lt).cell 2, (hM.keep hBB hM.lt).cell 3, (hM.keep hBB hM.lt).cell 4, (hM.keep hBB hM.lt).cell 5, (hM.keep hBB hM.lt).cell 6, (hM.keep hBB hM.lt).cell 7⟩))
          clear hK K
          (try simp only [Act.put, List.setIfInBounds_toArray, List.set_cons_zero, List.set_cons_succ])
          refine hdCall (i := 3) (by kernel_rfl) rfl (fun K hK => ?_)
          have hT1 := (HRL.out.keep hBB).read (heiT_tm 2)
          have hlen := hT1.len
          have hl3 : (heiT 2).length = 2 := rfl
          have hsum : vn + 1 ≤ 2000000 := by omega
          have hT2 : Terms W1 (some ⟨g1, 0, none⟩) 1 [⟨[0, 0, 0, 0, 1, 1, 0, 0], 1⟩] := (ownR_one mono_b2 hN1 (Nat.le_refl _)).read (fun t ht => by rw [List.mem_singleton.1 ht]; exact ⟨mono_b2, by simp⟩)
          (go_simp; (go_at_call 44; (with_reducible refine (l01Add_c vc 1 1 (by omega) (by omega) hT1 hT2 hsum (heiT_f 2) one_f).mono ?_); rintro e W2 ⟨v2, rfl, hAd, hbX⟩); go_wp2_with fail)
          have hs2 := hBB.size
          replace hBB := below_trans' hBB hbX hBB.size
          rw [hei_add2] at hAd
          have hR2 : OwnR W2 gA v2 (heiT 3) := hAd.r.weaken (by omega)
          obtain ⟨ua, un, uc, rfl⟩ := hR2.isSlice
          clear hbX hAd hT1 hT2 hlen hl3 hN1 hsum
          refine hK.out _ _ ?_ (fun hHeld3 => ?_)
          · ((try dsimp only); (exact ⟨(hM.keep hBB hM.lt).cell 0, (hM.keep hBB hM.lt).cell 1, (hM.keep hBB hM.lt).cell 2, (hM.keep hBB hM.lt).cell 3, (hM.keep hBB hM.lt).cell 4, (hM.keep hBB hM.lt).cell 5, (hM.keep hBB hM.lt).cell 6, (hM.keep hBB hM.lt).cell 7⟩))
          clear hK K
          (try simp only [Act.put, List.setIfInBounds_toArray, List.set_cons_zero, List.set_cons_succ])
          refine hdCall (i := 4) (by kernel_rfl) rfl (fun K hK => ?_)
          have cG := (hG.keep hBB hG.lt).cell 0
          have fG := (hG.keep hBB hG.lt).frozen 0
          (go_simp; go_wp2_with fail)
          clear cG fG
          have hG1 := hG.keep hBB hG.lt
          replace hb := (below_trans' hb hBB hb.size).setCell (p := ⟨gf, 0, none⟩) (by dsimp only; omega) (.slice ua un uc)
          replace hX := (hX.keep hBB hX.lt).far (p := ⟨gf, 0, none⟩) (by dsimp only; omega) (.slice ua un uc)
          replace hA := (hA.keep hBB hA.lt).far (p := ⟨gf, 0, none⟩) (by dsimp only; omega) (.slice ua un uc)
          replace hM := (hM.keep hBB hM.lt).far (p := ⟨gf, 0, none⟩) (by dsimp only; omega) (.slice ua un uc)
          replace hO := (hO.keep hBB hO.lt).far (p := ⟨gf, 0, none⟩) (by dsimp only; omega) (.slice ua un uc)
          have HV9 := Lib.hid ((HVL.out.keep hBB).farT (p := ⟨gf, 0, none⟩) hG1 (by decide) (.slice ua un uc))
          have HR9 := Lib.hid (hR2.far (p := ⟨gf, 0, none⟩) (hR2.ne_form hG1) (.slice ua un uc))
          have hG9 : Own (W2.setCell ⟨gf, 0, none⟩ (.slice ua un uc)) gf 47 #[.slice ua un uc] := hG1.set 0 (.slice ua un uc)
          clear hG hG1 hR2 HVL HRL hBB
          refine hK.out _ _ ?_ (fun hHeld6 => ?_)
          · ((try dsimp only); (exact ⟨hM.cell 0, hM.cell 1, hM.cell 2, hM.cell 3, hM.cell 4, hM.cell 5, hM.cell 6, hM.cell 7⟩))
          clear hK K
          (try simp only [Act.put, List.setIfInBounds_toArray, List.set_cons_zero, List.set_cons_succ])
          refine wpAnyH_done (by kernel_rfl) ?_ _
          go_wp2_with fail
          go_roundw
          case rel => exact ⟨3, ua, un, uc, by omega, by go_num, hb, hX, hA, hG9, hO, HV9.out, HR9.out⟩
          case measure => simp [intOf] <;> omega
    · obtain rfl : k = 3 := by omega
      have cA1 := hA.cell 1
      have cG := hG.cell 0
      have cO : wr.cell? ⟨gI, 6, none⟩ = some (.slice none 0 0) := hO.cell 6
      have fO := hO.frozen 6
      go_upto_region 12 with fail
      clear cA1 cG cO fO
      have hO9 : Own (wr.setCell ⟨gI, 6, none⟩ (.slice va vn vc)) gI 47 #[.slice none 0 0, .slice none 0 0, .slice none 0 0, .slice none 0 0, .slice none 0 0, .slice none 0 0, .slice va vn vc] := hO.set 6 (.slice va vn vc)
      have hR9 := hR.far (p := ⟨gI, 6, none⟩) (hR.ne_form hO) (.slice va vn vc)
      have hV9' := hV.farT (p := ⟨gI, 6, none⟩) hO (by decide) (.slice va vn vc)
      replace hX := hX.far (p := ⟨gI, 6, none⟩) (by dsimp only; omega) (.slice va vn vc)
      replace hA := hA.far (p := ⟨gI, 6, none⟩) (by dsimp only; omega) (.slice va vn vc)
      replace hb := hb.setCell (p := ⟨gI, 6, none⟩) (by dsimp only; omega) (.slice va vn vc)
      clear hO hR hV hG
      generalize wr.setCell ⟨gI, 6, none⟩ (.slice va vn vc) = w8 at *
      have cA0 := hA.cell 0
      have cA1 := hA.cell 1
      have c0 := hX.cell 0
      have c1 := hX.cell 1
      have f0 := hX.frozen 0
      have f1 := hX.frozen 1
      have hAl := hA.lt
      have hV := hV9'.weaken (lo' := lo) (hi' := w8.heap.size) (Nat.le_refl _) (by omega)
      have hVl : Vals w8 lo (List.replicate 6 (.slice none 0 0)) (List.replicate 6 []) := by
        have := vals_nils (Vals.nil w8 lo) (by omega) 6
        simpa using this
      have hVs : Vals w8 lo (List.replicate 6 (.slice none 0 0) ++ [.slice va vn vc]) (List.replicate 6 [] ++ [heiT 3]) := hVl.snoc (C := gA) (fun i u q h1 h2 => by
        rw [List.getElem?_replicate] at h1
        split at h1
        · cases h1
          simp [Value.ownBlock] at h2
        · cases h1) (by omega) hR9
      have hF := hVs.ownF (n := 7) rfl hO9 (fun i v hi => by
        have hi2 : i < 7 := by have := (List.getElem?_eq_some_iff.1 hi).1; simpa using this
        rcases (by omega : i = 0 ∨ i = 1 ∨ i = 2 ∨ i = 3 ∨ i = 4 ∨ i = 5 ∨ i = 6) with rfl | rfl | rfl | rfl | rfl | rfl | rfl <;> simp_all) (by omega) (fun ts hts t ht => by
        rcases List.mem_append.1 hts with h | h
        · rw [List.eq_of_mem_replicate h] at ht; simp at ht
        · rw [List.mem_singleton.1 h] at ht; exact heiT_tm _ t ht)
      clear hVl hVs hO9 hR9 hV9'
      go_wp2_with fail
      have s2 := (hX.set 0 (.slice a 7 ac)).set 1 (.slice (some ⟨gI, 0, none⟩) 7 7)
      have ht : Touch (fun k => k = gX) w8 ((w8.setCell ⟨gX, 0, none⟩ (.slice a 7 ac)).setCell ⟨gX, 1, none⟩ (.slice (some ⟨gI, 0, none⟩) 7 7)) := Touch.of_only (((Only.refl gX _).set 0 _).set 1 _)
      have hV9 := (hV.touch ht (fun g h1 h2 => by omega)).weaken (lo' := w.heap.size) (hi' := ((w8.setCell ⟨gX, 0, none⟩ (.slice a 7 ac)).setCell ⟨gX, 1, none⟩ (.slice (some ⟨gI, 0, none⟩) 7 7)).heap.size) (by omega) (by simp)
      have hF9 := (hF.touch ht (fun g h1 h2 => by omega)).weaken (lo' := w.heap.size) (hi' := ((w8.setCell ⟨gX, 0, none⟩ (.slice a 7 ac)).setCell ⟨gX, 1, none⟩ (.slice (some ⟨gI, 0, none⟩) 7 7)).heap.size) (by omega) (by simp)
      have hb9 := (hb.setCell (p := ⟨gX, 0, none⟩) hwX (.slice a 7 ac)).setCell (p := ⟨gX, 1, none⟩) hwX (.slice (some ⟨gI, 0, none⟩) 7 7)
      exact bodyPost_ret (results_row2 rfl _ _ gX 25 #[.slice a 7 ac, .slice (some ⟨gI, 0, none⟩) 7 7] (0, 0) _ rfl s2 Try.underlying25 rfl Try.info_alg) rfl ⟨_, _, _, _, _, _, rfl, hV9, hF9, hb9⟩
set_option maxHeartbeats 1000000 in
set_option maxRecDepth 100000 in
theorem hei_s0 (x : Int) (w : World) (h : ¬ (1 ≤ x ∧ x ≤ 3)) :
    Calls Try.prog 22 #[.int .i64 x] w fun e w' => SpO [] [] 2 w e w' := by
  have hX := Own.new w 25 #[.slice none 0 0, .slice none 0 0]
  have hb := below_alloc1 w (.cells #[.slice none 0 0, .slice none 0 0] 25)
  go_enter Try.func22, Try.ntmps22
  go_upto_region 1 with fail
  generalize w.alloc (.cells #[.slice none 0 0, .slice none 0 0] 25) = w1 at *
  obtain ⟨gX, hgX⟩ : ∃ g, w.heap.size = g := ⟨_, rfl⟩
  rw [hgX] at hX
  try rw [hgX]
  have hwX : w.heap.size ≤ gX := by omega
  clear hgX
  have hlX := hX.lt
  have hs1 := hb.size
  go_wp2_with fail
  refine (l01In_c x 1 3 _).mono ?_
  rintro e w5 ⟨rfl, rfl⟩
  rw [show decide (1 ≤ x ∧ x ≤ 3) = false by simp; omega]
  have c0 := hX.cell 0
  have c1 := hX.cell 1
  have f0 := hX.frozen 0
  have f1 := hX.frozen 1
  go_wp2_with fail
  have s2 := (hX.set 0 (.slice none 0 0)).set 1 (.slice none 0 0)
  have hb9 := (hb.setCell (p := ⟨gX, 0, none⟩) hwX (.slice none 0 0)).setCell (p := ⟨gX, 1, none⟩) hwX (.slice none 0 0)
  exact bodyPost_ret (results_row2 rfl _ _ gX 25 #[.slice none 0 0, .slice none 0 0] (0, 0) _ rfl s2 Try.underlying25 rfl Try.info_alg) rfl ⟨none, 0, 0, none, 0, 0, rfl, OwnV.none_, OwnF.none_, hb9⟩
end Go.Proofs.Ytmijeojlighnaaa
