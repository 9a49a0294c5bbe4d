
import Derived.Test.YtmijeojlighnaaaTor
import Derived.Test.YtmijeojlighnaaaPart
import Derived.Test.YtmijeojlighnaaaAddS
namespace Go.Proofs.Ytmijeojlighnaaa
open Go.RowKit Go.Deep
def heiT (n : Nat) : List Tm := [⟨[1, 1, 0, 0, 0, 0, 0, 0], 1⟩, ⟨[0, 0, 1, 1, 0, 0, 0, 0], 1⟩, ⟨[0, 0, 0, 0, 1, 1, 0, 0], 1⟩].take n
theorem heiT_tm (n : Nat) : ∀ t ∈ heiT n, IsTm t := by
  intro t ht
  have h := List.mem_of_mem_take ht
  simp at h
  rcases h with rfl | rfl | rfl <;> exact ⟨⟨rfl, by intro x hx; simp at hx; omega⟩, by simp⟩
theorem row_keepH {w w' : World} {B n size : Nat} {t : TypeId} {v : Value} {xs : List Value} (h : w.ownsRow B t size v n xs) (hb : Below w.heap.size w w') : w'.ownsRow B t size v n xs :=
  World.ownsRow.kept h (row := none) ⟨hb.os, hb.tape, hb.output, hb.size, fun k hk _ => hb.block k hk⟩ (by cases h0 : v.ownBlock <;> simp)
set_option maxHeartbeats 4000000 in
set_option maxRecDepth 100000 in
theorem heis1_c (w : World) :
    Calls Try.prog 79 #[.int .i64 1] w fun e w' => SpM (List.replicate 3 1) (List.replicate 2 [] ++ [heiT 1]) w e w' := by
  obtain ⟨ti, tz, hti, htz, hts, htb, htzs⟩ := Try.info_termA
  have HI := Lib.hid hti
  have HZ := Lib.hid htz
  have HS := Lib.hid hts
  have HBt := Lib.hid htb
  have HZs := Lib.hid htzs
  clear hti htz hts htb htzs
  have hX := Own.new w 25 #[.slice none 0 0, .slice none 0 0]
  have hb := below_alloc1 w (.cells #[.slice none 0 0, .slice none 0 0] 25)
  go_enter Try.func79, Try.ntmps79
  go_upto_region 1 with fail
  generalize w.alloc (.cells #[.slice none 0 0, .slice none 0 0] 25) = w1 at *
  obtain ⟨gX, hgX⟩ : ∃ g, w.heap.size = g := ⟨_, rfl⟩
  rw [hgX] at hX
  try rw [hgX]
  have hwX : w.heap.size ≤ gX := by omega
  clear hgX
  have hlX := hX.lt
  have hs1 := hb.size
  have hq : Calls Try.prog 78 #[.int .i64 3] w1 fun e w' => SpX ((List.range 3).map oneL) 3 w1 e w' := torus_x 3 w1 (by omega)
  go_wp2_with fail
  refine hq.mono ?_
  rintro e w3 ⟨gD, gI, rfl, hgD, hgI, hD, hO, hb3⟩
  clear hq
  replace hX := hX.keep hb3 hX.lt
  replace hb := below_trans' hb hb3 hb.size
  clear hb3
  have hlI := hO.lt
  have hA := Own.new w3 25 #[.slice (some ⟨gD, 0, none⟩) 3 3, .slice (some ⟨gI, 0, none⟩) 3 3]
  have hba := below_alloc1 w3 (.cells #[.slice (some ⟨gD, 0, none⟩) 3 3, .slice (some ⟨gI, 0, none⟩) 3 3] 25)
  replace hX := hX.keep hba hX.lt
  replace hD := hD.keep hba hD.lt
  replace hO := hO.keep hba hO.lt
  replace hb := below_trans' hb hba hb.size
  clear hba
  go_upto_region 2 with fail
  generalize w3.alloc (.cells #[.slice (some ⟨gD, 0, none⟩) 3 3, .slice (some ⟨gI, 0, none⟩) 3 3] 25) = w4 at *
  obtain ⟨gA, hgA⟩ : ∃ g, w3.heap.size = g := ⟨_, rfl⟩
  rw [hgA] at hA hlI
  try rw [hgA]
  clear hgA
  have hD0 : Own w4 gD 2 (((List.replicate 3 (1 : Int)).map (Value.int .i64)).toArray) := hD
  have hO0 : Own w4 gI 47 #[.slice none 0 0, .slice none 0 0, .slice none 0 0] := hO
  clear hD hO
  go_upto_region 3 with fail
  go_loopw [11] (fun y wr => ∃ (k : Nat) (va : Option Addr) (vn vc : Nat), k ≤ 1 ∧ y = .int .i64 k ∧ Below w.heap.size w wr ∧ Own wr gX 25 #[.slice none 0 0, .slice none 0 0] ∧ Own wr gA 25 #[.slice (some ⟨gD, 0, none⟩) 3 3, .slice (some ⟨gI, 0, none⟩) 3 3] ∧ Own wr gD 2 (((List.replicate 3 (1 : Int)).map (Value.int .i64)).toArray) ∧ Own wr gI 47 #[.slice none 0 0, .slice none 0 0, .slice va vn vc] ∧ wr.ownsRow (gA + 1) 75 9 (.slice va vn vc) k (rcells (heiT k))) (fun y _ => 1 - (intOf y).toNat)
  case atStart => exact ⟨0, none, 0, 0, Nat.zero_le _, rfl, hb, hX, hA, hD0, hO0, World.ownsRow_nil _ _ _ _⟩
  case round =>
    clear hb hX hA hD0 hO0
    obtain ⟨k, va, vn, vc, hk, rfl, hb, hX, hA, hD, hO, hR⟩ := hrel
    by_cases hlt : k < 1
    · obtain rfl : k = 0 := by omega
      have hRB : ∀ q, (Value.slice va vn vc).ownBlock = some q → gA + 1 ≤ q ∧ q < wr.heap.size := fun q e => hR.lt q e
      have HRL := Lib.hid hR
      have hgAM : gA < wr.heap.size := hA.lt
      have hM := Own.new wr 56 #[.int .u8 0, .int .u8 0, .int .u8 0, .int .u8 0, .int .u8 0, .int .u8 0, .int .u8 0, .int .u8 0]
      have hBa := below_alloc1 wr (.cells #[.int .u8 0, .int .u8 0, .int .u8 0, .int .u8 0, .int .u8 0, .int .u8 0, .int .u8 0, .int .u8 0] 56)
      go_upto_region 6 with fail
      generalize wr.alloc (.cells #[.int .u8 0, .int .u8 0, .int .u8 0, .int .u8 0, .int .u8 0, .int .u8 0, .int .u8 0, .int .u8 0] 56) = w5 at *
      obtain ⟨gM, hgM⟩ : ∃ g, wr.heap.size = g := ⟨_, rfl⟩
      have hgM2 : wr.heap.size ≤ gM := by omega
      rw [hgM] at hM hRB
      try rw [hgM]
      clear hgM
      have e0 := hM.cell 0
      have e1 := hM.cell 1
      have e2 := hM.frozen 0
      have e3 := hM.frozen 1
      have hA5 := hA.keep hBa hA.lt
      have cA5 := hA5.cell 1
      go_upto_region 7 with fail
      clear e0 e1 e2 e3 cA5 hA5
      have hM2 : Own ((w5.setCell ⟨gM, 0, none⟩ (.int .u8 1)).setCell ⟨gM, 1, none⟩ (.int .u8 1)) gM 56 #[.int .u8 1, .int .u8 1, .int .u8 0, .int .u8 0, .int .u8 0, .int .u8 0, .int .u8 0, .int .u8 0] := (hM.set 0 (.int .u8 1)).set 1 (.int .u8 1)
      have hB0 := (hBa.setCell (p := ⟨gM, 0, none⟩) hgM2 (.int .u8 1)).setCell (p := ⟨gM, 1, none⟩) hgM2 (.int .u8 1)
      generalize (w5.setCell ⟨gM, 0, none⟩ (.int .u8 1)).setCell ⟨gM, 1, none⟩ (.int .u8 1) = w6 at *
      clear hM hBa
      have hX := hX.keep hB0 hX.lt
      have hA := hA.keep hB0 hA.lt
      have hD := hD.keep hB0 hD.lt
      have hO := hO.keep hB0 hO.lt
      have HRL := Lib.hid (row_keepH HRL.out hB0)
      replace hb := below_trans' hb hB0 hb.size
      clear hB0 hR
      replace hX : Own w6.drew gX 25 #[.slice none 0 0, .slice none 0 0] := hX
      replace hA : Own w6.drew gA 25 #[.slice (some ⟨gD, 0, none⟩) 3 3, .slice (some ⟨gI, 0, none⟩) 3 3] := hA
      replace hD : Own w6.drew gD 2 (((List.replicate 3 (1 : Int)).map (Value.int .i64)).toArray) := hD
      replace hO : Own w6.drew gI 47 #[.slice none 0 0, .slice none 0 0, .slice va vn vc] := hO
      have hM : Own w6.drew gM 56 #[.int .u8 1, .int .u8 1, .int .u8 0, .int .u8 0, .int .u8 0, .int .u8 0, .int .u8 0, .int .u8 0] := hM2
      have hdr : Below w6.heap.size w6 w6.drew := (Below.refl _ _).drew
      replace HRL := Lib.hid (row_keepH HRL.out hdr)
      clear hdr hM2
      replace hb : Below w.heap.size w w6.drew := hb.drew
      refine wp_region_held_drew (S := (fun w' => w'.cell? ⟨gA, 1, none⟩ = some (.slice (some ⟨gI, 0, none⟩) 3 3) ∧ w'.cell? ⟨gM, 0, none⟩ = some (.int .u8 1) ∧ w'.cell? ⟨gM, 1, none⟩ = some (.int .u8 1) ∧ w'.cell? ⟨gM, 2, none⟩ = some (.int .u8 0) ∧ w'.cell? ⟨gM, 3, none⟩ = some (.int .u8 0) ∧ w'.cell? ⟨gM, 4, none⟩ = some (.int .u8 0) ∧ w'.cell? ⟨gM, 5, none⟩ = some (.int .u8 0) ∧ w'.cell? ⟨gM, 6, none⟩ = some (.int .u8 0) ∧ w'.cell? ⟨gM, 7, none⟩ = some (.int .u8 0))) (by kernel_rfl) ?_ (fun hHeld0 => ?_)
      · ((try dsimp only); (exact ⟨hA.cell 1, hM.cell 0, hM.cell 1, hM.cell 2, hM.cell 3, hM.cell 4, hM.cell 5, hM.cell 6, hM.cell 7⟩))
      generalize w6.drew = W0 at *
      have hBB := Below.refl W0.heap.size W0
      have hA0 : gA < W0.heap.size := hA.lt
      (refine hdTake (i := 0) (v := ?_) rfl (by kernel_rfl) (by kernel_rfl) (by kernel_rfl) (fun _ _ _ h => h) (by rfl) ?_ (by assumption) ?_; rotate_left; (intro w hSw; (try dsimp only at hSw); go_simp; (try with_reducible rfl)); (try simp only [Act.put, List.setIfInBounds_toArray, List.set_cons_zero, List.set_cons_succ]))
      (refine hdTake (i := 1) (v := ?_) rfl (by kernel_rfl) (by kernel_rfl) (by kernel_rfl) (fun _ _ _ h => h) (by rfl) ?_ (by assumption) ?_; rotate_left; (intro w hSw; (try dsimp only at hSw); go_simp; (try with_reducible rfl)); (try simp only [Act.put, List.setIfInBounds_toArray, List.set_cons_zero, List.set_cons_succ]))
      (refine hdTake (i := 2) (v := ?_) rfl (by kernel_rfl) (by kernel_rfl) (by kernel_rfl) (fun _ _ _ h => h) (by rfl) ?_ (by assumption) ?_; rotate_left; (intro w hSw; (try dsimp only at hSw); go_simp; (try with_reducible rfl)); (try simp only [Act.put, List.setIfInBounds_toArray, List.set_cons_zero, List.set_cons_succ]))
      (refine hdTake (i := 3) (v := ?_) rfl (by kernel_rfl) (by kernel_rfl) (by kernel_rfl) (fun _ _ _ h => h) (by rfl) ?_ (by assumption) ?_; rotate_left; (intro w hSw; (try dsimp only at hSw); go_simp; (try with_reducible rfl)); (try simp only [Act.put, List.setIfInBounds_toArray, List.set_cons_zero, List.set_cons_succ]))
      (refine hdTake (i := 4) (v := ?_) rfl (by kernel_rfl) (by kernel_rfl) (by kernel_rfl) (fun _ _ _ h => h) (by rfl) ?_ (by assumption) ?_; rotate_left; (intro w hSw; (try dsimp only at hSw); go_simp; (try with_reducible rfl)); (try simp only [Act.put, List.setIfInBounds_toArray, List.set_cons_zero, List.set_cons_succ]))
      (refine hdTake (i := 5) (v := ?_) rfl (by kernel_rfl) (by kernel_rfl) (by kernel_rfl) (fun _ _ _ h => h) (by rfl) ?_ (by assumption) ?_; rotate_left; (intro w hSw; (try dsimp only at hSw); go_simp; (try with_reducible rfl)); (try simp only [Act.put, List.setIfInBounds_toArray, List.set_cons_zero, List.set_cons_succ]))
      (refine hdTake (i := 6) (v := ?_) rfl (by kernel_rfl) (by kernel_rfl) (by kernel_rfl) (fun _ _ _ h => h) (by rfl) ?_ (by assumption) ?_; rotate_left; (intro w hSw; (try dsimp only at hSw); go_simp; (try with_reducible rfl)); (try simp only [Act.put, List.setIfInBounds_toArray, List.set_cons_zero, List.set_cons_succ]))
      (refine hdTake (i := 7) (v := ?_) rfl (by kernel_rfl) (by kernel_rfl) (by kernel_rfl) (fun _ _ _ h => h) (by rfl) ?_ (by assumption) ?_; rotate_left; (intro w hSw; (try dsimp only at hSw); go_simp; (try with_reducible rfl)); (try simp only [Act.put, List.setIfInBounds_toArray, List.set_cons_zero, List.set_cons_succ]))
      (refine hdTake (i := 11) (v := ?_) rfl (by kernel_rfl) (by kernel_rfl) (by kernel_rfl) (fun _ _ _ h => h) (by rfl) ?_ (by assumption) ?_; rotate_left; (intro w hSw; (try dsimp only at hSw); go_simp; (try with_reducible rfl)); (try simp only [Act.put, List.setIfInBounds_toArray, List.set_cons_zero, List.set_cons_succ]))
      (refine hdTake (i := 12) (v := ?_) rfl (by kernel_rfl) (by kernel_rfl) (by kernel_rfl) (fun _ _ _ h => h) (by rfl) ?_ (by assumption) ?_; rotate_left; (intro w hSw; (try dsimp only at hSw); go_simp; (try with_reducible rfl)); (try simp only [Act.put, List.setIfInBounds_toArray, List.set_cons_zero, List.set_cons_succ]))
      refine wpAnyH_ready (rs := [8, 13]) (by kernel_rfl) (by simp) ?_
      refine AllReadyH.cons (hdAt (i := 8) rfl) (fun K hK => ?_) (AllReadyH.cons (hdAt (i := 13) rfl) (fun K hK => ?_) AllReadyH.nil)
      · (go_simp; try go_wp2_with fail)
        refine hK.out _ _ ?_ (fun hHeld1 => ?_)
        · ((try dsimp only); (exact ⟨(hA.keep hBB hA.lt).cell 1, (hM.keep hBB hM.lt).cell 0, (hM.keep hBB hM.lt).cell 1, (hM.keep hBB hM.lt).cell 2, (hM.keep hBB hM.lt).cell 3, (hM.keep hBB hM.lt).cell 4, (hM.keep hBB hM.lt).cell 5, (hM.keep hBB hM.lt).cell 6, (hM.keep hBB hM.lt).cell 7⟩))
        clear hK K
        (try simp only [Act.put, List.setIfInBounds_toArray, List.set_cons_zero, List.set_cons_succ])
        (refine hdTake (i := 9) (v := ?_) rfl (by kernel_rfl) (by kernel_rfl) (by kernel_rfl) (fun _ _ _ h => h) (by rfl) ?_ (by assumption) ?_; rotate_left; (intro w hSw; (try dsimp only at hSw); go_simp; (try with_reducible rfl)); (try simp only [Act.put, List.setIfInBounds_toArray, List.set_cons_zero, List.set_cons_succ]))
        refine wpAnyH_ready (rs := [10, 13]) (by kernel_rfl) (by simp) ?_
        refine AllReadyH.cons (hdAt (i := 10) rfl) (fun K hK => ?_) (AllReadyH.cons (hdAt (i := 13) rfl) (fun K hK => ?_) AllReadyH.nil)
        · have cO := (hO.keep hBB hO.lt).cell 2
          (go_simp; go_wp2_with fail)
          clear cO
          refine hK.out _ _ ?_ (fun hHeld2 => ?_)
          · ((try dsimp only); (exact ⟨(hA.keep hBB hA.lt).cell 1, (hM.keep hBB hM.lt).cell 0, (hM.keep hBB hM.lt).cell 1, (hM.keep hBB hM.lt).cell 2, (hM.keep hBB hM.lt).cell 3, (hM.keep hBB hM.lt).cell 4, (hM.keep hBB hM.lt).cell 5, (hM.keep hBB hM.lt).cell 6, (hM.keep hBB hM.lt).cell 7⟩))
          clear hK K
          (try simp only [Act.put, List.setIfInBounds_toArray, List.set_cons_zero, List.set_cons_succ])
          refine hdCall (i := 13) (by kernel_rfl) rfl (fun K hK => ?_)
          (go_simp; try go_wp2_with fail)
          have HN : Hid (∀ j u, ([.int .u8 1, .int .u8 1, .int .u8 0, .int .u8 0, .int .u8 0, .int .u8 0, .int .u8 0, .int .u8 0, .int .i64 1] : List Value)[j]? = some u → (W0.alloc (.cells #[.int .u8 1, .int .u8 1, .int .u8 0, .int .u8 0, .int .u8 0, .int .u8 0, .int .u8 0, .int .u8 0, .int .i64 1] 75)).cell? ((⟨W0.heap.size, 0, none⟩ : Addr).add j) = some u) := Lib.hid (fun j u hu => by
            rw [Addr.add_mid]
            exact (Own.new W0 75 #[.int .u8 1, .int .u8 1, .int .u8 0, .int .u8 0, .int .u8 0, .int .u8 0, .int .u8 0, .int .u8 0, .int .i64 1]).range j u hu)
          have HOn : Hid (∀ u ∈ ([.int .u8 1, .int .u8 1, .int .u8 0, .int .u8 0, .int .u8 0, .int .u8 0, .int .u8 0, .int .u8 0, .int .i64 1] : List Value), u.oneCell' = true) := Lib.hid (by simp [Value.oneCell'])
          replace hBB := below_alloc1 W0 (.cells #[.int .u8 1, .int .u8 1, .int .u8 0, .int .u8 0, .int .u8 0, .int .u8 0, .int .u8 0, .int .u8 0, .int .i64 1] 75)
          refine hK.out _ _ ?_ (fun hHeld3 => ?_)
          · ((try dsimp only); (exact ⟨(hA.keep hBB hA.lt).cell 1, (hM.keep hBB hM.lt).cell 0, (hM.keep hBB hM.lt).cell 1, (hM.keep hBB hM.lt).cell 2, (hM.keep hBB hM.lt).cell 3, (hM.keep hBB hM.lt).cell 4, (hM.keep hBB hM.lt).cell 5, (hM.keep hBB hM.lt).cell 6, (hM.keep hBB hM.lt).cell 7⟩))
          clear hK K
          (try simp only [Act.put, List.setIfInBounds_toArray, List.set_cons_zero, List.set_cons_succ])
          refine hdCall (i := 14) (by kernel_rfl) rfl (fun K hK => ?_)
          rw [if_pos (by rfl)]
          have hOa := row_keepH HRL.out hBB
          refine wp_append_own_wide _ (.tmp 31) (.tmp 34) 45 rfl (gA + 1) 75 ti tz 9 16 Try.underlying45 HI.out HZ.out HS.out HBt.out HZs.out (by omega) (.slice va vn vc) _ _ rfl hOa ⟨W0.heap.size, 0, none⟩ 1 1 [.int .u8 1, .int .u8 1, .int .u8 0, .int .u8 0, .int .u8 0, .int .u8 0, .int .u8 0, .int .u8 0, .int .i64 1] rfl rfl HN.out HOn.out (by simp only [maxLen]; omega) (by omega) (by have := hBB.size; omega) (fun v' w' h2 h3 h4 => ?_)
          obtain ⟨gg, vk, cp, rfl⟩ : ∃ gg vk cp, v' = .slice gg vk cp := by
            rcases h2.2 with ⟨h0, _⟩ | ⟨g, cap, cur, hv, _⟩
            · exact ⟨_, _, _, h0⟩
            · exact ⟨_, _, _, hv⟩
          have hb0 := below_trans' hb hBB hb.size
          replace hb := grown_below hb0 h3 (fun q e => by have := (hRB q e).1; omega) hb0.size
          replace hX := (hX.keep hBB hX.lt).grown h3 (fun e => by have := hRB _ e.symm; omega)
          replace hA := (hA.keep hBB hA.lt).grown h3 (fun e => by have := hRB _ e.symm; omega)
          replace hD := (hD.keep hBB hD.lt).grown h3 (fun e => by have := hRB _ e.symm; omega)
          replace hO := (hO.keep hBB hO.lt).grown h3 (fun e => by have := hRB _ e.symm; omega)
          replace hM := (hM.keep hBB hM.lt).grown h3 (fun e => by have := hRB _ e.symm; omega)
          have H2 := Lib.hid h2
          clear h2 h3 h4 hOa hb0 hBB HN HOn HRL
          refine hK.out _ _ ?_ (fun hHeld4 => ?_)
          · ((try dsimp only); (exact ⟨hA.cell 1, hM.cell 0, hM.cell 1, hM.cell 2, hM.cell 3, hM.cell 4, hM.cell 5, hM.cell 6, hM.cell 7⟩))
          clear hK K
          (try simp only [Act.put, List.setIfInBounds_toArray, List.set_cons_zero, List.set_cons_succ])
          refine hdCall (i := 15) (by kernel_rfl) rfl (fun K hK => ?_)
          (go_simp; try go_wp2_with fail)
          refine hK.out _ _ ?_ (fun hHeld5 => ?_)
          · ((try dsimp only); (exact ⟨hA.cell 1, hM.cell 0, hM.cell 1, hM.cell 2, hM.cell 3, hM.cell 4, hM.cell 5, hM.cell 6, hM.cell 7⟩))
          clear hK K
          (try simp only [Act.put, List.setIfInBounds_toArray, List.set_cons_zero, List.set_cons_succ])
          (refine hdTake (i := 16) (v := ?_) rfl (by kernel_rfl) (by kernel_rfl) (by kernel_rfl) (fun _ _ _ h => h) (by rfl) ?_ (by assumption) ?_; rotate_left; (intro w hSw; (try dsimp only at hSw); go_simp; (try with_reducible rfl)); (try simp only [Act.put, List.setIfInBounds_toArray, List.set_cons_zero, List.set_cons_succ]))
          refine hdCall (i := 17) (by kernel_rfl) rfl (fun K hK => ?_)
          have cO := hO.cell 2
          have fO := hO.frozen 2
          (go_simp; go_wp2_with fail)
          clear cO fO
          replace hX := hX.far (p := ⟨gI, 2, none⟩) (by dsimp only; omega) (.slice gg vk cp)
          replace hA := hA.far (p := ⟨gI, 2, none⟩) (by dsimp only; omega) (.slice gg vk cp)
          replace hD := hD.far (p := ⟨gI, 2, none⟩) (by dsimp only; omega) (.slice gg vk cp)
          replace hM := hM.far (p := ⟨gI, 2, none⟩) (by dsimp only; omega) (.slice gg vk cp)
          have hO9 : Own (w'.setCell ⟨gI, 2, none⟩ (.slice gg vk cp)) gI 47 #[.slice none 0 0, .slice none 0 0, .slice gg vk cp] := hO.set 2 (.slice gg vk cp)
          replace hb := hb.setCell (p := ⟨gI, 2, none⟩) (by dsimp only; omega) (.slice gg vk cp)
          have H9 := Lib.hid (ownsRow_setCell_below H2.out (a := ⟨gI, 2, none⟩) (by dsimp only; omega) (.slice gg vk cp))
          refine hK.out _ _ ?_ (fun hHeld6 => ?_)
          · ((try dsimp only); (exact ⟨hA.cell 1, hM.cell 0, hM.cell 1, hM.cell 2, hM.cell 3, hM.cell 4, hM.cell 5, hM.cell 6, hM.cell 7⟩))
          clear hK K
          (try simp only [Act.put, List.setIfInBounds_toArray, List.set_cons_zero, List.set_cons_succ])
          refine wpAnyH_done (by kernel_rfl) ?_ _
          go_wp2_with fail
          go_roundw
          case rel => exact ⟨1, gg, vk, cp, by omega, by go_num, hb, hX, hA, hD, hO9, H9.out⟩
          case measure => simp [intOf] <;> omega
        · (go_simp; try go_wp2_with fail)
          have HN : Hid (∀ j u, ([.int .u8 1, .int .u8 1, .int .u8 0, .int .u8 0, .int .u8 0, .int .u8 0, .int .u8 0, .int .u8 0, .int .i64 1] : List Value)[j]? = some u → (W0.alloc (.cells #[.int .u8 1, .int .u8 1, .int .u8 0, .int .u8 0, .int .u8 0, .int .u8 0, .int .u8 0, .int .u8 0, .int .i64 1] 75)).cell? ((⟨W0.heap.size, 0, none⟩ : Addr).add j) = some u) := Lib.hid (fun j u hu => by
            rw [Addr.add_mid]
            exact (Own.new W0 75 #[.int .u8 1, .int .u8 1, .int .u8 0, .int .u8 0, .int .u8 0, .int .u8 0, .int .u8 0, .int .u8 0, .int .i64 1]).range j u hu)
          have HOn : Hid (∀ u ∈ ([.int .u8 1, .int .u8 1, .int .u8 0, .int .u8 0, .int .u8 0, .int .u8 0, .int .u8 0, .int .u8 0, .int .i64 1] : List Value), u.oneCell' = true) := Lib.hid (by simp [Value.oneCell'])
          replace hBB := below_alloc1 W0 (.cells #[.int .u8 1, .int .u8 1, .int .u8 0, .int .u8 0, .int .u8 0, .int .u8 0, .int .u8 0, .int .u8 0, .int .i64 1] 75)
          refine hK.out _ _ ?_ (fun hHeld3 => ?_)
          · ((try dsimp only); (exact ⟨(hA.keep hBB hA.lt).cell 1, (hM.keep hBB hM.lt).cell 0, (hM.keep hBB hM.lt).cell 1, (hM.keep hBB hM.lt).cell 2, (hM.keep hBB hM.lt).cell 3, (hM.keep hBB hM.lt).cell 4, (hM.keep hBB hM.lt).cell 5, (hM.keep hBB hM.lt).cell 6, (hM.keep hBB hM.lt).cell 7⟩))
          clear hK K
          (try simp only [Act.put, List.setIfInBounds_toArray, List.set_cons_zero, List.set_cons_succ])
          refine hdCall (i := 10) (by kernel_rfl) rfl (fun K hK => ?_)
          have cO := (hO.keep hBB hO.lt).cell 2
          (go_simp; go_wp2_with fail)
          clear cO
          refine hK.out _ _ ?_ (fun hHeld2 => ?_)
          · ((try dsimp only); (exact ⟨(hA.keep hBB hA.lt).cell 1, (hM.keep hBB hM.lt).cell 0, (hM.keep hBB hM.lt).cell 1, (hM.keep hBB hM.lt).cell 2, (hM.keep hBB hM.lt).cell 3, (hM.keep hBB hM.lt).cell 4, (hM.keep hBB hM.lt).cell 5, (hM.keep hBB hM.lt).cell 6, (hM.keep hBB hM.lt).cell 7⟩))
          clear hK K
          (try simp only [Act.put, List.setIfInBounds_toArray, List.set_cons_zero, List.set_cons_succ])
          refine hdCall (i := 14) (by kernel_rfl) rfl (fun K hK => ?_)
          rw [if_pos (by rfl)]
          have hOa := row_keepH HRL.out hBB
          refine wp_append_own_wide _ (.tmp 31) (.tmp 34) 45 rfl (gA + 1) 75 ti tz 9 16 Try.underlying45 HI.out HZ.out HS.out HBt.out HZs.out (by omega) (.slice va vn vc) _ _ rfl hOa ⟨W0.heap.size, 0, none⟩ 1 1 [.int .u8 1, .int .u8 1, .int .u8 0, .int .u8 0, .int .u8 0, .int .u8 0, .int .u8 0, .int .u8 0, .int .i64 1] rfl rfl HN.out HOn.out (by simp only [maxLen]; omega) (by omega) (by have := hBB.size; omega) (fun v' w' h2 h3 h4 => ?_)
          obtain ⟨gg, vk, cp, rfl⟩ : ∃ gg vk cp, v' = .slice gg vk cp := by
            rcases h2.2 with ⟨h0, _⟩ | ⟨g, cap, cur, hv, _⟩
            · exact ⟨_, _, _, h0⟩
            · exact ⟨_, _, _, hv⟩
          have hb0 := below_trans' hb hBB hb.size
          replace hb := grown_below hb0 h3 (fun q e => by have := (hRB q e).1; omega) hb0.size
          replace hX := (hX.keep hBB hX.lt).grown h3 (fun e => by have := hRB _ e.symm; omega)
          replace hA := (hA.keep hBB hA.lt).grown h3 (fun e => by have := hRB _ e.symm; omega)
          replace hD := (hD.keep hBB hD.lt).grown h3 (fun e => by have := hRB _ e.symm; omega)
          replace hO := (hO.keep hBB hO.lt).grown h3 (fun e => by have := hRB _ e.symm; omega)
          replace hM := (hM.keep hBB hM.lt).grown h3 (fun e => by have := hRB _ e.symm; omega)
          have H2 := Lib.hid h2
          clear h2 h3 h4 hOa hb0 hBB HN HOn HRL
          refine hK.out _ _ ?_ (fun hHeld4 => ?_)
          · ((try dsimp only); (exact ⟨hA.cell 1, hM.cell 0, hM.cell 1, hM.cell 2, hM.cell 3, hM.cell 4, hM.cell 5, hM.cell 6, hM.cell 7⟩))
          clear hK K
          (try simp only [Act.put, List.setIfInBounds_toArray, List.set_cons_zero, List.set_cons_succ])
          refine hdCall (i := 15) (by kernel_rfl) rfl (fun K hK => ?_)
          (go_simp; try go_wp2_with fail)
          refine hK.out _ _ ?_ (fun hHeld5 => ?_)
          · ((try dsimp only); (exact ⟨hA.cell 1, hM.cell 0, hM.cell 1, hM.cell 2, hM.cell 3, hM.cell 4, hM.cell 5, hM.cell 6, hM.cell 7⟩))
          clear hK K
          (try simp only [Act.put, List.setIfInBounds_toArray, List.set_cons_zero, List.set_cons_succ])
          (refine hdTake (i := 16) (v := ?_) rfl (by kernel_rfl) (by kernel_rfl) (by kernel_rfl) (fun _ _ _ h => h) (by rfl) ?_ (by assumption) ?_; rotate_left; (intro w hSw; (try dsimp only at hSw); go_simp; (try with_reducible rfl)); (try simp only [Act.put, List.setIfInBounds_toArray, List.set_cons_zero, List.set_cons_succ]))
          refine hdCall (i := 17) (by kernel_rfl) rfl (fun K hK => ?_)
          have cO := hO.cell 2
          have fO := hO.frozen 2
          (go_simp; go_wp2_with fail)
          clear cO fO
          replace hX := hX.far (p := ⟨gI, 2, none⟩) (by dsimp only; omega) (.slice gg vk cp)
          replace hA := hA.far (p := ⟨gI, 2, none⟩) (by dsimp only; omega) (.slice gg vk cp)
          replace hD := hD.far (p := ⟨gI, 2, none⟩) (by dsimp only; omega) (.slice gg vk cp)
          replace hM := hM.far (p := ⟨gI, 2, none⟩) (by dsimp only; omega) (.slice gg vk cp)
          have hO9 : Own (w'.setCell ⟨gI, 2, none⟩ (.slice gg vk cp)) gI 47 #[.slice none 0 0, .slice none 0 0, .slice gg vk cp] := hO.set 2 (.slice gg vk cp)
          replace hb := hb.setCell (p := ⟨gI, 2, none⟩) (by dsimp only; omega) (.slice gg vk cp)
          have H9 := Lib.hid (ownsRow_setCell_below H2.out (a := ⟨gI, 2, none⟩) (by dsimp only; omega) (.slice gg vk cp))
          refine hK.out _ _ ?_ (fun hHeld6 => ?_)
          · ((try dsimp only); (exact ⟨hA.cell 1, hM.cell 0, hM.cell 1, hM.cell 2, hM.cell 3, hM.cell 4, hM.cell 5, hM.cell 6, hM.cell 7⟩))
          clear hK K
          (try simp only [Act.put, List.setIfInBounds_toArray, List.set_cons_zero, List.set_cons_succ])
          refine wpAnyH_done (by kernel_rfl) ?_ _
          go_wp2_with fail
          go_roundw
          case rel => exact ⟨1, gg, vk, cp, by omega, by go_num, hb, hX, hA, hD, hO9, H9.out⟩
          case measure => simp [intOf] <;> omega
      · (go_simp; try go_wp2_with fail)
        have HN : Hid (∀ j u, ([.int .u8 1, .int .u8 1, .int .u8 0, .int .u8 0, .int .u8 0, .int .u8 0, .int .u8 0, .int .u8 0, .int .i64 1] : List Value)[j]? = some u → (W0.alloc (.cells #[.int .u8 1, .int .u8 1, .int .u8 0, .int .u8 0, .int .u8 0, .int .u8 0, .int .u8 0, .int .u8 0, .int .i64 1] 75)).cell? ((⟨W0.heap.size, 0, none⟩ : Addr).add j) = some u) := Lib.hid (fun j u hu => by
          rw [Addr.add_mid]
          exact (Own.new W0 75 #[.int .u8 1, .int .u8 1, .int .u8 0, .int .u8 0, .int .u8 0, .int .u8 0, .int .u8 0, .int .u8 0, .int .i64 1]).range j u hu)
        have HOn : Hid (∀ u ∈ ([.int .u8 1, .int .u8 1, .int .u8 0, .int .u8 0, .int .u8 0, .int .u8 0, .int .u8 0, .int .u8 0, .int .i64 1] : List Value), u.oneCell' = true) := Lib.hid (by simp [Value.oneCell'])
        replace hBB := below_alloc1 W0 (.cells #[.int .u8 1, .int .u8 1, .int .u8 0, .int .u8 0, .int .u8 0, .int .u8 0, .int .u8 0, .int .u8 0, .int .i64 1] 75)
        refine hK.out _ _ ?_ (fun hHeld3 => ?_)
        · ((try dsimp only); (exact ⟨(hA.keep hBB hA.lt).cell 1, (hM.keep hBB hM.lt).cell 0, (hM.keep hBB hM.lt).cell 1, (hM.keep hBB hM.lt).cell 2, (hM.keep hBB hM.lt).cell 3, (hM.keep hBB hM.lt).cell 4, (hM.keep hBB hM.lt).cell 5, (hM.keep hBB hM.lt).cell 6, (hM.keep hBB hM.lt).cell 7⟩))
        clear hK K
        (try simp only [Act.put, List.setIfInBounds_toArray, List.set_cons_zero, List.set_cons_succ])
        refine hdCall (i := 8) (by kernel_rfl) rfl (fun K hK => ?_)
        (go_simp; try go_wp2_with fail)
        refine hK.out _ _ ?_ (fun hHeld1 => ?_)
        · ((try dsimp only); (exact ⟨(hA.keep hBB hA.lt).cell 1, (hM.keep hBB hM.lt).cell 0, (hM.keep hBB hM.lt).cell 1, (hM.keep hBB hM.lt).cell 2, (hM.keep hBB hM.lt).cell 3, (hM.keep hBB hM.lt).cell 4, (hM.keep hBB hM.lt).cell 5, (hM.keep hBB hM.lt).cell 6, (hM.keep hBB hM.lt).cell 7⟩))
        clear hK K
        (try simp only [Act.put, List.setIfInBounds_toArray, List.set_cons_zero, List.set_cons_succ])
        (refine hdTake (i := 9) (v := ?_) rfl (by kernel_rfl) (by kernel_rfl) (by kernel_rfl) (fun _ _ _ h => h) (by rfl) ?_ (by assumption) ?_; rotate_left; (intro w hSw; (try dsimp only at hSw); go_simp; (try with_reducible rfl)); (try simp only [Act.put, List.setIfInBounds_toArray, List.set_cons_zero, List.set_cons_succ]))
        refine hdCall (i := 10) (by kernel_rfl) rfl (fun K hK => ?_)
        have cO := (hO.keep hBB hO.lt).cell 2
        (go_simp; go_wp2_with fail)
        clear cO
        refine hK.out _ _ ?_ (fun hHeld2 => ?_)
        · ((try dsimp only); (exact ⟨(hA.keep hBB hA.lt).cell 1, (hM.keep hBB hM.lt).cell 0, (hM.keep hBB hM.lt).cell 1, (hM.keep hBB hM.lt).cell 2, (hM.keep hBB hM.lt).cell 3, (hM.keep hBB hM.lt).cell 4, (hM.keep hBB hM.lt).cell 5, (hM.keep hBB hM.lt).cell 6, (hM.keep hBB hM.lt).cell 7⟩))
        clear hK K
        (try simp only [Act.put, List.setIfInBounds_toArray, List.set_cons_zero, List.set_cons_succ])
        refine hdCall (i := 14) (by kernel_rfl) rfl (fun K hK => ?_)
        rw [if_pos (by rfl)]
        have hOa := row_keepH HRL.out hBB
        refine wp_append_own_wide _ (.tmp 31) (.tmp 34) 45 rfl (gA + 1) 75 ti tz 9 16 Try.underlying45 HI.out HZ.out HS.out HBt.out HZs.out (by omega) (.slice va vn vc) _ _ rfl hOa ⟨W0.heap.size, 0, none⟩ 1 1 [.int .u8 1, .int .u8 1, .int .u8 0, .int .u8 0, .int .u8 0, .int .u8 0, .int .u8 0, .int .u8 0, .int .i64 1] rfl rfl HN.out HOn.out (by simp only [maxLen]; omega) (by omega) (by have := hBB.size; omega) (fun v' w' h2 h3 h4 => ?_)
        obtain ⟨gg, vk, cp, rfl⟩ : ∃ gg vk cp, v' = .slice gg vk cp := by
          rcases h2.2 with ⟨h0, _⟩ | ⟨g, cap, cur, hv, _⟩
          · exact ⟨_, _, _, h0⟩
          · exact ⟨_, _, _, hv⟩
        have hb0 := below_trans' hb hBB hb.size
        replace hb := grown_below hb0 h3 (fun q e => by have := (hRB q e).1; omega) hb0.size
        replace hX := (hX.keep hBB hX.lt).grown h3 (fun e => by have := hRB _ e.symm; omega)
        replace hA := (hA.keep hBB hA.lt).grown h3 (fun e => by have := hRB _ e.symm; omega)
        replace hD := (hD.keep hBB hD.lt).grown h3 (fun e => by have := hRB _ e.symm; omega)
        replace hO := (hO.keep hBB hO.lt).grown h3 (fun e => by have := hRB _ e.symm; omega)
        replace hM := (hM.keep hBB hM.lt).grown h3 (fun e => by have := hRB _ e.symm; omega)
        have H2 := Lib.hid h2
        clear h2 h3 h4 hOa hb0 hBB HN HOn HRL
        refine hK.out _ _ ?_ (fun hHeld4 => ?_)
        · ((try dsimp only); (exact ⟨hA.cell 1, hM.cell 0, hM.cell 1, hM.cell 2, hM.cell 3, hM.cell 4, hM.cell 5, hM.cell 6, hM.cell 7⟩))
        clear hK K
        (try simp only [Act.put, List.setIfInBounds_toArray, List.set_cons_zero, List.set_cons_succ])
        refine hdCall (i := 15) (by kernel_rfl) rfl (fun K hK => ?_)
        (go_simp; try go_wp2_with fail)
        refine hK.out _ _ ?_ (fun hHeld5 => ?_)
        · ((try dsimp only); (exact ⟨hA.cell 1, hM.cell 0, hM.cell 1, hM.cell 2, hM.cell 3, hM.cell 4, hM.cell 5, hM.cell 6, hM.cell 7⟩))
        clear hK K
        (try simp only [Act.put, List.setIfInBounds_toArray, List.set_cons_zero, List.set_cons_succ])
        (refine hdTake (i := 16) (v := ?_) rfl (by kernel_rfl) (by kernel_rfl) (by kernel_rfl) (fun _ _ _ h => h) (by rfl) ?_ (by assumption) ?_; rotate_left; (intro w hSw; (try dsimp only at hSw); go_simp; (try with_reducible rfl)); (try simp only [Act.put, List.setIfInBounds_toArray, List.set_cons_zero, List.set_cons_succ]))
        refine hdCall (i := 17) (by kernel_rfl) rfl (fun K hK => ?_)
        have cO := hO.cell 2
        have fO := hO.frozen 2
        (go_simp; go_wp2_with fail)
        clear cO fO
        replace hX := hX.far (p := ⟨gI, 2, none⟩) (by dsimp only; omega) (.slice gg vk cp)
        replace hA := hA.far (p := ⟨gI, 2, none⟩) (by dsimp only; omega) (.slice gg vk cp)
        replace hD := hD.far (p := ⟨gI, 2, none⟩) (by dsimp only; omega) (.slice gg vk cp)
        replace hM := hM.far (p := ⟨gI, 2, none⟩) (by dsimp only; omega) (.slice gg vk cp)
        have hO9 : Own (w'.setCell ⟨gI, 2, none⟩ (.slice gg vk cp)) gI 47 #[.slice none 0 0, .slice none 0 0, .slice gg vk cp] := hO.set 2 (.slice gg vk cp)
        replace hb := hb.setCell (p := ⟨gI, 2, none⟩) (by dsimp only; omega) (.slice gg vk cp)
        have H9 := Lib.hid (ownsRow_setCell_below H2.out (a := ⟨gI, 2, none⟩) (by dsimp only; omega) (.slice gg vk cp))
        refine hK.out _ _ ?_ (fun hHeld6 => ?_)
        · ((try dsimp only); (exact ⟨hA.cell 1, hM.cell 0, hM.cell 1, hM.cell 2, hM.cell 3, hM.cell 4, hM.cell 5, hM.cell 6, hM.cell 7⟩))
        clear hK K
        (try simp only [Act.put, List.setIfInBounds_toArray, List.set_cons_zero, List.set_cons_succ])
        refine wpAnyH_done (by kernel_rfl) ?_ _
        go_wp2_with fail
        go_roundw
        case rel => exact ⟨1, gg, vk, cp, by omega, by go_num, hb, hX, hA, hD, hO9, H9.out⟩
        case measure => simp [intOf] <;> omega
    · obtain rfl : k = 1 := by omega
      have cA0 := hA.cell 0
      have cA1 := hA.cell 1
      have c0 := hX.cell 0
      have c1 := hX.cell 1
      have f0 := hX.frozen 0
      have f1 := hX.frozen 1
      have hV : OwnV wr gD wr.heap.size (some ⟨gD, 0, none⟩) 3 (List.replicate 3 1) := ownV_blk hD (by simp) (Nat.le_refl _) hD.lt
      have hVl : Vals wr gD (List.replicate 2 (.slice none 0 0)) (List.replicate 2 []) := by
        have := vals_nils (Vals.nil wr gD) (Nat.le_of_lt hD.lt) 2
        simpa using this
      have hVs : Vals wr gD (List.replicate 2 (.slice none 0 0) ++ [.slice va vn vc]) (List.replicate 2 [] ++ [heiT 1]) := hVl.snoc (C := gA + 1) (fun i u q h1 h2 => by
        rw [List.getElem?_replicate] at h1
        split at h1
        · cases h1
          simp [Value.ownBlock] at h2
        · cases h1) (by omega) hR
      have hF := hVs.ownF (n := 3) rfl hO (fun i v hi => by
        have hi2 : i < 3 := by have := (List.getElem?_eq_some_iff.1 hi).1; simpa using this
        rcases (by omega : i = 0 ∨ i = 1 ∨ i = 2) with rfl | rfl | rfl <;> simp_all) (by omega) (fun ts hts t ht => by
        rcases List.mem_append.1 hts with h | h
        · rw [List.eq_of_mem_replicate h] at ht; simp at ht
        · rw [List.mem_singleton.1 h] at ht; exact heiT_tm _ t ht)
      clear hVl hVs hR hD hO
      go_wp2_with fail
      have s2 := (hX.set 0 (.slice (some ⟨gD, 0, none⟩) 3 3)).set 1 (.slice (some ⟨gI, 0, none⟩) 3 3)
      have ht : Touch (fun k => k = gX) wr ((wr.setCell ⟨gX, 0, none⟩ (.slice (some ⟨gD, 0, none⟩) 3 3)).setCell ⟨gX, 1, none⟩ (.slice (some ⟨gI, 0, none⟩) 3 3)) := Touch.of_only (((Only.refl gX _).set 0 _).set 1 _)
      have hV9 := (hV.touch ht (fun g h1 h2 => by omega)).weaken (lo' := w.heap.size) (hi' := ((wr.setCell ⟨gX, 0, none⟩ (.slice (some ⟨gD, 0, none⟩) 3 3)).setCell ⟨gX, 1, none⟩ (.slice (some ⟨gI, 0, none⟩) 3 3)).heap.size) (by omega) (by simp)
      have hF9 := (hF.touch ht (fun g h1 h2 => by omega)).weaken (lo' := w.heap.size) (hi' := ((wr.setCell ⟨gX, 0, none⟩ (.slice (some ⟨gD, 0, none⟩) 3 3)).setCell ⟨gX, 1, none⟩ (.slice (some ⟨gI, 0, none⟩) 3 3)).heap.size) (by omega) (by simp)
      have hb9 := (hb.setCell (p := ⟨gX, 0, none⟩) hwX (.slice (some ⟨gD, 0, none⟩) 3 3)).setCell (p := ⟨gX, 1, none⟩) hwX (.slice (some ⟨gI, 0, none⟩) 3 3)
      exact bodyPost_ret (results_cell_row rfl _ _ gX 25 #[.slice (some ⟨gD, 0, none⟩) 3 3, .slice (some ⟨gI, 0, none⟩) 3 3] (0, 0) _ rfl s2 Try.underlying25 rfl Try.info_alg) rfl ⟨_, _, _, _, _, _, rfl, hV9, hF9, hb9⟩
set_option maxHeartbeats 4000000 in
set_option maxRecDepth 100000 in
theorem heis2_c (w : World) :
    Calls Try.prog 79 #[.int .i64 2] w fun e w' => SpM (List.replicate 5 1) (List.replicate 4 [] ++ [heiT 2]) w e w' := by
  obtain ⟨ti, tz, hti, htz, hts, htb, htzs⟩ := Try.info_termA
  have HI := Lib.hid hti
  have HZ := Lib.hid htz
  have HS := Lib.hid hts
  have HBt := Lib.hid htb
  have HZs := Lib.hid htzs
  clear hti htz hts htb htzs
  have hX := Own.new w 25 #[.slice none 0 0, .slice none 0 0]
  have hb := below_alloc1 w (.cells #[.slice none 0 0, .slice none 0 0] 25)
  go_enter Try.func79, Try.ntmps79
  go_upto_region 1 with fail
  generalize w.alloc (.cells #[.slice none 0 0, .slice none 0 0] 25) = w1 at *
  obtain ⟨gX, hgX⟩ : ∃ g, w.heap.size = g := ⟨_, rfl⟩
  rw [hgX] at hX
  try rw [hgX]
  have hwX : w.heap.size ≤ gX := by omega
  clear hgX
  have hlX := hX.lt
  have hs1 := hb.size
  have hq : Calls Try.prog 78 #[.int .i64 5] w1 fun e w' => SpX ((List.range 5).map oneL) 5 w1 e w' := torus_x 5 w1 (by omega)
  go_wp2_with fail
  refine hq.mono ?_
  rintro e w3 ⟨gD, gI, rfl, hgD, hgI, hD, hO, hb3⟩
  clear hq
  replace hX := hX.keep hb3 hX.lt
  replace hb := below_trans' hb hb3 hb.size
  clear hb3
  have hlI := hO.lt
  have hA := Own.new w3 25 #[.slice (some ⟨gD, 0, none⟩) 5 5, .slice (some ⟨gI, 0, none⟩) 5 5]
  have hba := below_alloc1 w3 (.cells #[.slice (some ⟨gD, 0, none⟩) 5 5, .slice (some ⟨gI, 0, none⟩) 5 5] 25)
  replace hX := hX.keep hba hX.lt
  replace hD := hD.keep hba hD.lt
  replace hO := hO.keep hba hO.lt
  replace hb := below_trans' hb hba hb.size
  clear hba
  go_upto_region 2 with fail
  generalize w3.alloc (.cells #[.slice (some ⟨gD, 0, none⟩) 5 5, .slice (some ⟨gI, 0, none⟩) 5 5] 25) = w4 at *
  obtain ⟨gA, hgA⟩ : ∃ g, w3.heap.size = g := ⟨_, rfl⟩
  rw [hgA] at hA hlI
  try rw [hgA]
  clear hgA
  have hD0 : Own w4 gD 2 (((List.replicate 5 (1 : Int)).map (Value.int .i64)).toArray) := hD
  have hO0 : Own w4 gI 47 #[.slice none 0 0, .slice none 0 0, .slice none 0 0, .slice none 0 0, .slice none 0 0] := hO
  clear hD hO
  go_upto_region 3 with fail
  go_loopw [11] (fun y wr => ∃ (k : Nat) (va : Option Addr) (vn vc : Nat), k ≤ 2 ∧ y = .int .i64 k ∧ Below w.heap.size w wr ∧ Own wr gX 25 #[.slice none 0 0, .slice none 0 0] ∧ Own wr gA 25 #[.slice (some ⟨gD, 0, none⟩) 5 5, .slice (some ⟨gI, 0, none⟩) 5 5] ∧ Own wr gD 2 (((List.replicate 5 (1 : Int)).map (Value.int .i64)).toArray) ∧ Own wr gI 47 #[.slice none 0 0, .slice none 0 0, .slice none 0 0, .slice none 0 0, .slice va vn vc] ∧ wr.ownsRow (gA + 1) 75 9 (.slice va vn vc) k (rcells (heiT k))) (fun y _ => 2 - (intOf y).toNat)
  case atStart => exact ⟨0, none, 0, 0, Nat.zero_le _, rfl, hb, hX, hA, hD0, hO0, World.ownsRow_nil _ _ _ _⟩
  case round =>
    clear hb hX hA hD0 hO0
    obtain ⟨k, va, vn, vc, hk, rfl, hb, hX, hA, hD, hO, hR⟩ := hrel
    by_cases hlt : k < 2
    · obtain rfl | rfl : k = 0 ∨ k = 1 := by omega
      · have hRB : ∀ q, (Value.slice va vn vc).ownBlock = some q → gA + 1 ≤ q ∧ q < wr.heap.size := fun q e => hR.lt q e
        have HRL := Lib.hid hR
        have hgAM : gA < wr.heap.size := hA.lt
        have hM := Own.new wr 56 #[.int .u8 0, .int .u8 0, .int .u8 0, .int .u8 0, .int .u8 0, .int .u8 0, .int .u8 0, .int .u8 0]
        have hBa := below_alloc1 wr (.cells #[.int .u8 0, .int .u8 0, .int .u8 0, .int .u8 0, .int .u8 0, .int .u8 0, .int .u8 0, .int .u8 0] 56)
        go_upto_region 6 with fail
        generalize wr.alloc (.cells #[.int .u8 0, .int .u8 0, .int .u8 0, .int .u8 0, .int .u8 0, .int .u8 0, .int .u8 0, .int .u8 0] 56) = w5 at *
        obtain ⟨gM, hgM⟩ : ∃ g, wr.heap.size = g := ⟨_, rfl⟩
        have hgM2 : wr.heap.size ≤ gM := by omega
        rw [hgM] at hM hRB
        try rw [hgM]
        clear hgM
        have e0 := hM.cell 0
        have e1 := hM.cell 1
        have e2 := hM.frozen 0
        have e3 := hM.frozen 1
        have hA5 := hA.keep hBa hA.lt
        have cA5 := hA5.cell 1
        go_upto_region 7 with fail
        clear e0 e1 e2 e3 cA5 hA5
        have hM2 : Own ((w5.setCell ⟨gM, 0, none⟩ (.int .u8 1)).setCell ⟨gM, 1, none⟩ (.int .u8 1)) gM 56 #[.int .u8 1, .int .u8 1, .int .u8 0, .int .u8 0, .int .u8 0, .int .u8 0, .int .u8 0, .int .u8 0] := (hM.set 0 (.int .u8 1)).set 1 (.int .u8 1)
        have hB0 := (hBa.setCell (p := ⟨gM, 0, none⟩) hgM2 (.int .u8 1)).setCell (p := ⟨gM, 1, none⟩) hgM2 (.int .u8 1)
        generalize (w5.setCell ⟨gM, 0, none⟩ (.int .u8 1)).setCell ⟨gM, 1, none⟩ (.int .u8 1) = w6 at *
        clear hM hBa
        have hX := hX.keep hB0 hX.lt
        have hA := hA.keep hB0 hA.lt
        have hD := hD.keep hB0 hD.lt
        have hO := hO.keep hB0 hO.lt
        have HRL := Lib.hid (row_keepH HRL.out hB0)
        replace hb := below_trans' hb hB0 hb.size
        clear hB0 hR
        replace hX : Own w6.drew gX 25 #[.slice none 0 0, .slice none 0 0] := hX
        replace hA : Own w6.drew gA 25 #[.slice (some ⟨gD, 0, none⟩) 5 5, .slice (some ⟨gI, 0, none⟩) 5 5] := hA
        replace hD : Own w6.drew gD 2 (((List.replicate 5 (1 : Int)).map (Value.int .i64)).toArray) := hD
        replace hO : Own w6.drew gI 47 #[.slice none 0 0, .slice none 0 0, .slice none 0 0, .slice none 0 0, .slice va vn vc] := hO
        have hM : Own w6.drew gM 56 #[.int .u8 1, .int .u8 1, .int .u8 0, .int .u8 0, .int .u8 0, .int .u8 0, .int .u8 0, .int .u8 0] := hM2
        have hdr : Below w6.heap.size w6 w6.drew := (Below.refl _ _).drew
        replace HRL := Lib.hid (row_keepH HRL.out hdr)
        clear hdr hM2
        replace hb : Below w.heap.size w w6.drew := hb.drew
        refine wp_region_held_drew (S := (fun w' => w'.cell? ⟨gA, 1, none⟩ = some (.slice (some ⟨gI, 0, none⟩) 5 5) ∧ w'.cell? ⟨gM, 0, none⟩ = some (.int .u8 1) ∧ w'.cell? ⟨gM, 1, none⟩ = some (.int .u8 1) ∧ w'.cell? ⟨gM, 2, none⟩ = some (.int .u8 0) ∧ w'.cell? ⟨gM, 3, none⟩ = some (.int .u8 0) ∧ w'.cell? ⟨gM, 4, none⟩ = some (.int .u8 0) ∧ w'.cell? ⟨gM, 5, none⟩ = some (.int .u8 0) ∧ w'.cell? ⟨gM, 6, none⟩ = some (.int .u8 0) ∧ w'.cell? ⟨gM, 7, none⟩ = some (.int .u8 0))) (by kernel_rfl) ?_ (fun hHeld0 => ?_)
        · ((try dsimp only); (exact ⟨hA.cell 1, hM.cell 0, hM.cell 1, hM.cell 2, hM.cell 3, hM.cell 4, hM.cell 5, hM.cell 6, hM.cell 7⟩))
        generalize w6.drew = W0 at *
        have hBB := Below.refl W0.heap.size W0
        have hA0 : gA < W0.heap.size := hA.lt
        (refine hdTake (i := 0) (v := ?_) rfl (by kernel_rfl) (by kernel_rfl) (by kernel_rfl) (fun _ _ _ h => h) (by rfl) ?_ (by assumption) ?_; rotate_left; (intro w hSw; (try dsimp only at hSw); go_simp; (try with_reducible rfl)); (try simp only [Act.put, List.setIfInBounds_toArray, List.set_cons_zero, List.set_cons_succ]))
        (refine hdTake (i := 1) (v := ?_) rfl (by kernel_rfl) (by kernel_rfl) (by kernel_rfl) (fun _ _ _ h => h) (by rfl) ?_ (by assumption) ?_; rotate_left; (intro w hSw; (try dsimp only at hSw); go_simp; (try with_reducible rfl)); (try simp only [Act.put, List.setIfInBounds_toArray, List.set_cons_zero, List.set_cons_succ]))
        (refine hdTake (i := 2) (v := ?_) rfl (by kernel_rfl) (by kernel_rfl) (by kernel_rfl) (fun _ _ _ h => h) (by rfl) ?_ (by assumption) ?_; rotate_left; (intro w hSw; (try dsimp only at hSw); go_simp; (try with_reducible rfl)); (try simp only [Act.put, List.setIfInBounds_toArray, List.set_cons_zero, List.set_cons_succ]))
        (refine hdTake (i := 3) (v := ?_) rfl (by kernel_rfl) (by kernel_rfl) (by kernel_rfl) (fun _ _ _ h => h) (by rfl) ?_ (by assumption) ?_; rotate_left; (intro w hSw; (try dsimp only at hSw); go_simp; (try with_reducible rfl)); (try simp only [Act.put, List.setIfInBounds_toArray, List.set_cons_zero, List.set_cons_succ]))
        (refine hdTake (i := 4) (v := ?_) rfl (by kernel_rfl) (by kernel_rfl) (by kernel_rfl) (fun _ _ _ h => h) (by rfl) ?_ (by assumption) ?_; rotate_left; (intro w hSw; (try dsimp only at hSw); go_simp; (try with_reducible rfl)); (try simp only [Act.put, List.setIfInBounds_toArray, List.set_cons_zero, List.set_cons_succ]))
        (refine hdTake (i := 5) (v := ?_) rfl (by kernel_rfl) (by kernel_rfl) (by kernel_rfl) (fun _ _ _ h => h) (by rfl) ?_ (by assumption) ?_; rotate_left; (intro w hSw; (try dsimp only at hSw); go_simp; (try with_reducible rfl)); (try simp only [Act.put, List.setIfInBounds_toArray, List.set_cons_zero, List.set_cons_succ]))
        (refine hdTake (i := 6) (v := ?_) rfl (by kernel_rfl) (by kernel_rfl) (by kernel_rfl) (fun _ _ _ h => h) (by rfl) ?_ (by assumption) ?_; rotate_left; (intro w hSw; (try dsimp only at hSw); go_simp; (try with_reducible rfl)); (try simp only [Act.put, List.setIfInBounds_toArray, List.set_cons_zero, List.set_cons_succ]))
        (refine hdTake (i := 7) (v := ?_) rfl (by kernel_rfl) (by kernel_rfl) (by kernel_rfl) (fun _ _ _ h => h) (by rfl) ?_ (by assumption) ?_; rotate_left; (intro w hSw; (try dsimp only at hSw); go_simp; (try with_reducible rfl)); (try simp only [Act.put, List.setIfInBounds_toArray, List.set_cons_zero, List.set_cons_succ]))
        (refine hdTake (i := 11) (v := ?_) rfl (by kernel_rfl) (by kernel_rfl) (by kernel_rfl) (fun _ _ _ h => h) (by rfl) ?_ (by assumption) ?_; rotate_left; (intro w hSw; (try dsimp only at hSw); go_simp; (try with_reducible rfl)); (try simp only [Act.put, List.setIfInBounds_toArray, List.set_cons_zero, List.set_cons_succ]))
        (refine hdTake (i := 12) (v := ?_) rfl (by kernel_rfl) (by kernel_rfl) (by kernel_rfl) (fun _ _ _ h => h) (by rfl) ?_ (by assumption) ?_; rotate_left; (intro w hSw; (try dsimp only at hSw); go_simp; (try with_reducible rfl)); (try simp only [Act.put, List.setIfInBounds_toArray, List.set_cons_zero, List.set_cons_succ]))
        refine wpAnyH_ready (rs := [8, 13]) (by kernel_rfl) (by simp) ?_
        refine AllReadyH.cons (hdAt (i := 8) rfl) (fun K hK => ?_) (AllReadyH.cons (hdAt (i := 13) rfl) (fun K hK => ?_) AllReadyH.nil)
        · (go_simp; try go_wp2_with fail)
          refine hK.out _ _ ?_ (fun hHeld1 => ?_)
          · ((try dsimp only); (exact ⟨(hA.keep hBB hA.lt).cell 1, (hM.keep hBB hM.lt).cell 0, (hM.keep hBB hM.lt).cell 1, (hM.keep hBB hM.lt).cell 2, (hM.keep hBB hM.lt).cell 3, (hM.keep hBB hM.lt).cell 4, (hM.keep hBB hM.lt).cell 5, (hM.keep hBB hM.lt).cell 6, (hM.keep hBB hM.lt).cell 7⟩))
          clear hK K
          (try simp only [Act.put, List.setIfInBounds_toArray, List.set_cons_zero, List.set_cons_succ])
          (refine hdTake (i := 9) (v := ?_) rfl (by kernel_rfl) (by kernel_rfl) (by kernel_rfl) (fun _ _ _ h => h) (by rfl) ?_ (by assumption) ?_; rotate_left; (intro w hSw; (try dsimp only at hSw); go_simp; (try with_reducible rfl)); (try simp only [Act.put, List.setIfInBounds_toArray, List.set_cons_zero, List.set_cons_succ]))
          refine wpAnyH_ready (rs := [10, 13]) (by kernel_rfl) (by simp) ?_
          refine AllReadyH.cons (hdAt (i := 10) rfl) (fun K hK => ?_) (AllReadyH.cons (hdAt (i := 13) rfl) (fun K hK => ?_) AllReadyH.nil)
          · have cO := (hO.keep hBB hO.lt).cell 4
            (go_simp; go_wp2_with fail)
            clear cO
            refine hK.out _ _ ?_ (fun hHeld2 => ?_)
            · ((try dsimp only); (exact ⟨(hA.keep hBB hA.lt).cell 1, (hM.keep hBB hM.lt).cell 0, (hM.keep hBB hM.lt).cell 1, (hM.keep hBB hM.lt).cell 2, (hM.keep hBB hM.lt).cell 3, (hM.keep hBB hM.lt).cell 4, (hM.keep hBB hM.lt).cell 5, (hM.keep hBB hM.lt).cell 6, (hM.keep hBB hM.lt).cell 7⟩))
            clear hK K
            (try simp only [Act.put, List.setIfInBounds_toArray, List.set_cons_zero, List.set_cons_succ])
            refine hdCall (i := 13) (by kernel_rfl) rfl (fun K hK => ?_)
            (go_simp; try go_wp2_with fail)
            have HN : Hid (∀ j u, ([.int .u8 1, .int .u8 1, .int .u8 0, .int .u8 0, .int .u8 0, .int .u8 0, .int .u8 0, .int .u8 0, .int .i64 1] : List Value)[j]? = some u → (W0.alloc (.cells #[.int .u8 1, .int .u8 1, .int .u8 0, .int .u8 0, .int .u8 0, .int .u8 0, .int .u8 0, .int .u8 0, .int .i64 1] 75)).cell? ((⟨W0.heap.size, 0, none⟩ : Addr).add j) = some u) := Lib.hid (fun j u hu => by
              rw [Addr.add_mid]
              exact (Own.new W0 75 #[.int .u8 1, .int .u8 1, .int .u8 0, .int .u8 0, .int .u8 0, .int .u8 0, .int .u8 0, .int .u8 0, .int .i64 1]).range j u hu)
            have HOn : Hid (∀ u ∈ ([.int .u8 1, .int .u8 1, .int .u8 0, .int .u8 0, .int .u8 0, .int .u8 0, .int .u8 0, .int .u8 0, .int .i64 1] : List Value), u.oneCell' = true) := Lib.hid (by simp [Value.oneCell'])
            replace hBB := below_alloc1 W0 (.cells #[.int .u8 1, .int .u8 1, .int .u8 0, .int .u8 0, .int .u8 0, .int .u8 0, .int .u8 0, .int .u8 0, .int .i64 1] 75)
            refine hK.out _ _ ?_ (fun hHeld3 => ?_)
            · ((try dsimp only); (exact ⟨(hA.keep hBB hA.lt).cell 1, (hM.keep hBB hM.lt).cell 0, (hM.keep hBB hM.lt).cell 1, (hM.keep hBB hM.lt).cell 2, (hM.keep hBB hM.lt).cell 3, (hM.keep hBB hM.lt).cell 4, (hM.keep hBB hM.lt).cell 5, (hM.keep hBB hM.lt).cell 6, (hM.keep hBB hM.lt).cell 7⟩))
            clear hK K
            (try simp only [Act.put, List.setIfInBounds_toArray, List.set_cons_zero, List.set_cons_succ])
            refine hdCall (i := 14) (by kernel_rfl) rfl (fun K hK => ?_)
            rw [if_pos (by rfl)]
            have hOa := row_keepH HRL.out hBB
            refine wp_append_own_wide _ (.tmp 31) (.tmp 34) 45 rfl (gA + 1) 75 ti tz 9 16 Try.underlying45 HI.out HZ.out HS.out HBt.out HZs.out (by omega) (.slice va vn vc) _ _ rfl hOa ⟨W0.heap.size, 0, none⟩ 1 1 [.int .u8 1, .int .u8 1, .int .u8 0, .int .u8 0, .int .u8 0, .int .u8 0, .int .u8 0, .int .u8 0, .int .i64 1] rfl rfl HN.out HOn.out (by simp only [maxLen]; omega) (by omega) (by have := hBB.size; omega) (fun v' w' h2 h3 h4 => ?_)
            obtain ⟨gg, vk, cp, rfl⟩ : ∃ gg vk cp, v' = .slice gg vk cp := by
              rcases h2.2 with ⟨h0, _⟩ | ⟨g, cap, cur, hv, _⟩
              · exact ⟨_, _, _, h0⟩
              · exact ⟨_, _, _, hv⟩
            have hb0 := below_trans' hb hBB hb.size
            replace hb := grown_below hb0 h3 (fun q e => by have := (hRB q e).1; omega) hb0.size
            replace hX := (hX.keep hBB hX.lt).grown h3 (fun e => by have := hRB _ e.symm; omega)
            replace hA := (hA.keep hBB hA.lt).grown h3 (fun e => by have := hRB _ e.symm; omega)
            replace hD := (hD.keep hBB hD.lt).grown h3 (fun e => by have := hRB _ e.symm; omega)
            replace hO := (hO.keep hBB hO.lt).grown h3 (fun e => by have := hRB _ e.symm; omega)
            replace hM := (hM.keep hBB hM.lt).grown h3 (fun e => by have := hRB _ e.symm; omega)
            have H2 := Lib.hid h2
            clear h2 h3 h4 hOa hb0 hBB HN HOn HRL
            refine hK.out _ _ ?_ (fun hHeld4 => ?_)
            · ((try dsimp only); (exact ⟨hA.cell 1, hM.cell 0, hM.cell 1, hM.cell 2, hM.cell 3, hM.cell 4, hM.cell 5, hM.cell 6, hM.cell 7⟩))
            clear hK K
            (try simp only [Act.put, List.setIfInBounds_toArray, List.set_cons_zero, List.set_cons_succ])
            refine hdCall (i := 15) (by kernel_rfl) rfl (fun K hK => ?_)
            (go_simp; try go_wp2_with fail)
            refine hK.out _ _ ?_ (fun hHeld5 => ?_)
            · ((try dsimp only); (exact ⟨hA.cell 1, hM.cell 0, hM.cell 1, hM.cell 2, hM.cell 3, hM.cell 4, hM.cell 5, hM.cell 6, hM.cell 7⟩))
            clear hK K
            (try simp only [Act.put, List.setIfInBounds_toArray, List.set_cons_zero, List.set_cons_succ])
            (refine hdTake (i := 16) (v := ?_) rfl (by kernel_rfl) (by kernel_rfl) (by kernel_rfl) (fun _ _ _ h => h) (by rfl) ?_ (by assumption) ?_; rotate_left; (intro w hSw; (try dsimp only at hSw); go_simp; (try with_reducible rfl)); (try simp only [Act.put, List.setIfInBounds_toArray, List.set_cons_zero, List.set_cons_succ]))
            refine hdCall (i := 17) (by kernel_rfl) rfl (fun K hK => ?_)
            have cO := hO.cell 4
            have fO := hO.frozen 4
            (go_simp; go_wp2_with fail)
            clear cO fO
            replace hX := hX.far (p := ⟨gI, 4, none⟩) (by dsimp only; omega) (.slice gg vk cp)
            replace hA := hA.far (p := ⟨gI, 4, none⟩) (by dsimp only; omega) (.slice gg vk cp)
            replace hD := hD.far (p := ⟨gI, 4, none⟩) (by dsimp only; omega) (.slice gg vk cp)
            replace hM := hM.far (p := ⟨gI, 4, none⟩) (by dsimp only; omega) (.slice gg vk cp)
            have hO9 : Own (w'.setCell ⟨gI, 4, none⟩ (.slice gg vk cp)) gI 47 #[.slice none 0 0, .slice none 0 0, .slice none 0 0, .slice none 0 0, .slice gg vk cp] := hO.set 4 (.slice gg vk cp)
            replace hb := hb.setCell (p := ⟨gI, 4, none⟩) (by dsimp only; omega) (.slice gg vk cp)
            have H9 := Lib.hid (ownsRow_setCell_below H2.out (a := ⟨gI, 4, none⟩) (by dsimp only; omega) (.slice gg vk cp))
            refine hK.out _ _ ?_ (fun hHeld6 => ?_)
            · ((try dsimp only); (exact ⟨hA.cell 1, hM.cell 0, hM.cell 1, hM.cell 2, hM.cell 3, hM.cell 4, hM.cell 5, hM.cell 6, hM.cell 7⟩))
            clear hK K
            (try simp only [Act.put, List.setIfInBounds_toArray, List.set_cons_zero, List.set_cons_succ])
            refine wpAnyH_done (by kernel_rfl) ?_ _
            go_wp2_with fail
            go_roundw
            case rel => exact ⟨1, gg, vk, cp, by omega, by go_num, hb, hX, hA, hD, hO9, H9.out⟩
            case measure => simp [intOf] <;> omega
          · (go_simp; try go_wp2_with fail)
            have HN : Hid (∀ j u, ([.int .u8 1, .int .u8 1, .int .u8 0, .int .u8 0, .int .u8 0, .int .u8 0, .int .u8 0, .int .u8 0, .int .i64 1] : List Value)[j]? = some u → (W0.alloc (.cells #[.int .u8 1, .int .u8 1, .int .u8 0, .int .u8 0, .int .u8 0, .int .u8 0, .int .u8 0, .int .u8 0, .int .i64 1] 75)).cell? ((⟨W0.heap.size, 0, none⟩ : Addr).add j) = some u) := Lib.hid (fun j u hu => by
              rw [Addr.add_mid]
              exact (Own.new W0 75 #[.int .u8 1, .int .u8 1, .int .u8 0, .int .u8 0, .int .u8 0, .int .u8 0, .int .u8 0, .int .u8 0, .int .i64 1]).range j u hu)
            have HOn : Hid (∀ u ∈ ([.int .u8 1, .int .u8 1, .int .u8 0, .int .u8 0, .int .u8 0, .int .u8 0, .int .u8 0, .int .u8 0, .int .i64 1] : List Value), u.oneCell' = true) := Lib.hid (by simp [Value.oneCell'])
            replace hBB := below_alloc1 W0 (.cells #[.int .u8 1, .int .u8 1, .int .u8 0, .int .u8 0, .int .u8 0, .int .u8 0, .int .u8 0, .int .u8 0, .int .i64 1] 75)
            refine hK.out _ _ ?_ (fun hHeld3 => ?_)
            · ((try dsimp only); (exact ⟨(hA.keep hBB hA.lt).cell 1, (hM.keep hBB hM.lt).cell 0, (hM.keep hBB hM.lt).cell 1, (hM.keep hBB hM.lt).cell 2, (hM.keep hBB hM.lt).cell 3, (hM.keep hBB hM.lt).cell 4, (hM.keep hBB hM.lt).cell 5, (hM.keep hBB hM.lt).cell 6, (hM.keep hBB hM.lt).cell 7⟩))
            clear hK K
            (try simp only [Act.put, List.setIfInBounds_toArray, List.set_cons_zero, List.set_cons_succ])
            refine hdCall (i := 10) (by kernel_rfl) rfl (fun K hK => ?_)
            have cO := (hO.keep hBB hO.lt).cell 4
            (go_simp; go_wp2_with fail)
            clear cO
            refine hK.out _ _ ?_ (fun hHeld2 => ?_)
            · ((try dsimp only); (exact ⟨(hA.keep hBB hA.lt).cell 1, (hM.keep hBB hM.lt).cell 0, (hM.keep hBB hM.lt).cell 1, (hM.keep hBB hM.lt).cell 2, (hM.keep hBB hM.lt).cell 3, (hM.keep hBB hM.lt).cell 4, (hM.keep hBB hM.lt).cell 5, (hM.keep hBB hM.lt).cell 6, (hM.keep hBB hM.lt).cell 7⟩))
            clear hK K
            (try simp only [Act.put, List.setIfInBounds_toArray, List.set_cons_zero, List.set_cons_succ])
            refine hdCall (i := 14) (by kernel_rfl) rfl (fun K hK => ?_)
            rw [if_pos (by rfl)]
            have hOa := row_keepH HRL.out hBB
            refine wp_append_own_wide _ (.tmp 31) (.tmp 34) 45 rfl (gA + 1) 75 ti tz 9 16 Try.underlying45 HI.out HZ.out HS.out HBt.out HZs.out (by omega) (.slice va vn vc) _ _ rfl hOa ⟨W0.heap.size, 0, none⟩ 1 1 [.int .u8 1, .int .u8 1, .int .u8 0, .int .u8 0, .int .u8 0, .int .u8 0, .int .u8 0, .int .u8 0, .int .i64 1] rfl rfl HN.out HOn.out (by simp only [maxLen]; omega) (by omega) (by have := hBB.size; omega) (fun v' w' h2 h3 h4 => ?_)
            obtain ⟨gg, vk, cp, rfl⟩ : ∃ gg vk cp, v' = .slice gg vk cp := by
              rcases h2.2 with ⟨h0, _⟩ | ⟨g, cap, cur, hv, _⟩
              · exact ⟨_, _, _, h0⟩
              · exact ⟨_, _, _, hv⟩
            have hb0 := below_trans' hb hBB hb.size
            replace hb := grown_below hb0 h3 (fun q e => by have := (hRB q e).1; omega) hb0.size
            replace hX := (hX.keep hBB hX.lt).grown h3 (fun e => by have := hRB _ e.symm; omega)
            replace hA := (hA.keep hBB hA.lt).grown h3 (fun e => by have := hRB _ e.symm; omega)
            replace hD := (hD.keep hBB hD.lt).grown h3 (fun e => by have := hRB _ e.symm; omega)
            replace hO := (hO.keep hBB hO.lt).grown h3 (fun e => by have := hRB _ e.symm; omega)
            replace hM := (hM.keep hBB hM.lt).grown h3 (fun e => by have := hRB _ e.symm; omega)
            have H2 := Lib.hid h2
            clear h2 h3 h4 hOa hb0 hBB HN HOn HRL
            refine hK.out _ _ ?_ (fun hHeld4 => ?_)
            · ((try dsimp only); (exact ⟨hA.cell 1, hM.cell 0, hM.cell 1, hM.cell 2, hM.cell 3, hM.cell 4, hM.cell 5, hM.cell 6, hM.cell 7⟩))
            clear hK K
            (try simp only [Act.put, List.setIfInBounds_toArray, List.set_cons_zero, List.set_cons_succ])
            refine hdCall (i := 15) (by kernel_rfl) rfl (fun K hK => ?_)
            (go_simp; try go_wp2_with fail)
            refine hK.out _ _ ?_ (fun hHeld5 => ?_)
            · ((try dsimp only); (exact ⟨hA.cell 1, hM.cell 0, hM.cell 1, hM.cell 2, hM.cell 3, hM.cell 4, hM.cell 5, hM.cell 6, hM.cell 7⟩))
            clear hK K
            (try simp only [Act.put, List.setIfInBounds_toArray, List.set_cons_zero, List.set_cons_succ])
            (refine hdTake (i := 16) (v := ?_) rfl (by kernel_rfl) (by kernel_rfl) (by kernel_rfl) (fun _ _ _ h => h) (by rfl) ?_ (by assumption) ?_; rotate_left; (intro w hSw; (try dsimp only at hSw); go_simp; (try with_reducible rfl)); (try simp only [Act.put, List.setIfInBounds_toArray, List.set_cons_zero, List.set_cons_succ]))
            refine hdCall (i := 17) (by kernel_rfl) rfl (fun K hK => ?_)
            have cO := hO.cell 4
            have fO := hO.frozen 4
            (go_simp; go_wp2_with fail)
            clear cO fO
            replace hX := hX.far (p := ⟨gI, 4, none⟩) (by dsimp only; omega) (.slice gg vk cp)
            replace hA := hA.far (p := ⟨gI, 4, none⟩) (by dsimp only; omega) (.slice gg vk cp)
            replace hD := hD.far (p := ⟨gI, 4, none⟩) (by dsimp only; omega) (.slice gg vk cp)
            replace hM := hM.far (p := ⟨gI, 4, none⟩) (by dsimp only; omega) (.slice gg vk cp)
            have hO9 : Own (w'.setCell ⟨gI, 4, none⟩ (.slice gg vk cp)) gI 47 #[.slice none 0 0, .slice none 0 0, .slice none 0 0, .slice none 0 0, .slice gg vk cp] := hO.set 4 (.slice gg vk cp)
            replace hb := hb.setCell (p := ⟨gI, 4, none⟩) (by dsimp only; omega) (.slice gg vk cp)
            have H9 := Lib.hid (ownsRow_setCell_below H2.out (a := ⟨gI, 4, none⟩) (by dsimp only; omega) (.slice gg vk cp))
            refine hK.out _ _ ?_ (fun hHeld6 => ?_)
            · ((try dsimp only); (exact ⟨hA.cell 1, hM.cell 0, hM.cell 1, hM.cell 2, hM.cell 3, hM.cell 4, hM.cell 5, hM.cell 6, hM.cell 7⟩))
            clear hK K
            (try simp only [Act.put, List.setIfInBounds_toArray, List.set_cons_zero, List.set_cons_succ])
            refine wpAnyH_done (by kernel_rfl) ?_ _
            go_wp2_with fail
            go_roundw
            case rel => exact ⟨1, gg, vk, cp, by omega, by go_num, hb, hX, hA, hD, hO9, H9.out⟩
            case measure => simp [intOf] <;> omega
        · (go_simp; try go_wp2_with fail)
          have HN : Hid (∀ j u, ([.int .u8 1, .int .u8 1, .int .u8 0, .int .u8 0, .int .u8 0, .int .u8 0, .int .u8 0, .int .u8 0, .int .i64 1] : List Value)[j]? = some u → (W0.alloc (.cells #[.int .u8 1, .int .u8 1, .int .u8 0, .int .u8 0, .int .u8 0, .int .u8 0, .int .u8 0, .int .u8 0, .int .i64 1] 75)).cell? ((⟨W0.heap.size, 0, none⟩ : Addr).add j) = some u) := Lib.hid (fun j u hu => by
            rw [Addr.add_mid]
            exact (Own.new W0 75 #[.int .u8 1, .int .u8 1, .int .u8 0, .int .u8 0, .int .u8 0, .int .u8 0, .int .u8 0, .int .u8 0, .int .i64 1]).range j u hu)
          have HOn : Hid (∀ u ∈ ([.int .u8 1, .int .u8 1, .int .u8 0, .int .u8 0, .int .u8 0, .int .u8 0, .int .u8 0, .int .u8 0, .int .i64 1] : List Value), u.oneCell' = true) := Lib.hid (by simp [Value.oneCell'])
          replace hBB := below_alloc1 W0 (.cells #[.int .u8 1, .int .u8 1, .int .u8 0, .int .u8 0, .int .u8 0, .int .u8 0, .int .u8 0, .int .u8 0, .int .i64 1] 75)
          refine hK.out _ _ ?_ (fun hHeld3 => ?_)
          · ((try dsimp only); (exact ⟨(hA.keep hBB hA.lt).cell 1, (hM.keep hBB hM.lt).cell 0, (hM.keep hBB hM.lt).cell 1, (hM.keep hBB hM.lt).cell 2, (hM.keep hBB hM.lt).cell 3, (hM.keep hBB hM.lt).cell 4, (hM.keep hBB hM.lt).cell 5, (hM.keep hBB hM.lt).cell 6, (hM.keep hBB hM.lt).cell 7⟩))
          clear hK K
          (try simp only [Act.put, List.setIfInBounds_toArray, List.set_cons_zero, List.set_cons_succ])
          refine hdCall (i := 8) (by kernel_rfl) rfl (fun K hK => ?_)
          (go_simp; try go_wp2_with fail)
          refine hK.out _ _ ?_ (fun hHeld1 => ?_)
          · ((try dsimp only); (exact ⟨(hA.keep hBB hA.lt).cell 1, (hM.keep hBB hM.lt).cell 0, (hM.keep hBB hM.lt).cell 1, (hM.keep hBB hM.lt).cell 2, (hM.keep hBB hM.lt).cell 3, (hM.keep hBB hM.lt).cell 4, (hM.keep hBB hM.lt).cell 5, (hM.keep hBB hM.lt).cell 6, (hM.keep hBB hM.lt).cell 7⟩))
          clear hK K
          (try simp only [Act.put, List.setIfInBounds_toArray, List.set_cons_zero, List.set_cons_succ])
          (refine hdTake (i := 9) (v := ?_) rfl (by kernel_rfl) (by kernel_rfl) (by kernel_rfl) (fun _ _ _ h => h) (by rfl) ?_ (by assumption) ?_; rotate_left; (intro w hSw; (try dsimp only at hSw); go_simp; (try with_reducible rfl)); (try simp only [Act.put, List.setIfInBounds_toArray, List.set_cons_zero, List.set_cons_succ]))
          refine hdCall (i := 10) (by kernel_rfl) rfl (fun K hK => ?_)
          have cO := (hO.keep hBB hO.lt).cell 4
          (go_simp; go_wp2_with fail)
          clear cO
          refine hK.out _ _ ?_ (fun hHeld2 => ?_)
          · ((try dsimp only); (exact ⟨(hA.keep hBB hA.lt).cell 1, (hM.keep hBB hM.lt).cell 0, (hM.keep hBB hM.lt).cell 1, (hM.keep hBB hM.lt).cell 2, (hM.keep hBB hM.lt).cell 3, (hM.keep hBB hM.lt).cell 4, (hM.keep hBB hM.lt).cell 5, (hM.keep hBB hM.lt).cell 6, (hM.keep hBB hM.lt).cell 7⟩))
          clear hK K
          (try simp only [Act.put, List.setIfInBounds_toArray, List.set_cons_zero, List.set_cons_succ])
          refine hdCall (i := 14) (by kernel_rfl) rfl (fun K hK => ?_)
          rw [if_pos (by rfl)]
          have hOa := row_keepH HRL.out hBB
          refine wp_append_own_wide _ (.tmp 31) (.tmp 34) 45 rfl (gA + 1) 75 ti tz 9 16 Try.underlying45 HI.out HZ.out HS.out HBt.out HZs.out (by omega) (.slice va vn vc) _ _ rfl hOa ⟨W0.heap.size, 0, none⟩ 1 1 [.int .u8 1, .int .u8 1, .int .u8 0, .int .u8 0, .int .u8 0, .int .u8 0, .int .u8 0, .int .u8 0, .int .i64 1] rfl rfl HN.out HOn.out (by simp only [maxLen]; omega) (by omega) (by have := hBB.size; omega) (fun v' w' h2 h3 h4 => ?_)
          obtain ⟨gg, vk, cp, rfl⟩ : ∃ gg vk cp, v' = .slice gg vk cp := by
            rcases h2.2 with ⟨h0, _⟩ | ⟨g, cap, cur, hv, _⟩
            · exact ⟨_, _, _, h0⟩
            · exact ⟨_, _, _, hv⟩
          have hb0 := below_trans' hb hBB hb.size
          replace hb := grown_below hb0 h3 (fun q e => by have := (hRB q e).1; omega) hb0.size
          replace hX := (hX.keep hBB hX.lt).grown h3 (fun e => by have := hRB _ e.symm; omega)
          replace hA := (hA.keep hBB hA.lt).grown h3 (fun e => by have := hRB _ e.symm; omega)
          replace hD := (hD.keep hBB hD.lt).grown h3 (fun e => by have := hRB _ e.symm; omega)
          replace hO := (hO.keep hBB hO.lt).grown h3 (fun e => by have := hRB _ e.symm; omega)
          replace hM := (hM.keep hBB hM.lt).grown h3 (fun e => by have := hRB _ e.symm; omega)
          have H2 := Lib.hid h2
          clear h2 h3 h4 hOa hb0 hBB HN HOn HRL
          refine hK.out _ _ ?_ (fun hHeld4 => ?_)
          · ((try dsimp only); (exact ⟨hA.cell 1, hM.cell 0, hM.cell 1, hM.cell 2, hM.cell 3, hM.cell 4, hM.cell 5, hM.cell 6, hM.cell 7⟩))
          clear hK K
          (try simp only [Act.put, List.setIfInBounds_toArray, List.set_cons_zero, List.set_cons_succ])
          refine hdCall (i := 15) (by kernel_rfl) rfl (fun K hK => ?_)
          (go_simp; try go_wp2_with fail)
          refine hK.out _ _ ?_ (fun hHeld5 => ?_)
          · ((try dsimp only); (exact ⟨hA.cell 1, hM.cell 0, hM.cell 1, hM.cell 2, hM.cell 3, hM.cell 4, hM.cell 5, hM.cell 6, hM.cell 7⟩))
          clear hK K
          (try simp only [Act.put, List.setIfInBounds_toArray, List.set_cons_zero, List.set_cons_succ])
          (refine hdTake (i := 16) (v := ?_) rfl (by kernel_rfl) (by kernel_rfl) (by kernel_rfl) (fun _ _ _ h => h) (by rfl) ?_ (by assumption) ?_; rotate_left; (intro w hSw; (try dsimp only at hSw); go_simp; (try with_reducible rfl)); (try simp only [Act.put, List.setIfInBounds_toArray, List.set_cons_zero, List.set_cons_succ]))
          refine hdCall (i := 17) (by kernel_rfl) rfl (fun K hK => ?_)
          have cO := hO.cell 4
          have fO := hO.frozen 4
          (go_simp; go_wp2_with fail)
          clear cO fO
          replace hX := hX.far (p := ⟨gI, 4, none⟩) (by dsimp only; omega) (.slice gg vk cp)
          replace hA := hA.far (p := ⟨gI, 4, none⟩) (by dsimp only; omega) (.slice gg vk cp)
          replace hD := hD.far (p := ⟨gI, 4, none⟩) (by dsimp only; omega) (.slice gg vk cp)
          replace hM := hM.far (p := ⟨gI, 4, none⟩) (by dsimp only; omega) (.slice gg vk cp)
          have hO9 : Own (w'.setCell ⟨gI, 4, none⟩ (.slice gg vk cp)) gI 47 #[.slice none 0 0, .slice none 0 0, .slice none 0 0, .slice none 0 0, .slice gg vk cp] := hO.set 4 (.slice gg vk cp)
          replace hb := hb.setCell (p := ⟨gI, 4, none⟩) (by dsimp only; omega) (.slice gg vk cp)
          have H9 := Lib.hid (ownsRow_setCell_below H2.out (a := ⟨gI, 4, none⟩) (by dsimp only; omega) (.slice gg vk cp))
          refine hK.out _ _ ?_ (fun hHeld6 => ?_)
          · ((try dsimp only); (exact ⟨hA.cell 1, hM.cell 0, hM.cell 1, hM.cell 2, hM.cell 3, hM.cell 4, hM.cell 5, hM.cell 6, hM.cell 7⟩))
          clear hK K
          (try simp only [Act.put, List.setIfInBounds_toArray, List.set_cons_zero, List.set_cons_succ])
          refine wpAnyH_done (by kernel_rfl) ?_ _
          go_wp2_with fail
          go_roundw
          case rel => exact ⟨1, gg, vk, cp, by omega, by go_num, hb, hX, hA, hD, hO9, H9.out⟩
          case measure => simp [intOf] <;> omega
      · have hRB : ∀ q, (Value.slice va vn vc).ownBlock = some q → gA + 1 ≤ q ∧ q < wr.heap.size := fun q e => hR.lt q e
        have HRL := Lib.hid hR
        have hgAM : gA < wr.heap.size := hA.lt
        have hM := Own.new wr 56 #[.int .u8 0, .int .u8 0, .int .u8 0, .int .u8 0, .int .u8 0, .int .u8 0, .int .u8 0, .int .u8 0]
        have hBa := below_alloc1 wr (.cells #[.int .u8 0, .int .u8 0, .int .u8 0, .int .u8 0, .int .u8 0, .int .u8 0, .int .u8 0, .int .u8 0] 56)
        go_upto_region 6 with fail
        generalize wr.alloc (.cells #[.int .u8 0, .int .u8 0, .int .u8 0, .int .u8 0, .int .u8 0, .int .u8 0, .int .u8 0, .int .u8 0] 56) = w5 at *
        obtain ⟨gM, hgM⟩ : ∃ g, wr.heap.size = g := ⟨_, rfl⟩
        have hgM2 : wr.heap.size ≤ gM := by omega
        rw [hgM] at hM hRB
        try rw [hgM]
        clear hgM
        have e0 := hM.cell 2
        have e1 := hM.cell 3
        have e2 := hM.frozen 2
        have e3 := hM.frozen 3
        have hA5 := hA.keep hBa hA.lt
        have cA5 := hA5.cell 1
        go_upto_region 7 with fail
        clear e0 e1 e2 e3 cA5 hA5
        have hM2 : Own ((w5.setCell ⟨gM, 2, none⟩ (.int .u8 1)).setCell ⟨gM, 3, none⟩ (.int .u8 1)) gM 56 #[.int .u8 0, .int .u8 0, .int .u8 1, .int .u8 1, .int .u8 0, .int .u8 0, .int .u8 0, .int .u8 0] := (hM.set 2 (.int .u8 1)).set 3 (.int .u8 1)
        have hB0 := (hBa.setCell (p := ⟨gM, 2, none⟩) hgM2 (.int .u8 1)).setCell (p := ⟨gM, 3, none⟩) hgM2 (.int .u8 1)
        generalize (w5.setCell ⟨gM, 2, none⟩ (.int .u8 1)).setCell ⟨gM, 3, none⟩ (.int .u8 1) = w6 at *
        clear hM hBa
        have hX := hX.keep hB0 hX.lt
        have hA := hA.keep hB0 hA.lt
        have hD := hD.keep hB0 hD.lt
        have hO := hO.keep hB0 hO.lt
        have HRL := Lib.hid (row_keepH HRL.out hB0)
        replace hb := below_trans' hb hB0 hb.size
        clear hB0 hR
        replace hX : Own w6.drew gX 25 #[.slice none 0 0, .slice none 0 0] := hX
        replace hA : Own w6.drew gA 25 #[.slice (some ⟨gD, 0, none⟩) 5 5, .slice (some ⟨gI, 0, none⟩) 5 5] := hA
        replace hD : Own w6.drew gD 2 (((List.replicate 5 (1 : Int)).map (Value.int .i64)).toArray) := hD
        replace hO : Own w6.drew gI 47 #[.slice none 0 0, .slice none 0 0, .slice none 0 0, .slice none 0 0, .slice va vn vc] := hO
        have hM : Own w6.drew gM 56 #[.int .u8 0, .int .u8 0, .int .u8 1, .int .u8 1, .int .u8 0, .int .u8 0, .int .u8 0, .int .u8 0] := hM2
        have hdr : Below w6.heap.size w6 w6.drew := (Below.refl _ _).drew
        replace HRL := Lib.hid (row_keepH HRL.out hdr)
        clear hdr hM2
        replace hb : Below w.heap.size w w6.drew := hb.drew
        refine wp_region_held_drew (S := (fun w' => w'.cell? ⟨gA, 1, none⟩ = some (.slice (some ⟨gI, 0, none⟩) 5 5) ∧ w'.cell? ⟨gM, 0, none⟩ = some (.int .u8 0) ∧ w'.cell? ⟨gM, 1, none⟩ = some (.int .u8 0) ∧ w'.cell? ⟨gM, 2, none⟩ = some (.int .u8 1) ∧ w'.cell? ⟨gM, 3, none⟩ = some (.int .u8 1) ∧ w'.cell? ⟨gM, 4, none⟩ = some (.int .u8 0) ∧ w'.cell? ⟨gM, 5, none⟩ = some (.int .u8 0) ∧ w'.cell? ⟨gM, 6, none⟩ = some (.int .u8 0) ∧ w'.cell? ⟨gM, 7, none⟩ = some (.int .u8 0))) (by kernel_rfl) ?_ (fun hHeld0 => ?_)
        · ((try dsimp only); (exact ⟨hA.cell 1, hM.cell 0, hM.cell 1, hM.cell 2, hM.cell 3, hM.cell 4, hM.cell 5, hM.cell 6, hM.cell 7⟩))
        generalize w6.drew = W0 at *
        have hBB := Below.refl W0.heap.size W0
        have hA0 : gA < W0.heap.size := hA.lt
        (refine hdTake (i := 0) (v := ?_) rfl (by kernel_rfl) (by kernel_rfl) (by kernel_rfl) (fun _ _ _ h => h) (by rfl) ?_ (by assumption) ?_; rotate_left; (intro w hSw; (try dsimp only at hSw); go_simp; (try with_reducible rfl)); (try simp only [Act.put, List.setIfInBounds_toArray, List.set_cons_zero, List.set_cons_succ]))
        (refine hdTake (i := 1) (v := ?_) rfl (by kernel_rfl) (by kernel_rfl) (by kernel_rfl) (fun _ _ _ h => h) (by rfl) ?_ (by assumption) ?_; rotate_left; (intro w hSw; (try dsimp only at hSw); go_simp; (try with_reducible rfl)); (try simp only [Act.put, List.setIfInBounds_toArray, List.set_cons_zero, List.set_cons_succ]))
        (refine hdTake (i := 2) (v := ?_) rfl (by kernel_rfl) (by kernel_rfl) (by kernel_rfl) (fun _ _ _ h => h) (by rfl) ?_ (by assumption) ?_; rotate_left; (intro w hSw; (try dsimp only at hSw); go_simp; (try with_reducible rfl)); (try simp only [Act.put, List.setIfInBounds_toArray, List.set_cons_zero, List.set_cons_succ]))
        (refine hdTake (i := 3) (v := ?_) rfl (by kernel_rfl) (by kernel_rfl) (by kernel_rfl) (fun _ _ _ h => h) (by rfl) ?_ (by assumption) ?_; rotate_left; (intro w hSw; (try dsimp only at hSw); go_simp; (try with_reducible rfl)); (try simp only [Act.put, List.setIfInBounds_toArray, List.set_cons_zero, List.set_cons_succ]))
        (refine hdTake (i := 4) (v := ?_) rfl (by kernel_rfl) (by kernel_rfl) (by kernel_rfl) (fun _ _ _ h => h) (by rfl) ?_ (by assumption) ?_; rotate_left; (intro w hSw; (try dsimp only at hSw); go_simp; (try with_reducible rfl)); (try simp only [Act.put, List.setIfInBounds_toArray, List.set_cons_zero, List.set_cons_succ]))
        (refine hdTake (i := 5) (v := ?_) rfl (by kernel_rfl) (by kernel_rfl) (by kernel_rfl) (fun _ _ _ h => h) (by rfl) ?_ (by assumption) ?_; rotate_left; (intro w hSw; (try dsimp only at hSw); go_simp; (try with_reducible rfl)); (try simp only [Act.put, List.setIfInBounds_toArray, List.set_cons_zero, List.set_cons_succ]))
        (refine hdTake (i := 6) (v := ?_) rfl (by kernel_rfl) (by kernel_rfl) (by kernel_rfl) (fun _ _ _ h => h) (by rfl) ?_ (by assumption) ?_; rotate_left; (intro w hSw; (try dsimp only at hSw); go_simp; (try with_reducible rfl)); (try simp only [Act.put, List.setIfInBounds_toArray, List.set_cons_zero, List.set_cons_succ]))
        (refine hdTake (i := 7) (v := ?_) rfl (by kernel_rfl) (by kernel_rfl) (by kernel_rfl) (fun _ _ _ h => h) (by rfl) ?_ (by assumption) ?_; rotate_left; (intro w hSw; (try dsimp only at hSw); go_simp; (try with_reducible rfl)); (try simp only [Act.put, List.setIfInBounds_toArray, List.set_cons_zero, List.set_cons_succ]))
        (refine hdTake (i := 11) (v := ?_) rfl (by kernel_rfl) (by kernel_rfl) (by kernel_rfl) (fun _ _ _ h => h) (by rfl) ?_ (by assumption) ?_; rotate_left; (intro w hSw; (try dsimp only at hSw); go_simp; (try with_reducible rfl)); (try simp only [Act.put, List.setIfInBounds_toArray, List.set_cons_zero, List.set_cons_succ]))
        (refine hdTake (i := 12) (v := ?_) rfl (by kernel_rfl) (by kernel_rfl) (by kernel_rfl) (fun _ _ _ h => h) (by rfl) ?_ (by assumption) ?_; rotate_left; (intro w hSw; (try dsimp only at hSw); go_simp; (try with_reducible rfl)); (try simp only [Act.put, List.setIfInBounds_toArray, List.set_cons_zero, List.set_cons_succ]))
        refine wpAnyH_ready (rs := [8, 13]) (by kernel_rfl) (by simp) ?_
        refine AllReadyH.cons (hdAt (i := 8) rfl) (fun K hK => ?_) (AllReadyH.cons (hdAt (i := 13) rfl) (fun K hK => ?_) AllReadyH.nil)
        · (go_simp; try go_wp2_with fail)
          refine hK.out _ _ ?_ (fun hHeld1 => ?_)
          · ((try dsimp only); (exact ⟨(hA.keep hBB hA.lt).cell 1, (hM.keep hBB hM.lt).cell 0, (hM.keep hBB hM.lt).cell 1, (hM.keep hBB hM.lt).cell 2, (hM.keep hBB hM.lt).cell 3, (hM.keep hBB hM.lt).cell 4, (hM.keep hBB hM.lt).cell 5, (hM.keep hBB hM.lt).cell 6, (hM.keep hBB hM.lt).cell 7⟩))
          clear hK K
          (try simp only [Act.put, List.setIfInBounds_toArray, List.set_cons_zero, List.set_cons_succ])
          (refine hdTake (i := 9) (v := ?_) rfl (by kernel_rfl) (by kernel_rfl) (by kernel_rfl) (fun _ _ _ h => h) (by rfl) ?_ (by assumption) ?_; rotate_left; (intro w hSw; (try dsimp only at hSw); go_simp; (try with_reducible rfl)); (try simp only [Act.put, List.setIfInBounds_toArray, List.set_cons_zero, List.set_cons_succ]))
          refine wpAnyH_ready (rs := [10, 13]) (by kernel_rfl) (by simp) ?_
          refine AllReadyH.cons (hdAt (i := 10) rfl) (fun K hK => ?_) (AllReadyH.cons (hdAt (i := 13) rfl) (fun K hK => ?_) AllReadyH.nil)
          · have cO := (hO.keep hBB hO.lt).cell 4
            (go_simp; go_wp2_with fail)
            clear cO
            refine hK.out _ _ ?_ (fun hHeld2 => ?_)
            · ((try dsimp only); (exact ⟨(hA.keep hBB hA.lt).cell 1, (hM.keep hBB hM.lt).cell 0, (hM.keep hBB hM.lt).cell 1, (hM.keep hBB hM.lt).cell 2, (hM.keep hBB hM.lt).cell 3, (hM.keep hBB hM.lt).cell 4, (hM.keep hBB hM.lt).cell 5, (hM.keep hBB hM.lt).cell 6, (hM.keep hBB hM.lt).cell 7⟩))
            clear hK K
            (try simp only [Act.put, List.setIfInBounds_toArray, List.set_cons_zero, List.set_cons_succ])
            refine hdCall (i := 13) (by kernel_rfl) rfl (fun K hK => ?_)
            (go_simp; try go_wp2_with fail)
            have HN : Hid (∀ j u, ([.int .u8 0, .int .u8 0, .int .u8 1, .int .u8 1, .int .u8 0, .int .u8 0, .int .u8 0, .int .u8 0, .int .i64 1] : List Value)[j]? = some u → (W0.alloc (.cells #[.int .u8 0, .int .u8 0, .int .u8 1, .int .u8 1, .int .u8 0, .int .u8 0, .int .u8 0, .int .u8 0, .int .i64 1] 75)).cell? ((⟨W0.heap.size, 0, none⟩ : Addr).add j) = some u) := Lib.hid (fun j u hu => by
              rw [Addr.add_mid]
              exact (Own.new W0 75 #[.int .u8 0, .int .u8 0, .int .u8 1, .int .u8 1, .int .u8 0, .int .u8 0, .int .u8 0, .int .u8 0, .int .i64 1]).range j u hu)
            have HOn : Hid (∀ u ∈ ([.int .u8 0, .int .u8 0, .int .u8 1, .int .u8 1, .int .u8 0, .int .u8 0, .int .u8 0, .int .u8 0, .int .i64 1] : List Value), u.oneCell' = true) := Lib.hid (by simp [Value.oneCell'])
            replace hBB := below_alloc1 W0 (.cells #[.int .u8 0, .int .u8 0, .int .u8 1, .int .u8 1, .int .u8 0, .int .u8 0, .int .u8 0, .int .u8 0, .int .i64 1] 75)
            refine hK.out _ _ ?_ (fun hHeld3 => ?_)
            · ((try dsimp only); (exact ⟨(hA.keep hBB hA.lt).cell 1, (hM.keep hBB hM.lt).cell 0, (hM.keep hBB hM.lt).cell 1, (hM.keep hBB hM.lt).cell 2, (hM.keep hBB hM.lt).cell 3, (hM.keep hBB hM.lt).cell 4, (hM.keep hBB hM.lt).cell 5, (hM.keep hBB hM.lt).cell 6, (hM.keep hBB hM.lt).cell 7⟩))
            clear hK K
            (try simp only [Act.put, List.setIfInBounds_toArray, List.set_cons_zero, List.set_cons_succ])
            refine hdCall (i := 14) (by kernel_rfl) rfl (fun K hK => ?_)
            rw [if_pos (by rfl)]
            have hOa := row_keepH HRL.out hBB
            refine wp_append_own_wide _ (.tmp 31) (.tmp 34) 45 rfl (gA + 1) 75 ti tz 9 16 Try.underlying45 HI.out HZ.out HS.out HBt.out HZs.out (by omega) (.slice va vn vc) _ _ rfl hOa ⟨W0.heap.size, 0, none⟩ 1 1 [.int .u8 0, .int .u8 0, .int .u8 1, .int .u8 1, .int .u8 0, .int .u8 0, .int .u8 0, .int .u8 0, .int .i64 1] rfl rfl HN.out HOn.out (by simp only [maxLen]; omega) (by omega) (by have := hBB.size; omega) (fun v' w' h2 h3 h4 => ?_)
            obtain ⟨gg, vk, cp, rfl⟩ : ∃ gg vk cp, v' = .slice gg vk cp := by
              rcases h2.2 with ⟨h0, _⟩ | ⟨g, cap, cur, hv, _⟩
              · exact ⟨_, _, _, h0⟩
              · exact ⟨_, _, _, hv⟩
            have hb0 := below_trans' hb hBB hb.size
            replace hb := grown_below hb0 h3 (fun q e => by have := (hRB q e).1; omega) hb0.size
            replace hX := (hX.keep hBB hX.lt).grown h3 (fun e => by have := hRB _ e.symm; omega)
            replace hA := (hA.keep hBB hA.lt).grown h3 (fun e => by have := hRB _ e.symm; omega)
            replace hD := (hD.keep hBB hD.lt).grown h3 (fun e => by have := hRB _ e.symm; omega)
            replace hO := (hO.keep hBB hO.lt).grown h3 (fun e => by have := hRB _ e.symm; omega)
            replace hM := (hM.keep hBB hM.lt).grown h3 (fun e => by have := hRB _ e.symm; omega)
            have H2 := Lib.hid h2
            clear h2 h3 h4 hOa hb0 hBB HN HOn HRL
            refine hK.out _ _ ?_ (fun hHeld4 => ?_)
            · ((try dsimp only); (exact ⟨hA.cell 1, hM.cell 0, hM.cell 1, hM.cell 2, hM.cell 3, hM.cell 4, hM.cell 5, hM.cell 6, hM.cell 7⟩))
            clear hK K
            (try simp only [Act.put, List.setIfInBounds_toArray, List.set_cons_zero, List.set_cons_succ])
            refine hdCall (i := 15) (by kernel_rfl) rfl (fun K hK => ?_)
            (go_simp; try go_wp2_with fail)
            refine hK.out _ _ ?_ (fun hHeld5 => ?_)
            · ((try dsimp only); (exact ⟨hA.cell 1, hM.cell 0, hM.cell 1, hM.cell 2, hM.cell 3, hM.cell 4, hM.cell 5, hM.cell 6, hM.cell 7⟩))
            clear hK K
            (try simp only [Act.put, List.setIfInBounds_toArray, List.set_cons_zero, List.set_cons_succ])
            (refine hdTake (i := 16) (v := ?_) rfl (by kernel_rfl) (by kernel_rfl) (by kernel_rfl) (fun _ _ _ h => h) (by rfl) ?_ (by assumption) ?_; rotate_left; (intro w hSw; (try dsimp only at hSw); go_simp; (try with_reducible rfl)); (try simp only [Act.put, List.setIfInBounds_toArray, List.set_cons_zero, List.set_cons_succ]))
            refine hdCall (i := 17) (by kernel_rfl) rfl (fun K hK => ?_)
            have cO := hO.cell 4
            have fO := hO.frozen 4
            (go_simp; go_wp2_with fail)
            clear cO fO
            replace hX := hX.far (p := ⟨gI, 4, none⟩) (by dsimp only; omega) (.slice gg vk cp)
            replace hA := hA.far (p := ⟨gI, 4, none⟩) (by dsimp only; omega) (.slice gg vk cp)
            replace hD := hD.far (p := ⟨gI, 4, none⟩) (by dsimp only; omega) (.slice gg vk cp)
            replace hM := hM.far (p := ⟨gI, 4, none⟩) (by dsimp only; omega) (.slice gg vk cp)
            have hO9 : Own (w'.setCell ⟨gI, 4, none⟩ (.slice gg vk cp)) gI 47 #[.slice none 0 0, .slice none 0 0, .slice none 0 0, .slice none 0 0, .slice gg vk cp] := hO.set 4 (.slice gg vk cp)
            replace hb := hb.setCell (p := ⟨gI, 4, none⟩) (by dsimp only; omega) (.slice gg vk cp)
            have H9 := Lib.hid (ownsRow_setCell_below H2.out (a := ⟨gI, 4, none⟩) (by dsimp only; omega) (.slice gg vk cp))
            refine hK.out _ _ ?_ (fun hHeld6 => ?_)
            · ((try dsimp only); (exact ⟨hA.cell 1, hM.cell 0, hM.cell 1, hM.cell 2, hM.cell 3, hM.cell 4, hM.cell 5, hM.cell 6, hM.cell 7⟩))
            clear hK K
            (try simp only [Act.put, List.setIfInBounds_toArray, List.set_cons_zero, List.set_cons_succ])
            refine wpAnyH_done (by kernel_rfl) ?_ _
            go_wp2_with fail
            go_roundw
            case rel => exact ⟨2, gg, vk, cp, by omega, by go_num, hb, hX, hA, hD, hO9, H9.out⟩
            case measure => simp [intOf] <;> omega
          · (go_simp; try go_wp2_with fail)
            have HN : Hid (∀ j u, ([.int .u8 0, .int .u8 0, .int .u8 1, .int .u8 1, .int .u8 0, .int .u8 0, .int .u8 0, .int .u8 0, .int .i64 1] : List Value)[j]? = some u → (W0.alloc (.cells #[.int .u8 0, .int .u8 0, .int .u8 1, .int .u8 1, .int .u8 0, .int .u8 0, .int .u8 0, .int .u8 0, .int .i64 1] 75)).cell? ((⟨W0.heap.size, 0, none⟩ : Addr).add j) = some u) := Lib.hid (fun j u hu => by
              rw [Addr.add_mid]
              exact (Own.new W0 75 #[.int .u8 0, .int .u8 0, .int .u8 1, .int .u8 1, .int .u8 0, .int .u8 0, .int .u8 0, .int .u8 0, .int .i64 1]).range j u hu)
            have HOn : Hid (∀ u ∈ ([.int .u8 0, .int .u8 0, .int .u8 1, .int .u8 1, .int .u8 0, .int .u8 0, .int .u8 0, .int .u8 0, .int .i64 1] : List Value), u.oneCell' = true) := Lib.hid (by simp [Value.oneCell'])
            replace hBB := below_alloc1 W0 (.cells #[.int .u8 0, .int .u8 0, .int .u8 1, .int .u8 1, .int .u8 0, .int .u8 0, .int .u8 0, .int .u8 0, .int .i64 1] 75)
            refine hK.out _ _ ?_ (fun hHeld3 => ?_)
            · ((try dsimp only); (exact ⟨(hA.keep hBB hA.lt).cell 1, (hM.keep hBB hM.lt).cell 0, (hM.keep hBB hM.lt).cell 1, (hM.keep hBB hM.lt).cell 2, (hM.keep hBB hM.lt).cell 3, (hM.keep hBB hM.lt).cell 4, (hM.keep hBB hM.lt).cell 5, (hM.keep hBB hM.lt).cell 6, (hM.keep hBB hM.lt).cell 7⟩))
            clear hK K
            (try simp only [Act.put, List.setIfInBounds_toArray, List.set_cons_zero, List.set_cons_succ])
            refine hdCall (i := 10) (by kernel_rfl) rfl (fun K hK => ?_)
            have cO := (hO.keep hBB hO.lt).cell 4
            (go_simp; go_wp2_with fail)
            clear cO
            refine hK.out _ _ ?_ (fun hHeld2 => ?_)
            · ((try dsimp only); (exact ⟨(hA.keep hBB hA.lt).cell 1, (hM.keep hBB hM.lt).cell 0, (hM.keep hBB hM.lt).cell 1, (hM.keep hBB hM.lt).cell 2, (hM.keep hBB hM.lt).cell 3, (hM.keep hBB hM.lt).cell 4, (hM.keep hBB hM.lt).cell 5, (hM.keep hBB hM.lt).cell 6, (hM.keep hBB hM.lt).cell 7⟩))
            clear hK K
            (try simp only [Act.put, List.setIfInBounds_toArray, List.set_cons_zero, List.set_cons_succ])
            refine hdCall (i := 14) (by kernel_rfl) rfl (fun K hK => ?_)
            rw [if_pos (by rfl)]
            have hOa := row_keepH HRL.out hBB
            refine wp_append_own_wide _ (.tmp 31) (.tmp 34) 45 rfl (gA + 1) 75 ti tz 9 16 Try.underlying45 HI.out HZ.out HS.out HBt.out HZs.out (by omega) (.slice va vn vc) _ _ rfl hOa ⟨W0.heap.size, 0, none⟩ 1 1 [.int .u8 0, .int .u8 0, .int .u8 1, .int .u8 1, .int .u8 0, .int .u8 0, .int .u8 0, .int .u8 0, .int .i64 1] rfl rfl HN.out HOn.out (by simp only [maxLen]; omega) (by omega) (by have := hBB.size; omega) (fun v' w' h2 h3 h4 => ?_)
            obtain ⟨gg, vk, cp, rfl⟩ : ∃ gg vk cp, v' = .slice gg vk cp := by
              rcases h2.2 with ⟨h0, _⟩ | ⟨g, cap, cur, hv, _⟩
              · exact ⟨_, _, _, h0⟩
              · exact ⟨_, _, _, hv⟩
            have hb0 := below_trans' hb hBB hb.size
            replace hb := grown_below hb0 h3 (fun q e => by have := (hRB q e).1; omega) hb0.size
            replace hX := (hX.keep hBB hX.lt).grown h3 (fun e => by have := hRB _ e.symm; omega)
            replace hA := (hA.keep hBB hA.lt).grown h3 (fun e => by have := hRB _ e.symm; omega)
            replace hD := (hD.keep hBB hD.lt).grown h3 (fun e => by have := hRB _ e.symm; omega)
            replace hO := (hO.keep hBB hO.lt).grown h3 (fun e => by have := hRB _ e.symm; omega)
            replace hM := (hM.keep hBB hM.lt).grown h3 (fun e => by have := hRB _ e.symm; omega)
            have H2 := Lib.hid h2
            clear h2 h3 h4 hOa hb0 hBB HN HOn HRL
            refine hK.out _ _ ?_ (fun hHeld4 => ?_)
            · ((try dsimp only); (exact ⟨hA.cell 1, hM.cell 0, hM.cell 1, hM.cell 2, hM.cell 3, hM.cell 4, hM.cell 5, hM.cell 6, hM.cell 7⟩))
            clear hK K
            (try simp only [Act.put, List.setIfInBounds_toArray, List.set_cons_zero, List.set_cons_succ])
            refine hdCall (i := 15) (by kernel_rfl) rfl (fun K hK => ?_)
            (go_simp; try go_wp2_with fail)
            refine hK.out _ _ ?_ (fun hHeld5 => ?_)
            · ((try dsimp only); (exact ⟨hA.cell 1, hM.cell 0, hM.cell 1, hM.cell 2, hM.cell 3, hM.cell 4, hM.cell 5, hM.cell 6, hM.cell 7⟩))
            clear hK K
            (try simp only [Act.put, List.setIfInBounds_toArray, List.set_cons_zero, List.set_cons_succ])
            (refine hdTake (i := 16) (v := ?_) rfl (by kernel_rfl) (by kernel_rfl) (by kernel_rfl) (fun _ _ _ h => h) (by rfl) ?_ (by assumption) ?_; rotate_left; (intro w hSw; (try dsimp only at hSw); go_simp; (try with_reducible rfl)); (try simp only [Act.put, List.setIfInBounds_toArray, List.set_cons_zero, List.set_cons_succ]))
            refine hdCall (i := 17) (by kernel_rfl) rfl (fun K hK => ?_)
            have cO := hO.cell 4
            have fO := hO.frozen 4
            (go_simp; go_wp2_with fail)
            clear cO fO
            replace hX := hX.far (p := ⟨gI, 4, none⟩) (by dsimp only; omega) (.slice gg vk cp)
            replace hA := hA.far (p := ⟨gI, 4, none⟩) (by dsimp only; omega) (.slice gg vk cp)
            replace hD := hD.far (p := ⟨gI, 4, none⟩) (by dsimp only; omega) (.slice gg vk cp)
            replace hM := hM.far (p := ⟨gI, 4, none⟩) (by dsimp only; omega) (.slice gg vk cp)
            have hO9 : Own (w'.setCell ⟨gI, 4, none⟩ (.slice gg vk cp)) gI 47 #[.slice none 0 0, .slice none 0 0, .slice none 0 0, .slice none 0 0, .slice gg vk cp] := hO.set 4 (.slice gg vk cp)
            replace hb := hb.setCell (p := ⟨gI, 4, none⟩) (by dsimp only; omega) (.slice gg vk cp)
            have H9 := Lib.hid (ownsRow_setCell_below H2.out (a := ⟨gI, 4, none⟩) (by dsimp only; omega) (.slice gg vk cp))
            refine hK.out _ _ ?_ (fun hHeld6 => ?_)
            · ((try dsimp only); (exact ⟨hA.cell 1, hM.cell 0, hM.cell 1, hM.cell 2, hM.cell 3, hM.cell 4, hM.cell 5, hM.cell 6, hM.cell 7⟩))
            clear hK K
            (try simp only [Act.put, List.setIfInBounds_toArray, List.set_cons_zero, List.set_cons_succ])
            refine wpAnyH_done (by kernel_rfl) ?_ _
            go_wp2_with fail
            go_roundw
            case rel => exact ⟨2, gg, vk, cp, by omega, by go_num, hb, hX, hA, hD, hO9, H9.out⟩
            case measure => simp [intOf] <;> omega
        · (go_simp; try go_wp2_with fail)
          have HN : Hid (∀ j u, ([.int .u8 0, .int .u8 0, .int .u8 1, .int .u8 1, .int .u8 0, .int .u8 0, .int .u8 0, .int .u8 0, .int .i64 1] : List Value)[j]? = some u → (W0.alloc (.cells #[.int .u8 0, .int .u8 0, .int .u8 1, .int .u8 1, .int .u8 0, .int .u8 0, .int .u8 0, .int .u8 0, .int .i64 1] 75)).cell? ((⟨W0.heap.size, 0, none⟩ : Addr).add j) = some u) := Lib.hid (fun j u hu => by
            rw [Addr.add_mid]
            exact (Own.new W0 75 #[.int .u8 0, .int .u8 0, .int .u8 1, .int .u8 1, .int .u8 0, .int .u8 0, .int .u8 0, .int .u8 0, .int .i64 1]).range j u hu)
          have HOn : Hid (∀ u ∈ ([.int .u8 0, .int .u8 0, .int .u8 1, .int .u8 1, .int .u8 0, .int .u8 0, .int .u8 0, .int .u8 0, .int .i64 1] : List Value), u.oneCell' = true) := Lib.hid (by simp [Value.oneCell'])
          replace hBB := below_alloc1 W0 (.cells #[.int .u8 0, .int .u8 0, .int .u8 1, .int .u8 1, .int .u8 0, .int .u8 0, .int .u8 0, .int .u8 0, .int .i64 1] 75)
          refine hK.out _ _ ?_ (fun hHeld3 => ?_)
          · ((try dsimp only); (exact ⟨(hA.keep hBB hA.lt).cell 1, (hM.keep hBB hM.lt).cell 0, (hM.keep hBB hM.lt).cell 1, (hM.keep hBB hM.lt).cell 2, (hM.keep hBB hM.lt).cell 3, (hM.keep hBB hM.lt).cell 4, (hM.keep hBB hM.lt).cell 5, (hM.keep hBB hM.lt).cell 6, (hM.keep hBB hM.lt).cell 7⟩))
          clear hK K
          (try simp only [Act.put, List.setIfInBounds_toArray, List.set_cons_zero, List.set_cons_succ])
          refine hdCall (i := 8) (by kernel_rfl) rfl (fun K hK => ?_)
          (go_simp; try go_wp2_with fail)
          refine hK.out _ _ ?_ (fun hHeld1 => ?_)
          · ((try dsimp only); (exact ⟨(hA.keep hBB hA.lt).cell 1, (hM.keep hBB hM.lt).cell 0, (hM.keep hBB hM.lt).cell 1, (hM.keep hBB hM.lt).cell 2, (hM.keep hBB hM.lt).cell 3, (hM.keep hBB hM.lt).cell 4, (hM.keep hBB hM.lt).cell 5, (hM.keep hBB hM.lt).cell 6, (hM.keep hBB hM.lt).cell 7⟩))
          clear hK K
          (try simp only [Act.put, List.setIfInBounds_toArray, List.set_cons_zero, List.set_cons_succ])
          (refine hdTake (i := 9) (v := ?_) rfl (by kernel_rfl) (by kernel_rfl) (by kernel_rfl) (fun _ _ _ h => h) (by rfl) ?_ (by assumption) ?_; rotate_left; (intro w hSw; (try dsimp only at hSw); go_simp; (try with_reducible rfl)); (try simp only [Act.put, List.setIfInBounds_toArray, List.set_cons_zero, List.set_cons_succ]))
          refine hdCall (i := 10) (by kernel_rfl) rfl (fun K hK => ?_)
          have cO := (hO.keep hBB hO.lt).cell 4
          (go_simp; go_wp2_with fail)
          clear cO
          refine hK.out _ _ ?_ (fun hHeld2 => ?_)
          · ((try dsimp only); (exact ⟨(hA.keep hBB hA.lt).cell 1, (hM.keep hBB hM.lt).cell 0, (hM.keep hBB hM.lt).cell 1, (hM.keep hBB hM.lt).cell 2, (hM.keep hBB hM.lt).cell 3, (hM.keep hBB hM.lt).cell 4, (hM.keep hBB hM.lt).cell 5, (hM.keep hBB hM.lt).cell 6, (hM.keep hBB hM.lt).cell 7⟩))
          clear hK K
          (try simp only [Act.put, List.setIfInBounds_toArray, List.set_cons_zero, List.set_cons_succ])
          refine hdCall (i := 14) (by kernel_rfl) rfl (fun K hK => ?_)
          rw [if_pos (by rfl)]
          have hOa := row_keepH HRL.out hBB
          refine wp_append_own_wide _ (.tmp 31) (.tmp 34) 45 rfl (gA + 1) 75 ti tz 9 16 Try.underlying45 HI.out HZ.out HS.out HBt.out HZs.out (by omega) (.slice va vn vc) _ _ rfl hOa ⟨W0.heap.size, 0, none⟩ 1 1 [.int .u8 0, .int .u8 0, .int .u8 1, .int .u8 1, .int .u8 0, .int .u8 0, .int .u8 0, .int .u8 0, .int .i64 1] rfl rfl HN.out HOn.out (by simp only [maxLen]; omega) (by omega) (by have := hBB.size; omega) (fun v' w' h2 h3 h4 => ?_)
          obtain ⟨gg, vk, cp, rfl⟩ : ∃ gg vk cp, v' = .slice gg vk cp := by
            rcases h2.2 with ⟨h0, _⟩ | ⟨g, cap, cur, hv, _⟩
            · exact ⟨_, _, _, h0⟩
            · exact ⟨_, _, _, hv⟩
          have hb0 := below_trans' hb hBB hb.size
          replace hb := grown_below hb0 h3 (fun q e => by have := (hRB q e).1; omega) hb0.size
          replace hX := (hX.keep hBB hX.lt).grown h3 (fun e => by have := hRB _ e.symm; omega)
          replace hA := (hA.keep hBB hA.lt).grown h3 (fun e => by have := hRB _ e.symm; omega)
          replace hD := (hD.keep hBB hD.lt).grown h3 (fun e => by have := hRB _ e.symm; omega)
          replace hO := (hO.keep hBB hO.lt).grown h3 (fun e => by have := hRB _ e.symm; omega)
          replace hM := (hM.keep hBB hM.lt).grown h3 (fun e => by have := hRB _ e.symm; omega)
          have H2 := Lib.hid h2
          clear h2 h3 h4 hOa hb0 hBB HN HOn HRL
          refine hK.out _ _ ?_ (fun hHeld4 => ?_)
          · ((try dsimp only); (exact ⟨hA.cell 1, hM.cell 0, hM.cell 1, hM.cell 2, hM.cell 3, hM.cell 4, hM.cell 5, hM.cell 6, hM.cell 7⟩))
          clear hK K
          (try simp only [Act.put, List.setIfInBounds_toArray, List.set_cons_zero, List.set_cons_succ])
          refine hdCall (i := 15) (by kernel_rfl) rfl (fun K hK => ?_)
          (go_simp; try go_wp2_with fail)
          refine hK.out _ _ ?_ (fun hHeld5 => ?_)
          · ((try dsimp only); (exact ⟨hA.cell 1, hM.cell 0, hM.cell 1, hM.cell 2, hM.cell 3, hM.cell 4, hM.cell 5, hM.cell 6, hM.cell 7⟩))
          clear hK K
          (try simp only [Act.put, List.setIfInBounds_toArray, List.set_cons_zero, List.set_cons_succ])
          (refine hdTake (i := 16) (v := ?_) rfl (by kernel_rfl) (by kernel_rfl) (by kernel_rfl) (fun _ _ _ h => h) (by rfl) ?_ (by assumption) ?_; rotate_left; (intro w hSw; (try dsimp only at hSw); go_simp; (try with_reducible rfl)); (try simp only [Act.put, List.setIfInBounds_toArray, List.set_cons_zero, List.set_cons_succ]))
          refine hdCall (i := 17) (by kernel_rfl) rfl (fun K hK => ?_)
          have cO := hO.cell 4
          have fO := hO.frozen 4
          (go_simp; go_wp2_with fail)
          clear cO fO
          replace hX := hX.far (p := ⟨gI, 4, none⟩) (by dsimp only; omega) (.slice gg vk cp)
          replace hA := hA.far (p := ⟨gI, 4, none⟩) (by dsimp only; omega) (.slice gg vk cp)
          replace hD := hD.far (p := ⟨gI, 4, none⟩) (by dsimp only; omega) (.slice gg vk cp)
          replace hM := hM.far (p := ⟨gI, 4, none⟩) (by dsimp only; omega) (.slice gg vk cp)
          have hO9 : Own (w'.setCell ⟨gI, 4, none⟩ (.slice gg vk cp)) gI 47 #[.slice none 0 0, .slice none 0 0, .slice none 0 0, .slice none 0 0, .slice gg vk cp] := hO.set 4 (.slice gg vk cp)
          replace hb := hb.setCell (p := ⟨gI, 4, none⟩) (by dsimp only; omega) (.slice gg vk cp)
          have H9 := Lib.hid (ownsRow_setCell_below H2.out (a := ⟨gI, 4, none⟩) (by dsimp only; omega) (.slice gg vk cp))
          refine hK.out _ _ ?_ (fun hHeld6 => ?_)
          · ((try dsimp only); (exact ⟨hA.cell 1, hM.cell 0, hM.cell 1, hM.cell 2, hM.cell 3, hM.cell 4, hM.cell 5, hM.cell 6, hM.cell 7⟩))
          clear hK K
          (try simp only [Act.put, List.setIfInBounds_toArray, List.set_cons_zero, List.set_cons_succ])
          refine wpAnyH_done (by kernel_rfl) ?_ _
          go_wp2_with fail
          go_roundw
          case rel => exact ⟨2, gg, vk, cp, by omega, by go_num, hb, hX, hA, hD, hO9, H9.out⟩
          case measure => simp [intOf] <;> omega
    · obtain rfl : k = 2 := by omega
      have cA0 := hA.cell 0
      have cA1 := hA.cell 1
      have c0 := hX.cell 0
      have c1 := hX.cell 1
      have f0 := hX.frozen 0
      have f1 := hX.frozen 1
      have hV : OwnV wr gD wr.heap.size (some ⟨gD, 0, none⟩) 5 (List.replicate 5 1) := ownV_blk hD (by simp) (Nat.le_refl _) hD.lt
      have hVl : Vals wr gD (List.replicate 4 (.slice none 0 0)) (List.replicate 4 []) := by
        have := vals_nils (Vals.nil wr gD) (Nat.le_of_lt hD.lt) 4
        simpa using this
      have hVs : Vals wr gD (List.replicate 4 (.slice none 0 0) ++ [.slice va vn vc]) (List.replicate 4 [] ++ [heiT 2]) := hVl.snoc (C := gA + 1) (fun i u q h1 h2 => by
        rw [List.getElem?_replicate] at h1
        split at h1
        · cases h1
          simp [Value.ownBlock] at h2
        · cases h1) (by omega) hR
      have hF := hVs.ownF (n := 5) rfl hO (fun i v hi => by
        have hi2 : i < 5 := by have := (List.getElem?_eq_some_iff.1 hi).1; simpa using this
        rcases (by omega : i = 0 ∨ i = 1 ∨ i = 2 ∨ i = 3 ∨ i = 4) with rfl | rfl | rfl | rfl | rfl <;> simp_all) (by omega) (fun ts hts t ht => by
        rcases List.mem_append.1 hts with h | h
        · rw [List.eq_of_mem_replicate h] at ht; simp at ht
        · rw [List.mem_singleton.1 h] at ht; exact heiT_tm _ t ht)
      clear hVl hVs hR hD hO
      go_wp2_with fail
      have s2 := (hX.set 0 (.slice (some ⟨gD, 0, none⟩) 5 5)).set 1 (.slice (some ⟨gI, 0, none⟩) 5 5)
      have ht : Touch (fun k => k = gX) wr ((wr.setCell ⟨gX, 0, none⟩ (.slice (some ⟨gD, 0, none⟩) 5 5)).setCell ⟨gX, 1, none⟩ (.slice (some ⟨gI, 0, none⟩) 5 5)) := Touch.of_only (((Only.refl gX _).set 0 _).set 1 _)
      have hV9 := (hV.touch ht (fun g h1 h2 => by omega)).weaken (lo' := w.heap.size) (hi' := ((wr.setCell ⟨gX, 0, none⟩ (.slice (some ⟨gD, 0, none⟩) 5 5)).setCell ⟨gX, 1, none⟩ (.slice (some ⟨gI, 0, none⟩) 5 5)).heap.size) (by omega) (by simp)
      have hF9 := (hF.touch ht (fun g h1 h2 => by omega)).weaken (lo' := w.heap.size) (hi' := ((wr.setCell ⟨gX, 0, none⟩ (.slice (some ⟨gD, 0, none⟩) 5 5)).setCell ⟨gX, 1, none⟩ (.slice (some ⟨gI, 0, none⟩) 5 5)).heap.size) (by omega) (by simp)
      have hb9 := (hb.setCell (p := ⟨gX, 0, none⟩) hwX (.slice (some ⟨gD, 0, none⟩) 5 5)).setCell (p := ⟨gX, 1, none⟩) hwX (.slice (some ⟨gI, 0, none⟩) 5 5)
      exact bodyPost_ret (results_cell_row rfl _ _ gX 25 #[.slice (some ⟨gD, 0, none⟩) 5 5, .slice (some ⟨gI, 0, none⟩) 5 5] (0, 0) _ rfl s2 Try.underlying25 rfl Try.info_alg) rfl ⟨_, _, _, _, _, _, rfl, hV9, hF9, hb9⟩
set_option maxHeartbeats 4000000 in
set_option maxRecDepth 100000 in
theorem heis3_c (w : World) :
    Calls Try.prog 79 #[.int .i64 3] w fun e w' => SpM (List.replicate 7 1) (List.replicate 6 [] ++ [heiT 3]) w e w' := by
  obtain ⟨ti, tz, hti, htz, hts, htb, htzs⟩ := Try.info_termA
  have HI := Lib.hid hti
  have HZ := Lib.hid htz
  have HS := Lib.hid hts
  have HBt := Lib.hid htb
  have HZs := Lib.hid htzs
  clear hti htz hts htb htzs
  have hX := Own.new w 25 #[.slice none 0 0, .slice none 0 0]
  have hb := below_alloc1 w (.cells #[.slice none 0 0, .slice none 0 0] 25)
  go_enter Try.func79, Try.ntmps79
  go_upto_region 1 with fail
  generalize w.alloc (.cells #[.slice none 0 0, .slice none 0 0] 25) = w1 at *
  obtain ⟨gX, hgX⟩ : ∃ g, w.heap.size = g := ⟨_, rfl⟩
  rw [hgX] at hX
  try rw [hgX]
  have hwX : w.heap.size ≤ gX := by omega
  clear hgX
  have hlX := hX.lt
  have hs1 := hb.size
  have hq : Calls Try.prog 78 #[.int .i64 7] w1 fun e w' => SpX ((List.range 7).map oneL) 7 w1 e w' := torus_x 7 w1 (by omega)
  go_wp2_with fail
  refine hq.mono ?_
  rintro e w3 ⟨gD, gI, rfl, hgD, hgI, hD, hO, hb3⟩
  clear hq
  replace hX := hX.keep hb3 hX.lt
  replace hb := below_trans' hb hb3 hb.size
  clear hb3
  have hlI := hO.lt
  have hA := Own.new w3 25 #[.slice (some ⟨gD, 0, none⟩) 7 7, .slice (some ⟨gI, 0, none⟩) 7 7]
  have hba := below_alloc1 w3 (.cells #[.slice (some ⟨gD, 0, none⟩) 7 7, .slice (some ⟨gI, 0, none⟩) 7 7] 25)
  replace hX := hX.keep hba hX.lt
  replace hD := hD.keep hba hD.lt
  replace hO := hO.keep hba hO.lt
  replace hb := below_trans' hb hba hb.size
  clear hba
  go_upto_region 2 with fail
  generalize w3.alloc (.cells #[.slice (some ⟨gD, 0, none⟩) 7 7, .slice (some ⟨gI, 0, none⟩) 7 7] 25) = w4 at *
  obtain ⟨gA, hgA⟩ : ∃ g, w3.heap.size = g := ⟨_, rfl⟩
  rw [hgA] at hA hlI
  try rw [hgA]
  clear hgA
  have hD0 : Own w4 gD 2 (((List.replicate 7 (1 : Int)).map (Value.int .i64)).toArray) := hD
  have hO0 : Own w4 gI 47 #[.slice none 0 0, .slice none 0 0, .slice none 0 0, .slice none 0 0, .slice none 0 0, .slice none 0 0, .slice none 0 0] := hO
  clear hD hO
  go_upto_region 3 with fail
  go_loopw [11] (fun y wr => ∃ (k : Nat) (va : Option Addr) (vn vc : Nat), k ≤ 3 ∧ y = .int .i64 k ∧ Below w.heap.size w wr ∧ Own wr gX 25 #[.slice none 0 0, .slice none 0 0] ∧ Own wr gA 25 #[.slice (some ⟨gD, 0, none⟩) 7 7, .slice (some ⟨gI, 0, none⟩) 7 7] ∧ Own wr gD 2 (((List.replicate 7 (1 : Int)).map (Value.int .i64)).toArray) ∧ Own wr gI 47 #[.slice none 0 0, .slice none 0 0, .slice none 0 0, .slice none 0 0, .slice none 0 0, .slice none 0 0, .slice va vn vc] ∧ wr.ownsRow (gA + 1) 75 9 (.slice va vn vc) k (rcells (heiT k))) (fun y _ => 3 - (intOf y).toNat)
  case atStart => exact ⟨0, none, 0, 0, Nat.zero_le _, rfl, hb, hX, hA, hD0, hO0, World.ownsRow_nil _ _ _ _⟩
  case round =>
    clear hb hX hA hD0 hO0
    obtain ⟨k, va, vn, vc, hk, rfl, hb, hX, hA, hD, hO, hR⟩ := hrel
    by_cases hlt : k < 3
    · obtain rfl | rfl | rfl : k = 0 ∨ k = 1 ∨ k = 2 := by omega
      · have hRB : ∀ q, (Value.slice va vn vc).ownBlock = some q → gA + 1 ≤ q ∧ q < wr.heap.size := fun q e => hR.lt q e
        have HRL := Lib.hid hR
        have hgAM : gA < wr.heap.size := hA.lt
        have hM := Own.new wr 56 #[.int .u8 0, .int .u8 0, .int .u8 0, .int .u8 0, .int .u8 0, .int .u8 0, .int .u8 0, .int .u8 0]
        have hBa := below_alloc1 wr (.cells #[.int .u8 0, .int .u8 0, .int .u8 0, .int .u8 0, .int .u8 0, .int .u8 0, .int .u8 0, .int .u8 0] 56)
        go_upto_region 6 with fail
        generalize wr.alloc (.cells #[.int .u8 0, .int .u8 0, .int .u8 0, .int .u8 0, .int .u8 0, .int .u8 0, .int .u8 0, .int .u8 0] 56) = w5 at *
        obtain ⟨gM, hgM⟩ : ∃ g, wr.heap.size = g := ⟨_, rfl⟩
        have hgM2 : wr.heap.size ≤ gM := by omega
        rw [hgM] at hM hRB
        try rw [hgM]
        clear hgM
        have e0 := hM.cell 0
        have e1 := hM.cell 1
        have e2 := hM.frozen 0
        have e3 := hM.frozen 1
        have hA5 := hA.keep hBa hA.lt
        have cA5 := hA5.cell 1
        go_upto_region 7 with fail
        clear e0 e1 e2 e3 cA5 hA5
        have hM2 : Own ((w5.setCell ⟨gM, 0, none⟩ (.int .u8 1)).setCell ⟨gM, 1, none⟩ (.int .u8 1)) gM 56 #[.int .u8 1, .int .u8 1, .int .u8 0, .int .u8 0, .int .u8 0, .int .u8 0, .int .u8 0, .int .u8 0] := (hM.set 0 (.int .u8 1)).set 1 (.int .u8 1)
        have hB0 := (hBa.setCell (p := ⟨gM, 0, none⟩) hgM2 (.int .u8 1)).setCell (p := ⟨gM, 1, none⟩) hgM2 (.int .u8 1)
        generalize (w5.setCell ⟨gM, 0, none⟩ (.int .u8 1)).setCell ⟨gM, 1, none⟩ (.int .u8 1) = w6 at *
        clear hM hBa
        have hX := hX.keep hB0 hX.lt
        have hA := hA.keep hB0 hA.lt
        have hD := hD.keep hB0 hD.lt
        have hO := hO.keep hB0 hO.lt
        have HRL := Lib.hid (row_keepH HRL.out hB0)
        replace hb := below_trans' hb hB0 hb.size
        clear hB0 hR
        replace hX : Own w6.drew gX 25 #[.slice none 0 0, .slice none 0 0] := hX
        replace hA : Own w6.drew gA 25 #[.slice (some ⟨gD, 0, none⟩) 7 7, .slice (some ⟨gI, 0, none⟩) 7 7] := hA
        replace hD : Own w6.drew gD 2 (((List.replicate 7 (1 : Int)).map (Value.int .i64)).toArray) := hD
        replace hO : Own w6.drew gI 47 #[.slice none 0 0, .slice none 0 0, .slice none 0 0, .slice none 0 0, .slice none 0 0, .slice none 0 0, .slice va vn vc] := hO
        have hM : Own w6.drew gM 56 #[.int .u8 1, .int .u8 1, .int .u8 0, .int .u8 0, .int .u8 0, .int .u8 0, .int .u8 0, .int .u8 0] := hM2
        have hdr : Below w6.heap.size w6 w6.drew := (Below.refl _ _).drew
        replace HRL := Lib.hid (row_keepH HRL.out hdr)
        clear hdr hM2
        replace hb : Below w.heap.size w w6.drew := hb.drew
        refine wp_region_held_drew (S := (fun w' => w'.cell? ⟨gA, 1, none⟩ = some (.slice (some ⟨gI, 0, none⟩) 7 7) ∧ w'.cell? ⟨gM, 0, none⟩ = some (.int .u8 1) ∧ w'.cell? ⟨gM, 1, none⟩ = some (.int .u8 1) ∧ w'.cell? ⟨gM, 2, none⟩ = some (.int .u8 0) ∧ w'.cell? ⟨gM, 3, none⟩ = some (.int .u8 0) ∧ w'.cell? ⟨gM, 4, none⟩ = some (.int .u8 0) ∧ w'.cell? ⟨gM, 5, none⟩ = some (.int .u8 0) ∧ w'.cell? ⟨gM, 6, none⟩ = some (.int .u8 0) ∧ w'.cell? ⟨gM, 7, none⟩ = some (.int .u8 0))) (by kernel_rfl) ?_ (fun hHeld0 => ?_)
        · ((try dsimp only); (exact ⟨hA.cell 1, hM.cell 0, hM.cell 1, hM.cell 2, hM.cell 3, hM.cell 4, hM.cell 5, hM.cell 6, hM.cell 7⟩))
        generalize w6.drew = W0 at *
        have hBB := Below.refl W0.heap.size W0
        have hA0 : gA < W0.heap.size := hA.lt
        (refine hdTake (i := 0) (v := ?_) rfl (by kernel_rfl) (by kernel_rfl) (by kernel_rfl) (fun _ _ _ h => h) (by rfl) ?_ (by assumption) ?_; rotate_left; (intro w hSw; (try dsimp only at hSw); go_simp; (try with_reducible rfl)); (try simp only [Act.put, List.setIfInBounds_toArray, List.set_cons_zero, List.set_cons_succ]))
        (refine hdTake (i := 1) (v := ?_) rfl (by kernel_rfl) (by kernel_rfl) (by kernel_rfl) (fun _ _ _ h => h) (by rfl) ?_ (by assumption) ?_; rotate_left; (intro w hSw; (try dsimp only at hSw); go_simp; (try with_reducible rfl)); (try simp only [Act.put, List.setIfInBounds_toArray, List.set_cons_zero, List.set_cons_succ]))
        (refine hdTake (i := 2) (v := ?_) rfl (by kernel_rfl) (by kernel_rfl) (by kernel_rfl) (fun _ _ _ h => h) (by rfl) ?_ (by assumption) ?_; rotate_left; (intro w hSw; (try dsimp only at hSw); go_simp; (try with_reducible rfl)); (try simp only [Act.put, List.setIfInBounds_toArray, List.set_cons_zero, List.set_cons_succ]))
        (refine hdTake (i := 3) (v := ?_) rfl (by kernel_rfl) (by kernel_rfl) (by kernel_rfl) (fun _ _ _ h => h) (by rfl) ?_ (by assumption) ?_; rotate_left; (intro w hSw; (try dsimp only at hSw); go_simp; (try with_reducible rfl)); (try simp only [Act.put, List.setIfInBounds_toArray, List.set_cons_zero, List.set_cons_succ]))
        (refine hdTake (i := 4) (v := ?_) rfl (by kernel_rfl) (by kernel_rfl) (by kernel_rfl) (fun _ _ _ h => h) (by rfl) ?_ (by assumption) ?_; rotate_left; (intro w hSw; (try dsimp only at hSw); go_simp; (try with_reducible rfl)); (try simp only [Act.put, List.setIfInBounds_toArray, List.set_cons_zero, List.set_cons_succ]))
        (refine hdTake (i := 5) (v := ?_) rfl (by kernel_rfl) (by kernel_rfl) (by kernel_rfl) (fun _ _ _ h => h) (by rfl) ?_ (by assumption) ?_; rotate_left; (intro w hSw; (try dsimp only at hSw); go_simp; (try with_reducible rfl)); (try simp only [Act.put, List.setIfInBounds_toArray, List.set_cons_zero, List.set_cons_succ]))
        (refine hdTake (i := 6) (v := ?_) rfl (by kernel_rfl) (by kernel_rfl) (by kernel_rfl) (fun _ _ _ h => h) (by rfl) ?_ (by assumption) ?_; rotate_left; (intro w hSw; (try dsimp only at hSw); go_simp; (try with_reducible rfl)); (try simp only [Act.put, List.setIfInBounds_toArray, List.set_cons_zero, List.set_cons_succ]))
        (refine hdTake (i := 7) (v := ?_) rfl (by kernel_rfl) (by kernel_rfl) (by kernel_rfl) (fun _ _ _ h => h) (by rfl) ?_ (by assumption) ?_; rotate_left; (intro w hSw; (try dsimp only at hSw); go_simp; (try with_reducible rfl)); (try simp only [Act.put, List.setIfInBounds_toArray, List.set_cons_zero, List.set_cons_succ]))
        (refine hdTake (i := 11) (v := ?_) rfl (by kernel_rfl) (by kernel_rfl) (by kernel_rfl) (fun _ _ _ h => h) (by rfl) ?_ (by assumption) ?_; rotate_left; (intro w hSw; (try dsimp only at hSw); go_simp; (try with_reducible rfl)); (try simp only [Act.put, List.setIfInBounds_toArray, List.set_cons_zero, List.set_cons_succ]))
        (refine hdTake (i := 12) (v := ?_) rfl (by kernel_rfl) (by kernel_rfl) (by kernel_rfl) (fun _ _ _ h => h) (by rfl) ?_ (by assumption) ?_; rotate_left; (intro w hSw; (try dsimp only at hSw); go_simp; (try with_reducible rfl)); (try simp only [Act.put, List.setIfInBounds_toArray, List.set_cons_zero, List.set_cons_succ]))
        refine wpAnyH_ready (rs := [8, 13]) (by kernel_rfl) (by simp) ?_
        refine AllReadyH.cons (hdAt (i := 8) rfl) (fun K hK => ?_) (AllReadyH.cons (hdAt (i := 13) rfl) (fun K hK => ?_) AllReadyH.nil)
        · (go_simp; try go_wp2_with fail)
          refine hK.out _ _ ?_ (fun hHeld1 => ?_)
          · ((try dsimp only); (exact ⟨(hA.keep hBB hA.lt).cell 1, (hM.keep hBB hM.lt).cell 0, (hM.keep hBB hM.lt).cell 1, (hM.keep hBB hM.lt).cell 2, (hM.keep hBB hM.lt).cell 3, (hM.keep hBB hM.lt).cell 4, (hM.keep hBB hM.lt).cell 5, (hM.keep hBB hM.lt).cell 6, (hM.keep hBB hM.lt).cell 7⟩))
          clear hK K
          (try simp only [Act.put, List.setIfInBounds_toArray, List.set_cons_zero, List.set_cons_succ])
          (refine hdTake (i := 9) (v := ?_) rfl (by kernel_rfl) (by kernel_rfl) (by kernel_rfl) (fun _ _ _ h => h) (by rfl) ?_ (by assumption) ?_; rotate_left; (intro w hSw; (try dsimp only at hSw); go_simp; (try with_reducible rfl)); (try simp only [Act.put, List.setIfInBounds_toArray, List.set_cons_zero, List.set_cons_succ]))
          refine wpAnyH_ready (rs := [10, 13]) (by kernel_rfl) (by simp) ?_
          refine AllReadyH.cons (hdAt (i := 10) rfl) (fun K hK => ?_) (AllReadyH.cons (hdAt (i := 13) rfl) (fun K hK => ?_) AllReadyH.nil)
          · have cO := (hO.keep hBB hO.lt).cell 6
            (go_simp; go_wp2_with fail)
            clear cO
            refine hK.out _ _ ?_ (fun hHeld2 => ?_)
            · ((try dsimp only); (exact ⟨(hA.keep hBB hA.lt).cell 1, (hM.keep hBB hM.lt).cell 0, (hM.keep hBB hM.lt).cell 1, (hM.keep hBB hM.lt).cell 2, (hM.keep hBB hM.lt).cell 3, (hM.keep hBB hM.lt).cell 4, (hM.keep hBB hM.lt).cell 5, (hM.keep hBB hM.lt).cell 6, (hM.keep hBB hM.lt).cell 7⟩))
            clear hK K
            (try simp only [Act.put, List.setIfInBounds_toArray, List.set_cons_zero, List.set_cons_succ])
            refine hdCall (i := 13) (by kernel_rfl) rfl (fun K hK => ?_)
            (go_simp; try go_wp2_with fail)
            have HN : Hid (∀ j u, ([.int .u8 1, .int .u8 1, .int .u8 0, .int .u8 0, .int .u8 0, .int .u8 0, .int .u8 0, .int .u8 0, .int .i64 1] : List Value)[j]? = some u → (W0.alloc (.cells #[.int .u8 1, .int .u8 1, .int .u8 0, .int .u8 0, .int .u8 0, .int .u8 0, .int .u8 0, .int .u8 0, .int .i64 1] 75)).cell? ((⟨W0.heap.size, 0, none⟩ : Addr).add j) = some u) := Lib.hid (fun j u hu => by
              rw [Addr.add_mid]
              exact (Own.new W0 75 #[.int .u8 1, .int .u8 1, .int .u8 0, .int .u8 0, .int .u8 0, .int .u8 0, .int .u8 0, .int .u8 0, .int .i64 1]).range j u hu)
            have HOn : Hid (∀ u ∈ ([.int .u8 1, .int .u8 1, .int .u8 0, .int .u8 0, .int .u8 0, .int .u8 0, .int .u8 0, .int .u8 0, .int .i64 1] : List Value), u.oneCell' = true) := Lib.hid (by simp [Value.oneCell'])
            replace hBB := below_alloc1 W0 (.cells #[.int .u8 1, .int .u8 1, .int .u8 0, .int .u8 0, .int .u8 0, .int .u8 0, .int .u8 0, .int .u8 0, .int .i64 1] 75)
            refine hK.out _ _ ?_ (fun hHeld3 => ?_)
            · ((try dsimp only); (exact ⟨(hA.keep hBB hA.lt).cell 1, (hM.keep hBB hM.lt).cell 0, (hM.keep hBB hM.lt).cell 1, (hM.keep hBB hM.lt).cell 2, (hM.keep hBB hM.lt).cell 3, (hM.keep hBB hM.lt).cell 4, (hM.keep hBB hM.lt).cell 5, (hM.keep hBB hM.lt).cell 6, (hM.keep hBB hM.lt).cell 7⟩))
            clear hK K
            (try simp only [Act.put, List.setIfInBounds_toArray, List.set_cons_zero, List.set_cons_succ])
            refine hdCall (i := 14) (by kernel_rfl) rfl (fun K hK => ?_)
            rw [if_pos (by rfl)]
            have hOa := row_keepH HRL.out hBB
            refine wp_append_own_wide _ (.tmp 31) (.tmp 34) 45 rfl (gA + 1) 75 ti tz 9 16 Try.underlying45 HI.out HZ.out HS.out HBt.out HZs.out (by omega) (.slice va vn vc) _ _ rfl hOa ⟨W0.heap.size, 0, none⟩ 1 1 [.int .u8 1, .int .u8 1, .int .u8 0, .int .u8 0, .int .u8 0, .int .u8 0, .int .u8 0, .int .u8 0, .int .i64 1] rfl rfl HN.out HOn.out (by simp only [maxLen]; omega) (by omega) (by have := hBB.size; omega) (fun v' w' h2 h3 h4 => ?_)
            obtain ⟨gg, vk, cp, rfl⟩ : ∃ gg vk cp, v' = .slice gg vk cp := by
              rcases h2.2 with ⟨h0, _⟩ | ⟨g, cap, cur, hv, _⟩
              · exact ⟨_, _, _, h0⟩
              · exact ⟨_, _, _, hv⟩
            have hb0 := below_trans' hb hBB hb.size
            replace hb := grown_below hb0 h3 (fun q e => by have := (hRB q e).1; omega) hb0.size
            replace hX := (hX.keep hBB hX.lt).grown h3 (fun e => by have := hRB _ e.symm; omega)
            replace hA := (hA.keep hBB hA.lt).grown h3 (fun e => by have := hRB _ e.symm; omega)
            replace hD := (hD.keep hBB hD.lt).grown h3 (fun e => by have := hRB _ e.symm; omega)
            replace hO := (hO.keep hBB hO.lt).grown h3 (fun e => by have := hRB _ e.symm; omega)
            replace hM := (hM.keep hBB hM.lt).grown h3 (fun e => by have := hRB _ e.symm; omega)
            have H2 := Lib.hid h2
            clear h2 h3 h4 hOa hb0 hBB HN HOn HRL
            refine hK.out _ _ ?_ (fun hHeld4 => ?_)
            · ((try dsimp only); (exact ⟨hA.cell 1, hM.cell 0, hM.cell 1, hM.cell 2, hM.cell 3, hM.cell 4, hM.cell 5, hM.cell 6, hM.cell 7⟩))
            clear hK K
            (try simp only [Act.put, List.setIfInBounds_toArray, List.set_cons_zero, List.set_cons_succ])
            refine hdCall (i := 15) (by kernel_rfl) rfl (fun K hK => ?_)
            (go_simp; try go_wp2_with fail)
            refine hK.out _ _ ?_ (fun hHeld5 => ?_)
            · ((try dsimp only); (exact ⟨hA.cell 1, hM.cell 0, hM.cell 1, hM.cell 2, hM.cell 3, hM.cell 4, hM.cell 5, hM.cell 6, hM.cell 7⟩))
            clear hK K
            (try simp only [Act.put, List.setIfInBounds_toArray, List.set_cons_zero, List.set_cons_succ])
            (refine hdTake (i := 16) (v := ?_) rfl (by kernel_rfl) (by kernel_rfl) (by kernel_rfl) (fun _ _ _ h => h) (by rfl) ?_ (by assumption) ?_; rotate_left; (intro w hSw; (try dsimp only at hSw); go_simp; (try with_reducible rfl)); (try simp only [Act.put, List.setIfInBounds_toArray, List.set_cons_zero, List.set_cons_succ]))
            refine hdCall (i := 17) (by kernel_rfl) rfl (fun K hK => ?_)
            have cO := hO.cell 6
            have fO := hO.frozen 6
            (go_simp; go_wp2_with fail)
            clear cO fO
            replace hX := hX.far (p := ⟨gI, 6, none⟩) (by dsimp only; omega) (.slice gg vk cp)
            replace hA := hA.far (p := ⟨gI, 6, none⟩) (by dsimp only; omega) (.slice gg vk cp)
            replace hD := hD.far (p := ⟨gI, 6, none⟩) (by dsimp only; omega) (.slice gg vk cp)
            replace hM := hM.far (p := ⟨gI, 6, none⟩) (by dsimp only; omega) (.slice gg vk cp)
            have hO9 : Own (w'.setCell ⟨gI, 6, none⟩ (.slice gg vk cp)) gI 47 #[.slice none 0 0, .slice none 0 0, .slice none 0 0, .slice none 0 0, .slice none 0 0, .slice none 0 0, .slice gg vk cp] := hO.set 6 (.slice gg vk cp)
            replace hb := hb.setCell (p := ⟨gI, 6, none⟩) (by dsimp only; omega) (.slice gg vk cp)
            have H9 := Lib.hid (ownsRow_setCell_below H2.out (a := ⟨gI, 6, none⟩) (by dsimp only; omega) (.slice gg vk cp))
            refine hK.out _ _ ?_ (fun hHeld6 => ?_)
            · ((try dsimp only); (exact ⟨hA.cell 1, hM.cell 0, hM.cell 1, hM.cell 2, hM.cell 3, hM.cell 4, hM.cell 5, hM.cell 6, hM.cell 7⟩))
            clear hK K
            (try simp only [Act.put, List.setIfInBounds_toArray, List.set_cons_zero, List.set_cons_succ])
            refine wpAnyH_done (by kernel_rfl) ?_ _
            go_wp2_with fail
            go_roundw
            case rel => exact ⟨1, gg, vk, cp, by omega, by go_num, hb, hX, hA, hD, hO9, H9.out⟩
            case measure => simp [intOf] <;> omega
          · (go_simp; try go_wp2_with fail)
            have HN : Hid (∀ j u, ([.int .u8 1, .int .u8 1, .int .u8 0, .int .u8 0, .int .u8 0, .int .u8 0, .int .u8 0, .int .u8 0, .int .i64 1] : List Value)[j]? = some u → (W0.alloc (.cells #[.int .u8 1, .int .u8 1, .int .u8 0, .int .u8 0, .int .u8 0, .int .u8 0, .int .u8 0, .int .u8 0, .int .i64 1] 75)).cell? ((⟨W0.heap.size, 0, none⟩ : Addr).add j) = some u) := Lib.hid (fun j u hu => by
              rw [Addr.add_mid]
              exact (Own.new W0 75 #[.int .u8 1, .int .u8 1, .int .u8 0, .int .u8 0, .int .u8 0, .int .u8 0, .int .u8 0, .int .u8 0, .int .i64 1]).range j u hu)
            have HOn : Hid (∀ u ∈ ([.int .u8 1, .int .u8 1, .int .u8 0, .int .u8 0, .int .u8 0, .int .u8 0, .int .u8 0, .int .u8 0, .int .i64 1] : List Value), u.oneCell' = true) := Lib.hid (by simp [Value.oneCell'])
            replace hBB := below_alloc1 W0 (.cells #[.int .u8 1, .int .u8 1, .int .u8 0, .int .u8 0, .int .u8 0, .int .u8 0, .int .u8 0, .int .u8 0, .int .i64 1] 75)
            refine hK.out _ _ ?_ (fun hHeld3 => ?_)
            · ((try dsimp only); (exact ⟨(hA.keep hBB hA.lt).cell 1, (hM.keep hBB hM.lt).cell 0, (hM.keep hBB hM.lt).cell 1, (hM.keep hBB hM.lt).cell 2, (hM.keep hBB hM.lt).cell 3, (hM.keep hBB hM.lt).cell 4, (hM.keep hBB hM.lt).cell 5, (hM.keep hBB hM.lt).cell 6, (hM.keep hBB hM.lt).cell 7⟩))
            clear hK K
            (try simp only [Act.put, List.setIfInBounds_toArray, List.set_cons_zero, List.set_cons_succ])
            refine hdCall (i := 10) (by kernel_rfl) rfl (fun K hK => ?_)
            have cO := (hO.keep hBB hO.lt).cell 6
            (go_simp; go_wp2_with fail)
            clear cO
            refine hK.out _ _ ?_ (fun hHeld2 => ?_)
            · ((try dsimp only); (exact ⟨(hA.keep hBB hA.lt).cell 1, (hM.keep hBB hM.lt).cell 0, (hM.keep hBB hM.lt).cell 1, (hM.keep hBB hM.lt).cell 2, (hM.keep hBB hM.lt).cell 3, (hM.keep hBB hM.lt).cell 4, (hM.keep hBB hM.lt).cell 5, (hM.keep hBB hM.lt).cell 6, (hM.keep hBB hM.lt).cell 7⟩))
            clear hK K
            (try simp only [Act.put, List.setIfInBounds_toArray, List.set_cons_zero, List.set_cons_succ])
            refine hdCall (i := 14) (by kernel_rfl) rfl (fun K hK => ?_)
            rw [if_pos (by rfl)]
            have hOa := row_keepH HRL.out hBB
            refine wp_append_own_wide _ (.tmp 31) (.tmp 34) 45 rfl (gA + 1) 75 ti tz 9 16 Try.underlying45 HI.out HZ.out HS.out HBt.out HZs.out (by omega) (.slice va vn vc) _ _ rfl hOa ⟨W0.heap.size, 0, none⟩ 1 1 [.int .u8 1, .int .u8 1, .int .u8 0, .int .u8 0, .int .u8 0, .int .u8 0, .int .u8 0, .int .u8 0, .int .i64 1] rfl rfl HN.out HOn.out (by simp only [maxLen]; omega) (by omega) (by have := hBB.size; omega) (fun v' w' h2 h3 h4 => ?_)
            obtain ⟨gg, vk, cp, rfl⟩ : ∃ gg vk cp, v' = .slice gg vk cp := by
              rcases h2.2 with ⟨h0, _⟩ | ⟨g, cap, cur, hv, _⟩
              · exact ⟨_, _, _, h0⟩
              · exact ⟨_, _, _, hv⟩
            have hb0 := below_trans' hb hBB hb.size
            replace hb := grown_below hb0 h3 (fun q e => by have := (hRB q e).1; omega) hb0.size
            replace hX := (hX.keep hBB hX.lt).grown h3 (fun e => by have := hRB _ e.symm; omega)
            replace hA := (hA.keep hBB hA.lt).grown h3 (fun e => by have := hRB _ e.symm; omega)
            replace hD := (hD.keep hBB hD.lt).grown h3 (fun e => by have := hRB _ e.symm; omega)
            replace hO := (hO.keep hBB hO.lt).grown h3 (fun e => by have := hRB _ e.symm; omega)
            replace hM := (hM.keep hBB hM.lt).grown h3 (fun e => by have := hRB _ e.symm; omega)
            have H2 := Lib.hid h2
            clear h2 h3 h4 hOa hb0 hBB HN HOn HRL
            refine hK.out _ _ ?_ (fun hHeld4 => ?_)
            · ((try dsimp only); (exact ⟨hA.cell 1, hM.cell 0, hM.cell 1, hM.cell 2, hM.cell 3, hM.cell 4, hM.cell 5, hM.cell 6, hM.cell 7⟩))
            clear hK K
            (try simp only [Act.put, List.setIfInBounds_toArray, List.set_cons_zero, List.set_cons_succ])
            refine hdCall (i := 15) (by kernel_rfl) rfl (fun K hK => ?_)
            (go_simp; try go_wp2_with fail)
            refine hK.out _ _ ?_ (fun hHeld5 => ?_)
            · ((try dsimp only); (exact ⟨hA.cell 1, hM.cell 0, hM.cell 1, hM.cell 2, hM.cell 3, hM.cell 4, hM.cell 5, hM.cell 6, hM.cell 7⟩))
            clear hK K
            (try simp only [Act.put, List.setIfInBounds_toArray, List.set_cons_zero, List.set_cons_succ])
            (refine hdTake (i := 16) (v := ?_) rfl (by kernel_rfl) (by kernel_rfl) (by kernel_rfl) (fun _ _ _ h => h) (by rfl) ?_ (by assumption) ?_; rotate_left; (intro w hSw; (try dsimp only at hSw); go_simp; (try with_reducible rfl)); (try simp only [Act.put, List.setIfInBounds_toArray, List.set_cons_zero, List.set_cons_succ]))
            refine hdCall (i := 17) (by kernel_rfl) rfl (fun K hK => ?_)
            have cO := hO.cell 6
            have fO := hO.frozen 6
            (go_simp; go_wp2_with fail)
            clear cO fO
            replace hX := hX.far (p := ⟨gI, 6, none⟩) (by dsimp only; omega) (.slice gg vk cp)
            replace hA := hA.far (p := ⟨gI, 6, none⟩) (by dsimp only; omega) (.slice gg vk cp)
            replace hD := hD.far (p := ⟨gI, 6, none⟩) (by dsimp only; omega) (.slice gg vk cp)
            replace hM := hM.far (p := ⟨gI, 6, none⟩) (by dsimp only; omega) (.slice gg vk cp)
            have hO9 : Own (w'.setCell ⟨gI, 6, none⟩ (.slice gg vk cp)) gI 47 #[.slice none 0 0, .slice none 0 0, .slice none 0 0, .slice none 0 0, .slice none 0 0, .slice none 0 0, .slice gg vk cp] := hO.set 6 (.slice gg vk cp)
            replace hb := hb.setCell (p := ⟨gI, 6, none⟩) (by dsimp only; omega) (.slice gg vk cp)
            have H9 := Lib.hid (ownsRow_setCell_below H2.out (a := ⟨gI, 6, none⟩) (by dsimp only; omega) (.slice gg vk cp))
            refine hK.out _ _ ?_ (fun hHeld6 => ?_)
            · ((try dsimp only); (exact ⟨hA.cell 1, hM.cell 0, hM.cell 1, hM.cell 2, hM.cell 3, hM.cell 4, hM.cell 5, hM.cell 6, hM.cell 7⟩))
            clear hK K
            (try simp only [Act.put, List.setIfInBounds_toArray, List.set_cons_zero, List.set_cons_succ])
            refine wpAnyH_done (by kernel_rfl) ?_ _
            go_wp2_with fail
            go_roundw
            case rel => exact ⟨1, gg, vk, cp, by omega, by go_num, hb, hX, hA, hD, hO9, H9.out⟩
            case measure => simp [intOf] <;> omega
        · (go_simp; try go_wp2_with fail)
          have HN : Hid (∀ j u, ([.int .u8 1, .int .u8 1, .int .u8 0, .int .u8 0, .int .u8 0, .int .u8 0, .int .u8 0, .int .u8 0, .int .i64 1] : List Value)[j]? = some u → (W0.alloc (.cells #[.int .u8 1, .int .u8 1, .int .u8 0, .int .u8 0, .int .u8 0, .int .u8 0, .int .u8 0, .int .u8 0, .int .i64 1] 75)).cell? ((⟨W0.heap.size, 0, none⟩ : Addr).add j) = some u) := Lib.hid (fun j u hu => by
            rw [Addr.add_mid]
            exact (Own.new W0 75 #[.int .u8 1, .int .u8 1, .int .u8 0, .int .u8 0, .int .u8 0, .int .u8 0, .int .u8 0, .int .u8 0, .int .i64 1]).range j u hu)
          have HOn : Hid (∀ u ∈ ([.int .u8 1, .int .u8 1, .int .u8 0, .int .u8 0, .int .u8 0, .int .u8 0, .int .u8 0, .int .u8 0, .int .i64 1] : List Value), u.oneCell' = true) := Lib.hid (by simp [Value.oneCell'])
          replace hBB := below_alloc1 W0 (.cells #[.int .u8 1, .int .u8 1, .int .u8 0, .int .u8 0, .int .u8 0, .int .u8 0, .int .u8 0, .int .u8 0, .int .i64 1] 75)
          refine hK.out _ _ ?_ (fun hHeld3 => ?_)
          · ((try dsimp only); (exact ⟨(hA.keep hBB hA.lt).cell 1, (hM.keep hBB hM.lt).cell 0, (hM.keep hBB hM.lt).cell 1, (hM.keep hBB hM.lt).cell 2, (hM.keep hBB hM.lt).cell 3, (hM.keep hBB hM.lt).cell 4, (hM.keep hBB hM.lt).cell 5, (hM.keep hBB hM.lt).cell 6, (hM.keep hBB hM.lt).cell 7⟩))
          clear hK K
          (try simp only [Act.put, List.setIfInBounds_toArray, List.set_cons_zero, List.set_cons_succ])
          refine hdCall (i := 8) (by kernel_rfl) rfl (fun K hK => ?_)
          (go_simp; try go_wp2_with fail)
          refine hK.out _ _ ?_ (fun hHeld1 => ?_)
          · ((try dsimp only); (exact ⟨(hA.keep hBB hA.lt).cell 1, (hM.keep hBB hM.lt).cell 0, (hM.keep hBB hM.lt).cell 1, (hM.keep hBB hM.lt).cell 2, (hM.keep hBB hM.lt).cell 3, (hM.keep hBB hM.lt).cell 4, (hM.keep hBB hM.lt).cell 5, (hM.keep hBB hM.lt).cell 6, (hM.keep hBB hM.lt).cell 7⟩))
          clear hK K
          (try simp only [Act.put, List.setIfInBounds_toArray, List.set_cons_zero, List.set_cons_succ])
          (refine hdTake (i := 9) (v := ?_) rfl (by kernel_rfl) (by kernel_rfl) (by kernel_rfl) (fun _ _ _ h => h) (by rfl) ?_ (by assumption) ?_; rotate_left; (intro w hSw; (try dsimp only at hSw); go_simp; (try with_reducible rfl)); (try simp only [Act.put, List.setIfInBounds_toArray, List.set_cons_zero, List.set_cons_succ]))
          refine hdCall (i := 10) (by kernel_rfl) rfl (fun K hK => ?_)
          have cO := (hO.keep hBB hO.lt).cell 6
          (go_simp; go_wp2_with fail)
          clear cO
          refine hK.out _ _ ?_ (fun hHeld2 => ?_)
          · ((try dsimp only); (exact ⟨(hA.keep hBB hA.lt).cell 1, (hM.keep hBB hM.lt).cell 0, (hM.keep hBB hM.lt).cell 1, (hM.keep hBB hM.lt).cell 2, (hM.keep hBB hM.lt).cell 3, (hM.keep hBB hM.lt).cell 4, (hM.keep hBB hM.lt).cell 5, (hM.keep hBB hM.lt).cell 6, (hM.keep hBB hM.lt).cell 7⟩))
          clear hK K
          (try simp only [Act.put, List.setIfInBounds_toArray, List.set_cons_zero, List.set_cons_succ])
          refine hdCall (i := 14) (by kernel_rfl) rfl (fun K hK => ?_)
          rw [if_pos (by rfl)]
          have hOa := row_keepH HRL.out hBB
          refine wp_append_own_wide _ (.tmp 31) (.tmp 34) 45 rfl (gA + 1) 75 ti tz 9 16 Try.underlying45 HI.out HZ.out HS.out HBt.out HZs.out (by omega) (.slice va vn vc) _ _ rfl hOa ⟨W0.heap.size, 0, none⟩ 1 1 [.int .u8 1, .int .u8 1, .int .u8 0, .int .u8 0, .int .u8 0, .int .u8 0, .int .u8 0, .int .u8 0, .int .i64 1] rfl rfl HN.out HOn.out (by simp only [maxLen]; omega) (by omega) (by have := hBB.size; omega) (fun v' w' h2 h3 h4 => ?_)
          obtain ⟨gg, vk, cp, rfl⟩ : ∃ gg vk cp, v' = .slice gg vk cp := by
            rcases h2.2 with ⟨h0, _⟩ | ⟨g, cap, cur, hv, _⟩
            · exact ⟨_, _, _, h0⟩
            · exact ⟨_, _, _, hv⟩
          have hb0 := below_trans' hb hBB hb.size
          replace hb := grown_below hb0 h3 (fun q e => by have := (hRB q e).1; omega) hb0.size
          replace hX := (hX.keep hBB hX.lt).grown h3 (fun e => by have := hRB _ e.symm; omega)
          replace hA := (hA.keep hBB hA.lt).grown h3 (fun e => by have := hRB _ e.symm; omega)
          replace hD := (hD.keep hBB hD.lt).grown h3 (fun e => by have := hRB _ e.symm; omega)
          replace hO := (hO.keep hBB hO.lt).grown h3 (fun e => by have := hRB _ e.symm; omega)
          replace hM := (hM.keep hBB hM.lt).grown h3 (fun e => by have := hRB _ e.symm; omega)
          have H2 := Lib.hid h2
          clear h2 h3 h4 hOa hb0 hBB HN HOn HRL
          refine hK.out _ _ ?_ (fun hHeld4 => ?_)
          · ((try dsimp only); (exact ⟨hA.cell 1, hM.cell 0, hM.cell 1, hM.cell 2, hM.cell 3, hM.cell 4, hM.cell 5, hM.cell 6, hM.cell 7⟩))
          clear hK K
          (try simp only [Act.put, List.setIfInBounds_toArray, List.set_cons_zero, List.set_cons_succ])
          refine hdCall (i := 15) (by kernel_rfl) rfl (fun K hK => ?_)
          (go_simp; try go_wp2_with fail)
          refine hK.out _ _ ?_ (fun hHeld5 => ?_)
          · ((try dsimp only); (exact ⟨hA.cell 1, hM.cell 0, hM.cell 1, hM.cell 2, hM.cell 3, hM.cell 4, hM.cell 5, hM.cell 6, hM.cell 7⟩))
          clear hK K
          (try simp only [Act.put, List.setIfInBounds_toArray, List.set_cons_zero, List.set_cons_succ])
          (refine hdTake (i := 16) (v := ?_) rfl (by kernel_rfl) (by kernel_rfl) (by kernel_rfl) (fun _ _ _ h => h) (by rfl) ?_ (by assumption) ?_; rotate_left; (intro w hSw; (try dsimp only at hSw); go_simp; (try with_reducible rfl)); (try simp only [Act.put, List.setIfInBounds_toArray, List.set_cons_zero, List.set_cons_succ]))
          refine hdCall (i := 17) (by kernel_rfl) rfl (fun K hK => ?_)
          have cO := hO.cell 6
          have fO := hO.frozen 6
          (go_simp; go_wp2_with fail)
          clear cO fO
          replace hX := hX.far (p := ⟨gI, 6, none⟩) (by dsimp only; omega) (.slice gg vk cp)
          replace hA := hA.far (p := ⟨gI, 6, none⟩) (by dsimp only; omega) (.slice gg vk cp)
          replace hD := hD.far (p := ⟨gI, 6, none⟩) (by dsimp only; omega) (.slice gg vk cp)
          replace hM := hM.far (p := ⟨gI, 6, none⟩) (by dsimp only; omega) (.slice gg vk cp)
          have hO9 : Own (w'.setCell ⟨gI, 6, none⟩ (.slice gg vk cp)) gI 47 #[.slice none 0 0, .slice none 0 0, .slice none 0 0, .slice none 0 0, .slice none 0 0, .slice none 0 0, .slice gg vk cp] := hO.set 6 (.slice gg vk cp)
          replace hb := hb.setCell (p := ⟨gI, 6, none⟩) (by dsimp only; omega) (.slice gg vk cp)
          have H9 := Lib.hid (ownsRow_setCell_below H2.out (a := ⟨gI, 6, none⟩) (by dsimp only; omega) (.slice gg vk cp))
          refine hK.out _ _ ?_ (fun hHeld6 => ?_)
          · ((try dsimp only); (exact ⟨hA.cell 1, hM.cell 0, hM.cell 1, hM.cell 2, hM.cell 3, hM.cell 4, hM.cell 5, hM.cell 6, hM.cell 7⟩))
          clear hK K
          (try simp only [Act.put, List.setIfInBounds_toArray, List.set_cons_zero, List.set_cons_succ])
          refine wpAnyH_done (by kernel_rfl) ?_ _
          go_wp2_with fail
          go_roundw
          case rel => exact ⟨1, gg, vk, cp, by omega, by go_num, hb, hX, hA, hD, hO9, H9.out⟩
          case measure => simp [intOf] <;> omega
      · have hRB : ∀ q, (Value.slice va vn vc).ownBlock = some q → gA + 1 ≤ q ∧ q < wr.heap.size := fun q e => hR.lt q e
        have HRL := Lib.hid hR
        have hgAM : gA < wr.heap.size := hA.lt
        have hM := Own.new wr 56 #[.int .u8 0, .int .u8 0, .int .u8 0, .int .u8 0, .int .u8 0, .int .u8 0, .int .u8 0, .int .u8 0]
        have hBa := below_alloc1 wr (.cells #[.int .u8 0, .int .u8 0, .int .u8 0, .int .u8 0, .int .u8 0, .int .u8 0, .int .u8 0, .int .u8 0] 56)
        go_upto_region 6 with fail
        generalize wr.alloc (.cells #[.int .u8 0, .int .u8 0, .int .u8 0, .int .u8 0, .int .u8 0, .int .u8 0, .int .u8 0, .int .u8 0] 56) = w5 at *
        obtain ⟨gM, hgM⟩ : ∃ g, wr.heap.size = g := ⟨_, rfl⟩
        have hgM2 : wr.heap.size ≤ gM := by omega
        rw [hgM] at hM hRB
        try rw [hgM]
        clear hgM
        have e0 := hM.cell 2
        have e1 := hM.cell 3
        have e2 := hM.frozen 2
        have e3 := hM.frozen 3
        have hA5 := hA.keep hBa hA.lt
        have cA5 := hA5.cell 1
        go_upto_region 7 with fail
        clear e0 e1 e2 e3 cA5 hA5
        have hM2 : Own ((w5.setCell ⟨gM, 2, none⟩ (.int .u8 1)).setCell ⟨gM, 3, none⟩ (.int .u8 1)) gM 56 #[.int .u8 0, .int .u8 0, .int .u8 1, .int .u8 1, .int .u8 0, .int .u8 0, .int .u8 0, .int .u8 0] := (hM.set 2 (.int .u8 1)).set 3 (.int .u8 1)
        have hB0 := (hBa.setCell (p := ⟨gM, 2, none⟩) hgM2 (.int .u8 1)).setCell (p := ⟨gM, 3, none⟩) hgM2 (.int .u8 1)
        generalize (w5.setCell ⟨gM, 2, none⟩ (.int .u8 1)).setCell ⟨gM, 3, none⟩ (.int .u8 1) = w6 at *
        clear hM hBa
        have hX := hX.keep hB0 hX.lt
        have hA := hA.keep hB0 hA.lt
        have hD := hD.keep hB0 hD.lt
        have hO := hO.keep hB0 hO.lt
        have HRL := Lib.hid (row_keepH HRL.out hB0)
        replace hb := below_trans' hb hB0 hb.size
        clear hB0 hR
        replace hX : Own w6.drew gX 25 #[.slice none 0 0, .slice none 0 0] := hX
        replace hA : Own w6.drew gA 25 #[.slice (some ⟨gD, 0, none⟩) 7 7, .slice (some ⟨gI, 0, none⟩) 7 7] := hA
        replace hD : Own w6.drew gD 2 (((List.replicate 7 (1 : Int)).map (Value.int .i64)).toArray) := hD
        replace hO : Own w6.drew gI 47 #[.slice none 0 0, .slice none 0 0, .slice none 0 0, .slice none 0 0, .slice none 0 0, .slice none 0 0, .slice va vn vc] := hO
        have hM : Own w6.drew gM 56 #[.int .u8 0, .int .u8 0, .int .u8 1, .int .u8 1, .int .u8 0, .int .u8 0, .int .u8 0, .int .u8 0] := hM2
        have hdr : Below w6.heap.size w6 w6.drew := (Below.refl _ _).drew
        replace HRL := Lib.hid (row_keepH HRL.out hdr)
        clear hdr hM2
        replace hb : Below w.heap.size w w6.drew := hb.drew
        refine wp_region_held_drew (S := (fun w' => w'.cell? ⟨gA, 1, none⟩ = some (.slice (some ⟨gI, 0, none⟩) 7 7) ∧ w'.cell? ⟨gM, 0, none⟩ = some (.int .u8 0) ∧ w'.cell? ⟨gM, 1, none⟩ = some (.int .u8 0) ∧ w'.cell? ⟨gM, 2, none⟩ = some (.int .u8 1) ∧ w'.cell? ⟨gM, 3, none⟩ = some (.int .u8 1) ∧ w'.cell? ⟨gM, 4, none⟩ = some (.int .u8 0) ∧ w'.cell? ⟨gM, 5, none⟩ = some (.int .u8 0) ∧ w'.cell? ⟨gM, 6, none⟩ = some (.int .u8 0) ∧ w'.cell? ⟨gM, 7, none⟩ = some (.int .u8 0))) (by kernel_rfl) ?_ (fun hHeld0 => ?_)
        · ((try dsimp only); (exact ⟨hA.cell 1, hM.cell 0, hM.cell 1, hM.cell 2, hM.cell 3, hM.cell 4, hM.cell 5, hM.cell 6, hM.cell 7⟩))
        generalize w6.drew = W0 at *
        have hBB := Below.refl W0.heap.size W0
        have hA0 : gA < W0.heap.size := hA.lt
        (refine hdTake (i := 0) (v := ?_) rfl (by kernel_rfl) (by kernel_rfl) (by kernel_rfl) (fun _ _ _ h => h) (by rfl) ?_ (by assumption) ?_; rotate_left; (intro w hSw; (try dsimp only at hSw); go_simp; (try with_reducible rfl)); (try simp only [Act.put, List.setIfInBounds_toArray, List.set_cons_zero, List.set_cons_succ]))
        (refine hdTake (i := 1) (v := ?_) rfl (by kernel_rfl) (by kernel_rfl) (by kernel_rfl) (fun _ _ _ h => h) (by rfl) ?_ (by assumption) ?_; rotate_left; (intro w hSw; (try dsimp only at hSw); go_simp; (try with_reducible rfl)); (try simp only [Act.put, List.setIfInBounds_toArray, List.set_cons_zero, List.set_cons_succ]))
        (refine hdTake (i := 2) (v := ?_) rfl (by kernel_rfl) (by kernel_rfl) (by kernel_rfl) (fun _ _ _ h => h) (by rfl) ?_ (by assumption) ?_; rotate_left; (intro w hSw; (try dsimp only at hSw); go_simp; (try with_reducible rfl)); (try simp only [Act.put, List.setIfInBounds_toArray, List.set_cons_zero, List.set_cons_succ]))
        (refine hdTake (i := 3) (v := ?_) rfl (by kernel_rfl) (by kernel_rfl) (by kernel_rfl) (fun _ _ _ h => h) (by rfl) ?_ (by assumption) ?_; rotate_left; (intro w hSw; (try dsimp only at hSw); go_simp; (try with_reducible rfl)); (try simp only [Act.put, List.setIfInBounds_toArray, List.set_cons_zero, List.set_cons_succ]))
        (refine hdTake (i := 4) (v := ?_) rfl (by kernel_rfl) (by kernel_rfl) (by kernel_rfl) (fun _ _ _ h => h) (by rfl) ?_ (by assumption) ?_; rotate_left; (intro w hSw; (try dsimp only at hSw); go_simp; (try with_reducible rfl)); (try simp only [Act.put, List.setIfInBounds_toArray, List.set_cons_zero, List.set_cons_succ]))
        (refine hdTake (i := 5) (v := ?_) rfl (by kernel_rfl) (by kernel_rfl) (by kernel_rfl) (fun _ _ _ h => h) (by rfl) ?_ (by assumption) ?_; rotate_left; (intro w hSw; (try dsimp only at hSw); go_simp; (try with_reducible rfl)); (try simp only [Act.put, List.setIfInBounds_toArray, List.set_cons_zero, List.set_cons_succ]))
        (refine hdTake (i := 6) (v := ?_) rfl (by kernel_rfl) (by kernel_rfl) (by kernel_rfl) (fun _ _ _ h => h) (by rfl) ?_ (by assumption) ?_; rotate_left; (intro w hSw; (try dsimp only at hSw); go_simp; (try with_reducible rfl)); (try simp only [Act.put, List.setIfInBounds_toArray, List.set_cons_zero, List.set_cons_succ]))
        (refine hdTake (i := 7) (v := ?_) rfl (by kernel_rfl) (by kernel_rfl) (by kernel_rfl) (fun _ _ _ h => h) (by rfl) ?_ (by assumption) ?_; rotate_left; (intro w hSw; (try dsimp only at hSw); go_simp; (try with_reducible rfl)); (try simp only [Act.put, List.setIfInBounds_toArray, List.set_cons_zero, List.set_cons_succ]))
        (refine hdTake (i := 11) (v := ?_) rfl (by kernel_rfl) (by kernel_rfl) (by kernel_rfl) (fun _ _ _ h => h) (by rfl) ?_ (by assumption) ?_; rotate_left; (intro w hSw; (try dsimp only at hSw); go_simp; (try with_reducible rfl)); (try simp only [Act.put, List.setIfInBounds_toArray, List.set_cons_zero, List.set_cons_succ]))
        (refine hdTake (i := 12) (v := ?_) rfl (by kernel_rfl) (by kernel_rfl) (by kernel_rfl) (fun _ _ _ h => h) (by rfl) ?_ (by assumption) ?_; rotate_left; (intro w hSw; (try dsimp only at hSw); go_simp; (try with_reducible rfl)); (try simp only [Act.put, List.setIfInBounds_toArray, List.set_cons_zero, List.set_cons_succ]))
        refine wpAnyH_ready (rs := [8, 13]) (by kernel_rfl) (by simp) ?_
        refine AllReadyH.cons (hdAt (i := 8) rfl) (fun K hK => ?_) (AllReadyH.cons (hdAt (i := 13) rfl) (fun K hK => ?_) AllReadyH.nil)
        · (go_simp; try go_wp2_with fail)
          refine hK.out _ _ ?_ (fun hHeld1 => ?_)
          · ((try dsimp only); (exact ⟨(hA.keep hBB hA.lt).cell 1, (hM.keep hBB hM.lt).cell 0, (hM.keep hBB hM.lt).cell 1, (hM.keep hBB hM.lt).cell 2, (hM.keep hBB hM.lt).cell 3, (hM.keep hBB hM.lt).cell 4, (hM.keep hBB hM.lt).cell 5, (hM.keep hBB hM.lt).cell 6, (hM.keep hBB hM.lt).cell 7⟩))
          clear hK K
          (try simp only [Act.put, List.setIfInBounds_toArray, List.set_cons_zero, List.set_cons_succ])
          (refine hdTake (i := 9) (v := ?_) rfl (by kernel_rfl) (by kernel_rfl) (by kernel_rfl) (fun _ _ _ h => h) (by rfl) ?_ (by assumption) ?_; rotate_left; (intro w hSw; (try dsimp only at hSw); go_simp; (try with_reducible rfl)); (try simp only [Act.put, List.setIfInBounds_toArray, List.set_cons_zero, List.set_cons_succ]))
          refine wpAnyH_ready (rs := [10, 13]) (by kernel_rfl) (by simp) ?_
          refine AllReadyH.cons (hdAt (i := 10) rfl) (fun K hK => ?_) (AllReadyH.cons (hdAt (i := 13) rfl) (fun K hK => ?_) AllReadyH.nil)
          · have cO := (hO.keep hBB hO.lt).cell 6
            (go_simp; go_wp2_with fail)
            clear cO
            refine hK.out _ _ ?_ (fun hHeld2 => ?_)
            · ((try dsimp only); (exact ⟨(hA.keep hBB hA.lt).cell 1, (hM.keep hBB hM.lt).cell 0, (hM.keep hBB hM.lt).cell 1, (hM.keep hBB hM.lt).cell 2, (hM.keep hBB hM.lt).cell 3, (hM.keep hBB hM.lt).cell 4, (hM.keep hBB hM.lt).cell 5, (hM.keep hBB hM.lt).cell 6, (hM.keep hBB hM.lt).cell 7⟩))
            clear hK K
            (try simp only [Act.put, List.setIfInBounds_toArray, List.set_cons_zero, List.set_cons_succ])
            refine hdCall (i := 13) (by kernel_rfl) rfl (fun K hK => ?_)
            (go_simp; try go_wp2_with fail)
            have HN : Hid (∀ j u, ([.int .u8 0, .int .u8 0, .int .u8 1, .int .u8 1, .int .u8 0, .int .u8 0, .int .u8 0, .int .u8 0, .int .i64 1] : List Value)[j]? = some u → (W0.alloc (.cells #[.int .u8 0, .int .u8 0, .int .u8 1, .int .u8 1, .int .u8 0, .int .u8 0, .int .u8 0, .int .u8 0, .int .i64 1] 75)).cell? ((⟨W0.heap.size, 0, none⟩ : Addr).add j) = some u) := Lib.hid (fun j u hu => by
              rw [Addr.add_mid]
              exact (Own.new W0 75 #[.int .u8 0, .int .u8 0, .int .u8 1, .int .u8 1, .int .u8 0, .int .u8 0, .int .u8 0, .int .u8 0, .int .i64 1]).range j u hu)
            have HOn : Hid (∀ u ∈ ([.int .u8 0, .int .u8 0, .int .u8 1, .int .u8 1, .int .u8 0, .int .u8 0, .int .u8 0, .int .u8 0, .int .i64 1] : List Value), u.oneCell' = true) := Lib.hid (by simp [Value.oneCell'])
            replace hBB := below_alloc1 W0 (.cells #[.int .u8 0, .int .u8 0, .int .u8 1, .int .u8 1, .int .u8 0, .int .u8 0, .int .u8 0, .int .u8 0, .int .i64 1] 75)
            refine hK.out _ _ ?_ (fun hHeld3 => ?_)
            · ((try dsimp only); (exact ⟨(hA.keep hBB hA.lt).cell 1, (hM.keep hBB hM.lt).cell 0, (hM.keep hBB hM.lt).cell 1, (hM.keep hBB hM.lt).cell 2, (hM.keep hBB hM.lt).cell 3, (hM.keep hBB hM.lt).cell 4, (hM.keep hBB hM.lt).cell 5, (hM.keep hBB hM.lt).cell 6, (hM.keep hBB hM.lt).cell 7⟩))
            clear hK K
            (try simp only [Act.put, List.setIfInBounds_toArray, List.set_cons_zero, List.set_cons_succ])
            refine hdCall (i := 14) (by kernel_rfl) rfl (fun K hK => ?_)
            rw [if_pos (by rfl)]
            have hOa := row_keepH HRL.out hBB
            refine wp_append_own_wide _ (.tmp 31) (.tmp 34) 45 rfl (gA + 1) 75 ti tz 9 16 Try.underlying45 HI.out HZ.out HS.out HBt.out HZs.out (by omega) (.slice va vn vc) _ _ rfl hOa ⟨W0.heap.size, 0, none⟩ 1 1 [.int .u8 0, .int .u8 0, .int .u8 1, .int .u8 1, .int .u8 0, .int .u8 0, .int .u8 0, .int .u8 0, .int .i64 1] rfl rfl HN.out HOn.out (by simp only [maxLen]; omega) (by omega) (by have := hBB.size; omega) (fun v' w' h2 h3 h4 => ?_)
            obtain ⟨gg, vk, cp, rfl⟩ : ∃ gg vk cp, v' = .slice gg vk cp := by
              rcases h2.2 with ⟨h0, _⟩ | ⟨g, cap, cur, hv, _⟩
              · exact ⟨_, _, _, h0⟩
              · exact ⟨_, _, _, hv⟩
            have hb0 := below_trans' hb hBB hb.size
            replace hb := grown_below hb0 h3 (fun q e => by have := (hRB q e).1; omega) hb0.size
            replace hX := (hX.keep hBB hX.lt).grown h3 (fun e => by have := hRB _ e.symm; omega)
            replace hA := (hA.keep hBB hA.lt).grown h3 (fun e => by have := hRB _ e.symm; omega)
            replace hD := (hD.keep hBB hD.lt).grown h3 (fun e => by have := hRB _ e.symm; omega)
            replace hO := (hO.keep hBB hO.lt).grown h3 (fun e => by have := hRB _ e.symm; omega)
            replace hM := (hM.keep hBB hM.lt).grown h3 (fun e => by have := hRB _ e.symm; omega)
            have H2 := Lib.hid h2
            clear h2 h3 h4 hOa hb0 hBB HN HOn HRL
            refine hK.out _ _ ?_ (fun hHeld4 => ?_)
            · ((try dsimp only); (exact ⟨hA.cell 1, hM.cell 0, hM.cell 1, hM.cell 2, hM.cell 3, hM.cell 4, hM.cell 5, hM.cell 6, hM.cell 7⟩))
            clear hK K
            (try simp only [Act.put, List.setIfInBounds_toArray, List.set_cons_zero, List.set_cons_succ])
            refine hdCall (i := 15) (by kernel_rfl) rfl (fun K hK => ?_)
            (go_simp; try go_wp2_with fail)
            refine hK.out _ _ ?_ (fun hHeld5 => ?_)
            · ((try dsimp only); (exact ⟨hA.cell 1, hM.cell 0, hM.cell 1, hM.cell 2, hM.cell 3, hM.cell 4, hM.cell 5, hM.cell 6, hM.cell 7⟩))
            clear hK K
            (try simp only [Act.put, List.setIfInBounds_toArray, List.set_cons_zero, List.set_cons_succ])
            (refine hdTake (i := 16) (v := ?_) rfl (by kernel_rfl) (by kernel_rfl) (by kernel_rfl) (fun _ _ _ h => h) (by rfl) ?_ (by assumption) ?_; rotate_left; (intro w hSw; (try dsimp only at hSw); go_simp; (try with_reducible rfl)); (try simp only [Act.put, List.setIfInBounds_toArray, List.set_cons_zero, List.set_cons_succ]))
            refine hdCall (i := 17) (by kernel_rfl) rfl (fun K hK => ?_)
            have cO := hO.cell 6
            have fO := hO.frozen 6
            (go_simp; go_wp2_with fail)
            clear cO fO
            replace hX := hX.far (p := ⟨gI, 6, none⟩) (by dsimp only; omega) (.slice gg vk cp)
            replace hA := hA.far (p := ⟨gI, 6, none⟩) (by dsimp only; omega) (.slice gg vk cp)
            replace hD := hD.far (p := ⟨gI, 6, none⟩) (by dsimp only; omega) (.slice gg vk cp)
            replace hM := hM.far (p := ⟨gI, 6, none⟩) (by dsimp only; omega) (.slice gg vk cp)
            have hO9 : Own (w'.setCell ⟨gI, 6, none⟩ (.slice gg vk cp)) gI 47 #[.slice none 0 0, .slice none 0 0, .slice none 0 0, .slice none 0 0, .slice none 0 0, .slice none 0 0, .slice gg vk cp] := hO.set 6 (.slice gg vk cp)
            replace hb := hb.setCell (p := ⟨gI, 6, none⟩) (by dsimp only; omega) (.slice gg vk cp)
            have H9 := Lib.hid (ownsRow_setCell_below H2.out (a := ⟨gI, 6, none⟩) (by dsimp only; omega) (.slice gg vk cp))
            refine hK.out _ _ ?_ (fun hHeld6 => ?_)
            · ((try dsimp only); (exact ⟨hA.cell 1, hM.cell 0, hM.cell 1, hM.cell 2, hM.cell 3, hM.cell 4, hM.cell 5, hM.cell 6, hM.cell 7⟩))
            clear hK K
            (try simp only [Act.put, List.setIfInBounds_toArray, List.set_cons_zero, List.set_cons_succ])
            refine wpAnyH_done (by kernel_rfl) ?_ _
            go_wp2_with fail
            go_roundw
            case rel => exact ⟨2, gg, vk, cp, by omega, by go_num, hb, hX, hA, hD, hO9, H9.out⟩
            case measure => simp [intOf] <;> omega
          · (go_simp; try go_wp2_with fail)
            have HN : Hid (∀ j u, ([.int .u8 0, .int .u8 0, .int .u8 1, .int .u8 1, .int .u8 0, .int .u8 0, .int .u8 0, .int .u8 0, .int .i64 1] : List Value)[j]? = some u → (W0.alloc (.cells #[.int .u8 0, .int .u8 0, .int .u8 1, .int .u8 1, .int .u8 0, .int .u8 0, .int .u8 0, .int .u8 0, .int .i64 1] 75)).cell? ((⟨W0.heap.size, 0, none⟩ : Addr).add j) = some u) := Lib.hid (fun j u hu => by
              rw [Addr.add_mid]
              exact (Own.new W0 75 #[.int .u8 0, .int .u8 0, .int .u8 1, .int .u8 1, .int .u8 0, .int .u8 0, .int .u8 0, .int .u8 0, .int .i64 1]).range j u hu)
            have HOn : Hid (∀ u ∈ ([.int .u8 0, .int .u8 0, .int .u8 1, .int .u8 1, .int .u8 0, .int .u8 0, .int .u8 0, .int .u8 0, .int .i64 1] : List Value), u.oneCell' = true) := Lib.hid (by simp [Value.oneCell'])
            replace hBB := below_alloc1 W0 (.cells #[.int .u8 0, .int .u8 0, .int .u8 1, .int .u8 1, .int .u8 0, .int .u8 0, .int .u8 0, .int .u8 0, .int .i64 1] 75)
            refine hK.out _ _ ?_ (fun hHeld3 => ?_)
            · ((try dsimp only); (exact ⟨(hA.keep hBB hA.lt).cell 1, (hM.keep hBB hM.lt).cell 0, (hM.keep hBB hM.lt).cell 1, (hM.keep hBB hM.lt).cell 2, (hM.keep hBB hM.lt).cell 3, (hM.keep hBB hM.lt).cell 4, (hM.keep hBB hM.lt).cell 5, (hM.keep hBB hM.lt).cell 6, (hM.keep hBB hM.lt).cell 7⟩))
            clear hK K
            (try simp only [Act.put, List.setIfInBounds_toArray, List.set_cons_zero, List.set_cons_succ])
            refine hdCall (i := 10) (by kernel_rfl) rfl (fun K hK => ?_)
            have cO := (hO.keep hBB hO.lt).cell 6
            (go_simp; go_wp2_with fail)
            clear cO
            refine hK.out _ _ ?_ (fun hHeld2 => ?_)
            · ((try dsimp only); (exact ⟨(hA.keep hBB hA.lt).cell 1, (hM.keep hBB hM.lt).cell 0, (hM.keep hBB hM.lt).cell 1, (hM.keep hBB hM.lt).cell 2, (hM.keep hBB hM.lt).cell 3, (hM.keep hBB hM.lt).cell 4, (hM.keep hBB hM.lt).cell 5, (hM.keep hBB hM.lt).cell 6, (hM.keep hBB hM.lt).cell 7⟩))
            clear hK K
            (try simp only [Act.put, List.setIfInBounds_toArray, List.set_cons_zero, List.set_cons_succ])
            refine hdCall (i := 14) (by kernel_rfl) rfl (fun K hK => ?_)
            rw [if_pos (by rfl)]
            have hOa := row_keepH HRL.out hBB
            refine wp_append_own_wide _ (.tmp 31) (.tmp 34) 45 rfl (gA + 1) 75 ti tz 9 16 Try.underlying45 HI.out HZ.out HS.out HBt.out HZs.out (by omega) (.slice va vn vc) _ _ rfl hOa ⟨W0.heap.size, 0, none⟩ 1 1 [.int .u8 0, .int .u8 0, .int .u8 1, .int .u8 1, .int .u8 0, .int .u8 0, .int .u8 0, .int .u8 0, .int .i64 1] rfl rfl HN.out HOn.out (by simp only [maxLen]; omega) (by omega) (by have := hBB.size; omega) (fun v' w' h2 h3 h4 => ?_)
            obtain ⟨gg, vk, cp, rfl⟩ : ∃ gg vk cp, v' = .slice gg vk cp := by
              rcases h2.2 with ⟨h0, _⟩ | ⟨g, cap, cur, hv, _⟩
              · exact ⟨_, _, _, h0⟩
              · exact ⟨_, _, _, hv⟩
            have hb0 := below_trans' hb hBB hb.size
            replace hb := grown_below hb0 h3 (fun q e => by have := (hRB q e).1; omega) hb0.size
            replace hX := (hX.keep hBB hX.lt).grown h3 (fun e => by have := hRB _ e.symm; omega)
            replace hA := (hA.keep hBB hA.lt).grown h3 (fun e => by have := hRB _ e.symm; omega)
            replace hD := (hD.keep hBB hD.lt).grown h3 (fun e => by have := hRB _ e.symm; omega)
            replace hO := (hO.keep hBB hO.lt).grown h3 (fun e => by have := hRB _ e.symm; omega)
            replace hM := (hM.keep hBB hM.lt).grown h3 (fun e => by have := hRB _ e.symm; omega)
            have H2 := Lib.hid h2
            clear h2 h3 h4 hOa hb0 hBB HN HOn HRL
            refine hK.out _ _ ?_ (fun hHeld4 => ?_)
            · ((try dsimp only); (exact ⟨hA.cell 1, hM.cell 0, hM.cell 1, hM.cell 2, hM.cell 3, hM.cell 4, hM.cell 5, hM.cell 6, hM.cell 7⟩))
            clear hK K
            (try simp only [Act.put, List.setIfInBounds_toArray, List.set_cons_zero, List.set_cons_succ])
            refine hdCall (i := 15) (by kernel_rfl) rfl (fun K hK => ?_)
            (go_simp; try go_wp2_with fail)
            refine hK.out _ _ ?_ (fun hHeld5 => ?_)
            · ((try dsimp only); (exact ⟨hA.cell 1, hM.cell 0, hM.cell 1, hM.cell 2, hM.cell 3, hM.cell 4, hM.cell 5, hM.cell 6, hM.cell 7⟩))
            clear hK K
            (try simp only [Act.put, List.setIfInBounds_toArray, List.set_cons_zero, List.set_cons_succ])
            (refine hdTake (i := 16) (v := ?_) rfl (by kernel_rfl) (by kernel_rfl) (by kernel_rfl) (fun _ _ _ h => h) (by rfl) ?_ (by assumption) ?_; rotate_left; (intro w hSw; (try dsimp only at hSw); go_simp; (try with_reducible rfl)); (try simp only [Act.put, List.setIfInBounds_toArray, List.set_cons_zero, List.set_cons_succ]))
            refine hdCall (i := 17) (by kernel_rfl) rfl (fun K hK => ?_)
            have cO := hO.cell 6
            have fO := hO.frozen 6
            (go_simp; go_wp2_with fail)
            clear cO fO
            replace hX := hX.far (p := ⟨gI, 6, none⟩) (by dsimp only; omega) (.slice gg vk cp)
            replace hA := hA.far (p := ⟨gI, 6, none⟩) (by dsimp only; omega) (.slice gg vk cp)
            replace hD := hD.far (p := ⟨gI, 6, none⟩) (by dsimp only; omega) (.slice gg vk cp)
            replace hM := hM.far (p := ⟨gI, 6, none⟩) (by dsimp only; omega) (.slice gg vk cp)
            have hO9 : Own (w'.setCell ⟨gI, 6, none⟩ (.slice gg vk cp)) gI 47 #[.slice none 0 0, .slice none 0 0, .slice none 0 0, .slice none 0 0, .slice none 0 0, .slice none 0 0, .slice gg vk cp] := hO.set 6 (.slice gg vk cp)
            replace hb := hb.setCell (p := ⟨gI, 6, none⟩) (by dsimp only; omega) (.slice gg vk cp)
            have H9 := Lib.hid (ownsRow_setCell_below H2.out (a := ⟨gI, 6, none⟩) (by dsimp only; omega) (.slice gg vk cp))
            refine hK.out _ _ ?_ (fun hHeld6 => ?_)
            · ((try dsimp only); (exact ⟨hA.cell 1, hM.cell 0, hM.cell 1, hM.cell 2, hM.cell 3, hM.cell 4, hM.cell 5, hM.cell 6, hM.cell 7⟩))
            clear hK K
            (try simp only [Act.put, List.setIfInBounds_toArray, List.set_cons_zero, List.set_cons_succ])
            refine wpAnyH_done (by kernel_rfl) ?_ _
            go_wp2_with fail
            go_roundw
            case rel => exact ⟨2, gg, vk, cp, by omega, by go_num, hb, hX, hA, hD, hO9, H9.out⟩
            case measure => simp [intOf] <;> omega
        · (go_simp; try go_wp2_with fail)
          have HN : Hid (∀ j u, ([.int .u8 0, .int .u8 0, .int .u8 1, .int .u8 1, .int .u8 0, .int .u8 0, .int .u8 0, .int .u8 0, .int .i64 1] : List Value)[j]? = some u → (W0.alloc (.cells #[.int .u8 0, .int .u8 0, .int .u8 1, .int .u8 1, .int .u8 0, .int .u8 0, .int .u8 0, .int .u8 0, .int .i64 1] 75)).cell? ((⟨W0.heap.size, 0, none⟩ : Addr).add j) = some u) := Lib.hid (fun j u hu => by
            rw [Addr.add_mid]
            exact (Own.new W0 75 #[.int .u8 0, .int .u8 0, .int .u8 1, .int .u8 1, .int .u8 0, .int .u8 0, .int .u8 0, .int .u8 0, .int .i64 1]).range j u hu)
          have HOn : Hid (∀ u ∈ ([.int .u8 0, .int .u8 0, .int .u8 1, .int .u8 1, .int .u8 0, .int .u8 0, .int .u8 0, .int .u8 0, .int .i64 1] : List Value), u.oneCell' = true) := Lib.hid (by simp [Value.oneCell'])
          replace hBB := below_alloc1 W0 (.cells #[.int .u8 0, .int .u8 0, .int .u8 1, .int .u8 1, .int .u8 0, .int .u8 0, .int .u8 0, .int .u8 0, .int .i64 1] 75)
          refine hK.out _ _ ?_ (fun hHeld3 => ?_)
          · ((try dsimp only); (exact ⟨(hA.keep hBB hA.lt).cell 1, (hM.keep hBB hM.lt).cell 0, (hM.keep hBB hM.lt).cell 1, (hM.keep hBB hM.lt).cell 2, (hM.keep hBB hM.lt).cell 3, (hM.keep hBB hM.lt).cell 4, (hM.keep hBB hM.lt).cell 5, (hM.keep hBB hM.lt).cell 6, (hM.keep hBB hM.lt).cell 7⟩))
          clear hK K
          (try simp only [Act.put, List.setIfInBounds_toArray, List.set_cons_zero, List.set_cons_succ])
          refine hdCall (i := 8) (by kernel_rfl) rfl (fun K hK => ?_)
          (go_simp; try go_wp2_with fail)
          refine hK.out _ _ ?_ (fun hHeld1 => ?_)
          · ((try dsimp only); (exact ⟨(hA.keep hBB hA.lt).cell 1, (hM.keep hBB hM.lt).cell 0, (hM.keep hBB hM.lt).cell 1, (hM.keep hBB hM.lt).cell 2, (hM.keep hBB hM.lt).cell 3, (hM.keep hBB hM.lt).cell 4, (hM.keep hBB hM.lt).cell 5, (hM.keep hBB hM.lt).cell 6, (hM.keep hBB hM.lt).cell 7⟩))
          clear hK K
          (try simp only [Act.put, List.setIfInBounds_toArray, List.set_cons_zero, List.set_cons_succ])
          (refine hdTake (i := 9) (v := ?_) rfl (by kernel_rfl) (by kernel_rfl) (by kernel_rfl) (fun _ _ _ h => h) (by rfl) ?_ (by assumption) ?_; rotate_left; (intro w hSw; (try dsimp only at hSw); go_simp; (try with_reducible rfl)); (try simp only [Act.put, List.setIfInBounds_toArray, List.set_cons_zero, List.set_cons_succ]))
          refine hdCall (i := 10) (by kernel_rfl) rfl (fun K hK => ?_)
          have cO := (hO.keep hBB hO.lt).cell 6
          (go_simp; go_wp2_with fail)
          clear cO
          refine hK.out _ _ ?_ (fun hHeld2 => ?_)
          · ((try dsimp only); (exact ⟨(hA.keep hBB hA.lt).cell 1, (hM.keep hBB hM.lt).cell 0, (hM.keep hBB hM.lt).cell 1, (hM.keep hBB hM.lt).cell 2, (hM.keep hBB hM.lt).cell 3, (hM.keep hBB hM.lt).cell 4, (hM.keep hBB hM.lt).cell 5, (hM.keep hBB hM.lt).cell 6, (hM.keep hBB hM.lt).cell 7⟩))
          clear hK K
          (try simp only [Act.put, List.setIfInBounds_toArray, List.set_cons_zero, List.set_cons_succ])
          refine hdCall (i := 14) (by kernel_rfl) rfl (fun K hK => ?_)
          rw [if_pos (by rfl)]
          have hOa := row_keepH HRL.out hBB
          refine wp_append_own_wide _ (.tmp 31) (.tmp 34) 45 rfl (gA + 1) 75 ti tz 9 16 Try.underlying45 HI.out HZ.out HS.out HBt.out HZs.out (by omega) (.slice va vn vc) _ _ rfl hOa ⟨W0.heap.size, 0, none⟩ 1 1 [.int .u8 0, .int .u8 0, .int .u8 1, .int .u8 1, .int .u8 0, .int .u8 0, .int .u8 0, .int .u8 0, .int .i64 1] rfl rfl HN.out HOn.out (by simp only [maxLen]; omega) (by omega) (by have := hBB.size; omega) (fun v' w' h2 h3 h4 => ?_)
          obtain ⟨gg, vk, cp, rfl⟩ : ∃ gg vk cp, v' = .slice gg vk cp := by
            rcases h2.2 with ⟨h0, _⟩ | ⟨g, cap, cur, hv, _⟩
            · exact ⟨_, _, _, h0⟩
            · exact ⟨_, _, _, hv⟩
          have hb0 := below_trans' hb hBB hb.size
          replace hb := grown_below hb0 h3 (fun q e => by have := (hRB q e).1; omega) hb0.size
          replace hX := (hX.keep hBB hX.lt).grown h3 (fun e => by have := hRB _ e.symm; omega)
          replace hA := (hA.keep hBB hA.lt).grown h3 (fun e => by have := hRB _ e.symm; omega)
          replace hD := (hD.keep hBB hD.lt).grown h3 (fun e => by have := hRB _ e.symm; omega)
          replace hO := (hO.keep hBB hO.lt).grown h3 (fun e => by have := hRB _ e.symm; omega)
          replace hM := (hM.keep hBB hM.lt).grown h3 (fun e => by have := hRB _ e.symm; omega)
          have H2 := Lib.hid h2
          clear h2 h3 h4 hOa hb0 hBB HN HOn HRL
          refine hK.out _ _ ?_ (fun hHeld4 => ?_)
          · ((try dsimp only); (exact ⟨hA.cell 1, hM.cell 0, hM.cell 1, hM.cell 2, hM.cell 3, hM.cell 4, hM.cell 5, hM.cell 6, hM.cell 7⟩))
          clear hK K
          (try simp only [Act.put, List.setIfInBounds_toArray, List.set_cons_zero, List.set_cons_succ])
          refine hdCall (i := 15) (by kernel_rfl) rfl (fun K hK => ?_)
          (go_simp; try go_wp2_with fail)
          refine hK.out _ _ ?_ (fun hHeld5 => ?_)
          · ((try dsimp only); (exact ⟨hA.cell 1, hM.cell 0, hM.cell 1, hM.cell 2, hM.cell 3, hM.cell 4, hM.cell 5, hM.cell 6, hM.cell 7⟩))
          clear hK K
          (try simp only [Act.put, List.setIfInBounds_toArray, List.set_cons_zero, List.set_cons_succ])
          (refine hdTake (i := 16) (v := ?_) rfl (by kernel_rfl) (by kernel_rfl) (by kernel_rfl) (fun _ _ _ h => h) (by rfl) ?_ (by assumption) ?_; rotate_left; (intro w hSw; (try dsimp only at hSw); go_simp; (try with_reducible rfl)); (try simp only [Act.put, List.setIfInBounds_toArray, List.set_cons_zero, List.set_cons_succ]))
          refine hdCall (i := 17) (by kernel_rfl) rfl (fun K hK => ?_)
          have cO := hO.cell 6
          have fO := hO.frozen 6
          (go_simp; go_wp2_with fail)
          clear cO fO
          replace hX := hX.far (p := ⟨gI, 6, none⟩) (by dsimp only; omega) (.slice gg vk cp)
          replace hA := hA.far (p := ⟨gI, 6, none⟩) (by dsimp only; omega) (.slice gg vk cp)
          replace hD := hD.far (p := ⟨gI, 6, none⟩) (by dsimp only; omega) (.slice gg vk cp)
          replace hM := hM.far (p := ⟨gI, 6, none⟩) (by dsimp only; omega) (.slice gg vk cp)
          have hO9 : Own (w'.setCell ⟨gI, 6, none⟩ (.slice gg vk cp)) gI 47 #[.slice none 0 0, .slice none 0 0, .slice none 0 0, .slice none 0 0, .slice none 0 0, .slice none 0 0, .slice gg vk cp] := hO.set 6 (.slice gg vk cp)
          replace hb := hb.setCell (p := ⟨gI, 6, none⟩) (by dsimp only; omega) (.slice gg vk cp)
          have H9 := Lib.hid (ownsRow_setCell_below H2.out (a := ⟨gI, 6, none⟩) (by dsimp only; omega) (.slice gg vk cp))
          refine hK.out _ _ ?_ (fun hHeld6 => ?_)
          · ((try dsimp only); (exact ⟨hA.cell 1, hM.cell 0, hM.cell 1, hM.cell 2, hM.cell 3, hM.cell 4, hM.cell 5, hM.cell 6, hM.cell 7⟩))
          clear hK K
          (try simp only [Act.put, List.setIfInBounds_toArray, List.set_cons_zero, List.set_cons_succ])
          refine wpAnyH_done (by kernel_rfl) ?_ _
          go_wp2_with fail
          go_roundw
          case rel => exact ⟨2, gg, vk, cp, by omega, by go_num, hb, hX, hA, hD, hO9, H9.out⟩
          case measure => simp [intOf] <;> omega
      · have hRB : ∀ q, (Value.slice va vn vc).ownBlock = some q → gA + 1 ≤ q ∧ q < wr.heap.size := fun q e => hR.lt q e
        have HRL := Lib.hid hR
        have hgAM : gA < wr.heap.size := hA.lt
        have hM := Own.new wr 56 #[.int .u8 0, .int .u8 0, .int .u8 0, .int .u8 0, .int .u8 0, .int .u8 0, .int .u8 0, .int .u8 0]
        have hBa := below_alloc1 wr (.cells #[.int .u8 0, .int .u8 0, .int .u8 0, .int .u8 0, .int .u8 0, .int .u8 0, .int .u8 0, .int .u8 0] 56)
        go_upto_region 6 with fail
        generalize wr.alloc (.cells #[.int .u8 0, .int .u8 0, .int .u8 0, .int .u8 0, .int .u8 0, .int .u8 0, .int .u8 0, .int .u8 0] 56) = w5 at *
        obtain ⟨gM, hgM⟩ : ∃ g, wr.heap.size = g := ⟨_, rfl⟩
        have hgM2 : wr.heap.size ≤ gM := by omega
        rw [hgM] at hM hRB
        try rw [hgM]
        clear hgM
        have e0 := hM.cell 4
        have e1 := hM.cell 5
        have e2 := hM.frozen 4
        have e3 := hM.frozen 5
        have hA5 := hA.keep hBa hA.lt
        have cA5 := hA5.cell 1
        go_upto_region 7 with fail
        clear e0 e1 e2 e3 cA5 hA5
        have hM2 : Own ((w5.setCell ⟨gM, 4, none⟩ (.int .u8 1)).setCell ⟨gM, 5, none⟩ (.int .u8 1)) gM 56 #[.int .u8 0, .int .u8 0, .int .u8 0, .int .u8 0, .int .u8 1, .int .u8 1, .int .u8 0, .int .u8 0] := (hM.set 4 (.int .u8 1)).set 5 (.int .u8 1)
        have hB0 := (hBa.setCell (p := ⟨gM, 4, none⟩) hgM2 (.int .u8 1)).setCell (p := ⟨gM, 5, none⟩) hgM2 (.int .u8 1)
        generalize (w5.setCell ⟨gM, 4, none⟩ (.int .u8 1)).setCell ⟨gM, 5, none⟩ (.int .u8 1) = w6 at *
        clear hM hBa
        have hX := hX.keep hB0 hX.lt
        have hA := hA.keep hB0 hA.lt
        have hD := hD.keep hB0 hD.lt
        have hO := hO.keep hB0 hO.lt
        have HRL := Lib.hid (row_keepH HRL.out hB0)
        replace hb := below_trans' hb hB0 hb.size
        clear hB0 hR
        replace hX : Own w6.drew gX 25 #[.slice none 0 0, .slice none 0 0] := hX
        replace hA : Own w6.drew gA 25 #[.slice (some ⟨gD, 0, none⟩) 7 7, .slice (some ⟨gI, 0, none⟩) 7 7] := hA
        replace hD : Own w6.drew gD 2 (((List.replicate 7 (1 : Int)).map (Value.int .i64)).toArray) := hD
        replace hO : Own w6.drew gI 47 #[.slice none 0 0, .slice none 0 0, .slice none 0 0, .slice none 0 0, .slice none 0 0, .slice none 0 0, .slice va vn vc] := hO
        have hM : Own w6.drew gM 56 #[.int .u8 0, .int .u8 0, .int .u8 0, .int .u8 0, .int .u8 1, .int .u8 1, .int .u8 0, .int .u8 0] := hM2
        have hdr : Below w6.heap.size w6 w6.drew := (Below.refl _ _).drew
        replace HRL := Lib.hid (row_keepH HRL.out hdr)
        clear hdr hM2
        replace hb : Below w.heap.size w w6.drew := hb.drew
        refine wp_region_held_drew (S := (fun w' => w'.cell? ⟨gA, 1, none⟩ = some (.slice (some ⟨gI, 0, none⟩) 7 7) ∧ w'.cell? ⟨gM, 0, none⟩ = some (.int .u8 0) ∧ w'.cell? ⟨gM, 1, none⟩ = some (.int .u8 0) ∧ w'.cell? ⟨gM, 2, none⟩ = some (.int .u8 0) ∧ w'.cell? ⟨gM, 3, none⟩ = some (.int .u8 0) ∧ w'.cell? ⟨gM, 4, none⟩ = some (.int .u8 1) ∧ w'.cell? ⟨gM, 5, none⟩ = some (.int .u8 1) ∧ w'.cell? ⟨gM, 6, none⟩ = some (.int .u8 0) ∧ w'.cell? ⟨gM, 7, none⟩ = some (.int .u8 0))) (by kernel_rfl) ?_ (fun hHeld0 => ?_)
        · ((try dsimp only); (exact ⟨hA.cell 1, hM.cell 0, hM.cell 1, hM.cell 2, hM.cell 3, hM.cell 4, hM.cell 5, hM.cell 6, hM.cell 7⟩))
        generalize w6.drew = W0 at *
        have hBB := Below.refl W0.heap.size W0
        have hA0 : gA < W0.heap.size := hA.lt
        (refine hdTake (i := 0) (v := ?_) rfl (by kernel_rfl) (by kernel_rfl) (by kernel_rfl) (fun _ _ _ h => h) (by rfl) ?_ (by assumption) ?_; rotate_left; (intro w hSw; (try dsimp only at hSw); go_simp; (try with_reducible rfl)); (try simp only [Act.put, List.setIfInBounds_toArray, List.set_cons_zero, List.set_cons_succ]))
        (refine hdTake (i := 1) (v := ?_) rfl (by kernel_rfl) (by kernel_rfl) (by kernel_rfl) (fun _ _ _ h => h) (by rfl) ?_ (by assumption) ?_; rotate_left; (intro w hSw; (try dsimp only at hSw); go_simp; (try with_reducible rfl)); (try simp only [Act.put, List.setIfInBounds_toArray, List.set_cons_zero, List.set_cons_succ]))
        (refine hdTake (i := 2) (v := ?_) rfl (by kernel_rfl) (by kernel_rfl) (by kernel_rfl) (fun _ _ _ h => h) (by rfl) ?_ (by assumption) ?_; rotate_left; (intro w hSw; (try dsimp only at hSw); go_simp; (try with_reducible rfl)); (try simp only [Act.put, List.setIfInBounds_toArray, List.set_cons_zero, List.set_cons_succ]))
        (refine hdTake (i := 3) (v := ?_) rfl (by kernel_rfl) (by kernel_rfl) (by kernel_rfl) (fun _ _ _ h => h) (by rfl) ?_ (by assumption) ?_; rotate_left; (intro w hSw; (try dsimp only at hSw); go_simp; (try with_reducible rfl)); (try simp only [Act.put, List.setIfInBounds_toArray, List.set_cons_zero, List.set_cons_succ]))
        (refine hdTake (i := 4) (v := ?_) rfl (by kernel_rfl) (by kernel_rfl) (by kernel_rfl) (fun _ _ _ h => h) (by rfl) ?_ (by assumption) ?_; rotate_left; (intro w hSw; (try dsimp only at hSw); go_simp; (try with_reducible rfl)); (try simp only [Act.put, List.setIfInBounds_toArray, List.set_cons_zero, List.set_cons_succ]))
        (refine hdTake (i := 5) (v := ?_) rfl (by kernel_rfl) (by kernel_rfl) (by kernel_rfl) (fun _ _ _ h => h) (by rfl) ?_ (by assumption) ?_; rotate_left; (intro w hSw; (try dsimp only at hSw); go_simp; (try with_reducible rfl)); (try simp only [Act.put, List.setIfInBounds_toArray, List.set_cons_zero, List.set_cons_succ]))
        (refine hdTake (i := 6) (v := ?_) rfl (by kernel_rfl) (by kernel_rfl) (by kernel_rfl) (fun _ _ _ h => h) (by rfl) ?_ (by assumption) ?_; rotate_left; (intro w hSw; (try dsimp only at hSw); go_simp; (try with_reducible rfl)); (try simp only [Act.put, List.setIfInBounds_toArray, List.set_cons_zero, List.set_cons_succ]))
        (refine hdTake (i := 7) (v := ?_) rfl (by kernel_rfl) (by kernel_rfl) (by kernel_rfl) (fun _ _ _ h => h) (by rfl) ?_ (by assumption) ?_; rotate_left; (intro w hSw; (try dsimp only at hSw); go_simp; (try with_reducible rfl)); (try simp only [Act.put, List.setIfInBounds_toArray, List.set_cons_zero, List.set_cons_succ]))
        (refine hdTake (i := 11) (v := ?_) rfl (by kernel_rfl) (by kernel_rfl) (by kernel_rfl) (fun _ _ _ h => h) (by rfl) ?_ (by assumption) ?_; rotate_left; (intro w hSw; (try dsimp only at hSw); go_simp; (try with_reducible rfl)); (try simp only [Act.put, List.setIfInBounds_toArray, List.set_cons_zero, List.set_cons_succ]))
        (refine hdTake (i := 12) (v := ?_) rfl (by kernel_rfl) (by kernel_rfl) (by kernel_rfl) (fun _ _ _ h => h) (by rfl) ?_ (by assumption) ?_; rotate_left; (intro w hSw; (try dsimp only at hSw); go_simp; (try with_reducible rfl)); (try simp only [Act.put, List.setIfInBounds_toArray, List.set_cons_zero, List.set_cons_succ]))
        refine wpAnyH_ready (rs := [8, 13]) (by kernel_rfl) (by simp) ?_
        refine AllReadyH.cons (hdAt (i := 8) rfl) (fun K hK => ?_) (AllReadyH.cons (hdAt (i := 13) rfl) (fun K hK => ?_) AllReadyH.nil)
        · (go_simp; try go_wp2_with fail)
          refine hK.out _ _ ?_ (fun hHeld1 => ?_)
          · ((try dsimp only); (exact ⟨(hA.keep hBB hA.lt).cell 1, (hM.keep hBB hM.lt).cell 0, (hM.keep hBB hM.lt).cell 1, (hM.keep hBB hM.lt).cell 2, (hM.keep hBB hM.lt).cell 3, (hM.keep hBB hM.lt).cell 4, (hM.keep hBB hM.lt).cell 5, (hM.keep hBB hM.lt).cell 6, (hM.keep hBB hM.lt).cell 7⟩))
          clear hK K
          (try simp only [Act.put, List.setIfInBounds_toArray, List.set_cons_zero, List.set_cons_succ])
          (refine hdTake (i := 9) (v := ?_) rfl (by kernel_rfl) (by kernel_rfl) (by kernel_rfl) (fun _ _ _ h => h) (by rfl) ?_ (by assumption) ?_; rotate_left; (intro w hSw; (try dsimp only at hSw); go_simp; (try with_reducible rfl)); (try simp only [Act.put, List.setIfInBounds_toArray, List.set_cons_zero, List.set_cons_succ]))
          refine wpAnyH_ready (rs := [10, 13]) (by kernel_rfl) (by simp) ?_
          refine AllReadyH.cons (hdAt (i := 10) rfl) (fun K hK => ?_) (AllReadyH.cons (hdAt (i := 13) rfl) (fun K hK => ?_) AllReadyH.nil)
          · have cO := (hO.keep hBB hO.lt).cell 6
            (go_simp; go_wp2_with fail)
            clear cO
            refine hK.out _ _ ?_ (fun hHeld2 => ?_)
            · ((try dsimp only); (exact ⟨(hA.keep hBB hA.lt).cell 1, (hM.keep hBB hM.lt).cell 0, (hM.keep hBB hM.lt).cell 1, (hM.keep hBB hM.lt).cell 2, (hM.keep hBB hM.lt).cell 3, (hM.keep hBB hM.lt).cell 4, (hM.keep hBB hM.lt).cell 5, (hM.keep hBB hM.lt).cell 6, (hM.keep hBB hM.lt).cell 7⟩))
            clear hK K
            (try simp only [Act.put, List.setIfInBounds_toArray, List.set_cons_zero, List.set_cons_succ])
            refine hdCall (i := 13) (by kernel_rfl) rfl (fun K hK => ?_)
            (go_simp; try go_wp2_with fail)
            have HN : Hid (∀ j u, ([.int .u8 0, .int .u8 0, .int .u8 0, .int .u8 0, .int .u8 1, .int .u8 1, .int .u8 0, .int .u8 0, .int .i64 1] : List Value)[j]? = some u → (W0.alloc (.cells #[.int .u8 0, .int .u8 0, .int .u8 0, .int .u8 0, .int .u8 1, .int .u8 1, .int .u8 0, .int .u8 0, .int .i64 1] 75)).cell? ((⟨W0.heap.size, 0, none⟩ : Addr).add j) = some u) := Lib.hid (fun j u hu => by
              rw [Addr.add_mid]
              exact (Own.new W0 75 #[.int .u8 0, .int .u8 0, .int .u8 0, .int .u8 0, .int .u8 1, .int .u8 1, .int .u8 0, .int .u8 0, .int .i64 1]).range j u hu)
            have HOn : Hid (∀ u ∈ ([.int .u8 0, .int .u8 0, .int .u8 0, .int .u8 0, .int .u8 1, .int .u8 1, .int .u8 0, .int .u8 0, .int .i64 1] : List Value), u.oneCell' = true) := Lib.hid (by simp [Value.oneCell'])
            replace hBB := below_alloc1 W0 (.cells #[.int .u8 0, .int .u8 0, .int .u8 0, .int .u8 0, .int .u8 1, .int .u8 1, .int .u8 0, .int .u8 0, .int .i64 1] 75)
            refine hK.out _ _ ?_ (fun hHeld3 => ?_)
            · ((try dsimp only); (exact ⟨(hA.keep hBB hA.lt).cell 1, (hM.keep hBB hM.lt).cell 0, (hM.keep hBB hM.lt).cell 1, (hM.keep hBB hM.lt).cell 2, (hM.keep hBB hM.lt).cell 3, (hM.keep hBB hM.lt).cell 4, (hM.keep hBB hM.lt).cell 5, (hM.keep hBB hM.lt).cell 6, (hM.keep hBB hM.lt).cell 7⟩))
            clear hK K
            (try simp only [Act.put, List.setIfInBounds_toArray, List.set_cons_zero, List.set_cons_succ])
            refine hdCall (i := 14) (by kernel_rfl) rfl (fun K hK => ?_)
            rw [if_pos (by rfl)]
            have hOa := row_keepH HRL.out hBB
            refine wp_append_own_wide _ (.tmp 31) (.tmp 34) 45 rfl (gA + 1) 75 ti tz 9 16 Try.underlying45 HI.out HZ.out HS.out HBt.out HZs.out (by omega) (.slice va vn vc) _ _ rfl hOa ⟨W0.heap.size, 0, none⟩ 1 1 [.int .u8 0, .int .u8 0, .int .u8 0, .int .u8 0, .int .u8 1, .int .u8 1, .int .u8 0, .int .u8 0, .int .i64 1] rfl rfl HN.out HOn.out (by simp only [maxLen]; omega) (by omega) (by have := hBB.size; omega) (fun v' w' h2 h3 h4 => ?_)
            obtain ⟨gg, vk, cp, rfl⟩ : ∃ gg vk cp, v' = .slice gg vk cp := by
              rcases h2.2 with ⟨h0, _⟩ | ⟨g, cap, cur, hv, _⟩
              · exact ⟨_, _, _, h0⟩
              · exact ⟨_, _, _, hv⟩
            have hb0 := below_trans' hb hBB hb.size
            replace hb := grown_below hb0 h3 (fun q e => by have := (hRB q e).1; omega) hb0.size
            replace hX := (hX.keep hBB hX.lt).grown h3 (fun e => by have := hRB _ e.symm; omega)
            replace hA := (hA.keep hBB hA.lt).grown h3 (fun e => by have := hRB _ e.symm; omega)
            replace hD := (hD.keep hBB hD.lt).grown h3 (fun e => by have := hRB _ e.symm; omega)
            replace hO := (hO.keep hBB hO.lt).grown h3 (fun e => by have := hRB _ e.symm; omega)
            replace hM := (hM.keep hBB hM.lt).grown h3 (fun e => by have := hRB _ e.symm; omega)
            have H2 := Lib.hid h2
            clear h2 h3 h4 hOa hb0 hBB HN HOn HRL
            refine hK.out _ _ ?_ (fun hHeld4 => ?_)
            · ((try dsimp only); (exact ⟨hA.cell 1, hM.cell 0, hM.cell 1, hM.cell 2, hM.cell 3, hM.cell 4, hM.cell 5, hM.cell 6, hM.cell 7⟩))
            clear hK K
            (try simp only [Act.put, List.setIfInBounds_toArray, List.set_cons_zero, List.set_cons_succ])
            refine hdCall (i := 15) (by kernel_rfl) rfl (fun K hK => ?_)
            (go_simp; try go_wp2_with fail)
            refine hK.out _ _ ?_ (fun hHeld5 => ?_)
            · ((try dsimp only); (exact ⟨hA.cell 1, hM.cell 0, hM.cell 1, hM.cell 2, hM.cell 3, hM.cell 4, hM.cell 5, hM.cell 6, hM.cell 7⟩))
            clear hK K
            (try simp only [Act.put, List.setIfInBounds_toArray, List.set_cons_zero, List.set_cons_succ])
            (refine hdTake (i := 16) (v := ?_) rfl (by kernel_rfl) (by kernel_rfl) (by kernel_rfl) (fun _ _ _ h => h) (by rfl) ?_ (by assumption) ?_; rotate_left; (intro w hSw; (try dsimp only at hSw); go_simp; (try with_reducible rfl)); (try simp only [Act.put, List.setIfInBounds_toArray, List.set_cons_zero, List.set_cons_succ]))
            refine hdCall (i := 17) (by kernel_rfl) rfl (fun K hK => ?_)
            have cO := hO.cell 6
            have fO := hO.frozen 6
            (go_simp; go_wp2_with fail)
            clear cO fO
            replace hX := hX.far (p := ⟨gI, 6, none⟩) (by dsimp only; omega) (.slice gg vk cp)
            replace hA := hA.far (p := ⟨gI, 6, none⟩) (by dsimp only; omega) (.slice gg vk cp)
            replace hD := hD.far (p := ⟨gI, 6, none⟩) (by dsimp only; omega) (.slice gg vk cp)
            replace hM := hM.far (p := ⟨gI, 6, none⟩) (by dsimp only; omega) (.slice gg vk cp)
            have hO9 : Own (w'.setCell ⟨gI, 6, none⟩ (.slice gg vk cp)) gI 47 #[.slice none 0 0, .slice none 0 0, .slice none 0 0, .slice none 0 0, .slice none 0 0, .slice none 0 0, .slice gg vk cp] := hO.set 6 (.slice gg vk cp)
            replace hb := hb.setCell (p := ⟨gI, 6, none⟩) (by dsimp only; omega) (.slice gg vk cp)
            have H9 := Lib.hid (ownsRow_setCell_below H2.out (a := ⟨gI, 6, none⟩) (by dsimp only; omega) (.slice gg vk cp))
            refine hK.out _ _ ?_ (fun hHeld6 => ?_)
            · ((try dsimp only); (exact ⟨hA.cell 1, hM.cell 0, hM.cell 1, hM.cell 2, hM.cell 3, hM.cell 4, hM.cell 5, hM.cell 6, hM.cell 7⟩))
            clear hK K
            (try simp only [Act.put, List.setIfInBounds_toArray, List.set_cons_zero, List.set_cons_succ])
            refine wpAnyH_done (by kernel_rfl) ?_ _
            go_wp2_with fail
            go_roundw
            case rel => exact ⟨3, gg, vk, cp, by omega, by go_num, hb, hX, hA, hD, hO9, H9.out⟩
            case measure => simp [intOf] <;> omega
          · (go_simp; try go_wp2_with fail)
            have HN : Hid (∀ j u, ([.int .u8 0, .int .u8 0, .int .u8 0, .int .u8 0, .int .u8 1, .int .u8 1, .int .u8 0, .int .u8 0, .int .i64 1] : List Value)[j]? = some u → (W0.alloc (.cells #[.int .u8 0, .int .u8 0, .int .u8 0, .int .u8 0, .int .u8 1, .int .u8 1, .int .u8 0, .int .u8 0, .int .i64 1] 75)).cell? ((⟨W0.heap.size, 0, none⟩ : Addr).add j) = some u) := Lib.hid (fun j u hu => by
              rw [Addr.add_mid]
              exact (Own.new W0 75 #[.int .u8 0, .int .u8 0, .int .u8 0, .int .u8 0, .int .u8 1, .int .u8 1, .int .u8 0, .int .u8 0, .int .i64 1]).range j u hu)
            have HOn : Hid (∀ u ∈ ([.int .u8 0, .int .u8 0, .int .u8 0, .int .u8 0, .int .u8 1, .int .u8 1, .int .u8 0, .int .u8 0, .int .i64 1] : List Value), u.oneCell' = true) := Lib.hid (by simp [Value.oneCell'])
            replace hBB := below_alloc1 W0 (.cells #[.int .u8 0, .int .u8 0, .int .u8 0, .int .u8 0, .int .u8 1, .int .u8 1, .int .u8 0, .int .u8 0, .int .i64 1] 75)
            refine hK.out _ _ ?_ (fun hHeld3 => ?_)
            · ((try dsimp only); (exact ⟨(hA.keep hBB hA.lt).cell 1, (hM.keep hBB hM.lt).cell 0, (hM.keep hBB hM.lt).cell 1, (hM.keep hBB hM.lt).cell 2, (hM.keep hBB hM.lt).cell 3, (hM.keep hBB hM.lt).cell 4, (hM.keep hBB hM.lt).cell 5, (hM.keep hBB hM.lt).cell 6, (hM.keep hBB hM.lt).cell 7⟩))
            clear hK K
            (try simp only [Act.put, List.setIfInBounds_toArray, List.set_cons_zero, List.set_cons_succ])
            refine hdCall (i := 10) (by kernel_rfl) rfl (fun K hK => ?_)
            have cO := (hO.keep hBB hO.lt).cell 6
            (go_simp; go_wp2_with fail)
            clear cO
            refine hK.out _ _ ?_ (fun hHeld2 => ?_)
            · ((try dsimp only); (exact ⟨(hA.keep hBB hA.lt).cell 1, (hM.keep hBB hM.lt).cell 0, (hM.keep hBB hM.lt).cell 1, (hM.keep hBB hM.lt).cell 2, (hM.keep hBB hM.lt).cell 3, (hM.keep hBB hM.lt).cell 4, (hM.keep hBB hM.lt).cell 5, (hM.keep hBB hM.lt).cell 6, (hM.keep hBB hM.lt).cell 7⟩))
            clear hK K
            (try simp only [Act.put, List.setIfInBounds_toArray, List.set_cons_zero, List.set_cons_succ])
            refine hdCall (i := 14) (by kernel_rfl) rfl (fun K hK => ?_)
            rw [if_pos (by rfl)]
            have hOa := row_keepH HRL.out hBB
            refine wp_append_own_wide _ (.tmp 31) (.tmp 34) 45 rfl (gA + 1) 75 ti tz 9 16 Try.underlying45 HI.out HZ.out HS.out HBt.out HZs.out (by omega) (.slice va vn vc) _ _ rfl hOa ⟨W0.heap.size, 0, none⟩ 1 1 [.int .u8 0, .int .u8 0, .int .u8 0, .int .u8 0, .int .u8 1, .int .u8 1, .int .u8 0, .int .u8 0, .int .i64 1] rfl rfl HN.out HOn.out (by simp only [maxLen]; omega) (by omega) (by have := hBB.size; omega) (fun v' w' h2 h3 h4 => ?_)
            obtain ⟨gg, vk, cp, rfl⟩ : ∃ gg vk cp, v' = .slice gg vk cp := by
              rcases h2.2 with ⟨h0, _⟩ | ⟨g, cap, cur, hv, _⟩
              · exact ⟨_, _, _, h0⟩
              · exact ⟨_, _, _, hv⟩
            have hb0 := below_trans' hb hBB hb.size
            replace hb := grown_below hb0 h3 (fun q e => by have := (hRB q e).1; omega) hb0.size
            replace hX := (hX.keep hBB hX.lt).grown h3 (fun e => by have := hRB _ e.symm; omega)
            replace hA := (hA.keep hBB hA.lt).grown h3 (fun e => by have := hRB _ e.symm; omega)
            replace hD := (hD.keep hBB hD.lt).grown h3 (fun e => by have := hRB _ e.symm; omega)
            replace hO := (hO.keep hBB hO.lt).grown h3 (fun e => by have := hRB _ e.symm; omega)
            replace hM := (hM.keep hBB hM.lt).grown h3 (fun e => by have := hRB _ e.symm; omega)
            have H2 := Lib.hid h2
            clear h2 h3 h4 hOa hb0 hBB HN HOn HRL
            refine hK.out _ _ ?_ (fun hHeld4 => ?_)
            · ((try dsimp only); (exact ⟨hA.cell 1, hM.cell 0, hM.cell 1, hM.cell 2, hM.cell 3, hM.cell 4, hM.cell 5, hM.cell 6, hM.cell 7⟩))
            clear hK K
            (try simp only [Act.put, List.setIfInBounds_toArray, List.set_cons_zero, List.set_cons_succ])
            refine hdCall (i := 15) (by kernel_rfl) rfl (fun K hK => ?_)
            (go_simp; try go_wp2_with fail)
            refine hK.out _ _ ?_ (fun hHeld5 => ?_)
            · ((try dsimp only); (exact ⟨hA.cell 1, hM.cell 0, hM.cell 1, hM.cell 2, hM.cell 3, hM.cell 4, hM.cell 5, hM.cell 6, hM.cell 7⟩))
            clear hK K
            (try simp only [Act.put, List.setIfInBounds_toArray, List.set_cons_zero, List.set_cons_succ])
            (refine hdTake (i := 16) (v := ?_) rfl (by kernel_rfl) (by kernel_rfl) (by kernel_rfl) (fun _ _ _ h => h) (by rfl) ?_ (by assumption) ?_; rotate_left; (intro w hSw; (try dsimp only at hSw); go_simp; (try with_reducible rfl)); (try simp only [Act.put, List.setIfInBounds_toArray, List.set_cons_zero, List.set_cons_succ]))
            refine hdCall (i := 17) (by kernel_rfl) rfl (fun K hK => ?_)
            have cO := hO.cell 6
            have fO := hO.frozen 6
            (go_simp; go_wp2_with fail)
            clear cO fO
            replace hX := hX.far (p := ⟨gI, 6, none⟩) (by dsimp only; omega) (.slice gg vk cp)
            replace hA := hA.far (p := ⟨gI, 6, none⟩) (by dsimp only; omega) (.slice gg vk cp)
            replace hD := hD.far (p := ⟨gI, 6, none⟩) (by dsimp only; omega) (.slice gg vk cp)
            replace hM := hM.far (p := ⟨gI, 6, none⟩) (by dsimp only; omega) (.slice gg vk cp)
            have hO9 : Own (w'.setCell ⟨gI, 6, none⟩ (.slice gg vk cp)) gI 47 #[.slice none 0 0, .slice none 0 0, .slice none 0 0, .slice none 0 0, .slice none 0 0, .slice none 0 0, .slice gg vk cp] := hO.set 6 (.slice gg vk cp)
            replace hb := hb.setCell (p := ⟨gI, 6, none⟩) (by dsimp only; omega) (.slice gg vk cp)
            have H9 := Lib.hid (ownsRow_setCell_below H2.out (a := ⟨gI, 6, none⟩) (by dsimp only; omega) (.slice gg vk cp))
            refine hK.out _ _ ?_ (fun hHeld6 => ?_)
            · ((try dsimp only); (exact ⟨hA.cell 1, hM.cell 0, hM.cell 1, hM.cell 2, hM.cell 3, hM.cell 4, hM.cell 5, hM.cell 6, hM.cell 7⟩))
            clear hK K
            (try simp only [Act.put, List.setIfInBounds_toArray, List.set_cons_zero, List.set_cons_succ])
            refine wpAnyH_done (by kernel_rfl) ?_ _
            go_wp2_with fail
            go_roundw
            case rel => exact ⟨3, gg, vk, cp, by omega, by go_num, hb, hX, hA, hD, hO9, H9.out⟩
            case measure => simp [intOf] <;> omega
        · (go_simp; try go_wp2_with fail)
          have HN : Hid (∀ j u, ([.int .u8 0, .int .u8 0, .int .u8 0, .int .u8 0, .int .u8 1, .int .u8 1, .int .u8 0, .int .u8 0, .int .i64 1] : List Value)[j]? = some u → (W0.alloc (.cells #[.int .u8 0, .int .u8 0, .int .u8 0, .int .u8 0, .int .u8 1, .int .u8 1, .int .u8 0, .int .u8 0, .int .i64 1] 75)).cell? ((⟨W0.heap.size, 0, none⟩ : Addr).add j) = some u) := Lib.hid (fun j u hu => by
            rw [Addr.add_mid]
            exact (Own.new W0 75 #[.int .u8 0, .int .u8 0, .int .u8 0, .int .u8 0, .int .u8 1, .int .u8 1, .int .u8 0, .int .u8 0, .int .i64 1]).range j u hu)
          have HOn : Hid (∀ u ∈ ([.int .u8 0, .int .u8 0, .int .u8 0, .int .u8 0, .int .u8 1, .int .u8 1, .int .u8 0, .int .u8 0, .int .i64 1] : List Value), u.oneCell' = true) := Lib.hid (by simp [Value.oneCell'])
          replace hBB := below_alloc1 W0 (.cells #[.int .u8 0, .int .u8 0, .int .u8 0, .int .u8 0, .int .u8 1, .int .u8 1, .int .u8 0, .int .u8 0, .int .i64 1] 75)
          refine hK.out _ _ ?_ (fun hHeld3 => ?_)
          · ((try dsimp only); (exact ⟨(hA.keep hBB hA.lt).cell 1, (hM.keep hBB hM.lt).cell 0, (hM.keep hBB hM.lt).cell 1, (hM.keep hBB hM.lt).cell 2, (hM.keep hBB hM.lt).cell 3, (hM.keep hBB hM.lt).cell 4, (hM.keep hBB hM.lt).cell 5, (hM.keep hBB hM.lt).cell 6, (hM.keep hBB hM.lt).cell 7⟩))
          clear hK K
          (try simp only [Act.put, List.setIfInBounds_toArray, List.set_cons_zero, List.set_cons_succ])
          refine hdCall (i := 8) (by kernel_rfl) rfl (fun K hK => ?_)
          (go_simp; try go_wp2_with fail)
          refine hK.out _ _ ?_ (fun hHeld1 => ?_)
          · ((try dsimp only); (exact ⟨(hA.keep hBB hA.lt).cell 1, (hM.keep hBB hM.lt).cell 0, (hM.keep hBB hM.lt).cell 1, (hM.keep hBB hM.lt).cell 2, (hM.keep hBB hM.lt).cell 3, (hM.keep hBB hM.lt).cell 4, (hM.keep hBB hM.lt).cell 5, (hM.keep hBB hM.lt).cell 6, (hM.keep hBB hM.lt).cell 7⟩))
          clear hK K
          (try simp only [Act.put, List.setIfInBounds_toArray, List.set_cons_zero, List.set_cons_succ])
          (refine hdTake (i := 9) (v := ?_) rfl (by kernel_rfl) (by kernel_rfl) (by kernel_rfl) (fun _ _ _ h => h) (by rfl) ?_ (by assumption) ?_; rotate_left; (intro w hSw; (try dsimp only at hSw); go_simp; (try with_reducible rfl)); (try simp only [Act.put, List.setIfInBounds_toArray, List.set_cons_zero, List.set_cons_succ]))
          refine hdCall (i := 10) (by kernel_rfl) rfl (fun K hK => ?_)
          have cO := (hO.keep hBB hO.lt).cell 6
          (go_simp; go_wp2_with fail)
          clear cO
          refine hK.out _ _ ?_ (fun hHeld2 => ?_)
          · ((try dsimp only); (exact ⟨(hA.keep hBB hA.lt).cell 1, (hM.keep hBB hM.lt).cell 0, (hM.keep hBB hM.lt).cell 1, (hM.keep hBB hM.lt).cell 2, (hM.keep hBB hM.lt).cell 3, (hM.keep hBB hM.lt).cell 4, (hM.keep hBB hM.lt).cell 5, (hM.keep hBB hM.lt).cell 6, (hM.keep hBB hM.lt).cell 7⟩))
          clear hK K
          (try simp only [Act.put, List.setIfInBounds_toArray, List.set_cons_zero, List.set_cons_succ])
          refine hdCall (i := 14) (by kernel_rfl) rfl (fun K hK => ?_)
          rw [if_pos (by rfl)]
          have hOa := row_keepH HRL.out hBB
          refine wp_append_own_wide _ (.tmp 31) (.tmp 34) 45 rfl (gA + 1) 75 ti tz 9 16 Try.underlying45 HI.out HZ.out HS.out HBt.out HZs.out (by omega) (.slice va vn vc) _ _ rfl hOa ⟨W0.heap.size, 0, none⟩ 1 1 [.int .u8 0, .int .u8 0, .int .u8 0, .int .u8 0, .int .u8 1, .int .u8 1, .int .u8 0, .int .u8 0, .int .i64 1] rfl rfl HN.out HOn.out (by simp only [maxLen]; omega) (by omega) (by have := hBB.size; omega) (fun v' w' h2 h3 h4 => ?_)
          obtain ⟨gg, vk, cp, rfl⟩ : ∃ gg vk cp, v' = .slice gg vk cp := by
            rcases h2.2 with ⟨h0, _⟩ | ⟨g, cap, cur, hv, _⟩
            · exact ⟨_, _, _, h0⟩
            · exact ⟨_, _, _, hv⟩
          have hb0 := below_trans' hb hBB hb.size
          replace hb := grown_below hb0 h3 (fun q e => by have := (hRB q e).1; omega) hb0.size
          replace hX := (hX.keep hBB hX.lt).grown h3 (fun e => by have := hRB _ e.symm; omega)
          replace hA := (hA.keep hBB hA.lt).grown h3 (fun e => by have := hRB _ e.symm; omega)
          replace hD := (hD.keep hBB hD.lt).grown h3 (fun e => by have := hRB _ e.symm; omega)
          replace hO := (hO.keep hBB hO.lt).grown h3 (fun e => by have := hRB _ e.symm; omega)
          replace hM := (hM.keep hBB hM.lt).grown h3 (fun e => by have := hRB _ e.symm; omega)
          have H2 := Lib.hid h2
          clear h2 h3 h4 hOa hb0 hBB HN HOn HRL
          refine hK.out _ _ ?_ (fun hHeld4 => ?_)
          · ((try dsimp only); (exact ⟨hA.cell 1, hM.cell 0, hM.cell 1, hM.cell 2, hM.cell 3, hM.cell 4, hM.cell 5, hM.cell 6, hM.cell 7⟩))
          clear hK K
          (try simp only [Act.put, List.setIfInBounds_toArray, List.set_cons_zero, List.set_cons_succ])
          refine hdCall (i := 15) (by kernel_rfl) rfl (fun K hK => ?_)
          (go_simp; try go_wp2_with fail)
          refine hK.out _ _ ?_ (fun hHeld5 => ?_)
          · ((try dsimp only); (exact ⟨hA.cell 1, hM.cell 0, hM.cell 1, hM.cell 2, hM.cell 3, hM.cell 4, hM.cell 5, hM.cell 6, hM.cell 7⟩))
          clear hK K
          (try simp only [Act.put, List.setIfInBounds_toArray, List.set_cons_zero, List.set_cons_succ])
          (refine hdTake (i := 16) (v := ?_) rfl (by kernel_rfl) (by kernel_rfl) (by kernel_rfl) (fun _ _ _ h => h) (by rfl) ?_ (by assumption) ?_; rotate_left; (intro w hSw; (try dsimp only at hSw); go_simp; (try with_reducible rfl)); (try simp only [Act.put, List.setIfInBounds_toArray, List.set_cons_zero, List.set_cons_succ]))
          refine hdCall (i := 17) (by kernel_rfl) rfl (fun K hK => ?_)
          have cO := hO.cell 6
          have fO := hO.frozen 6
          (go_simp; go_wp2_with fail)
          clear cO fO
          replace hX := hX.far (p := ⟨gI, 6, none⟩) (by dsimp only; omega) (.slice gg vk cp)
          replace hA := hA.far (p := ⟨gI, 6, none⟩) (by dsimp only; omega) (.slice gg vk cp)
          replace hD := hD.far (p := ⟨gI, 6, none⟩) (by dsimp only; omega) (.slice gg vk cp)
          replace hM := hM.far (p := ⟨gI, 6, none⟩) (by dsimp only; omega) (.slice gg vk cp)
          have hO9 : Own (w'.setCell ⟨gI, 6, none⟩ (.slice gg vk cp)) gI 47 #[.slice none 0 0, .slice none 0 0, .slice none 0 0, .slice none 0 0, .slice none 0 0, .slice none 0 0, .slice gg vk cp] := hO.set 6 (.slice gg vk cp)
          replace hb := hb.setCell (p := ⟨gI, 6, none⟩) (by dsimp only; omega) (.slice gg vk cp)
          have H9 := Lib.hid (ownsRow_setCell_below H2.out (a := ⟨gI, 6, none⟩) (by dsimp only; omega) (.slice gg vk cp))
          refine hK.out _ _ ?_ (fun hHeld6 => ?_)
          · ((try dsimp only); (exact ⟨hA.cell 1, hM.cell 0, hM.cell 1, hM.cell 2, hM.cell 3, hM.cell 4, hM.cell 5, hM.cell 6, hM.cell 7⟩))
          clear hK K
          (try simp only [Act.put, List.setIfInBounds_toArray, List.set_cons_zero, List.set_cons_succ])
          refine wpAnyH_done (by kernel_rfl) ?_ _
          go_wp2_with fail
          go_roundw
          case rel => exact ⟨3, gg, vk, cp, by omega, by go_num, hb, hX, hA, hD, hO9, H9.out⟩
          case measure => simp [intOf] <;> omega
    · obtain rfl : k = 3 := by omega
      have cA0 := hA.cell 0
      have cA1 := hA.cell 1
      have c0 := hX.cell 0
      have c1 := hX.cell 1
      have f0 := hX.frozen 0
      have f1 := hX.frozen 1
      have hV : OwnV wr gD wr.heap.size (some ⟨gD, 0, none⟩) 7 (List.replicate 7 1) := ownV_blk hD (by simp) (Nat.le_refl _) hD.lt
      have hVl : Vals wr gD (List.replicate 6 (.slice none 0 0)) (List.replicate 6 []) := by
        have := vals_nils (Vals.nil wr gD) (Nat.le_of_lt hD.lt) 6
        simpa using this
      have hVs : Vals wr gD (List.replicate 6 (.slice none 0 0) ++ [.slice va vn vc]) (List.replicate 6 [] ++ [heiT 3]) := hVl.snoc (C := gA + 1) (fun i u q h1 h2 => by
        rw [List.getElem?_replicate] at h1
        split at h1
        · cases h1
          simp [Value.ownBlock] at h2
        · cases h1) (by omega) hR
      have hF := hVs.ownF (n := 7) rfl hO (fun i v hi => by
        have hi2 : i < 7 := by have := (List.getElem?_eq_some_iff.1 hi).1; simpa using this
        rcases (by omega : i = 0 ∨ i = 1 ∨ i = 2 ∨ i = 3 ∨ i = 4 ∨ i = 5 ∨ i = 6) with rfl | rfl | rfl | rfl | rfl | rfl | rfl <;> simp_all) (by omega) (fun ts hts t ht => by
        rcases List.mem_append.1 hts with h | h
        · rw [List.eq_of_mem_replicate h] at ht; simp at ht
        · rw [List.mem_singleton.1 h] at ht; exact heiT_tm _ t ht)
      clear hVl hVs hR hD hO
      go_wp2_with fail
      have s2 := (hX.set 0 (.slice (some ⟨gD, 0, none⟩) 7 7)).set 1 (.slice (some ⟨gI, 0, none⟩) 7 7)
      have ht : Touch (fun k => k = gX) wr ((wr.setCell ⟨gX, 0, none⟩ (.slice (some ⟨gD, 0, none⟩) 7 7)).setCell ⟨gX, 1, none⟩ (.slice (some ⟨gI, 0, none⟩) 7 7)) := Touch.of_only (((Only.refl gX _).set 0 _).set 1 _)
      have hV9 := (hV.touch ht (fun g h1 h2 => by omega)).weaken (lo' := w.heap.size) (hi' := ((wr.setCell ⟨gX, 0, none⟩ (.slice (some ⟨gD, 0, none⟩) 7 7)).setCell ⟨gX, 1, none⟩ (.slice (some ⟨gI, 0, none⟩) 7 7)).heap.size) (by omega) (by simp)
      have hF9 := (hF.touch ht (fun g h1 h2 => by omega)).weaken (lo' := w.heap.size) (hi' := ((wr.setCell ⟨gX, 0, none⟩ (.slice (some ⟨gD, 0, none⟩) 7 7)).setCell ⟨gX, 1, none⟩ (.slice (some ⟨gI, 0, none⟩) 7 7)).heap.size) (by omega) (by simp)
      have hb9 := (hb.setCell (p := ⟨gX, 0, none⟩) hwX (.slice (some ⟨gD, 0, none⟩) 7 7)).setCell (p := ⟨gX, 1, none⟩) hwX (.slice (some ⟨gI, 0, none⟩) 7 7)
      exact bodyPost_ret (results_cell_row rfl _ _ gX 25 #[.slice (some ⟨gD, 0, none⟩) 7 7, .slice (some ⟨gI, 0, none⟩) 7 7] (0, 0) _ rfl s2 Try.underlying25 rfl Try.info_alg) rfl ⟨_, _, _, _, _, _, rfl, hV9, hF9, hb9⟩
end Go.Proofs.Ytmijeojlighnaaa
