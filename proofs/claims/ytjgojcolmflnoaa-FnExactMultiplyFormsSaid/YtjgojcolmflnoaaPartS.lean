/- The part of a form of a degree: the model's. -/
import Derived.Test.YtjgojcolmflnoaaPart
import Derived.Test.YtjgojcolmflnoaaHeld
namespace Go.Proofs.Ytjgojcolmflnoaa
open Go.RowKit Go.Deep

theorem cellsP {w' : World} {F b off n c k : Nat} {t : TypeId} {p0 p1 p2 p3 p4 p5 p6 p7 ft : Int} (hF : Own w' F t #[.slice (some ⟨b, off, none⟩) n c]) (hr : w'.rangeAt b (off + k * 9) (tcells ⟨[p0, p1, p2, p3, p4, p5, p6, p7], ft⟩)) : w'.cell? ⟨F, 0, none⟩ = some (.slice (some ⟨b, off, none⟩) n c) ∧ w'.cell? ⟨b, off + k * 9, none⟩ = some (.int .u8 p0) ∧ w'.cell? ⟨b, off + k * 9 + 1, none⟩ = some (.int .u8 p1) ∧ w'.cell? ⟨b, off + k * 9 + 2, none⟩ = some (.int .u8 p2) ∧ w'.cell? ⟨b, off + k * 9 + 3, none⟩ = some (.int .u8 p3) ∧ w'.cell? ⟨b, off + k * 9 + 4, none⟩ = some (.int .u8 p4) ∧ w'.cell? ⟨b, off + k * 9 + 5, none⟩ = some (.int .u8 p5) ∧ w'.cell? ⟨b, off + k * 9 + 6, none⟩ = some (.int .u8 p6) ∧ w'.cell? ⟨b, off + k * 9 + 7, none⟩ = some (.int .u8 p7) ∧ w'.cell? ⟨b, off + k * 9 + 8, none⟩ = some (.int .i64 ft) :=
  ⟨hF.cell 0, hr 0 _ rfl, hr 1 _ rfl, hr 2 _ rfl, hr 3 _ rfl, hr 4 _ rfl, hr 5 _ rfl, hr 6 _ rfl, hr 7 _ rfl, hr 8 _ rfl⟩

set_option maxHeartbeats 1000000 in
set_option maxRecDepth 100000 in
theorem PartOfForm_s {w : World} {da : Option Addr} {dn : Nat} {zs : List Int} {a : Option Addr} {n : Nat} {ts : List Tm} (dc c : Nat) (d : Int) (hd : Ints w da dn zs) (hdn : dn ≤ 1048576) (h : Terms w a n ts) (hn : n ≤ 1048576) :
    Calls Try.prog 52 #[.slice da dn dc, .agg #[.slice a n c], .int .i64 d] w fun e w' => ∃ v, e = .returned (.tuple #[.agg #[v], .int .i64 (partE zs ts d)]) ∧ OwnForm w' w.heap.size v (partV zs ts d) ∧ Below w.heap.size w w' := by
  have HL := Lib.hid hd.len
  have HLt := Lib.hid h.len
  have HT := Lib.hid h.2.1
  have hF0 := (Own.new w 56 #[.slice a n c]).alloc (.cells #[.slice none 0 0] 56)
  have hR0 := Own.new (w.alloc (.cells #[.slice a n c] 56)) 56 #[.slice none 0 0]
  rw [size_alloc] at hR0
  have hb0 := below_then (below_alloc1 w (.cells #[.slice a n c] 56)) (below_alloc1 _ (.cells #[.slice none 0 0] 56))
  have c0 := hF0.cell 0
  cases hif : isForm zs ts with
  | false =>
    have HIF := Lib.hid hif
    clear hif
    go_enter Try.func52, Try.ntmps52
    go_upto_region 1 with fail
    generalize (w.alloc (.cells #[.slice a n c] 56)).alloc (.cells #[.slice none 0 0] 56) = w0 at *
    go_wp2_with fail
    refine (IsForm_s dc c (hd.keep hb0) hdn (h.keep hb0) hn).mono ?_
    rintro e w1 ⟨rfl, hb1⟩
    rw [HIF.out]
    have hR1 := hR0.keep hb1 hR0.lt
    have cR := hR1.cell 0
    have fR := hR1.frozen 0
    go_wp2_with fail
    have q := hR1.set 0 (.slice none 0 0)
    refine bodyPost_ret (results_row2 rfl _ _ (w.heap.size + 1) 56 #[.slice none 0 0] (0, 0) _ rfl q Try.underlying56 rfl Try.info_form) rfl ⟨.slice none 0 0, by rw [partE, HIF.out]; rfl, ?_, (below_trans' hb0 hb1 hb0.size).setCell (p := ⟨w.heap.size + 1, 0, none⟩) (by dsimp only; omega) _⟩
    rw [partV, HIF.out, if_neg (by simp)]
    exact ⟨World.ownsRow_nil _ _ _ _, by simp⟩
  | true =>
    have HIF := Lib.hid hif
    have hd8 : dn ≤ 8 := by have := degsOk_len (isForm_degs hif); have := HL.out; omega
    have hz := degsOk_mild (isForm_degs hif)
    have h400 : n ≤ 400 := by
      simp only [isForm, Bool.and_eq_true, decide_eq_true_eq] at hif
      have := HLt.out
      omega
    have H400 := Lib.hid h400
    clear hif h400
    by_cases hneg : d < 0
    · go_enter Try.func52, Try.ntmps52
      go_upto_region 1 with fail
      generalize (w.alloc (.cells #[.slice a n c] 56)).alloc (.cells #[.slice none 0 0] 56) = w0 at *
      go_wp2_with fail
      refine (IsForm_s dc c (hd.keep hb0) hdn (h.keep hb0) hn).mono ?_
      rintro e w1 ⟨rfl, hb1⟩
      rw [HIF.out]
      have hR1 := hR0.keep hb1 hR0.lt
      have cR := hR1.cell 0
      have fR := hR1.frozen 0
      go_wp2_with fail
      have q := hR1.set 0 (.slice none 0 0)
      refine bodyPost_ret (results_row2 rfl _ _ (w.heap.size + 1) 56 #[.slice none 0 0] (0, 0) _ rfl q Try.underlying56 rfl Try.info_form) rfl ⟨.slice none 0 0, by rw [partE, HIF.out, if_neg (show ¬ 0 ≤ d by omega)]; rfl, ?_, (below_trans' hb0 hb1 hb0.size).setCell (p := ⟨w.heap.size + 1, 0, none⟩) (by dsimp only; omega) _⟩
      rw [partV, if_neg (by omega)]
      exact ⟨World.ownsRow_nil _ _ _ _, by simp⟩
    · have hd0 : 0 ≤ d := by omega
      go_enter Try.func52, Try.ntmps52
      go_upto_region 1 with fail
      generalize (w.alloc (.cells #[.slice a n c] 56)).alloc (.cells #[.slice none 0 0] 56) = w0 at *
      go_wp2_with fail
      refine (IsForm_s dc c (hd.keep hb0) hdn (h.keep hb0) hn).mono ?_
      rintro e w1 ⟨rfl, hb1⟩
      rw [HIF.out]
      have hR1 := hR0.keep hb1 hR0.lt
      have hF1 := hF0.keep hb1 hF0.lt
      have hb01 := below_trans' hb0 hb1 hb0.size
      have hl1 := hR1.lt
      clear c0 hF0 hR0 hb0 hb1
      go_upto_region 6 with fail
      have hR2 := hR1.alloc (.cells #[.slice none 0 0] 56)
      have hF2 := hF1.alloc (.cells #[.slice none 0 0] 56)
      have hG2 := Own.new w1 56 #[.slice none 0 0]
      have hb02 := below_trans' hb01 (below_alloc1 w1 (.cells #[.slice none 0 0] 56)) hb01.size
      generalize w1.alloc (.cells #[.slice none 0 0] 56) = w2 at *
      generalize hg8 : w1.heap.size = g8 at *
      clear hb01 hR1 hF1 hg8
      go_wp2_with fail
      go_loopw [9] (fun i wr => ∃ (k : Nat) (v : Value), k ≤ n ∧ i = .int .i64 k ∧ Below w.heap.size w wr ∧ Own wr w.heap.size 56 #[.slice a n c] ∧ Own wr (w.heap.size + 1) 56 #[.slice none 0 0] ∧ Own wr g8 56 #[v] ∧ OwnForm wr (g8 + 1) v (partOf zs d (ts.take k))) (fun i _ => n - (intOf i).toNat)
      case atStart => exact ⟨0, .slice none 0 0, Nat.zero_le _, rfl, hb02, hF2, hR2, hG2, by simp only [List.take_zero]; exact ⟨World.ownsRow_nil _ _ _ _, by simp [partOf]⟩⟩
      case round =>
        clear hb02 hF2 hR2 hG2
        obtain ⟨k, v, hk, rfl, hb, hF, hR, hG, hO⟩ := hrel
        obtain ⟨va, vn, vc, rfl⟩ := hO.isSlice
        have cF := hF.cell 0
        by_cases hlt : k < n
        · obtain ⟨b, off, t, rfl, hbl, hr0, ht, hx⟩ := h.at_ hlt
          obtain ⟨mt, ft⟩ := t
          have hmt : IsMono mt := ht.1
          obtain ⟨p0, p1, p2, p3, p4, p5, p6, p7, rfl⟩ := mono8 hmt
          have hr := rangeAt_keep hr0 (hb.block b hbl)
          obtain ⟨y0, y1, y2, y3, y4, y5, y6, y7, y8⟩ := nine hr
          by_cases heq : wt zs [p0, p1, p2, p3, p4, p5, p6, p7] = d
          · go_wp2_with fail
            refine (l01Weight8 dc (hd.keep hb) hd8 hz hmt heq).mono ?_
            rintro e w5 ⟨rfl, hb5⟩
            have hFc : Own w5.drew w.heap.size 56 #[.slice (some ⟨b, off, none⟩) n c] := hF.keep hb5.drew hF.lt
            have hRc : Own w5.drew (w.heap.size + 1) 56 #[.slice none 0 0] := hR.keep hb5.drew hR.lt
            have hGc : Own w5.drew g8 56 #[.slice va vn vc] := hG.keep hb5.drew hG.lt
            have hOc : OwnForm w5.drew (g8 + 1) (.slice va vn vc) (partOf zs d (ts.take k)) := hO.keep hb5.drew
            have hbc : Below w.heap.size w w5.drew := (below_trans' hb hb5 hb.size).drew
            have hrc := rangeAt_keep hr0 (hbc.block b hbl)
            have cG := hGc.cell 0
            clear y0 y1 y2 y3 y4 y5 y6 y7 y8 hr cF hF hR hG hO hb hb5
            have hnews : ∀ j u, ([Value.int .u8 p0, .int .u8 p1, .int .u8 p2, .int .u8 p3, .int .u8 p4, .int .u8 p5, .int .u8 p6, .int .u8 p7, .int .i64 ft] : List Value)[j]? = some u → (w5.drew.alloc (.cells #[.int .u8 p0, .int .u8 p1, .int .u8 p2, .int .u8 p3, .int .u8 p4, .int .u8 p5, .int .u8 p6, .int .u8 p7, .int .i64 ft] 96)).cell? ((⟨w5.heap.size, 0, none⟩ : Addr).add j) = some u := fun j u hu => by
              rw [Addr.add_mid]
              exact (Own.new w5.drew 96 #[.int .u8 p0, .int .u8 p1, .int .u8 p2, .int .u8 p3, .int .u8 p4, .int .u8 p5, .int .u8 p6, .int .u8 p7, .int .i64 ft]).range j u hu
            have hone : ∀ u ∈ ([Value.int .u8 p0, .int .u8 p1, .int .u8 p2, .int .u8 p3, .int .u8 p4, .int .u8 p5, .int .u8 p6, .int .u8 p7, .int .i64 ft] : List Value), u.oneCell' = true := by simp [Value.oneCell']
            have hpl : (partOf zs d (ts.take k)).length ≤ 400 := by
              have h1 := partOf_len zs d (ts.take k)
              have h2 := H400.out
              rw [List.length_take] at h1
              omega
            obtain ⟨ti, tz, hti, htz, hts, htb, htzs⟩ := Try.info_termA
            have HN := Lib.hid hnews
            have HO := Lib.hid hone
            have HP := Lib.hid hpl
            have HI := Lib.hid hti
            have HZ := Lib.hid htz
            have HS := Lib.hid hts
            have HBt := Lib.hid htb
            have HZs := Lib.hid htzs
            clear hnews hone hpl hti htz hts htb htzs
            have hk0 : (0 : Int) ≤ (k : Int) := by omega
            have hkn : (k : Int) < (n : Int) := by omega
            go_upto_region 10 with fail
            refine wp_region_held_drew (S := (fun w' => w'.cell? ⟨w.heap.size, 0, none⟩ = some (.slice (some ⟨b, off, none⟩) n c) ∧ w'.cell? ⟨b, off + k * 9, none⟩ = some (.int .u8 p0) ∧ w'.cell? ⟨b, off + k * 9 + 1, none⟩ = some (.int .u8 p1) ∧ w'.cell? ⟨b, off + k * 9 + 2, none⟩ = some (.int .u8 p2) ∧ w'.cell? ⟨b, off + k * 9 + 3, none⟩ = some (.int .u8 p3) ∧ w'.cell? ⟨b, off + k * 9 + 4, none⟩ = some (.int .u8 p4) ∧ w'.cell? ⟨b, off + k * 9 + 5, none⟩ = some (.int .u8 p5) ∧ w'.cell? ⟨b, off + k * 9 + 6, none⟩ = some (.int .u8 p6) ∧ w'.cell? ⟨b, off + k * 9 + 7, none⟩ = some (.int .u8 p7) ∧ w'.cell? ⟨b, off + k * 9 + 8, none⟩ = some (.int .i64 ft))) (by kernel_rfl) ?_ (fun hHeld => ?_)
            · ((try dsimp only); (exact cellsP hFc hrc))
            (refine hdTake (i := 0) (v := ?_) rfl (by kernel_rfl) (by kernel_rfl) (by kernel_rfl) (fun _ _ _ h => h) (by rfl) ?_ (by assumption) ?_; rotate_left; (intro w hSw; (try dsimp only at hSw); go_simp; (try with_reducible rfl)); (try simp only [Act.put, List.setIfInBounds_toArray, List.set_cons_zero, List.set_cons_succ]))
            (refine hdTake (i := 2) (v := ?_) rfl (by kernel_rfl) (by kernel_rfl) (by kernel_rfl) (fun _ _ _ h => h) (by rfl) ?_ (by assumption) ?_; rotate_left; (intro w hSw; (try dsimp only at hSw); go_simp; (try with_reducible rfl)); (try simp only [Act.put, List.setIfInBounds_toArray, List.set_cons_zero, List.set_cons_succ]))
            (refine hdTake (i := 3) (v := ?_) rfl (by kernel_rfl) (by kernel_rfl) (by kernel_rfl) (fun _ _ _ h => h) (by rfl) ?_ (by assumption) ?_; rotate_left; (intro w hSw; (try dsimp only at hSw); go_simp; (try with_reducible rfl)); (try simp only [Act.put, List.setIfInBounds_toArray, List.set_cons_zero, List.set_cons_succ]))
            (refine hdTake (i := 4) (v := ?_) rfl (by kernel_rfl) (by kernel_rfl) (by kernel_rfl) (fun _ _ _ h => h) (by rfl) ?_ (by assumption) ?_; rotate_left; (intro w hSw; (try dsimp only at hSw); go_simp; (try with_reducible rfl)); (try simp only [Act.put, List.setIfInBounds_toArray, List.set_cons_zero, List.set_cons_succ]))
            (refine hdTake (i := 5) (v := ?_) rfl (by kernel_rfl) (by kernel_rfl) (by kernel_rfl) (fun _ _ _ h => h) (by rfl) ?_ (by assumption) ?_; rotate_left; (intro w hSw; (try dsimp only at hSw); go_simp; (try with_reducible rfl)); (try simp only [Act.put, List.setIfInBounds_toArray, List.set_cons_zero, List.set_cons_succ]))
            (refine hdTake (i := 6) (v := ?_) rfl (by kernel_rfl) (by kernel_rfl) (by kernel_rfl) (fun _ _ _ h => h) (by rfl) ?_ (by assumption) ?_; rotate_left; (intro w hSw; (try dsimp only at hSw); go_simp; (try with_reducible rfl)); (try simp only [Act.put, List.setIfInBounds_toArray, List.set_cons_zero, List.set_cons_succ]))
            refine wpAnyH_ready (rs := [1, 7]) (by kernel_rfl) (by simp) ?_
            refine AllReadyH.cons (hdAt (i := 1) rfl) (fun K hK => ?_) (AllReadyH.cons (hdAt (i := 7) rfl) (fun K hK => ?_) AllReadyH.nil)
            · (go_simp; try go_wp2_with fail)
              refine hK.out _ _ ?_ (fun hHeld5 => ?_)
              · ((try dsimp only); (exact cellsP hFc hrc))
              clear hK K
              (try simp only [Act.put, List.setIfInBounds_toArray, List.set_cons_zero, List.set_cons_succ])
              refine hdCall (i := 7) (by kernel_rfl) rfl (fun K hK => ?_)
              (go_simp; try go_wp2_with fail)
              have hFa := hFc.alloc (.cells #[.int .u8 p0, .int .u8 p1, .int .u8 p2, .int .u8 p3, .int .u8 p4, .int .u8 p5, .int .u8 p6, .int .u8 p7, .int .i64 ft] 96)
              have hGa := hGc.alloc (.cells #[.int .u8 p0, .int .u8 p1, .int .u8 p2, .int .u8 p3, .int .u8 p4, .int .u8 p5, .int .u8 p6, .int .u8 p7, .int .i64 ft] 96)
              have hRa := hRc.alloc (.cells #[.int .u8 p0, .int .u8 p1, .int .u8 p2, .int .u8 p3, .int .u8 p4, .int .u8 p5, .int .u8 p6, .int .u8 p7, .int .i64 ft] 96)
              have hOa := (hOc.keep (below_alloc1 w5.drew (.cells #[.int .u8 p0, .int .u8 p1, .int .u8 p2, .int .u8 p3, .int .u8 p4, .int .u8 p5, .int .u8 p6, .int .u8 p7, .int .i64 ft] 96))).1
              have hba := below_trans' hbc (below_alloc1 w5.drew (.cells #[.int .u8 p0, .int .u8 p1, .int .u8 p2, .int .u8 p3, .int .u8 p4, .int .u8 p5, .int .u8 p6, .int .u8 p7, .int .i64 ft] 96)) hbc.size
              have hra := rangeAt_keep hr0 (hba.block b hbl)
              refine hK.out _ _ ?_ (fun hHeld2 => ?_)
              · ((try dsimp only); (exact cellsP hFa hra))
              clear hK K
              (try simp only [Act.put, List.setIfInBounds_toArray, List.set_cons_zero, List.set_cons_succ])
              refine hdCall (i := 8) (by kernel_rfl) rfl (fun K hK => ?_)
              rw [if_pos (by rfl)]
              refine wp_append_own_wide _ (.tmp 39) (.tmp 45) 54 rfl (g8 + 1) 96 ti tz 9 16 Try.underlying54 HI.out HZ.out HS.out HBt.out HZs.out (by omega) (.slice va vn vc) _ _ rfl hOa ⟨w5.heap.size, 0, none⟩ 1 1 [Value.int .u8 p0, .int .u8 p1, .int .u8 p2, .int .u8 p3, .int .u8 p4, .int .u8 p5, .int .u8 p6, .int .u8 p7, .int .i64 ft] rfl rfl HN.out HO.out (by have := HP.out; simp only [maxLen]; omega) (by have := HP.out; omega) (Nat.succ_le_of_lt hGa.lt) (fun v' w' h2 h3 h4 => ?_)
              obtain ⟨gg, vk, cp, rfl⟩ : ∃ gg vk cp, v' = .slice gg vk cp := by
                rcases h2.2 with ⟨h0, _⟩ | ⟨g, cap, cur, hv, _⟩
                · exact ⟨_, _, _, h0⟩
                · exact ⟨_, _, _, hv⟩
              have hF7 := hFa.grown h3 (fun e => by have := (hOa.lt _ e.symm).1; omega)
              have hG7 := hGa.grown h3 (fun e => by have := (hOa.lt _ e.symm).1; omega)
              have hR7 := hRa.grown h3 (fun e => by have := (hOa.lt _ e.symm).1; omega)
              have hb7 := grown_below hba h3 (fun q e => by have := (hOa.lt q e).1; omega) hba.size
              have hr7 := rangeAt_keep hr0 (hb7.block b hbl)
              have c7 := hG7.cell 0
              have f7 := hG7.frozen 0
              have H2 := Lib.hid h2
              have H4 := Lib.hid h4
              clear h2 h3 h4 hOa hFa hGa hRa hba
              refine hK.out _ _ ?_ (fun hHeld3 => ?_)
              · ((try dsimp only); (exact cellsP hF7 hr7))
              clear hK K
              (try simp only [Act.put, List.setIfInBounds_toArray, List.set_cons_zero, List.set_cons_succ])
              (refine hdTake (i := 9) (v := ?_) rfl (by kernel_rfl) (by kernel_rfl) (by kernel_rfl) (fun _ _ _ h => h) (by rfl) ?_ (by assumption) ?_; rotate_left; (intro w hSw; (try dsimp only at hSw); go_simp; (try with_reducible rfl)); (try simp only [Act.put, List.setIfInBounds_toArray, List.set_cons_zero, List.set_cons_succ]))
              refine hdCall (i := 10) (by kernel_rfl) rfl (fun K hK => ?_)
              (go_simp; go_wp2_with fail)
              have hF8 := hF7.far (p := ⟨g8, 0, none⟩) (by dsimp only; omega) (.slice gg vk cp)
              have hb8 := hb7.setCell (p := ⟨g8, 0, none⟩) (by dsimp only; omega) (.slice gg vk cp)
              have hr8 := rangeAt_keep hr0 (hb8.block b hbl)
              refine hK.out _ _ ?_ (fun hHeld4 => ?_)
              · ((try dsimp only); (exact cellsP hF8 hr8))
              clear hK K
              (try simp only [Act.put, List.setIfInBounds_toArray, List.set_cons_zero, List.set_cons_succ])
              refine wpAnyH_done (by kernel_rfl) ?_ _
              go_wp2_with fail
              go_roundw
              case rel =>
                refine ⟨k + 1, .slice gg vk cp, by omega, by go_num, hb8, hF8, hR7.far (p := ⟨g8, 0, none⟩) (by dsimp only; omega) _, hG7.set 0 _, ?_⟩
                rw [partOf_take_yes hx.out heq]
                exact OwnForm.set (p := ⟨g8, 0, none⟩) (OwnForm.of H2.out (by simp) (by rw [rcells_append]; rfl) ⟨fun e => absurd (H4.out.1 e).2 (by omega), fun e => by omega⟩) (by dsimp only; omega) _
              case measure => simp [intOf] <;> omega
            · (go_simp; try go_wp2_with fail)
              have hFa := hFc.alloc (.cells #[.int .u8 p0, .int .u8 p1, .int .u8 p2, .int .u8 p3, .int .u8 p4, .int .u8 p5, .int .u8 p6, .int .u8 p7, .int .i64 ft] 96)
              have hGa := hGc.alloc (.cells #[.int .u8 p0, .int .u8 p1, .int .u8 p2, .int .u8 p3, .int .u8 p4, .int .u8 p5, .int .u8 p6, .int .u8 p7, .int .i64 ft] 96)
              have hRa := hRc.alloc (.cells #[.int .u8 p0, .int .u8 p1, .int .u8 p2, .int .u8 p3, .int .u8 p4, .int .u8 p5, .int .u8 p6, .int .u8 p7, .int .i64 ft] 96)
              have hOa := (hOc.keep (below_alloc1 w5.drew (.cells #[.int .u8 p0, .int .u8 p1, .int .u8 p2, .int .u8 p3, .int .u8 p4, .int .u8 p5, .int .u8 p6, .int .u8 p7, .int .i64 ft] 96))).1
              have hba := below_trans' hbc (below_alloc1 w5.drew (.cells #[.int .u8 p0, .int .u8 p1, .int .u8 p2, .int .u8 p3, .int .u8 p4, .int .u8 p5, .int .u8 p6, .int .u8 p7, .int .i64 ft] 96)) hbc.size
              have hra := rangeAt_keep hr0 (hba.block b hbl)
              refine hK.out _ _ ?_ (fun hHeld2 => ?_)
              · ((try dsimp only); (exact cellsP hFa hra))
              clear hK K
              (try simp only [Act.put, List.setIfInBounds_toArray, List.set_cons_zero, List.set_cons_succ])
              have cGa : (w5.alloc (.cells #[.int .u8 p0, .int .u8 p1, .int .u8 p2, .int .u8 p3, .int .u8 p4, .int .u8 p5, .int .u8 p6, .int .u8 p7, .int .i64 ft] 96)).drew.cell? ⟨g8, 0, none⟩ = some (.slice va vn vc) := hGa.cell 0
              refine hdCall (i := 1) (by kernel_rfl) rfl (fun K hK => ?_)
              (go_simp; try go_wp2_with fail)
              refine hK.out _ _ ?_ (fun hHeld5 => ?_)
              · ((try dsimp only); (exact cellsP hFa hra))
              clear hK K
              (try simp only [Act.put, List.setIfInBounds_toArray, List.set_cons_zero, List.set_cons_succ])
              refine hdCall (i := 8) (by kernel_rfl) rfl (fun K hK => ?_)
              rw [if_pos (by rfl)]
              refine wp_append_own_wide _ (.tmp 39) (.tmp 45) 54 rfl (g8 + 1) 96 ti tz 9 16 Try.underlying54 HI.out HZ.out HS.out HBt.out HZs.out (by omega) (.slice va vn vc) _ _ rfl hOa ⟨w5.heap.size, 0, none⟩ 1 1 [Value.int .u8 p0, .int .u8 p1, .int .u8 p2, .int .u8 p3, .int .u8 p4, .int .u8 p5, .int .u8 p6, .int .u8 p7, .int .i64 ft] rfl rfl HN.out HO.out (by have := HP.out; simp only [maxLen]; omega) (by have := HP.out; omega) (Nat.succ_le_of_lt hGa.lt) (fun v' w' h2 h3 h4 => ?_)
              obtain ⟨gg, vk, cp, rfl⟩ : ∃ gg vk cp, v' = .slice gg vk cp := by
                rcases h2.2 with ⟨h0, _⟩ | ⟨g, cap, cur, hv, _⟩
                · exact ⟨_, _, _, h0⟩
                · exact ⟨_, _, _, hv⟩
              have hF7 := hFa.grown h3 (fun e => by have := (hOa.lt _ e.symm).1; omega)
              have hG7 := hGa.grown h3 (fun e => by have := (hOa.lt _ e.symm).1; omega)
              have hR7 := hRa.grown h3 (fun e => by have := (hOa.lt _ e.symm).1; omega)
              have hb7 := grown_below hba h3 (fun q e => by have := (hOa.lt q e).1; omega) hba.size
              have hr7 := rangeAt_keep hr0 (hb7.block b hbl)
              have c7 := hG7.cell 0
              have f7 := hG7.frozen 0
              have H2 := Lib.hid h2
              have H4 := Lib.hid h4
              clear h2 h3 h4 hOa hFa hGa hRa hba
              refine hK.out _ _ ?_ (fun hHeld3 => ?_)
              · ((try dsimp only); (exact cellsP hF7 hr7))
              clear hK K
              (try simp only [Act.put, List.setIfInBounds_toArray, List.set_cons_zero, List.set_cons_succ])
              (refine hdTake (i := 9) (v := ?_) rfl (by kernel_rfl) (by kernel_rfl) (by kernel_rfl) (fun _ _ _ h => h) (by rfl) ?_ (by assumption) ?_; rotate_left; (intro w hSw; (try dsimp only at hSw); go_simp; (try with_reducible rfl)); (try simp only [Act.put, List.setIfInBounds_toArray, List.set_cons_zero, List.set_cons_succ]))
              refine hdCall (i := 10) (by kernel_rfl) rfl (fun K hK => ?_)
              (go_simp; go_wp2_with fail)
              have hF8 := hF7.far (p := ⟨g8, 0, none⟩) (by dsimp only; omega) (.slice gg vk cp)
              have hb8 := hb7.setCell (p := ⟨g8, 0, none⟩) (by dsimp only; omega) (.slice gg vk cp)
              have hr8 := rangeAt_keep hr0 (hb8.block b hbl)
              refine hK.out _ _ ?_ (fun hHeld4 => ?_)
              · ((try dsimp only); (exact cellsP hF8 hr8))
              clear hK K
              (try simp only [Act.put, List.setIfInBounds_toArray, List.set_cons_zero, List.set_cons_succ])
              refine wpAnyH_done (by kernel_rfl) ?_ _
              go_wp2_with fail
              go_roundw
              case rel =>
                refine ⟨k + 1, .slice gg vk cp, by omega, by go_num, hb8, hF8, hR7.far (p := ⟨g8, 0, none⟩) (by dsimp only; omega) _, hG7.set 0 _, ?_⟩
                rw [partOf_take_yes hx.out heq]
                exact OwnForm.set (p := ⟨g8, 0, none⟩) (OwnForm.of H2.out (by simp) (by rw [rcells_append]; rfl) ⟨fun e => absurd (H4.out.1 e).2 (by omega), fun e => by omega⟩) (by dsimp only; omega) _
              case measure => simp [intOf] <;> omega
          · obtain ⟨v2, hv2⟩ : ∃ v2, wt zs [p0, p1, p2, p3, p4, p5, p6, p7] = v2 := ⟨_, rfl⟩
            have hne3 : ¬ v2 = d := by rw [← hv2]; exact heq
            have hne2 : (v2 == d) = false := by simpa using hne3
            have HV := Lib.hid hv2
            have HE := Lib.hid heq
            clear hv2 heq
            go_wp2_with fail
            refine (l01Weight8 dc (hd.keep hb) hd8 hz hmt HV.out).mono ?_
            rintro e w5 ⟨rfl, hb5⟩
            go_wp2_with fail
            go_roundw
            case rel => exact ⟨k + 1, .slice va vn vc, by omega, by go_num, below_trans' hb hb5 hb.size, hF.keep hb5 hF.lt, hR.keep hb5 hR.lt, hG.keep hb5 hG.lt, by rw [partOf_take_no hx.out HE.out]; exact hO.keep hb5⟩
            case measure => simp [intOf] <;> omega
        · have he : k = n := by omega
          subst he
          have c3 := hG.cell 0
          have cR := hR.cell 0
          have fR := hR.frozen 0
          go_wp2_with fail
          have q := hR.set 0 (.slice va vn vc)
          refine bodyPost_ret (results_row2 rfl _ _ (w.heap.size + 1) 56 #[.slice va vn vc] (0, 0) _ rfl q Try.underlying56 rfl Try.info_form) rfl ⟨.slice va vn vc, by rw [partE, HIF.out, if_pos hd0]; rfl, ?_, hb.setCell (p := ⟨w.heap.size + 1, 0, none⟩) (by dsimp only; omega) _⟩
          rw [partV, HIF.out, if_pos ⟨rfl, hd0⟩]
          rw [List.take_of_length_le (Nat.le_of_eq HLt.out)] at hO
          exact (hO.set (p := ⟨w.heap.size + 1, 0, none⟩) (by dsimp only; omega) _).weaken (by omega)


end Go.Proofs.Ytjgojcolmflnoaa
