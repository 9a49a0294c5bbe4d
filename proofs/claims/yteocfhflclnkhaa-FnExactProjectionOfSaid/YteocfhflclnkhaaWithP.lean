/- One generator more: WithGenerator of the model. One generator more: WithGenerator of the program and of the model. Algebras copied and with one generator more: the model's. -/
import Derived.Test.YteocfhflclnkhaaNewA
import Derived.Test.YteocfhflclnkhaaClosed
namespace Go.Proofs.Yteocfhflclnkhaa
open Go.RowKit Go.Deep

theorem row_far {w : World} {B sz n : Nat} {t t' : TypeId} {v : Value} {xs : List Value} {p : Addr} {os : Array Value} (h : w.ownsRow B t sz v n xs) (ho : Own w p.block t' os) (ht : t' ≠ t) (u : Value) : (w.setCell p u).ownsRow B t sz v n xs :=
  ownsRow_setCell_other h (fun e => own_ne_row ho h ht e.symm) u
theorem vals_far {w : World} {B : Nat} {vs : List Value} {V : List (List Tm)} {t' : TypeId} {p : Addr} {os : Array Value} (h : Vals w B vs V) (ho : Own w p.block t' os) (ht : t' ≠ 106) (u : Value) : Vals (w.setCell p u) B vs V :=
  ⟨h.len, fun i v ts h1 h2 => (h.each i v ts h1 h2).far (fun e => own_ne_row ho (h.each i v ts h1 h2) ht e.symm) u, h.apart⟩
theorem vals_grown {w w' : World} {B B' sz n : Nat} {vs : List Value} {V : List (List Tm)} {t' : TypeId} {v' : Value} {xs : List Value} (h : Vals w B vs V) (h' : w.ownsRow B' t' sz v' n xs) (ht : t' ≠ 106) (hg : w.grownBy w' v'.ownBlock) : Vals w' B vs V :=
  h.grownN hg (fun i u q h1 h2 e => by
    obtain ⟨ts, -, ho⟩ := h.at_ h1
    obtain ⟨os, hq⟩ := row_own h' e
    exact own_ne_row hq ho ht h2.symm)
theorem l02Copy0_c {w : World} {a : Option Addr} {n : Nat} {ts : List Tm} (c : Nat) (h : Terms w a n ts) (hn : n ≤ 1048576) :
    Calls Try.prog 112 #[.agg #[.slice a n c], .int .i64 0] w fun e w' => ∃ va vc, e = .returned (.agg #[.slice va n vc]) ∧ OwnR w' w.heap.size (.slice va n vc) ts ∧ Below w.heap.size w w' := by
  have hm := map_shT_zero h.2.1
  have := l02Copy_c c 0 h hn (by omega)
  rw [hm] at this
  exact this
theorem take_snoc {α : Type} {l : List α} {k : Nat} {x : α} (h : l[k]? = some x) : l.take (k + 1) = l.take k ++ [x] := by
  rw [List.take_add_one, h]
  rfl

theorem row_weaken {w : World} {B B' sz n : Nat} {t : TypeId} {v : Value} {xs : List Value} (h : w.ownsRow B t sz v n xs) (hB : B' ≤ B) : w.ownsRow B' t sz v n xs := by
  obtain ⟨hl, h1⟩ := h
  refine ⟨hl, ?_⟩
  rcases h1 with h0 | ⟨g, cap, cur, hv, hb, r⟩
  · exact Or.inl h0
  · exact Or.inr ⟨g, cap, cur, hv, by omega, r⟩

set_option maxHeartbeats 4000000 in
set_option maxRecDepth 100000 in
theorem l02Own_c {w : World} {gd od dn : Nat} {zs : List Int} {a : Option Addr} {n : Nat} {ims : List (List Tm)} (dc c : Nat) (hd : Ints w (some ⟨gd, od, none⟩) dn zs) (hdn : dn ≤ 1048576) (hF : Frms w a n ims) (hn : n ≤ 1048576) (hL : ∀ im ∈ ims, (im.length : Int) ≤ 1048576) :
    Calls Try.prog 111 #[.agg #[.slice (some ⟨gd, od, none⟩) dn dc, .slice a n c]] w fun e w' => ∃ xa xc va vc vs, e = .returned (.agg #[.slice xa dn xc, .slice va n vc]) ∧ w'.ownsRow w.heap.size 2 1 (.slice xa dn xc) dn (zs.map (Value.int .i64)) ∧ w'.ownsRow w.heap.size 48 1 (.slice va n vc) n vs ∧ Vals w' w.heap.size vs ims ∧ Below w.heap.size w w' := by
  have HLL := Lib.hid hL
  have HFF := Lib.hid hF
  have HLn := Lib.hid hF.len
  obtain ⟨ti, tz, hti, htz, hts, htb, htzs⟩ := Try.info_formA
  have HI := Lib.hid hti
  have HZ := Lib.hid htz
  have HS := Lib.hid hts
  have HBt := Lib.hid htb
  have HZs := Lib.hid htzs
  clear hti htz hts htb htzs
  clear hL hF
  have hA := (Own.new w 67 #[.slice (some ⟨gd, od, none⟩) dn dc, .slice a n c]).alloc (.cells #[.slice none 0 0, .slice none 0 0] 67)
  have hR := Own.new (w.alloc (.cells #[.slice (some ⟨gd, od, none⟩) dn dc, .slice a n c] 67)) 67 #[.slice none 0 0, .slice none 0 0]
  rw [size_alloc] at hR
  have hb := below_then (below_alloc1 w (.cells #[.slice (some ⟨gd, od, none⟩) dn dc, .slice a n c] 67)) (below_alloc1 _ (.cells #[.slice none 0 0, .slice none 0 0] 67))
  go_enter Try.func111, Try.ntmps111
  go_upto_region 1 with fail
  generalize (w.alloc (.cells #[.slice (some ⟨gd, od, none⟩) dn dc, .slice a n c] 67)).alloc (.cells #[.slice none 0 0, .slice none 0 0] 67) = w0 at *
  have c0 := hA.cell 0
  go_wp2_with fail
  refine (l01OwnI_c dc (hd.keep hb) hdn).mono ?_
  rintro e w1 ⟨xa, xc, rfl, hD, hb1⟩
  have hbs0 := hb.size
  replace hA := hA.keep hb1 hA.lt
  replace hR := hR.keep hb1 hR.lt
  replace hb := below_trans' hb hb1 hb.size
  have hD' : w1.ownsRow w.heap.size 2 1 (.slice xa dn xc) dn (zs.map (Value.int .i64)) := row_weaken hD hbs0
  clear hb1 hD c0 hbs0
  have hO := Own.new w1 67 #[.slice xa dn xc, .slice none 0 0]
  have hbX := below_alloc1 w1 (.cells #[.slice xa dn xc, .slice none 0 0] 67)
  have HD := Lib.hid (row_keep hD' hbX)
  have hlX : w.heap.size + 1 < w1.heap.size := hR.lt
  replace hA := hA.keep hbX hA.lt
  replace hR := hR.keep hbX hR.lt
  replace hb := below_trans' hb hbX hb.size
  clear hD' hbX
  go_upto_region 2 with fail
  generalize w1.alloc (.cells #[.slice xa dn xc, .slice none 0 0] 67) = w2 at *
  generalize w1.heap.size = gX at *
  go_upto_region 3 with fail
  go_loopw [4] (fun y wr => ∃ (k : Nat) (va : Option Addr) (vc : Nat) (vs : List Value), k ≤ n ∧ y = .int .i64 k ∧ Below w.heap.size w wr ∧ Own wr w.heap.size 67 #[.slice (some ⟨gd, od, none⟩) dn dc, .slice a n c] ∧ Own wr (w.heap.size + 1) 67 #[.slice none 0 0, .slice none 0 0] ∧ Own wr gX 67 #[.slice xa dn xc, .slice va k vc] ∧ wr.ownsRow w.heap.size 2 1 (.slice xa dn xc) dn (zs.map (Value.int .i64)) ∧ wr.ownsRow w.heap.size 48 1 (.slice va k vc) k vs ∧ Hid (Vals wr w.heap.size vs (ims.take k))) (fun y _ => n - (intOf y).toNat)
  case atStart => exact ⟨0, none, 0, [], Nat.zero_le _, rfl, hb, hA, hR, hO, HD.out, World.ownsRow_nil _ _ _ _, Lib.hid (Vals.nil _ _)⟩
  case round =>
    clear hb hA hR hO HD
    obtain ⟨k, va, vc, vs, hk, rfl, hb, hA, hR, hO, hD, hI, hW⟩ := hrel
    have cA := hA.cell 1
    by_cases hin : k < n
    · obtain ⟨b, off, ts, ai, ni, ci, rfl, hbl, hc0, hT0, hni, hx⟩ := HFF.out.at_ hin
      have HC0 := Lib.hid hc0
      have HTK := Lib.hid (take_snoc hx.out)
      have hni2 : ni ≤ 1048576 := by have := HLL.out ts (List.mem_of_getElem? hx.out); have := hT0.len; omega
      have hk0 : (0 : Int) ≤ (k : Int) := by omega
      have hkn : (k : Int) < (n : Int) := by omega
      clear hc0
      have HD := Lib.hid hD
      have HI2 := Lib.hid hI
      clear hD hI
      go_upto_region 5 with fail
      replace hA : Own wr.drew w.heap.size 67 #[.slice (some ⟨gd, od, none⟩) dn dc, .slice (some ⟨b, off, none⟩) n c] := hA
      replace hR : Own wr.drew (w.heap.size + 1) 67 #[.slice none 0 0, .slice none 0 0] := hR
      replace hO : Own wr.drew gX 67 #[.slice xa dn xc, .slice va k vc] := hO
      have hD : wr.drew.ownsRow w.heap.size 2 1 (.slice xa dn xc) dn (zs.map (Value.int .i64)) := HD.out
      have hI : wr.drew.ownsRow w.heap.size 48 1 (.slice va k vc) k vs := HI2.out
      replace hW : Hid (Vals wr.drew w.heap.size vs (ims.take k)) := Lib.hid (hW.out.keep ((Below.refl _ _).drew))
      replace hb : Below w.heap.size w wr.drew := hb.drew
      clear HD HI2 cA
      refine wp_region_held_drew (S := (fun w' => w'.cell? ⟨w.heap.size, 1, none⟩ = some (.slice (some ⟨b, off, none⟩) n c) ∧ w'.cell? ⟨b, off + k, none⟩ = some (.slice ai ni ci))) (by kernel_rfl) ?_ (fun hHeld0 => ?_)
      · ((try dsimp only); (exact ⟨hA.cell 1, (World.cell?_of_block (a := ⟨b, off + k, none⟩) (hb.block b hbl)).trans HC0.out⟩))
      generalize wr.drew = W0d at *
      (refine hdTake (i := 0) (v := ?_) rfl (by kernel_rfl) (by kernel_rfl) (by kernel_rfl) (fun _ _ _ h => h) (by rfl) ?_ (by assumption) ?_; rotate_left; (intro w hSw; (try dsimp only at hSw); go_simp; (try with_reducible rfl)); (try simp only [Act.put, List.setIfInBounds_toArray, List.set_cons_zero, List.set_cons_succ]))
      (refine hdTake (i := 2) (v := ?_) rfl (by kernel_rfl) (by kernel_rfl) (by kernel_rfl) (fun _ _ _ h => h) (by rfl) ?_ (by assumption) ?_; rotate_left; (intro w hSw; (try dsimp only at hSw); go_simp; (try with_reducible rfl)); (try simp only [Act.put, List.setIfInBounds_toArray, List.set_cons_zero, List.set_cons_succ]))
      (refine hdTake (i := 3) (v := ?_) rfl (by kernel_rfl) (by kernel_rfl) (by kernel_rfl) (fun _ _ _ h => h) (by rfl) ?_ (by assumption) ?_; rotate_left; (intro w hSw; (try dsimp only at hSw); go_simp; (try with_reducible rfl)); (try simp only [Act.put, List.setIfInBounds_toArray, List.set_cons_zero, List.set_cons_succ]))
      (refine hdTake (i := 4) (v := ?_) rfl (by kernel_rfl) (by kernel_rfl) (by kernel_rfl) (fun _ _ _ h => h) (by rfl) ?_ (by assumption) ?_; rotate_left; (intro w hSw; (try dsimp only at hSw); go_simp; (try with_reducible rfl)); (try simp only [Act.put, List.setIfInBounds_toArray, List.set_cons_zero, List.set_cons_succ]))
      (refine hdTake (i := 5) (v := ?_) rfl (by kernel_rfl) (by kernel_rfl) (by kernel_rfl) (fun _ _ _ h => h) (by rfl) ?_ (by assumption) ?_; rotate_left; (intro w hSw; (try dsimp only at hSw); go_simp; (try with_reducible rfl)); (try simp only [Act.put, List.setIfInBounds_toArray, List.set_cons_zero, List.set_cons_succ]))
      (refine hdTake (i := 6) (v := ?_) rfl (by kernel_rfl) (by kernel_rfl) (by kernel_rfl) (fun _ _ _ h => h) (by rfl) ?_ (by assumption) ?_; rotate_left; (intro w hSw; (try dsimp only at hSw); go_simp; (try with_reducible rfl)); (try simp only [Act.put, List.setIfInBounds_toArray, List.set_cons_zero, List.set_cons_succ]))
      refine wpAnyH_ready (rs := [1, 7]) (by kernel_rfl) (by simp) ?_
      refine AllReadyH.cons (hdAt (i := 1) rfl) (fun K hK => ?_) (AllReadyH.cons (hdAt (i := 7) rfl) (fun K hK => ?_) AllReadyH.nil)
      · skip
        have cO1 := hO.cell 1
        (go_simp; try go_wp2_with fail)
        refine hK.out _ _ ?_ (fun hHeld1 => ?_)
        · ((try dsimp only); (exact ⟨hA.cell 1, (World.cell?_of_block (a := ⟨b, off + k, none⟩) (hb.block b hbl)).trans HC0.out⟩))
        clear hK K
        (try simp only [Act.put, List.setIfInBounds_toArray, List.set_cons_zero, List.set_cons_succ])
        refine hdCall (i := 7) (by kernel_rfl) rfl (fun K hK => ?_)
        have HLT := Lib.hid hW.out.lt
        have hbs := hb.size
        (go_simp; (go_at_call 112; refine (l02Copy0_c ci (hT0.keep hb) hni2).mono ?_; rintro e W1 ⟨va2, vc2, rfl, hV, hbX⟩); go_wp2_with fail)
        replace hA := hA.keep hbX hA.lt
        replace hR := hR.keep hbX hR.lt
        replace hD := row_keep hD hbX
        replace hI := row_keep hI hbX
        replace hW := Lib.hid (hW.out.keep hbX)
        replace hb := below_trans' hb hbX hb.size
        replace hO := hO.keep hbX hO.lt
        replace hW := Lib.hid (hW.out.snoc HLT.out hbs hV)
        have HON : Hid (∀ u ∈ ([Value.slice va2 ni vc2] : List Value), u.oneCell' = true) := Lib.hid (by simp [Value.oneCell'])
        clear HLT hbs hV
        clear hbX
        refine hK.out _ _ ?_ (fun hHeld2 => ?_)
        · ((try dsimp only); (exact ⟨hA.cell 1, (World.cell?_of_block (a := ⟨b, off + k, none⟩) (hb.block b hbl)).trans HC0.out⟩))
        clear hK K
        (try simp only [Act.put, List.setIfInBounds_toArray, List.set_cons_zero, List.set_cons_succ])
        refine hdCall (i := 8) (by kernel_rfl) rfl (fun K hK => ?_)
        (go_simp; try go_wp2_with fail)
        have hN := Own.new W1 48 #[.slice va2 ni vc2]
        have hbX := below_alloc1 W1 (.cells #[.slice va2 ni vc2] 48)
        replace hA := hA.keep hbX hA.lt
        replace hR := hR.keep hbX hR.lt
        replace hD := row_keep hD hbX
        replace hI := row_keep hI hbX
        replace hW := Lib.hid (hW.out.keep hbX)
        replace hb := below_trans' hb hbX hb.size
        replace hO := hO.keep hbX hO.lt
        generalize W1.alloc (.cells #[.slice va2 ni vc2] 48) = W2 at *
        generalize hhNg : W1.heap.size = ghN at *
        clear hbX hhNg
        refine hK.out _ _ ?_ (fun hHeld3 => ?_)
        · ((try dsimp only); (exact ⟨hA.cell 1, (World.cell?_of_block (a := ⟨b, off + k, none⟩) (hb.block b hbl)).trans HC0.out⟩))
        clear hK K
        (try simp only [Act.put, List.setIfInBounds_toArray, List.set_cons_zero, List.set_cons_succ])
        refine hdCall (i := 9) (by kernel_rfl) rfl (fun K hK => ?_)
        have HNW : Hid (∀ j u, ([Value.slice va2 ni vc2] : List Value)[j]? = some u → W2.cell? ((⟨ghN, 0, none⟩ : Addr).add j) = some u) := Lib.hid (fun j u hu => by rw [Addr.add_mid]; exact hN.range j u hu)
        have HRW := Lib.hid hI
        have hszW : w.heap.size ≤ W2.heap.size := hb.size
        rw [if_pos (by rfl)]
        refine wp_append_own_wide _ (.tmp 17) (.tmp 24) 65 rfl w.heap.size 48 ti tz 1 24 Try.underlying65 HI.out HZ.out HS.out HBt.out HZs.out (by omega) (.slice va k vc) k _ rfl HRW.out ⟨ghN, 0, none⟩ 1 1 [Value.slice va2 ni vc2] rfl rfl HNW.out HON.out (by simp only [maxLen]; omega) (by omega) hszW (fun v' W3 h2 h3 h4 => ?_)
        obtain ⟨xa9, xc9, rfl⟩ := row_slice h2
        replace hA := hA.grown h3 (own_ne_row hA HRW.out (by decide))
        replace hR := hR.grown h3 (own_ne_row hR HRW.out (by decide))
        replace hD := row_grown hD HRW.out (by decide) h3
        replace hW := Lib.hid (hW.out.grown h3 (fun q e => row_own HRW.out e))
        replace hb := grown_below hb h3 (fun j e => by have := (HRW.out.lt j e).1; omega) hb.size
        replace hO := hO.grown h3 (own_ne_row hO HRW.out (by decide))
        have H2 := Lib.hid h2
        clear h2 h4 hI hN
        clear HNW HRW hszW h3
        refine hK.out _ _ ?_ (fun hHeld4 => ?_)
        · ((try dsimp only); (exact ⟨hA.cell 1, (World.cell?_of_block (a := ⟨b, off + k, none⟩) (hb.block b hbl)).trans HC0.out⟩))
        clear hK K
        (try simp only [Act.put, List.setIfInBounds_toArray, List.set_cons_zero, List.set_cons_succ])
        (refine hdTake (i := 10) (v := ?_) rfl (by kernel_rfl) (by kernel_rfl) (by kernel_rfl) (fun _ _ _ h => h) (by rfl) ?_ (by assumption) ?_; rotate_left; (intro w hSw; (try dsimp only at hSw); go_simp; (try with_reducible rfl)); (try simp only [Act.put, List.setIfInBounds_toArray, List.set_cons_zero, List.set_cons_succ]))
        refine hdCall (i := 11) (by kernel_rfl) rfl (fun K hK => ?_)
        have cO2 := hO.cell 1
        have fO2 := hO.frozen 1
        (go_simp; go_wp2_with fail)
        replace hA := hA.far (p := ⟨gX, 1, none⟩) (by dsimp only; omega) (.slice xa9 (k + 1) xc9)
        replace hR := hR.far (p := ⟨gX, 1, none⟩) (by dsimp only; omega) (.slice xa9 (k + 1) xc9)
        replace hD := row_far (p := ⟨gX, 1, none⟩) hD hO (by decide) (.slice xa9 (k + 1) xc9)
        have H5 := Lib.hid (row_far (p := ⟨gX, 1, none⟩) H2.out hO (by decide) (.slice xa9 (k + 1) xc9))
        replace hW := Lib.hid (vals_far (p := ⟨gX, 1, none⟩) hW.out hO (by decide) (.slice xa9 (k + 1) xc9))
        replace hb := hb.setCell (p := ⟨gX, 1, none⟩) (by dsimp only; omega) (.slice xa9 (k + 1) xc9)
        replace hO := hO.set 1 (.slice xa9 (k + 1) xc9)
        generalize W3.setCell ⟨gX, 1, none⟩ (.slice xa9 (k + 1) xc9) = W4 at *
        refine hK.out _ _ ?_ (fun hHeld5 => ?_)
        · ((try dsimp only); (exact ⟨hA.cell 1, (World.cell?_of_block (a := ⟨b, off + k, none⟩) (hb.block b hbl)).trans HC0.out⟩))
        clear hK K
        (try simp only [Act.put, List.setIfInBounds_toArray, List.set_cons_zero, List.set_cons_succ])
        refine wpAnyH_done (by kernel_rfl) ?_ _
        go_wp2_with fail
        go_roundw
        case rel => exact ⟨k + 1, xa9, xc9, vs ++ [.slice va2 ni vc2], by omega, by go_num, hb, hA, hR, hO, hD, H5.out, by rw [HTK.out]; exact hW⟩
        case measure => simp [intOf] <;> omega
      · skip
        have HLT := Lib.hid hW.out.lt
        have hbs := hb.size
        (go_simp; (go_at_call 112; refine (l02Copy0_c ci (hT0.keep hb) hni2).mono ?_; rintro e W5 ⟨va2, vc2, rfl, hV, hbX⟩); go_wp2_with fail)
        replace hA := hA.keep hbX hA.lt
        replace hR := hR.keep hbX hR.lt
        replace hD := row_keep hD hbX
        replace hI := row_keep hI hbX
        replace hW := Lib.hid (hW.out.keep hbX)
        replace hb := below_trans' hb hbX hb.size
        replace hO := hO.keep hbX hO.lt
        replace hW := Lib.hid (hW.out.snoc HLT.out hbs hV)
        have HON : Hid (∀ u ∈ ([Value.slice va2 ni vc2] : List Value), u.oneCell' = true) := Lib.hid (by simp [Value.oneCell'])
        clear HLT hbs hV
        clear hbX
        refine hK.out _ _ ?_ (fun hHeld1 => ?_)
        · ((try dsimp only); (exact ⟨hA.cell 1, (World.cell?_of_block (a := ⟨b, off + k, none⟩) (hb.block b hbl)).trans HC0.out⟩))
        clear hK K
        (try simp only [Act.put, List.setIfInBounds_toArray, List.set_cons_zero, List.set_cons_succ])
        refine wpAnyH_ready (rs := [1, 8]) (by kernel_rfl) (by simp) ?_
        refine AllReadyH.cons (hdAt (i := 1) rfl) (fun K hK => ?_) (AllReadyH.cons (hdAt (i := 8) rfl) (fun K hK => ?_) AllReadyH.nil)
        · skip
          have cO1 := hO.cell 1
          (go_simp; try go_wp2_with fail)
          refine hK.out _ _ ?_ (fun hHeld2 => ?_)
          · ((try dsimp only); (exact ⟨hA.cell 1, (World.cell?_of_block (a := ⟨b, off + k, none⟩) (hb.block b hbl)).trans HC0.out⟩))
          clear hK K
          (try simp only [Act.put, List.setIfInBounds_toArray, List.set_cons_zero, List.set_cons_succ])
          refine hdCall (i := 8) (by kernel_rfl) rfl (fun K hK => ?_)
          (go_simp; try go_wp2_with fail)
          have hN := Own.new W5 48 #[.slice va2 ni vc2]
          have hbX := below_alloc1 W5 (.cells #[.slice va2 ni vc2] 48)
          replace hA := hA.keep hbX hA.lt
          replace hR := hR.keep hbX hR.lt
          replace hD := row_keep hD hbX
          replace hI := row_keep hI hbX
          replace hW := Lib.hid (hW.out.keep hbX)
          replace hb := below_trans' hb hbX hb.size
          replace hO := hO.keep hbX hO.lt
          generalize W5.alloc (.cells #[.slice va2 ni vc2] 48) = W6 at *
          generalize hhNg : W5.heap.size = ghN at *
          clear hbX hhNg
          refine hK.out _ _ ?_ (fun hHeld3 => ?_)
          · ((try dsimp only); (exact ⟨hA.cell 1, (World.cell?_of_block (a := ⟨b, off + k, none⟩) (hb.block b hbl)).trans HC0.out⟩))
          clear hK K
          (try simp only [Act.put, List.setIfInBounds_toArray, List.set_cons_zero, List.set_cons_succ])
          refine hdCall (i := 9) (by kernel_rfl) rfl (fun K hK => ?_)
          have HNW : Hid (∀ j u, ([Value.slice va2 ni vc2] : List Value)[j]? = some u → W6.cell? ((⟨ghN, 0, none⟩ : Addr).add j) = some u) := Lib.hid (fun j u hu => by rw [Addr.add_mid]; exact hN.range j u hu)
          have HRW := Lib.hid hI
          have hszW : w.heap.size ≤ W6.heap.size := hb.size
          rw [if_pos (by rfl)]
          refine wp_append_own_wide _ (.tmp 17) (.tmp 24) 65 rfl w.heap.size 48 ti tz 1 24 Try.underlying65 HI.out HZ.out HS.out HBt.out HZs.out (by omega) (.slice va k vc) k _ rfl HRW.out ⟨ghN, 0, none⟩ 1 1 [Value.slice va2 ni vc2] rfl rfl HNW.out HON.out (by simp only [maxLen]; omega) (by omega) hszW (fun v' W7 h2 h3 h4 => ?_)
          obtain ⟨xa9, xc9, rfl⟩ := row_slice h2
          replace hA := hA.grown h3 (own_ne_row hA HRW.out (by decide))
          replace hR := hR.grown h3 (own_ne_row hR HRW.out (by decide))
          replace hD := row_grown hD HRW.out (by decide) h3
          replace hW := Lib.hid (hW.out.grown h3 (fun q e => row_own HRW.out e))
          replace hb := grown_below hb h3 (fun j e => by have := (HRW.out.lt j e).1; omega) hb.size
          replace hO := hO.grown h3 (own_ne_row hO HRW.out (by decide))
          have H2 := Lib.hid h2
          clear h2 h4 hI hN
          clear HNW HRW hszW h3
          refine hK.out _ _ ?_ (fun hHeld4 => ?_)
          · ((try dsimp only); (exact ⟨hA.cell 1, (World.cell?_of_block (a := ⟨b, off + k, none⟩) (hb.block b hbl)).trans HC0.out⟩))
          clear hK K
          (try simp only [Act.put, List.setIfInBounds_toArray, List.set_cons_zero, List.set_cons_succ])
          (refine hdTake (i := 10) (v := ?_) rfl (by kernel_rfl) (by kernel_rfl) (by kernel_rfl) (fun _ _ _ h => h) (by rfl) ?_ (by assumption) ?_; rotate_left; (intro w hSw; (try dsimp only at hSw); go_simp; (try with_reducible rfl)); (try simp only [Act.put, List.setIfInBounds_toArray, List.set_cons_zero, List.set_cons_succ]))
          refine hdCall (i := 11) (by kernel_rfl) rfl (fun K hK => ?_)
          have cO2 := hO.cell 1
          have fO2 := hO.frozen 1
          (go_simp; go_wp2_with fail)
          replace hA := hA.far (p := ⟨gX, 1, none⟩) (by dsimp only; omega) (.slice xa9 (k + 1) xc9)
          replace hR := hR.far (p := ⟨gX, 1, none⟩) (by dsimp only; omega) (.slice xa9 (k + 1) xc9)
          replace hD := row_far (p := ⟨gX, 1, none⟩) hD hO (by decide) (.slice xa9 (k + 1) xc9)
          have H5 := Lib.hid (row_far (p := ⟨gX, 1, none⟩) H2.out hO (by decide) (.slice xa9 (k + 1) xc9))
          replace hW := Lib.hid (vals_far (p := ⟨gX, 1, none⟩) hW.out hO (by decide) (.slice xa9 (k + 1) xc9))
          replace hb := hb.setCell (p := ⟨gX, 1, none⟩) (by dsimp only; omega) (.slice xa9 (k + 1) xc9)
          replace hO := hO.set 1 (.slice xa9 (k + 1) xc9)
          generalize W7.setCell ⟨gX, 1, none⟩ (.slice xa9 (k + 1) xc9) = W8 at *
          refine hK.out _ _ ?_ (fun hHeld5 => ?_)
          · ((try dsimp only); (exact ⟨hA.cell 1, (World.cell?_of_block (a := ⟨b, off + k, none⟩) (hb.block b hbl)).trans HC0.out⟩))
          clear hK K
          (try simp only [Act.put, List.setIfInBounds_toArray, List.set_cons_zero, List.set_cons_succ])
          refine wpAnyH_done (by kernel_rfl) ?_ _
          go_wp2_with fail
          go_roundw
          case rel => exact ⟨k + 1, xa9, xc9, vs ++ [.slice va2 ni vc2], by omega, by go_num, hb, hA, hR, hO, hD, H5.out, by rw [HTK.out]; exact hW⟩
          case measure => simp [intOf] <;> omega
        · skip
          (go_simp; try go_wp2_with fail)
          have hN := Own.new W5 48 #[.slice va2 ni vc2]
          have hbX := below_alloc1 W5 (.cells #[.slice va2 ni vc2] 48)
          replace hA := hA.keep hbX hA.lt
          replace hR := hR.keep hbX hR.lt
          replace hD := row_keep hD hbX
          replace hI := row_keep hI hbX
          replace hW := Lib.hid (hW.out.keep hbX)
          replace hb := below_trans' hb hbX hb.size
          replace hO := hO.keep hbX hO.lt
          generalize W5.alloc (.cells #[.slice va2 ni vc2] 48) = W9 at *
          generalize hhNg : W5.heap.size = ghN at *
          clear hbX hhNg
          refine hK.out _ _ ?_ (fun hHeld2 => ?_)
          · ((try dsimp only); (exact ⟨hA.cell 1, (World.cell?_of_block (a := ⟨b, off + k, none⟩) (hb.block b hbl)).trans HC0.out⟩))
          clear hK K
          (try simp only [Act.put, List.setIfInBounds_toArray, List.set_cons_zero, List.set_cons_succ])
          refine hdCall (i := 1) (by kernel_rfl) rfl (fun K hK => ?_)
          have cO1 := hO.cell 1
          (go_simp; try go_wp2_with fail)
          refine hK.out _ _ ?_ (fun hHeld3 => ?_)
          · ((try dsimp only); (exact ⟨hA.cell 1, (World.cell?_of_block (a := ⟨b, off + k, none⟩) (hb.block b hbl)).trans HC0.out⟩))
          clear hK K
          (try simp only [Act.put, List.setIfInBounds_toArray, List.set_cons_zero, List.set_cons_succ])
          refine hdCall (i := 9) (by kernel_rfl) rfl (fun K hK => ?_)
          have HNW : Hid (∀ j u, ([Value.slice va2 ni vc2] : List Value)[j]? = some u → W9.cell? ((⟨ghN, 0, none⟩ : Addr).add j) = some u) := Lib.hid (fun j u hu => by rw [Addr.add_mid]; exact hN.range j u hu)
          have HRW := Lib.hid hI
          have hszW : w.heap.size ≤ W9.heap.size := hb.size
          rw [if_pos (by rfl)]
          refine wp_append_own_wide _ (.tmp 17) (.tmp 24) 65 rfl w.heap.size 48 ti tz 1 24 Try.underlying65 HI.out HZ.out HS.out HBt.out HZs.out (by omega) (.slice va k vc) k _ rfl HRW.out ⟨ghN, 0, none⟩ 1 1 [Value.slice va2 ni vc2] rfl rfl HNW.out HON.out (by simp only [maxLen]; omega) (by omega) hszW (fun v' W10 h2 h3 h4 => ?_)
          obtain ⟨xa9, xc9, rfl⟩ := row_slice h2
          replace hA := hA.grown h3 (own_ne_row hA HRW.out (by decide))
          replace hR := hR.grown h3 (own_ne_row hR HRW.out (by decide))
          replace hD := row_grown hD HRW.out (by decide) h3
          replace hW := Lib.hid (hW.out.grown h3 (fun q e => row_own HRW.out e))
          replace hb := grown_below hb h3 (fun j e => by have := (HRW.out.lt j e).1; omega) hb.size
          replace hO := hO.grown h3 (own_ne_row hO HRW.out (by decide))
          have H2 := Lib.hid h2
          clear h2 h4 hI hN
          clear HNW HRW hszW h3
          refine hK.out _ _ ?_ (fun hHeld4 => ?_)
          · ((try dsimp only); (exact ⟨hA.cell 1, (World.cell?_of_block (a := ⟨b, off + k, none⟩) (hb.block b hbl)).trans HC0.out⟩))
          clear hK K
          (try simp only [Act.put, List.setIfInBounds_toArray, List.set_cons_zero, List.set_cons_succ])
          (refine hdTake (i := 10) (v := ?_) rfl (by kernel_rfl) (by kernel_rfl) (by kernel_rfl) (fun _ _ _ h => h) (by rfl) ?_ (by assumption) ?_; rotate_left; (intro w hSw; (try dsimp only at hSw); go_simp; (try with_reducible rfl)); (try simp only [Act.put, List.setIfInBounds_toArray, List.set_cons_zero, List.set_cons_succ]))
          refine hdCall (i := 11) (by kernel_rfl) rfl (fun K hK => ?_)
          have cO2 := hO.cell 1
          have fO2 := hO.frozen 1
          (go_simp; go_wp2_with fail)
          replace hA := hA.far (p := ⟨gX, 1, none⟩) (by dsimp only; omega) (.slice xa9 (k + 1) xc9)
          replace hR := hR.far (p := ⟨gX, 1, none⟩) (by dsimp only; omega) (.slice xa9 (k + 1) xc9)
          replace hD := row_far (p := ⟨gX, 1, none⟩) hD hO (by decide) (.slice xa9 (k + 1) xc9)
          have H5 := Lib.hid (row_far (p := ⟨gX, 1, none⟩) H2.out hO (by decide) (.slice xa9 (k + 1) xc9))
          replace hW := Lib.hid (vals_far (p := ⟨gX, 1, none⟩) hW.out hO (by decide) (.slice xa9 (k + 1) xc9))
          replace hb := hb.setCell (p := ⟨gX, 1, none⟩) (by dsimp only; omega) (.slice xa9 (k + 1) xc9)
          replace hO := hO.set 1 (.slice xa9 (k + 1) xc9)
          generalize W10.setCell ⟨gX, 1, none⟩ (.slice xa9 (k + 1) xc9) = W11 at *
          refine hK.out _ _ ?_ (fun hHeld5 => ?_)
          · ((try dsimp only); (exact ⟨hA.cell 1, (World.cell?_of_block (a := ⟨b, off + k, none⟩) (hb.block b hbl)).trans HC0.out⟩))
          clear hK K
          (try simp only [Act.put, List.setIfInBounds_toArray, List.set_cons_zero, List.set_cons_succ])
          refine wpAnyH_done (by kernel_rfl) ?_ _
          go_wp2_with fail
          go_roundw
          case rel => exact ⟨k + 1, xa9, xc9, vs ++ [.slice va2 ni vc2], by omega, by go_num, hb, hA, hR, hO, hD, H5.out, by rw [HTK.out]; exact hW⟩
          case measure => simp [intOf] <;> omega
    · have he : k = n := by omega
      subst he
      rw [List.take_of_length_le (Nat.le_of_eq HLn.out)] at hW
      have HD := Lib.hid hD
      have HI2 := Lib.hid hI
      clear hD hI
      have k0 := hO.cell 0
      have k1 := hO.cell 1
      have r0 := hR.cell 0
      have r1 := hR.cell 1
      have f0 := hR.frozen 0
      have f1 := hR.frozen 1
      go_wp2_with fail
      have s2 := ((hR.set 0 (.slice xa dn xc)).set 1 (.slice va k vc))
      refine bodyPost_ret (results_cell_row rfl _ _ (w.heap.size + 1) 67 #[.slice xa dn xc, .slice va k vc] (0, 0) _ rfl s2 Try.underlying67 rfl Try.info_alg) rfl ⟨xa, xc, va, vc, vs, rfl, ?_, ?_, ?_, ?_⟩
      · exact row_far (p := ⟨w.heap.size + 1, 1, none⟩) (row_far (p := ⟨w.heap.size + 1, 0, none⟩) HD.out hR (by decide) _) (hR.set 0 _) (by decide) _
      · exact row_far (p := ⟨w.heap.size + 1, 1, none⟩) (row_far (p := ⟨w.heap.size + 1, 0, none⟩) HI2.out hR (by decide) _) (hR.set 0 _) (by decide) _
      · exact vals_far (p := ⟨w.heap.size + 1, 1, none⟩) (vals_far (p := ⟨w.heap.size + 1, 0, none⟩) hW.out hR (by decide) _) (hR.set 0 _) (by decide) _
      · exact (hb.setCell (p := ⟨w.heap.size + 1, 0, none⟩) (by dsimp only; omega) _).setCell (p := ⟨w.heap.size + 1, 1, none⟩) (by dsimp only; omega) _

theorem tm_snoc {V : List (List Tm)} {fs : List Tm} (h : ∀ ts ∈ V, ∀ t ∈ ts, IsTm t) (hf : ∀ t ∈ fs, IsTm t) : ∀ ts ∈ V ++ [fs], ∀ t ∈ ts, IsTm t := by
  intro ts hts
  rcases List.mem_append.1 hts with h1 | h1
  · exact h ts h1
  · obtain rfl : ts = fs := by simpa using h1
    exact hf
end Go.Proofs.Yteocfhflclnkhaa

namespace Go.Proofs.Yteocfhflclnkhaa
open Go.RowKit Go.Deep

def wgE (zs : List Int) (ims : List (List Tm)) (fs : List Tm) (d : Int) : Int :=
  if algF zs ims fs = false then 1 else if ¬ (1 ≤ d ∧ d ≤ 12) then 2 else if (zeroOr zs fs (d + 1) && closedB zs ims fs) = false then 5 else if zs.length = 8 then 3 else 0
def wgD (zs : List Int) (ims : List (List Tm)) (fs : List Tm) (d : Int) : List Int := if wgE zs ims fs d = 0 then zs ++ [d] else []
def wgI (zs : List Int) (ims : List (List Tm)) (fs : List Tm) (d : Int) : List (List Tm) := if wgE zs ims fs d = 0 then ims ++ [fs] else []
theorem wg_err {zs : List Int} {ims : List (List Tm)} {fs : List Tm} {d e : Int} (h : wgE zs ims fs d = e) (h0 : ¬ e = 0) : wgE zs ims fs d = e ∧ wgD zs ims fs d = [] ∧ wgI zs ims fs d = [] := by
  refine ⟨h, ?_, ?_⟩
  · rw [wgD, if_neg (by rw [h]; exact h0)]
  · rw [wgI, if_neg (by rw [h]; exact h0)]
theorem wg_1 {zs : List Int} {ims : List (List Tm)} {fs : List Tm} {d : Int} (h : algF zs ims fs = false) : wgE zs ims fs d = 1 := by simp [wgE, h]
theorem wg_2 {zs : List Int} {ims : List (List Tm)} {fs : List Tm} {d : Int} (h : algF zs ims fs = true) (h2 : ¬ (1 ≤ d ∧ d ≤ 12)) : wgE zs ims fs d = 2 := by rw [wgE, if_neg (by simp [h]), if_pos h2]
theorem wg_5 {zs : List Int} {ims : List (List Tm)} {fs : List Tm} {d : Int} (h : algF zs ims fs = true) (h2 : 1 ≤ d ∧ d ≤ 12) (h3 : zeroOr zs fs (d + 1) = false ∨ closedB zs ims fs = false) : wgE zs ims fs d = 5 := by
  rw [wgE, if_neg (by simp [h]), if_neg (by simpa using h2), if_pos (by rcases h3 with h3 | h3 <;> simp [h3])]
theorem wg_3 {zs : List Int} {ims : List (List Tm)} {fs : List Tm} {d : Int} (h : algF zs ims fs = true) (h2 : 1 ≤ d ∧ d ≤ 12) (h3 : zeroOr zs fs (d + 1) = true) (h4 : closedB zs ims fs = true) (h5 : zs.length = 8) : wgE zs ims fs d = 3 := by
  rw [wgE, if_neg (by simp [h]), if_neg (by simpa using h2), if_neg (by simp [h3, h4]), if_pos h5]
theorem wg_0 {zs : List Int} {ims : List (List Tm)} {fs : List Tm} {d : Int} (h : algF zs ims fs = true) (h2 : 1 ≤ d ∧ d ≤ 12) (h3 : zeroOr zs fs (d + 1) = true) (h4 : closedB zs ims fs = true) (h5 : ¬ zs.length = 8) : wgE zs ims fs d = 0 ∧ wgD zs ims fs d = zs ++ [d] ∧ wgI zs ims fs d = ims ++ [fs] := by
  have e : wgE zs ims fs d = 0 := by rw [wgE, if_neg (by simp [h]), if_neg (by simpa using h2), if_neg (by simp [h3, h4]), if_neg h5]
  exact ⟨e, by rw [wgD, if_pos e], by rw [wgI, if_pos e]⟩

theorem FrmsN.frms {w : World} {a : Option Addr} {n : Nat} {fss : List (List Tm)} (h : FrmsN w a n fss) (hL : ∀ ts ∈ fss, (ts.length : Int) ≤ 1048576) : Frms w a n fss :=
  ⟨h.1, fun hn => by
    obtain ⟨b, off, ha, hlt, hc⟩ := h.2 hn
    refine ⟨b, off, ha, hlt, fun i ts hi => ?_⟩
    obtain ⟨ai, ni, ci, h1, h2, -⟩ := hc i ts hi
    exact ⟨ai, ni, ci, h1, h2, by have := hL ts (List.mem_of_getElem? hi); have := h2.len; omega⟩⟩
/-- What a cell of a list of forms says. -/
def SlN (w : World) (v : Value) (ts : List Tm) : Prop := ∃ ai ni ci, v = .slice ai ni ci ∧ Terms w ai ni ts ∧ ((ai = none ∧ ni = 0 ∧ ci = 0) ∨ ∃ bi oi, ai = some ⟨bi, oi, none⟩)
theorem FrmsN.cells {w : World} {gi oi n : Nat} {fss : List (List Tm)} (h : FrmsN w (some ⟨gi, oi, none⟩) n fss) : ∃ vs : List Value, vs.length = n ∧ (∀ (j : Nat) v, vs[j]? = some v → w.cell? ⟨gi, oi + j, none⟩ = some v) ∧ (∀ (j : Nat) v ts, vs[j]? = some v → fss[j]? = some ts → SlN w v ts) := by
  have hl := h.1
  have hx : ∀ j, j < n → ∃ v, w.cell? ⟨gi, oi + j, none⟩ = some v ∧ ∀ ts, fss[j]? = some ts → SlN w v ts := by
    intro j hj
    obtain ⟨b, off, e, hb, hc⟩ := h.2 (by omega)
    injection e with e
    injection e with e1 e2
    subst e1 e2
    obtain ⟨ai, ni, ci, h1, h2, h3⟩ := hc j _ (List.getElem?_eq_getElem (show j < fss.length by omega))
    exact ⟨_, h1, fun ts hts => by
      rw [List.getElem?_eq_getElem (show j < fss.length by omega)] at hts
      injection hts with hts
      subst hts
      exact ⟨ai, ni, ci, rfl, h2, h3⟩⟩
  obtain ⟨f, hf⟩ := choose_lt (α := Value) (n := n) (p := fun j v => w.cell? ⟨gi, oi + j, none⟩ = some v ∧ ∀ ts, fss[j]? = some ts → SlN w v ts) hx
  refine ⟨(List.range n).map f, by simp, fun j v hv => ?_, fun j v ts hv hts => ?_⟩
  all_goals
    have hj := (List.getElem?_eq_some_iff.1 hv).1
    rw [List.length_map, List.length_range] at hj
    rw [List.getElem?_map, List.getElem?_range hj] at hv
    injection hv with hv
    subst hv
  · exact (hf j hj).1
  · exact (hf j hj).2 ts hts
theorem SlN.keep {w w' : World} {v : Value} {ts : List Tm} (h : SlN w v ts) (hb : Below w.heap.size w w') : SlN w' v ts := by
  obtain ⟨ai, ni, ci, h1, h2, h3⟩ := h
  exact ⟨ai, ni, ci, h1, h2.keep hb, h3⟩
theorem SlN.one {w : World} {v : Value} {ts : List Tm} (h : SlN w v ts) : v.oneCell' = true := by
  obtain ⟨ai, ni, ci, rfl, -⟩ := h
  rfl
theorem frmsN_row {w : World} {B n : Nat} {v : Value} {vs : List Value} {fss : List (List Tm)} (h : w.ownsRow B 48 1 v n vs) (hl : fss.length = n) (hs : ∀ (j : Nat) u ts, vs[j]? = some u → fss[j]? = some ts → SlN w u ts) (hn : 0 < n) : ∃ g c, v = .slice (some ⟨g, 0, none⟩) n c ∧ FrmsN w (some ⟨g, 0, none⟩) n fss := by
  have hc := fun g => World.ownsRow.cells (g := g) h
  have hvl : vs.length = n := by have := h.1; omega
  rcases h.2 with ⟨hv, h0⟩ | ⟨g, cap, cur, hv, hb, hg, hnc, _⟩
  · omega
  · refine ⟨g, cap, hv, hl, fun _ => ⟨g, 0, rfl, (Array.getElem?_eq_some_iff.1 hg).1, fun i ts hi => ?_⟩⟩
    have hii := (List.getElem?_eq_some_iff.1 hi).1
    have hu : vs[i]? = some (vs[i]'(by omega)) := List.getElem?_eq_getElem (by omega)
    obtain ⟨ai, ni, ci, h1, h2, h3⟩ := hs i _ ts hu hi
    have h4 := hc g (by rw [hv]; rfl) i _ hu
    rw [Addr.add_mid] at h4
    exact ⟨ai, ni, ci, by rw [h4, h1], h2, h3⟩
theorem ints_row {w : World} {B n : Nat} {v : Value} {zs : List Int} (h : w.ownsRow B 2 1 v n (zs.map (Value.int .i64))) (hn : 0 < n) : ∃ g c, v = .slice (some ⟨g, 0, none⟩) n c ∧ Ints w (some ⟨g, 0, none⟩) n zs := by
  obtain ⟨a, c, hv, hO⟩ := OwnV.of_row h
  have hi := hO.ints
  obtain ⟨g, cs, e, -⟩ := hO.2 hn
  subst e
  exact ⟨g, c, hv, hi⟩
theorem sum_snoc (V : List (List Tm)) (fs : List Tm) : sumLen (V ++ [fs]) = sumLen V + fs.length := by simp [sumLen]

theorem sln_snoc {w : World} {n : Nat} {vs : List Value} {V : List (List Tm)} {v : Value} {fs : List Tm} (hl : vs.length = n) (hV : V.length = n) (h : ∀ (j : Nat) u ts, vs[j]? = some u → V[j]? = some ts → SlN w u ts) (hv : SlN w v fs) :
    ∀ (j : Nat) u ts, (vs ++ [v])[j]? = some u → (V ++ [fs])[j]? = some ts → SlN w u ts := by
  intro j u ts h1 h2
  by_cases hj : j < n
  · rw [List.getElem?_append_left (by omega)] at h1 h2
    exact h j u ts h1 h2
  · rw [List.getElem?_append_right (by omega)] at h1 h2
    have hj1 := (List.getElem?_eq_some_iff.1 h1).1
    simp at hj1
    rw [show j - vs.length = 0 by omega] at h1
    rw [show j - V.length = 0 by omega] at h2
    simp only [List.getElem?_cons_zero, Option.some.injEq] at h1 h2
    subst h1 h2
    exact hv
theorem isAlg_lenQ2 {zs : List Int} {ims : List (List Tm)} (h : isAlg zs ims = true) : ims.length = zs.length := by
  simp only [isAlg, Bool.and_eq_true, decide_eq_true_eq] at h
  exact h.2.1
theorem isAlg_400b {zs : List Int} {ims : List (List Tm)} (h : isAlg zs ims = true) : ∀ ts ∈ ims, ts.length ≤ 400 := by
  intro ts hts
  obtain ⟨k, hk, rfl⟩ := List.mem_iff_getElem.1 hts
  have hl := isAlg_lenQ2 h
  simp only [isAlg, Bool.and_eq_true] at h
  have h4 := List.all_eq_true.1 h.2.2.1 k (List.mem_range.2 hk)
  have h5 := okIm_of (z := zs[k]'(by omega)) (List.getElem?_eq_getElem (show k < zs.length by omega)) (List.getElem?_eq_getElem hk) rfl
  rw [h4] at h5
  have h6 := zeroOr_form h5.symm
  simp only [isForm, Bool.and_eq_true, decide_eq_true_eq] at h6
  omega
theorem sumLen_bdB {V : List (List Tm)} {B : Nat} (h : ∀ ts ∈ V, ts.length ≤ B) : sumLen V ≤ V.length * B := by
  induction V with
  | nil => simp [sumLen]
  | cons x l ih =>
    have h1 := h x (by simp)
    have h2 := ih (fun y hy => h y (by simp [hy]))
    have h3 : sumLen (x :: l) = x.length + sumLen l := by simp [sumLen]
    rw [h3, List.length_cons, Nat.succ_mul]
    omega
theorem sum_bd {V : List (List Tm)} {n fn : Nat} (hl : V.length = n) (h : ∀ ts ∈ V, ts.length ≤ 400) (hn : n ≤ 8) (hf : fn ≤ 400) : sumLen V + fn ≤ 1048576 := by
  have := sumLen_bdB h
  rw [hl] at this
  have : n * 400 ≤ 8 * 400 := Nat.mul_le_mul_right 400 hn
  omega

end Go.Proofs.Yteocfhflclnkhaa

namespace Go.Proofs.Yteocfhflclnkhaa
open Go.RowKit Go.Deep

theorem isForm_lo {zs : List Int} {ts : List Tm} (h : isForm zs ts = true) : (listOk zs ts && decide (ts.length ≤ 400)) = true := by
  simp only [isForm, Bool.and_eq_true] at h ⊢
  first | exact h.2 | exact ⟨h.1.2, h.2⟩ | exact ⟨h.2.1, h.2.2⟩
theorem zo_no {zs : List Int} {ts : List Tm} {x : Int} (hd : degsOk zs = true) (h : allW zs ts = false ∨ (¬ ts.length = 0 ∧ ¬ degA zs ts = x)) : zeroOr zs ts x = false := by
  rw [zeroOr_eq hd]
  rcases h with h | ⟨h1, h2⟩
  · simp [h]
  · have e1 : (degA zs ts == x) = false := by simpa using h2
    have e2 : (ts.length == 0) = false := by simpa using h1
    simp [e1, e2]
theorem zo_yes {zs : List Int} {ts : List Tm} {x : Int} (hd : degsOk zs = true) (hf : isForm zs ts = true) (h : allW zs ts = true) (h2 : ts.length = 0 ∨ degA zs ts = x) : zeroOr zs ts x = true := by
  rw [zeroOr_eq hd, isForm_lo hf, h]
  rcases h2 with h2 | h2 <;> simp [h2]

end Go.Proofs.Yteocfhflclnkhaa
