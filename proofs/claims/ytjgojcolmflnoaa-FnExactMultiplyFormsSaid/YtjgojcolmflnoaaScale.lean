/- Multiples of a form: the program's. -/
import Derived.Test.YtjgojcolmflnoaaAddM
import Derived.Test.YtjgojcolmflnoaaPart
import Derived.Test.YtjgojcolmflnoaaHeld
namespace Go.Proofs.Ytjgojcolmflnoaa
open Go.RowKit Go.Deep

def scaleE (zs : List Int) (ts : List Tm) (k : Int) : Int := if isForm zs ts = true then (if 0 ≤ k ∧ k ≤ 10006 then 0 else 2) else 1
def scaleV (zs : List Int) (ts : List Tm) (k : Int) : List Tm := if isForm zs ts = true ∧ 1 ≤ k ∧ k ≤ 10006 then scT k ts else []
theorem isForm_f {zs : List Int} {ts : List Tm} (h : isForm zs ts = true) : ∀ t ∈ ts, 1 ≤ t.f ∧ t.f ≤ 10006 := by
  intro t ht
  simp only [isForm, Bool.and_eq_true] at h
  have := listOk_all h.2.1 t ht
  simp only [okTm, Bool.and_eq_true, decide_eq_true_eq] at this
  exact this.2
theorem scT_take {k : Int} {ts : List Tm} {i : Nat} {t : Tm} (h : ts[i]? = some t) : scT k (ts.take (i + 1)) = scT k (ts.take i) ++ [⟨t.m, num (k * t.f)⟩] := by
  rw [scT, List.take_add_one, h, List.map_append]; rfl

set_option maxHeartbeats 4000000 in
set_option maxRecDepth 100000 in
theorem ScaleForm_c {w : World} {da : Option Addr} {dn : Nat} {zs : List Int} {a : Option Addr} {n : Nat} {ts : List Tm} (dc c : Nat) (k0 : Int) (hd : Ints w da dn zs) (hdn : dn ≤ 1048576) (h : Terms w a n ts) (hn : n ≤ 1048576) :
    Calls Try.prog 49 #[.slice da dn dc, .int .i64 k0, .agg #[.slice a n c]] w fun e w' => ∃ v, e = .returned (.tuple #[.agg #[v], .int .i64 (scaleE zs ts k0)]) ∧ OwnForm w' w.heap.size v (scaleV zs ts k0) ∧ Below w.heap.size w w' := by
  have HL := Lib.hid hd.len
  have HLt := Lib.hid h.len
  have HT := Lib.hid h.2.1
  have hF0 := (Own.new w 56 #[.slice a n c]).alloc (.cells #[.slice none 0 0] 56)
  have hR0 := Own.new (w.alloc (.cells #[.slice a n c] 56)) 56 #[.slice none 0 0]
  rw [size_alloc] at hR0
  have hb0 := below_then (below_alloc1 w (.cells #[.slice a n c] 56)) (below_alloc1 _ (.cells #[.slice none 0 0] 56))
  have c0 := hF0.cell 0
  have HFt0 : isForm zs ts = true → ∀ t ∈ ts, 1 ≤ t.f ∧ t.f ≤ 10006 := isForm_f
  cases hif : isForm zs ts with
  | false =>
    have HIF := Lib.hid hif
    clear hif
    go_enter Try.func49, Try.ntmps49
    go_upto_region 1 with fail
    generalize (w.alloc (.cells #[.slice a n c] 56)).alloc (.cells #[.slice none 0 0] 56) = w0 at *
    go_wp2_with fail
    refine (IsForm_c dc c (hd.keep hb0) hdn (h.keep hb0) hn).mono ?_
    rintro e w1 ⟨rfl, hb1⟩
    rw [HIF.out]
    have hR1 := hR0.keep hb1 hR0.lt
    have cR := hR1.cell 0
    have fR := hR1.frozen 0
    go_wp2_with fail
    have q := hR1.set 0 (.slice none 0 0)
    refine bodyPost_ret (results_row2 rfl _ _ (w.heap.size + 1) 56 #[.slice none 0 0] (0, 0) _ rfl q Try.underlying56 rfl Try.info_form) rfl ⟨.slice none 0 0, by rw [scaleE, HIF.out]; rfl, ?_, (below_trans' hb0 hb1 hb0.size).setCell (p := ⟨w.heap.size + 1, 0, none⟩) (by dsimp only; omega) _⟩
    rw [scaleV, HIF.out, if_neg (by simp)]
    exact ⟨World.ownsRow_nil _ _ _ _, by simp⟩
  | true =>
    have HIF := Lib.hid hif
    have hd8 : dn ≤ 8 := by have := degsOk_len (isForm_degs hif); have := HL.out; omega
    have hz := degsOk_mild (isForm_degs hif)
    have h400 : n ≤ 400 := by
      simp only [isForm, Bool.and_eq_true, decide_eq_true_eq] at hif
      have := HLt.out
      omega
    have HFt := Lib.hid (HFt0 hif)
    have H400 := Lib.hid h400
    clear HFt0
    clear hif h400
    by_cases hneg : k0 < 0
    · go_enter Try.func49, Try.ntmps49
      go_upto_region 1 with fail
      generalize (w.alloc (.cells #[.slice a n c] 56)).alloc (.cells #[.slice none 0 0] 56) = w0 at *
      go_wp2_with fail
      refine (IsForm_c dc c (hd.keep hb0) hdn (h.keep hb0) hn).mono ?_
      rintro e w1 ⟨rfl, hb1⟩
      rw [HIF.out]
      have hR1 := hR0.keep hb1 hR0.lt
      have cR := hR1.cell 0
      have fR := hR1.frozen 0
      go_wp2_with fail
      have q := hR1.set 0 (.slice none 0 0)
      refine bodyPost_ret (results_row2 rfl _ _ (w.heap.size + 1) 56 #[.slice none 0 0] (0, 0) _ rfl q Try.underlying56 rfl Try.info_form) rfl ⟨.slice none 0 0, by rw [scaleE, HIF.out, if_neg (show ¬ (0 ≤ k0 ∧ k0 ≤ 10006) by omega)]; rfl, ?_, (below_trans' hb0 hb1 hb0.size).setCell (p := ⟨w.heap.size + 1, 0, none⟩) (by dsimp only; omega) _⟩
      rw [scaleV, if_neg (by omega)]
      exact ⟨World.ownsRow_nil _ _ _ _, by simp⟩
    · by_cases hbig : 10007 ≤ k0
      · go_enter Try.func49, Try.ntmps49
        go_upto_region 1 with fail
        generalize (w.alloc (.cells #[.slice a n c] 56)).alloc (.cells #[.slice none 0 0] 56) = w0 at *
        go_wp2_with fail
        refine (IsForm_c dc c (hd.keep hb0) hdn (h.keep hb0) hn).mono ?_
        rintro e w1 ⟨rfl, hb1⟩
        rw [HIF.out]
        have hR1 := hR0.keep hb1 hR0.lt
        have cR := hR1.cell 0
        have fR := hR1.frozen 0
        go_wp2_with fail
        have q := hR1.set 0 (.slice none 0 0)
        refine bodyPost_ret (results_row2 rfl _ _ (w.heap.size + 1) 56 #[.slice none 0 0] (0, 0) _ rfl q Try.underlying56 rfl Try.info_form) rfl ⟨.slice none 0 0, by rw [scaleE, HIF.out, if_neg (show ¬ (0 ≤ k0 ∧ k0 ≤ 10006) by omega)]; rfl, ?_, (below_trans' hb0 hb1 hb0.size).setCell (p := ⟨w.heap.size + 1, 0, none⟩) (by dsimp only; omega) _⟩
        rw [scaleV, if_neg (by omega)]
        exact ⟨World.ownsRow_nil _ _ _ _, by simp⟩
      · have hd0 : 0 ≤ k0 ∧ k0 ≤ 10006 := by omega
        by_cases hz0 : k0 = 0
        · subst hz0
          go_enter Try.func49, Try.ntmps49
          go_upto_region 1 with fail
          generalize (w.alloc (.cells #[.slice a n c] 56)).alloc (.cells #[.slice none 0 0] 56) = w0 at *
          go_wp2_with fail
          refine (IsForm_c dc c (hd.keep hb0) hdn (h.keep hb0) hn).mono ?_
          rintro e w1 ⟨rfl, hb1⟩
          rw [HIF.out]
          have hR1 := (hR0.keep hb1 hR0.lt).alloc (.cells #[.slice none 0 0] 56)
          have hb01 := below_trans' hb0 hb1 hb0.size
          have cR := hR1.cell 0
          have fR := hR1.frozen 0
          go_wp2_with fail
          have q := hR1.set 0 (.slice none 0 0)
          refine bodyPost_ret (results_row2 rfl _ _ (w.heap.size + 1) 56 #[.slice none 0 0] (0, 0) _ rfl q Try.underlying56 rfl Try.info_form) rfl ⟨.slice none 0 0, by rw [scaleE, HIF.out, if_pos (show (0 : Int) ≤ 0 ∧ (0 : Int) ≤ 10006 by omega)]; rfl, ?_, ((below_trans' hb0 hb1 hb0.size).alloc hb01.size _).setCell (p := ⟨w.heap.size + 1, 0, none⟩) (by dsimp only; omega) _⟩
          rw [scaleV, if_neg (by omega)]
          exact ⟨World.ownsRow_nil _ _ _ _, by simp⟩
        · have hzb : (k0 == 0) = false := by simpa using hz0
          go_enter Try.func49, Try.ntmps49
          go_upto_region 1 with fail
          generalize (w.alloc (.cells #[.slice a n c] 56)).alloc (.cells #[.slice none 0 0] 56) = w0 at *
          go_wp2_with fail
          refine (IsForm_c dc c (hd.keep hb0) hdn (h.keep hb0) hn).mono ?_
          rintro e w1 ⟨rfl, hb1⟩
          rw [HIF.out]
          have hR1 := hR0.keep hb1 hR0.lt
          have c1 := (hF0.keep hb1 hF0.lt).cell 0
          have hb01 := below_trans' hb0 hb1 hb0.size
          have hl1 := hR1.lt
          clear c0 hF0 hR0 hb0 hb1
          go_upto_region 6 with fail
          have hR2 := hR1.alloc (.cells #[.slice none 0 0] 56)
          have hG2 := Own.new w1 56 #[.slice none 0 0]
          have hb02 := below_trans' hb01 (below_alloc1 w1 (.cells #[.slice none 0 0] 56)) hb01.size
          have hs2 := size_alloc w1 (.cells #[.slice none 0 0] 56)
          have c2 : (w1.alloc (.cells #[.slice none 0 0] 56)).cell? ⟨w.heap.size, 0, none⟩ = some (.slice a n c) := by
            rw [World.cell?_alloc_lt _ _ _ (World.block_lt_of_cell? w1 ⟨w.heap.size, 0, none⟩ c1)]; exact c1
          generalize w1.alloc (.cells #[.slice none 0 0] 56) = w2 at *
          generalize hg8 : w1.heap.size = g8 at *
          clear c1 hb01 hR1 hg8
          go_wp2_with fail
          clear c2
          go_loopw [29] (fun i wr => ∃ (k : Nat) (v : Value), k ≤ n ∧ i = .int .i64 k ∧ Below w.heap.size w wr ∧ Own wr (w.heap.size + 1) 56 #[.slice none 0 0] ∧ Own wr g8 56 #[v] ∧ OwnForm wr (g8 + 1) v (scT k0 (ts.take k))) (fun i _ => n - (intOf i).toNat)
          case atStart => exact ⟨0, .slice none 0 0, Nat.zero_le _, rfl, hb02, hR2, hG2, by simp only [List.take_zero]; exact ⟨World.ownsRow_nil _ _ _ _, by simp [scT]⟩⟩
          case round =>
            clear hb02 hR2 hG2 hs2
            obtain ⟨k, v, hk, rfl, hb, hR, hG, hO⟩ := hrel
            obtain ⟨va, vn, vc, rfl⟩ := hO.isSlice
            by_cases hlt : k < n
            · obtain ⟨b, off, t, rfl, hbl, hr, ht, hx⟩ := (h.keep hb).at_ hlt
              obtain ⟨mt, ft⟩ := t
              have hmt : IsMono mt := ht.1
              have hft : 1 ≤ ft ∧ ft ≤ 10006 := HFt.out ⟨mt, ft⟩ (List.mem_of_getElem? hx.out)
              obtain ⟨p0, p1, p2, p3, p4, p5, p6, p7, rfl⟩ := mono8 hmt
              obtain ⟨y0, y1, y2, y3, y4, y5, y6, y7, y8⟩ := nine hr
              obtain ⟨x, hx0⟩ : ∃ x, num (k0 * ft) = x := ⟨_, rfl⟩
              have HX := Lib.hid hx0
              have hku : 0 ≤ k0 * ft ∧ k0 * ft ≤ 100120036 := mul_b (by omega) (by omega) (by omega) (by omega)
              have s1 : IntKind.i64.wrap (k0 * ft) = k0 * ft := IntWalk.i64_in _ (by omega)
              clear hx0
              go_upto_region 11 with fail
              clear y0 y1 y2 y3 y4 y5 y6 y7 y8 hr
              have hba := below_alloc1 wr (.cells #[.int .u8 p0, .int .u8 p1, .int .u8 p2, .int .u8 p3, .int .u8 p4, .int .u8 p5, .int .u8 p6, .int .u8 p7, .int .i64 ft] 96)
              have hgg := hG.lt
              have hneT : (Value.slice va vn vc).ownBlock ≠ some wr.heap.size := fun e => by have := (World.ownsRow.lt hO.1 _ e).2; omega
              replace hb := below_trans' hb hba hb.size
              replace hR := hR.alloc (.cells #[.int .u8 p0, .int .u8 p1, .int .u8 p2, .int .u8 p3, .int .u8 p4, .int .u8 p5, .int .u8 p6, .int .u8 p7, .int .i64 ft] 96)
              replace hG := hG.alloc (.cells #[.int .u8 p0, .int .u8 p1, .int .u8 p2, .int .u8 p3, .int .u8 p4, .int .u8 p5, .int .u8 p6, .int .u8 p7, .int .i64 ft] 96)
              replace hO := hO.keep hba
              have hT := Own.new wr 96 #[.int .u8 p0, .int .u8 p1, .int .u8 p2, .int .u8 p3, .int .u8 p4, .int .u8 p5, .int .u8 p6, .int .u8 p7, .int .i64 ft]
              clear hba
              generalize wr.alloc (.cells #[.int .u8 p0, .int .u8 p1, .int .u8 p2, .int .u8 p3, .int .u8 p4, .int .u8 p5, .int .u8 p6, .int .u8 p7, .int .i64 ft] 96) = w4 at *
              generalize hg10 : wr.heap.size = g10 at *
              replace hR : Own w4.drew (w.heap.size + 1) 56 #[.slice none 0 0] := hR
              replace hG : Own w4.drew g8 56 #[.slice va vn vc] := hG
              replace hT : Own w4.drew g10 96 #[.int .u8 p0, .int .u8 p1, .int .u8 p2, .int .u8 p3, .int .u8 p4, .int .u8 p5, .int .u8 p6, .int .u8 p7, .int .i64 ft] := hT
              replace hO : OwnForm w4.drew (g8 + 1) (.slice va vn vc) (scT k0 (ts.take k)) := hO
              replace hb : Below w.heap.size w w4.drew := hb.drew
              have cG := hG.cell 0
              have hnews : ∀ z u, ([Value.int .u8 p0, .int .u8 p1, .int .u8 p2, .int .u8 p3, .int .u8 p4, .int .u8 p5, .int .u8 p6, .int .u8 p7, .int .i64 x] : List Value)[z]? = some u → (w4.drew.alloc (.cells #[.int .u8 p0, .int .u8 p1, .int .u8 p2, .int .u8 p3, .int .u8 p4, .int .u8 p5, .int .u8 p6, .int .u8 p7, .int .i64 x] 96)).cell? ((⟨w4.heap.size, 0, none⟩ : Addr).add z) = some u := fun z u hu => by
                rw [Addr.add_mid]
                exact (Own.new w4.drew 96 #[.int .u8 p0, .int .u8 p1, .int .u8 p2, .int .u8 p3, .int .u8 p4, .int .u8 p5, .int .u8 p6, .int .u8 p7, .int .i64 x]).range z u hu
              have hone : ∀ u ∈ ([Value.int .u8 p0, .int .u8 p1, .int .u8 p2, .int .u8 p3, .int .u8 p4, .int .u8 p5, .int .u8 p6, .int .u8 p7, .int .i64 x] : List Value), u.oneCell' = true := by simp [Value.oneCell']
              have hpl : (scT k0 (ts.take k)).length ≤ 400 := by
                have h2 := H400.out
                simp only [scT, List.length_map, List.length_take]
                omega
              obtain ⟨ti, tz, hti, htz, hts, htb, htzs⟩ := Try.info_termA
              have HN := Lib.hid hnews
              have HO := Lib.hid hone
              have HP := Lib.hid hpl
              have HI := Lib.hid hti
              have HZ := Lib.hid htz
              have HS := Lib.hid hts
              have HBt := Lib.hid htb
              have HZs := Lib.hid htzs
              clear hnews hone hpl hti htz hts htb htzs
              refine wp_region_held_drew (S := (fun w' => w'.cell? ⟨g10, 0, none⟩ = some (.int .u8 p0) ∧ w'.cell? ⟨g10, 1, none⟩ = some (.int .u8 p1) ∧ w'.cell? ⟨g10, 2, none⟩ = some (.int .u8 p2) ∧ w'.cell? ⟨g10, 3, none⟩ = some (.int .u8 p3) ∧ w'.cell? ⟨g10, 4, none⟩ = some (.int .u8 p4) ∧ w'.cell? ⟨g10, 5, none⟩ = some (.int .u8 p5) ∧ w'.cell? ⟨g10, 6, none⟩ = some (.int .u8 p6) ∧ w'.cell? ⟨g10, 7, none⟩ = some (.int .u8 p7) ∧ w'.cell? ⟨g10, 8, none⟩ = some (.int .i64 ft))) (by kernel_rfl) ?_ (fun hHeld => ?_)
              · ((try dsimp only); (exact ⟨hT.cell 0, hT.cell 1, hT.cell 2, hT.cell 3, hT.cell 4, hT.cell 5, hT.cell 6, hT.cell 7, hT.cell 8⟩))
              (refine hdTake (i := 0) (v := ?_) rfl (by kernel_rfl) (by kernel_rfl) (by kernel_rfl) (fun _ _ _ h => h) (by rfl) ?_ (by assumption) ?_; rotate_left; (intro w hSw; (try dsimp only at hSw); go_simp; (try with_reducible rfl)); (try simp only [Act.put, List.setIfInBounds_toArray, List.set_cons_zero, List.set_cons_succ]))
              (refine hdTake (i := 2) (v := ?_) rfl (by kernel_rfl) (by kernel_rfl) (by kernel_rfl) (fun _ _ _ h => h) (by rfl) ?_ (by assumption) ?_; rotate_left; (intro w hSw; (try dsimp only at hSw); go_simp; (try with_reducible rfl)); (try simp only [Act.put, List.setIfInBounds_toArray, List.set_cons_zero, List.set_cons_succ]))
              (refine hdTake (i := 3) (v := ?_) rfl (by kernel_rfl) (by kernel_rfl) (by kernel_rfl) (fun _ _ _ h => h) (by rfl) ?_ (by assumption) ?_; rotate_left; (intro w hSw; (try dsimp only at hSw); go_simp; (try with_reducible rfl)); (try simp only [Act.put, List.setIfInBounds_toArray, List.set_cons_zero, List.set_cons_succ]))
              (refine hdTake (i := 4) (v := ?_) rfl (by kernel_rfl) (by kernel_rfl) (by kernel_rfl) (fun _ _ _ h => h) (by rfl) ?_ (by assumption) ?_; rotate_left; (intro w hSw; (try dsimp only at hSw); go_simp; (try with_reducible rfl)); (try simp only [Act.put, List.setIfInBounds_toArray, List.set_cons_zero, List.set_cons_succ]))
              (refine hdTake (i := 5) (v := ?_) rfl (by kernel_rfl) (by kernel_rfl) (by kernel_rfl) (fun _ _ _ h => h) (by rfl) ?_ (by assumption) ?_; rotate_left; (intro w hSw; (try dsimp only at hSw); go_simp; (try with_reducible rfl)); (try simp only [Act.put, List.setIfInBounds_toArray, List.set_cons_zero, List.set_cons_succ]))
              (refine hdTake (i := 6) (v := ?_) rfl (by kernel_rfl) (by kernel_rfl) (by kernel_rfl) (fun _ _ _ h => h) (by rfl) ?_ (by assumption) ?_; rotate_left; (intro w hSw; (try dsimp only at hSw); go_simp; (try with_reducible rfl)); (try simp only [Act.put, List.setIfInBounds_toArray, List.set_cons_zero, List.set_cons_succ]))
              (refine hdTake (i := 7) (v := ?_) rfl (by kernel_rfl) (by kernel_rfl) (by kernel_rfl) (fun _ _ _ h => h) (by rfl) ?_ (by assumption) ?_; rotate_left; (intro w hSw; (try dsimp only at hSw); go_simp; (try with_reducible rfl)); (try simp only [Act.put, List.setIfInBounds_toArray, List.set_cons_zero, List.set_cons_succ]))
              refine wpAnyH_ready (rs := [1, 8]) (by kernel_rfl) (by simp) ?_
              refine AllReadyH.cons (hdAt (i := 1) rfl) (fun K hK => ?_) (AllReadyH.cons (hdAt (i := 8) rfl) (fun K hK => ?_) AllReadyH.nil)
              · (go_simp; try go_wp2_with fail)
                refine hK.out _ _ ?_ (fun hHeld5 => ?_)
                · ((try dsimp only); (exact ⟨hT.cell 0, hT.cell 1, hT.cell 2, hT.cell 3, hT.cell 4, hT.cell 5, hT.cell 6, hT.cell 7, hT.cell 8⟩))
                clear hK K
                (try simp only [Act.put, List.setIfInBounds_toArray, List.set_cons_zero, List.set_cons_succ])
                refine hdCall (i := 8) (by kernel_rfl) rfl (fun K hK => ?_)
                (go_simp; (go_at_call 89; refine (numberOf_c _ _).mono ?_; rintro e wM ⟨rfl, rfl⟩; rw [HX.out]); go_wp2_with fail)
                refine hK.out _ _ ?_ (fun hHeld6 => ?_)
                · ((try dsimp only); (exact ⟨hT.cell 0, hT.cell 1, hT.cell 2, hT.cell 3, hT.cell 4, hT.cell 5, hT.cell 6, hT.cell 7, hT.cell 8⟩))
                clear hK K
                (try simp only [Act.put, List.setIfInBounds_toArray, List.set_cons_zero, List.set_cons_succ])
                (refine hdTake (i := 9) (v := ?_) rfl (by kernel_rfl) (by kernel_rfl) (by kernel_rfl) (fun _ _ _ h => h) (by rfl) ?_ (by assumption) ?_; rotate_left; (intro w hSw; (try dsimp only at hSw); go_simp; (try with_reducible rfl)); (try simp only [Act.put, List.setIfInBounds_toArray, List.set_cons_zero, List.set_cons_succ]))
                refine hdCall (i := 10) (by kernel_rfl) rfl (fun K hK => ?_)
                (go_simp; try go_wp2_with fail)
                replace hG := hG.alloc (.cells #[.int .u8 p0, .int .u8 p1, .int .u8 p2, .int .u8 p3, .int .u8 p4, .int .u8 p5, .int .u8 p6, .int .u8 p7, .int .i64 x] 96)
                replace hR := hR.alloc (.cells #[.int .u8 p0, .int .u8 p1, .int .u8 p2, .int .u8 p3, .int .u8 p4, .int .u8 p5, .int .u8 p6, .int .u8 p7, .int .i64 x] 96)
                replace hT := hT.alloc (.cells #[.int .u8 p0, .int .u8 p1, .int .u8 p2, .int .u8 p3, .int .u8 p4, .int .u8 p5, .int .u8 p6, .int .u8 p7, .int .i64 x] 96)
                have hOa := (hO.keep (below_alloc1 _ (.cells #[.int .u8 p0, .int .u8 p1, .int .u8 p2, .int .u8 p3, .int .u8 p4, .int .u8 p5, .int .u8 p6, .int .u8 p7, .int .i64 x] 96))).1
                replace hb := below_trans' hb (below_alloc1 _ (.cells #[.int .u8 p0, .int .u8 p1, .int .u8 p2, .int .u8 p3, .int .u8 p4, .int .u8 p5, .int .u8 p6, .int .u8 p7, .int .i64 x] 96)) hb.size
                refine hK.out _ _ ?_ (fun hHeld2 => ?_)
                · ((try dsimp only); (exact ⟨hT.cell 0, hT.cell 1, hT.cell 2, hT.cell 3, hT.cell 4, hT.cell 5, hT.cell 6, hT.cell 7, hT.cell 8⟩))
                clear hK K
                (try simp only [Act.put, List.setIfInBounds_toArray, List.set_cons_zero, List.set_cons_succ])
                refine hdCall (i := 11) (by kernel_rfl) rfl (fun K hK => ?_)
                rw [if_pos (by rfl)]
                refine wp_append_own_wide _ (.tmp 34) (.tmp 43) 54 rfl (g8 + 1) 96 ti tz 9 16 Try.underlying54 HI.out HZ.out HS.out HBt.out HZs.out (by omega) (.slice va vn vc) _ _ rfl hOa ⟨w4.heap.size, 0, none⟩ 1 1 [Value.int .u8 p0, .int .u8 p1, .int .u8 p2, .int .u8 p3, .int .u8 p4, .int .u8 p5, .int .u8 p6, .int .u8 p7, .int .i64 x] rfl rfl HN.out HO.out (by have := HP.out; simp only [maxLen]; omega) (by have := HP.out; omega) (Nat.succ_le_of_lt hG.lt) (fun v' w' h2 h3 h4 => ?_)
                obtain ⟨gg, vk, cp, rfl⟩ : ∃ gg vk cp, v' = .slice gg vk cp := by
                  rcases h2.2 with ⟨h0, _⟩ | ⟨g, cap, cur, hv, _⟩
                  · exact ⟨_, _, _, h0⟩
                  · exact ⟨_, _, _, hv⟩
                have hTn := hOa.lt
                replace hG := hG.grown h3 (fun e => by have := (hOa.lt _ e.symm).1; omega)
                replace hR := hR.grown h3 (fun e => by have := (hOa.lt _ e.symm).1; omega)
                replace hT := hT.grown h3 (fun e => hneT e.symm)
                replace hb := grown_below hb h3 (fun q e => by have := (hOa.lt q e).1; omega) hb.size
                have c7 := hG.cell 0
                have f7 := hG.frozen 0
                have H2 := Lib.hid h2
                have H4 := Lib.hid h4
                clear h2 h3 h4 hOa
                refine hK.out _ _ ?_ (fun hHeld3 => ?_)
                · ((try dsimp only); (exact ⟨hT.cell 0, hT.cell 1, hT.cell 2, hT.cell 3, hT.cell 4, hT.cell 5, hT.cell 6, hT.cell 7, hT.cell 8⟩))
                clear hK K
                (try simp only [Act.put, List.setIfInBounds_toArray, List.set_cons_zero, List.set_cons_succ])
                (refine hdTake (i := 12) (v := ?_) rfl (by kernel_rfl) (by kernel_rfl) (by kernel_rfl) (fun _ _ _ h => h) (by rfl) ?_ (by assumption) ?_; rotate_left; (intro w hSw; (try dsimp only at hSw); go_simp; (try with_reducible rfl)); (try simp only [Act.put, List.setIfInBounds_toArray, List.set_cons_zero, List.set_cons_succ]))
                refine hdCall (i := 13) (by kernel_rfl) rfl (fun K hK => ?_)
                (go_simp; go_wp2_with fail)
                replace hR := hR.far (p := ⟨g8, 0, none⟩) (by dsimp only; omega) (.slice gg vk cp)
                replace hT := hT.far (p := ⟨g8, 0, none⟩) (by dsimp only; omega) (.slice gg vk cp)
                replace hb := hb.setCell (p := ⟨g8, 0, none⟩) (by dsimp only; omega) (.slice gg vk cp)
                refine hK.out _ _ ?_ (fun hHeld4 => ?_)
                · ((try dsimp only); (exact ⟨hT.cell 0, hT.cell 1, hT.cell 2, hT.cell 3, hT.cell 4, hT.cell 5, hT.cell 6, hT.cell 7, hT.cell 8⟩))
                clear hK K
                (try simp only [Act.put, List.setIfInBounds_toArray, List.set_cons_zero, List.set_cons_succ])
                refine wpAnyH_done (by kernel_rfl) ?_ _
                go_wp2_with fail
                go_roundw
                case rel =>
                  refine ⟨k + 1, .slice gg vk cp, by omega, by go_num, hb, hR, hG.set 0 _, ?_⟩
                  rw [scT_take hx.out, HX.out]
                  exact OwnForm.set (p := ⟨g8, 0, none⟩) (OwnForm.of H2.out (by simp) (by rw [rcells_append]; rfl) ⟨fun e => absurd (H4.out.1 e).2 (by omega), fun e => by omega⟩) (by dsimp only; omega) _
                case measure => simp [intOf] <;> omega
              · (go_simp; (go_at_call 89; refine (numberOf_c _ _).mono ?_; rintro e wM ⟨rfl, rfl⟩; rw [HX.out]); go_wp2_with fail)
                refine hK.out _ _ ?_ (fun hHeld6 => ?_)
                · ((try dsimp only); (exact ⟨hT.cell 0, hT.cell 1, hT.cell 2, hT.cell 3, hT.cell 4, hT.cell 5, hT.cell 6, hT.cell 7, hT.cell 8⟩))
                clear hK K
                (try simp only [Act.put, List.setIfInBounds_toArray, List.set_cons_zero, List.set_cons_succ])
                (refine hdTake (i := 9) (v := ?_) rfl (by kernel_rfl) (by kernel_rfl) (by kernel_rfl) (fun _ _ _ h => h) (by rfl) ?_ (by assumption) ?_; rotate_left; (intro w hSw; (try dsimp only at hSw); go_simp; (try with_reducible rfl)); (try simp only [Act.put, List.setIfInBounds_toArray, List.set_cons_zero, List.set_cons_succ]))
                refine wpAnyH_ready (rs := [1, 10]) (by kernel_rfl) (by simp) ?_
                refine AllReadyH.cons (hdAt (i := 1) rfl) (fun K hK => ?_) (AllReadyH.cons (hdAt (i := 10) rfl) (fun K hK => ?_) AllReadyH.nil)
                · (go_simp; try go_wp2_with fail)
                  refine hK.out _ _ ?_ (fun hHeld5 => ?_)
                  · ((try dsimp only); (exact ⟨hT.cell 0, hT.cell 1, hT.cell 2, hT.cell 3, hT.cell 4, hT.cell 5, hT.cell 6, hT.cell 7, hT.cell 8⟩))
                  clear hK K
                  (try simp only [Act.put, List.setIfInBounds_toArray, List.set_cons_zero, List.set_cons_succ])
                  refine hdCall (i := 10) (by kernel_rfl) rfl (fun K hK => ?_)
                  (go_simp; try go_wp2_with fail)
                  replace hG := hG.alloc (.cells #[.int .u8 p0, .int .u8 p1, .int .u8 p2, .int .u8 p3, .int .u8 p4, .int .u8 p5, .int .u8 p6, .int .u8 p7, .int .i64 x] 96)
                  replace hR := hR.alloc (.cells #[.int .u8 p0, .int .u8 p1, .int .u8 p2, .int .u8 p3, .int .u8 p4, .int .u8 p5, .int .u8 p6, .int .u8 p7, .int .i64 x] 96)
                  replace hT := hT.alloc (.cells #[.int .u8 p0, .int .u8 p1, .int .u8 p2, .int .u8 p3, .int .u8 p4, .int .u8 p5, .int .u8 p6, .int .u8 p7, .int .i64 x] 96)
                  have hOa := (hO.keep (below_alloc1 _ (.cells #[.int .u8 p0, .int .u8 p1, .int .u8 p2, .int .u8 p3, .int .u8 p4, .int .u8 p5, .int .u8 p6, .int .u8 p7, .int .i64 x] 96))).1
                  replace hb := below_trans' hb (below_alloc1 _ (.cells #[.int .u8 p0, .int .u8 p1, .int .u8 p2, .int .u8 p3, .int .u8 p4, .int .u8 p5, .int .u8 p6, .int .u8 p7, .int .i64 x] 96)) hb.size
                  refine hK.out _ _ ?_ (fun hHeld2 => ?_)
                  · ((try dsimp only); (exact ⟨hT.cell 0, hT.cell 1, hT.cell 2, hT.cell 3, hT.cell 4, hT.cell 5, hT.cell 6, hT.cell 7, hT.cell 8⟩))
                  clear hK K
                  (try simp only [Act.put, List.setIfInBounds_toArray, List.set_cons_zero, List.set_cons_succ])
                  refine hdCall (i := 11) (by kernel_rfl) rfl (fun K hK => ?_)
                  rw [if_pos (by rfl)]
                  refine wp_append_own_wide _ (.tmp 34) (.tmp 43) 54 rfl (g8 + 1) 96 ti tz 9 16 Try.underlying54 HI.out HZ.out HS.out HBt.out HZs.out (by omega) (.slice va vn vc) _ _ rfl hOa ⟨w4.heap.size, 0, none⟩ 1 1 [Value.int .u8 p0, .int .u8 p1, .int .u8 p2, .int .u8 p3, .int .u8 p4, .int .u8 p5, .int .u8 p6, .int .u8 p7, .int .i64 x] rfl rfl HN.out HO.out (by have := HP.out; simp only [maxLen]; omega) (by have := HP.out; omega) (Nat.succ_le_of_lt hG.lt) (fun v' w' h2 h3 h4 => ?_)
                  obtain ⟨gg, vk, cp, rfl⟩ : ∃ gg vk cp, v' = .slice gg vk cp := by
                    rcases h2.2 with ⟨h0, _⟩ | ⟨g, cap, cur, hv, _⟩
                    · exact ⟨_, _, _, h0⟩
                    · exact ⟨_, _, _, hv⟩
                  have hTn := hOa.lt
                  replace hG := hG.grown h3 (fun e => by have := (hOa.lt _ e.symm).1; omega)
                  replace hR := hR.grown h3 (fun e => by have := (hOa.lt _ e.symm).1; omega)
                  replace hT := hT.grown h3 (fun e => hneT e.symm)
                  replace hb := grown_below hb h3 (fun q e => by have := (hOa.lt q e).1; omega) hb.size
                  have c7 := hG.cell 0
                  have f7 := hG.frozen 0
                  have H2 := Lib.hid h2
                  have H4 := Lib.hid h4
                  clear h2 h3 h4 hOa
                  refine hK.out _ _ ?_ (fun hHeld3 => ?_)
                  · ((try dsimp only); (exact ⟨hT.cell 0, hT.cell 1, hT.cell 2, hT.cell 3, hT.cell 4, hT.cell 5, hT.cell 6, hT.cell 7, hT.cell 8⟩))
                  clear hK K
                  (try simp only [Act.put, List.setIfInBounds_toArray, List.set_cons_zero, List.set_cons_succ])
                  (refine hdTake (i := 12) (v := ?_) rfl (by kernel_rfl) (by kernel_rfl) (by kernel_rfl) (fun _ _ _ h => h) (by rfl) ?_ (by assumption) ?_; rotate_left; (intro w hSw; (try dsimp only at hSw); go_simp; (try with_reducible rfl)); (try simp only [Act.put, List.setIfInBounds_toArray, List.set_cons_zero, List.set_cons_succ]))
                  refine hdCall (i := 13) (by kernel_rfl) rfl (fun K hK => ?_)
                  (go_simp; go_wp2_with fail)
                  replace hR := hR.far (p := ⟨g8, 0, none⟩) (by dsimp only; omega) (.slice gg vk cp)
                  replace hT := hT.far (p := ⟨g8, 0, none⟩) (by dsimp only; omega) (.slice gg vk cp)
                  replace hb := hb.setCell (p := ⟨g8, 0, none⟩) (by dsimp only; omega) (.slice gg vk cp)
                  refine hK.out _ _ ?_ (fun hHeld4 => ?_)
                  · ((try dsimp only); (exact ⟨hT.cell 0, hT.cell 1, hT.cell 2, hT.cell 3, hT.cell 4, hT.cell 5, hT.cell 6, hT.cell 7, hT.cell 8⟩))
                  clear hK K
                  (try simp only [Act.put, List.setIfInBounds_toArray, List.set_cons_zero, List.set_cons_succ])
                  refine wpAnyH_done (by kernel_rfl) ?_ _
                  go_wp2_with fail
                  go_roundw
                  case rel =>
                    refine ⟨k + 1, .slice gg vk cp, by omega, by go_num, hb, hR, hG.set 0 _, ?_⟩
                    rw [scT_take hx.out, HX.out]
                    exact OwnForm.set (p := ⟨g8, 0, none⟩) (OwnForm.of H2.out (by simp) (by rw [rcells_append]; rfl) ⟨fun e => absurd (H4.out.1 e).2 (by omega), fun e => by omega⟩) (by dsimp only; omega) _
                  case measure => simp [intOf] <;> omega
                · (go_simp; try go_wp2_with fail)
                  replace hG := hG.alloc (.cells #[.int .u8 p0, .int .u8 p1, .int .u8 p2, .int .u8 p3, .int .u8 p4, .int .u8 p5, .int .u8 p6, .int .u8 p7, .int .i64 x] 96)
                  replace hR := hR.alloc (.cells #[.int .u8 p0, .int .u8 p1, .int .u8 p2, .int .u8 p3, .int .u8 p4, .int .u8 p5, .int .u8 p6, .int .u8 p7, .int .i64 x] 96)
                  replace hT := hT.alloc (.cells #[.int .u8 p0, .int .u8 p1, .int .u8 p2, .int .u8 p3, .int .u8 p4, .int .u8 p5, .int .u8 p6, .int .u8 p7, .int .i64 x] 96)
                  have hOa := (hO.keep (below_alloc1 _ (.cells #[.int .u8 p0, .int .u8 p1, .int .u8 p2, .int .u8 p3, .int .u8 p4, .int .u8 p5, .int .u8 p6, .int .u8 p7, .int .i64 x] 96))).1
                  replace hb := below_trans' hb (below_alloc1 _ (.cells #[.int .u8 p0, .int .u8 p1, .int .u8 p2, .int .u8 p3, .int .u8 p4, .int .u8 p5, .int .u8 p6, .int .u8 p7, .int .i64 x] 96)) hb.size
                  refine hK.out _ _ ?_ (fun hHeld2 => ?_)
                  · ((try dsimp only); (exact ⟨hT.cell 0, hT.cell 1, hT.cell 2, hT.cell 3, hT.cell 4, hT.cell 5, hT.cell 6, hT.cell 7, hT.cell 8⟩))
                  clear hK K
                  (try simp only [Act.put, List.setIfInBounds_toArray, List.set_cons_zero, List.set_cons_succ])
                  have cGa : (w4.alloc (.cells #[.int .u8 p0, .int .u8 p1, .int .u8 p2, .int .u8 p3, .int .u8 p4, .int .u8 p5, .int .u8 p6, .int .u8 p7, .int .i64 x] 96)).drew.cell? ⟨g8, 0, none⟩ = some (.slice va vn vc) := hG.cell 0
                  refine hdCall (i := 1) (by kernel_rfl) rfl (fun K hK => ?_)
                  (go_simp; try go_wp2_with fail)
                  refine hK.out _ _ ?_ (fun hHeld5 => ?_)
                  · ((try dsimp only); (exact ⟨hT.cell 0, hT.cell 1, hT.cell 2, hT.cell 3, hT.cell 4, hT.cell 5, hT.cell 6, hT.cell 7, hT.cell 8⟩))
                  clear hK K
                  (try simp only [Act.put, List.setIfInBounds_toArray, List.set_cons_zero, List.set_cons_succ])
                  refine hdCall (i := 11) (by kernel_rfl) rfl (fun K hK => ?_)
                  rw [if_pos (by rfl)]
                  refine wp_append_own_wide _ (.tmp 34) (.tmp 43) 54 rfl (g8 + 1) 96 ti tz 9 16 Try.underlying54 HI.out HZ.out HS.out HBt.out HZs.out (by omega) (.slice va vn vc) _ _ rfl hOa ⟨w4.heap.size, 0, none⟩ 1 1 [Value.int .u8 p0, .int .u8 p1, .int .u8 p2, .int .u8 p3, .int .u8 p4, .int .u8 p5, .int .u8 p6, .int .u8 p7, .int .i64 x] rfl rfl HN.out HO.out (by have := HP.out; simp only [maxLen]; omega) (by have := HP.out; omega) (Nat.succ_le_of_lt hG.lt) (fun v' w' h2 h3 h4 => ?_)
                  obtain ⟨gg, vk, cp, rfl⟩ : ∃ gg vk cp, v' = .slice gg vk cp := by
                    rcases h2.2 with ⟨h0, _⟩ | ⟨g, cap, cur, hv, _⟩
                    · exact ⟨_, _, _, h0⟩
                    · exact ⟨_, _, _, hv⟩
                  have hTn := hOa.lt
                  replace hG := hG.grown h3 (fun e => by have := (hOa.lt _ e.symm).1; omega)
                  replace hR := hR.grown h3 (fun e => by have := (hOa.lt _ e.symm).1; omega)
                  replace hT := hT.grown h3 (fun e => hneT e.symm)
                  replace hb := grown_below hb h3 (fun q e => by have := (hOa.lt q e).1; omega) hb.size
                  have c7 := hG.cell 0
                  have f7 := hG.frozen 0
                  have H2 := Lib.hid h2
                  have H4 := Lib.hid h4
                  clear h2 h3 h4 hOa
                  refine hK.out _ _ ?_ (fun hHeld3 => ?_)
                  · ((try dsimp only); (exact ⟨hT.cell 0, hT.cell 1, hT.cell 2, hT.cell 3, hT.cell 4, hT.cell 5, hT.cell 6, hT.cell 7, hT.cell 8⟩))
                  clear hK K
                  (try simp only [Act.put, List.setIfInBounds_toArray, List.set_cons_zero, List.set_cons_succ])
                  (refine hdTake (i := 12) (v := ?_) rfl (by kernel_rfl) (by kernel_rfl) (by kernel_rfl) (fun _ _ _ h => h) (by rfl) ?_ (by assumption) ?_; rotate_left; (intro w hSw; (try dsimp only at hSw); go_simp; (try with_reducible rfl)); (try simp only [Act.put, List.setIfInBounds_toArray, List.set_cons_zero, List.set_cons_succ]))
                  refine hdCall (i := 13) (by kernel_rfl) rfl (fun K hK => ?_)
                  (go_simp; go_wp2_with fail)
                  replace hR := hR.far (p := ⟨g8, 0, none⟩) (by dsimp only; omega) (.slice gg vk cp)
                  replace hT := hT.far (p := ⟨g8, 0, none⟩) (by dsimp only; omega) (.slice gg vk cp)
                  replace hb := hb.setCell (p := ⟨g8, 0, none⟩) (by dsimp only; omega) (.slice gg vk cp)
                  refine hK.out _ _ ?_ (fun hHeld4 => ?_)
                  · ((try dsimp only); (exact ⟨hT.cell 0, hT.cell 1, hT.cell 2, hT.cell 3, hT.cell 4, hT.cell 5, hT.cell 6, hT.cell 7, hT.cell 8⟩))
                  clear hK K
                  (try simp only [Act.put, List.setIfInBounds_toArray, List.set_cons_zero, List.set_cons_succ])
                  refine wpAnyH_done (by kernel_rfl) ?_ _
                  go_wp2_with fail
                  go_roundw
                  case rel =>
                    refine ⟨k + 1, .slice gg vk cp, by omega, by go_num, hb, hR, hG.set 0 _, ?_⟩
                    rw [scT_take hx.out, HX.out]
                    exact OwnForm.set (p := ⟨g8, 0, none⟩) (OwnForm.of H2.out (by simp) (by rw [rcells_append]; rfl) ⟨fun e => absurd (H4.out.1 e).2 (by omega), fun e => by omega⟩) (by dsimp only; omega) _
                  case measure => simp [intOf] <;> omega
            · have he : k = n := by omega
              subst he
              have c3 := hG.cell 0
              have cR := hR.cell 0
              have fR := hR.frozen 0
              go_wp2_with fail
              have q := hR.set 0 (.slice va vn vc)
              refine bodyPost_ret (results_row2 rfl _ _ (w.heap.size + 1) 56 #[.slice va vn vc] (0, 0) _ rfl q Try.underlying56 rfl Try.info_form) rfl ⟨.slice va vn vc, by rw [scaleE, HIF.out, if_pos hd0]; rfl, ?_, hb.setCell (p := ⟨w.heap.size + 1, 0, none⟩) (by dsimp only; omega) _⟩
              rw [scaleV, if_pos ⟨HIF.out, by omega, by omega⟩]
              rw [List.take_of_length_le (Nat.le_of_eq HLt.out)] at hO
              exact (hO.set (p := ⟨w.heap.size + 1, 0, none⟩) (by dsimp only; omega) _).weaken (by omega)

end Go.Proofs.Ytjgojcolmflnoaa
