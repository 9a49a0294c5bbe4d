
import Derived.Test.YtndnkeijddagiaaFdim
import Derived.Test.YtndnkeijddagiaaSubH
namespace Go.Proofs.Ytndnkeijddagiaa
open Go.RowKit Go.Deep
theorem isAlg_ln {zs : List Int} {ims : List (List Tm)} (h : isAlg zs ims = true) : ims.length = zs.length := by
  simp only [isAlg, Bool.and_eq_true, decide_eq_true_eq] at h
  exact h.2.1
def oddAt (zs : List Int) (ts : List Tm) (j : Nat) : Bool := !(odd (zs.getD j 0) && hasG ts j)
def noOdd (zs : List Int) (ts : List Tm) : Bool := (List.range zs.length).all (oddAt zs ts)
def pureAt (zs : List Int) (ims : List (List Tm)) (i : Nat) : Bool := if odd (zs.getD i 0) = true then noOdd zs (ims.getD i []) else decide ((ims.getD i []).length = 0)
def purB (zs : List Int) (ims : List (List Tm)) : Bool := (List.range ims.length).all (pureAt zs ims)
def purV (zs : List Int) (ims : List (List Tm)) : Bool := isAlg zs ims && purB zs ims
theorem purV_no {zs : List Int} {ims : List (List Tm)} (h : isAlg zs ims = false) : purV zs ims = false := by simp [purV, h]
theorem purV_yes {zs : List Int} {ims : List (List Tm)} (h : isAlg zs ims = true) : purV zs ims = purB zs ims := by simp [purV, h]
theorem oddAt_even {zs : List Int} {ts : List Tm} {j : Nat} {x : Int} (hx : zs[j]? = some x) (h : odd x = false) : oddAt zs ts j = true := by rw [oddAt, List.getD_eq_getElem?_getD, hx, Option.getD_some, h]; rfl
theorem oddAt_odd {zs : List Int} {ts : List Tm} {j : Nat} {x : Int} {b : Bool} (hx : zs[j]? = some x) (h : odd x = true) (hb : hasG ts j = b) : oddAt zs ts j = !b := by rw [oddAt, List.getD_eq_getElem?_getD, hx, Option.getD_some, h, hb]; rfl
theorem pureAt_odd {zs : List Int} {ims : List (List Tm)} {i : Nat} {x : Int} {ts : List Tm} {b : Bool} (hx : zs[i]? = some x) (hm : ims[i]? = some ts) (h : odd x = true) (hb : noOdd zs ts = b) : pureAt zs ims i = b := by
  rw [pureAt, List.getD_eq_getElem?_getD, List.getD_eq_getElem?_getD, hx, hm, Option.getD_some, Option.getD_some, if_pos h, hb]
theorem pureAt_even {zs : List Int} {ims : List (List Tm)} {i : Nat} {x : Int} {ts : List Tm} (hx : zs[i]? = some x) (hm : ims[i]? = some ts) (h : odd x = false) : pureAt zs ims i = decide (ts.length = 0) := by
  rw [pureAt, List.getD_eq_getElem?_getD, List.getD_eq_getElem?_getD, hx, hm, Option.getD_some, Option.getD_some, if_neg (by simp [h])]
theorem noOdd_nil {zs : List Int} : noOdd zs [] = true := by
  rw [noOdd, List.all_eq_true]
  intro j _
  simp [oddAt, hasG]
set_option maxHeartbeats 2000000 in
set_option maxRecDepth 100000 in
theorem hasOdd_c {w : World} {da : Option Addr} {dn : Nat} {zs : List Int} {a fa : Option Addr} {n fn : Nat} {ts : List Tm} (dc c fc : Nat) (hd : Ints w da dn zs) (hdn : dn ≤ 8) (hT : Terms w fa fn ts) (hfn : fn ≤ 1048576) :
    Calls Try.prog 66 #[.agg #[.slice da dn dc, .slice a n c], .agg #[.slice fa fn fc]] w fun e w' => e = .returned (.bool (!noOdd zs ts)) ∧ Below w.heap.size w w' := by
  have HLE := Lib.hid hd.len
  have HD := Lib.hid hd
  have HT := Lib.hid hT
  have hP := (Own.new w 29 #[.slice da dn dc, .slice a n c]).alloc (.cells #[.slice fa fn fc] 47)
  have hQ := Own.new (w.alloc (.cells #[.slice da dn dc, .slice a n c] 29)) 47 #[.slice fa fn fc]
  rw [size_alloc] at hQ
  have hb := below_then (below_alloc1 w (.cells #[.slice da dn dc, .slice a n c] 29)) (below_alloc1 _ (.cells #[.slice fa fn fc] 47))
  clear hd hT
  go_enter Try.func66, Try.ntmps66
  go_upto_region 1 with fail
  generalize (w.alloc (.cells #[.slice da dn dc, .slice a n c] 29)).alloc (.cells #[.slice fa fn fc] 47) = w1 at *
  have c0 := hP.cell 0
  go_wp2_with fail
  clear c0 hP
  go_loopw [10] (fun y wr => ∃ i : Nat, i ≤ dn ∧ y = .int .i64 i ∧ Below w.heap.size w wr ∧ Own wr (w.heap.size + 1) 47 #[.slice fa fn fc] ∧ Hid ((List.range i).all (oddAt zs ts) = true)) (fun y _ => dn - (intOf y).toNat)
  case atStart => exact ⟨0, Nat.zero_le _, rfl, hb, hQ, rfl⟩
  case round =>
    clear hb hQ
    obtain ⟨i, hi, rfl, hb, hQ, H⟩ := hrel
    have hi0 : (0 : Int) ≤ (i : Int) := by omega
    by_cases hlt : i < dn
    · have hin : (i : Int) < (dn : Int) := by omega
      obtain ⟨b, off, x, rfl, hbl, hc, hx⟩ := (HD.out.keep hb).at_ hlt
      go_wp2_with fail
      refine (isOdd_c x wr).mono ?_
      rintro e w5 ⟨rfl, rfl⟩
      cases ho : odd x
      · have HS := Lib.hid (oddAt_even (ts := ts) hx.out ho)
        clear ho
        go_wp2_with fail
        go_roundw
        case rel => exact ⟨i + 1, by omega, by go_num, hb, hQ, range_all_step H.out HS.out⟩
        case measure => simp [intOf] <;> omega
      · have c1 := hQ.cell 0
        have HO := Lib.hid ho
        clear ho
        go_wp2_with fail
        refine (hasGenerator_c fc (HT.out.keep hb) hfn (show i < 8 by omega)).mono ?_
        rintro e w6 ⟨rfl, hb6⟩
        cases hg : hasG ts i
        · have HS := Lib.hid (oddAt_odd (ts := ts) hx.out HO.out hg)
          clear hg c1
          go_wp2_with fail
          go_roundw
          case rel => exact ⟨i + 1, by omega, by go_num, below_trans' hb hb6 hb.size, hQ.keep hb6 hQ.lt, range_all_step H.out HS.out⟩
          case measure => simp [intOf] <;> omega
        · have HS := Lib.hid (oddAt_odd (ts := ts) hx.out HO.out hg)
          clear hg c1
          go_wp2_with fail
          go_ret
          exact ⟨ret_b (by rw [noOdd, range_all_no (by rw [HLE.out]; exact hlt) HS.out]; rfl), below_trans' hb hb6 hb.size⟩
    · have he : i = dn := by omega
      have hnl : ¬ (i : Int) < (dn : Int) := by omega
      subst he
      go_wp2_with fail
      go_ret
      exact ⟨ret_b (by rw [noOdd, HLE.out, H.out]; rfl), hb⟩
set_option maxHeartbeats 2000000 in
set_option maxRecDepth 100000 in
theorem IsPure_c {w : World} {da : Option Addr} {dn : Nat} {zs : List Int} {a : Option Addr} {n : Nat} {ims : List (List Tm)} (dc c : Nat) (hd : Ints w da dn zs) (hdn : dn ≤ 1048576) (hF : Frms w a n ims) (hn : n ≤ 1048576) (hL : ∀ im ∈ ims, (im.length : Int) ≤ 1048576) :
    Calls Try.prog 24 #[.agg #[.slice da dn dc, .slice a n c]] w fun e w' => e = .returned (.tuple #[.bool (purV zs ims), .int .i64 (alE8 zs ims)]) ∧ Below w.heap.size w w' := by
  have HLL := Lib.hid hL
  have HLE := Lib.hid hd.len
  clear hL
  have hA := Own.new w 29 #[.slice da dn dc, .slice a n c]
  have hb := below_alloc1 w (.cells #[.slice da dn dc, .slice a n c] 29)
  have c0 := hA.cell 0
  have c1 := hA.cell 1
  cases hal : isAlg zs ims
  all_goals
    have HA := Lib.hid hal
    clear hal
    go_enter Try.func24, Try.ntmps24
    go_upto_region 1 with fail
    generalize w.alloc (.cells #[.slice da dn dc, .slice a n c] 29) = w0 at *
    go_wp2_with fail
    refine (IsAlgebra_c dc c (hd.keep hb) hdn (hF.keep hb) hn HLL.out).mono ?_
    rintro e w1 ⟨rfl, hb1⟩
    rw [HA.out]
    have hA1 := hA.keep hb1 hA.lt
    have hb2 := below_trans' hb hb1 hb.size
    clear hA hb hb1 c0 c1
  · go_wp2_with fail
    go_ret2
    exact ⟨by rw [purV_no HA.out, alE8_no HA.out]; rfl, hb2⟩
  · have hdz := isAlg_dz HA.out
    have h8 := degsOk_len hdz
    have HDZ := Lib.hid hdz
    have hlen := HLE.out
    have hd8 : dn ≤ 8 := by omega
    clear hdz hlen h8
    have HLn := Lib.hid hF.len
    have hnn : n = dn := by have := isAlg_ln HA.out; have := HLE.out; have := hF.len; omega
    have c1 := hA1.cell 1
    go_wp2_with fail
    clear c1
    go_loopw [12] (fun y wr => ∃ i : Nat, i ≤ n ∧ y = .int .i64 i ∧ Below w.heap.size w wr ∧ Own wr w.heap.size 29 #[.slice da dn dc, .slice a n c] ∧ Hid ((List.range i).all (pureAt zs ims) = true)) (fun y _ => n - (intOf y).toNat)
    case atStart => exact ⟨0, Nat.zero_le _, rfl, hb2, hA1, rfl⟩
    case round =>
      clear hb2 hA1
      obtain ⟨i, hi, rfl, hb, hA, H⟩ := hrel
      have hi0 : (0 : Int) ≤ (i : Int) := by omega
      by_cases hlt : i < n
      · have hin : (i : Int) < (n : Int) := by omega
        have hid : (i : Int) < (dn : Int) := by omega
        obtain ⟨b, off, ts, ai, ni, ci, rfl, hbl, hcf, hTs, hni, hm⟩ := (hF.keep hb).at_ hlt
        obtain ⟨db, doff, x, rfl, hdbl, hcd, hx⟩ := (hd.keep hb).at_ (show i < dn by omega)
        have hni2 : ni ≤ 1048576 := by have := HLL.out ts (List.mem_of_getElem? hm.out); have := hTs.len; omega
        have HTL := Lib.hid hTs.len
        have HTs := Lib.hid hTs
        have hE := Own.new wr 47 #[.slice ai ni ci]
        have hba := below_alloc1 wr (.cells #[.slice ai ni ci] 47)
        have hgE : w.heap.size < wr.heap.size := hA.lt
        clear hTs
        go_upto_region 6 with fail
        have hb3 := below_trans' hb hba hb.size
        have hA3 := hA.keep hba hA.lt
        have HTs3 := Lib.hid (HTs.out.keep hba)
        have hcd3 := (World.cell?_of_block (a := ⟨db, doff + i, none⟩) (hba.block db hdbl)).trans hcd
        clear HTs hcf hcd hb hA hba
        generalize wr.alloc (.cells #[.slice ai ni ci] 47) = w3 at *
        obtain ⟨gE, hgEe⟩ : ∃ x, wr.heap.size = x := ⟨_, rfl⟩
        rw [hgEe] at hE hgE
        try rw [hgEe]
        clear hgEe hbl hdbl
        have c0 := hA3.cell 0
        have c1 := hA3.cell 1
        have cE := hE.cell 0
        cases ho : odd x
        · have HO := Lib.hid ho
          clear ho
          go_wp2_with fail
          refine (isOdd_c x w3).mono ?_
          rintro e w5 ⟨rfl, rfl⟩
          rw [HO.out]
          go_wp2_with fail
          refine (isOdd_c x w3).mono ?_
          rintro e w5 ⟨rfl, rfl⟩
          rw [HO.out]
          by_cases hz : 0 < ni
          · have HS : Hid (pureAt zs ims i = false) := Lib.hid (by rw [pureAt_even hx.out hm.out HO.out, HTL.out]; simp; omega)
            have hz1 : (0 : Int) < (ni : Int) := by omega
            go_wp2_with fail
            go_ret2
            refine ⟨?_, hb3⟩
            rw [purV_yes HA.out, alE8_yes HA.out, show purB zs ims = false by rw [purB, HLn.out]; exact range_all_no hlt HS.out]
            rfl
          · have HS : Hid (pureAt zs ims i = true) := Lib.hid (by rw [pureAt_even hx.out hm.out HO.out, HTL.out]; simp; omega)
            have hz1 : ¬ (0 : Int) < (ni : Int) := by omega
            go_wp2_with fail
            go_roundw
            case rel => exact ⟨i + 1, by omega, by go_num, hb3, hA3, range_all_step H.out HS.out⟩
            case measure => simp [intOf] <;> omega
        · have HO := Lib.hid ho
          clear ho
          go_wp2_with fail
          refine (isOdd_c x w3).mono ?_
          rintro e w5 ⟨rfl, rfl⟩
          rw [HO.out]
          go_wp2_with fail
          refine (hasOdd_c dc c ci (hd.keep hb3) (by omega) HTs3.out hni2).mono ?_
          rintro e w6 ⟨rfl, hb6⟩
          clear c0 c1 cE
          have hA6 := hA3.keep hb6 hA3.lt
          have hE6 := hE.keep hb6 hE.lt
          have hb9 := below_trans' hb3 hb6 hb3.size
          have hcd6 := (World.cell?_of_block (a := ⟨db, doff + i, none⟩) (hb6.block db (World.block_lt_of_cell? _ _ hcd3))).trans hcd3
          clear hb6 hA3 hE hb3 hcd3 HTs3
          have c0 := hA6.cell 0
          cases hg : noOdd zs ts
          · have HS := Lib.hid (pureAt_odd hx.out hm.out HO.out hg)
            clear hg
            go_wp2_with fail
            go_ret2
            refine ⟨?_, hb9⟩
            rw [purV_yes HA.out, alE8_yes HA.out, show purB zs ims = false by rw [purB, HLn.out]; exact range_all_no hlt HS.out]
            rfl
          · have HS := Lib.hid (pureAt_odd hx.out hm.out HO.out hg)
            clear hg
            go_wp2_with fail
            refine (isOdd_c x w6).mono ?_
            rintro e w5 ⟨rfl, rfl⟩
            rw [HO.out]
            go_wp2_with fail
            go_roundw
            case rel => exact ⟨i + 1, by omega, by go_num, hb9, hA6, range_all_step H.out HS.out⟩
            case measure => simp [intOf] <;> omega
      · have he : i = n := by omega
        have hnl : ¬ (i : Int) < (n : Int) := by omega
        subst he
        go_wp2_with fail
        go_ret2
        refine ⟨?_, hb⟩
        rw [purV_yes HA.out, alE8_yes HA.out, show purB zs ims = true by rw [purB, HLn.out]; exact H.out]
        rfl
set_option maxHeartbeats 16000000 in
set_option maxRecDepth 100000 in
theorem IsPure_s {w : World} {da : Option Addr} {dn : Nat} {zs : List Int} {a : Option Addr} {n : Nat} {ims : List (List Tm)} (dc c : Nat) (hd : Ints w da dn zs) (hdn : dn ≤ 1048576) (hF : Frms w a n ims) (hn : n ≤ 1048576) (hL : ∀ im ∈ ims, (im.length : Int) ≤ 1048576) :
    Calls Try.prog 23 #[.agg #[.slice da dn dc, .slice a n c]] w fun e w' => e = .returned (.tuple #[.bool (purV zs ims), .int .i64 (alE8 zs ims)]) ∧ Below w.heap.size w w' := by
  have HLL := Lib.hid hL
  have HLE := Lib.hid hd.len
  clear hL
  have hA := Own.new w 29 #[.slice da dn dc, .slice a n c]
  have hb := below_alloc1 w (.cells #[.slice da dn dc, .slice a n c] 29)
  have c0 := hA.cell 0
  have c1 := hA.cell 1
  cases hal : isAlg zs ims
  all_goals
    have HA := Lib.hid hal
    clear hal
    go_enter Try.func23, Try.ntmps23
    go_upto_region 1 with fail
    generalize w.alloc (.cells #[.slice da dn dc, .slice a n c] 29) = w0 at *
    go_wp2_with fail
    refine (l02Is_c dc c (hd.keep hb) hdn (hF.keep hb) hn HLL.out).mono ?_
    rintro e w1 ⟨rfl, hb1⟩
    rw [HA.out]
    have hA1 := hA.keep hb1 hA.lt
    have hb2 := below_trans' hb hb1 hb.size
    clear hA hb hb1 c0 c1
  · go_wp2_with fail
    go_ret2
    exact ⟨by rw [purV_no HA.out, alE8_no HA.out]; rfl, hb2⟩
  · have hdz := isAlg_dz HA.out
    have h8 := degsOk_len hdz
    have HDZ := Lib.hid hdz
    have hlen := HLE.out
    have hd8 : dn ≤ 8 := by omega
    clear hdz hlen h8
    go_wp2_with fail
    have HLn := Lib.hid hF.len
    have hnn : n = dn := by have := isAlg_ln HA.out; have := HLE.out; have := hF.len; omega
    have HNN := Lib.hid hnn
    clear hnn
    go_loopw [4] (fun y wr => ∃ i : Nat, i ≤ dn ∧ y = .int .i64 i ∧ Below w.heap.size w wr ∧ Own wr w.heap.size 29 #[.slice da dn dc, .slice a n c] ∧ Hid ((List.range i).all (pureAt zs ims) = true)) (fun y _ => dn - (intOf y).toNat)
    case atStart => exact ⟨0, Nat.zero_le _, rfl, hb2, hA1, rfl⟩
    case round =>
      clear hb2 hA1
      obtain ⟨i, hi, rfl, hb, hA, H⟩ := hrel
      have hi0 : (0 : Int) ≤ (i : Int) := by omega
      have c0 := hA.cell 0
      have c1 := hA.cell 1
      by_cases hlt0 : i < dn
      · have hlt : i < n := by have := HNN.out; omega
        have hid : (i : Int) < (dn : Int) := by omega
        have hin : (i : Int) < (n : Int) := by omega
        obtain ⟨b, off, ts, ai, ni, ci, rfl, hbl, hcf, hTs, hni, hm⟩ := (hF.keep hb).at_ hlt
        obtain ⟨db, doff, x, rfl, hdbl, hcd, hx⟩ := (hd.keep hb).at_ hlt0
        have hni2 : ni ≤ 1048576 := by have := HLL.out ts (List.mem_of_getElem? hm.out); have := hTs.len; omega
        have HTL := Lib.hid hTs.len
        have HTs := Lib.hid hTs
        have hob := odd_emod x
        clear hTs
        obtain ⟨B, hB⟩ : ∃ B, odd x = B := ⟨_, rfl⟩
        have HO := Lib.hid hB
        have hob2 : (x.tmod 2 == 0) = !B := by rw [← hB]; exact odd_beq x
        have ht0 : B = false → x.tmod 2 = 0 := fun h => by rw [h] at hob2; simpa using hob2
        have ht1 : B = true → ¬ x.tmod 2 = 0 := fun h => by rw [h] at hob2; simpa using hob2
        clear hob hB
        by_cases hz : B = false ∧ 0 < ni
        · obtain ⟨rfl, hz1⟩ := hz
          have HS : Hid (pureAt zs ims i = false) := Lib.hid (by rw [pureAt_even hx.out hm.out HO.out, HTL.out]; simp; omega)
          have hz2 : (0 : Int) < (ni : Int) := by omega
          have ht2 := ht0 rfl
          clear ht0 ht1
          go_wp2_with fail
          go_ret2
          refine ⟨?_, hb⟩
          rw [purV_yes HA.out, alE8_yes HA.out, show purB zs ims = false by rw [purB, HLn.out]; exact range_all_no hlt HS.out]
          rfl
        · have HPE : Hid (pureAt zs ims i = noOdd zs ts) := Lib.hid (by
            cases B with
            | true => exact pureAt_odd hx.out hm.out HO.out rfl
            | false =>
              have h0 : ts.length = 0 := by have := HTL.out; simp at hz; omega
              rw [pureAt_even hx.out hm.out HO.out, h0, List.eq_nil_of_length_eq_zero h0, noOdd_nil]
              rfl)
          have hz3 : B = false → ¬ (0 : Int) < (ni : Int) := fun h => by have : ¬ 0 < ni := fun h2 => hz ⟨h, h2⟩; omega
          clear hz
          cases B
          all_goals
            (first | (have hz4 := hz3 rfl) | skip)
            (first | (have ht2 := ht0 rfl) | (have ht2 := ht1 rfl))
            clear hz3 ht0 ht1
            go_wp2_with fail
            try clear hz4
            try clear hob2
            try clear ht2
            clear c0 c1 hcd
            go_loopw [5] (fun y wx => ∃ j : Nat, j ≤ dn ∧ y = .int .i64 j ∧ Below w.heap.size w wx ∧ Own wx w.heap.size 29 #[.slice (some ⟨db, doff, none⟩) dn dc, .slice (some ⟨b, off, none⟩) n c] ∧ wx.cell? ⟨b, off + i, none⟩ = some (.slice ai ni ci) ∧ Hid (Terms wx ai ni ts) ∧ Hid ((List.range j).all (oddAt zs ts) = true)) (fun y _ => dn - (intOf y).toNat)
            case atStart => exact ⟨0, Nat.zero_le _, rfl, hb, hA, hcf, HTs, rfl⟩
            case round =>
              clear hb hA hcf HTs hbl
              obtain ⟨j, hj, rfl, hb, hA, hcf, HTs, H2⟩ := hrel
              have hj0 : (0 : Int) ≤ (j : Int) := by omega
              have c0 := hA.cell 0
              have c1 := hA.cell 1
              by_cases hlj : j < dn
              · have hjd : (j : Int) < (dn : Int) := by omega
                obtain ⟨eb, eoff, z, hze, hebl, hcd, hzx⟩ := (hd.keep hb).at_ hlj
                simp only [Option.some.injEq, Addr.mk.injEq, and_true] at hze
                obtain ⟨rfl, rfl⟩ := hze
                have hob := odd_bne z
                cases ho : odd z
                · have HS := Lib.hid (oddAt_even (ts := ts) hzx.out ho)
                  rw [ho] at hob
                  have ht3 : z.tmod 2 = 0 := by simpa using hob
                  clear ho
                  go_wp2_with fail
                  go_roundw
                  case rel => exact ⟨j + 1, by omega, by go_num, hb, hA, hcf, HTs, range_all_step H2.out HS.out⟩
                  case measure => simp [intOf] <;> omega
                · have HO2 := Lib.hid ho
                  rw [ho] at hob
                  have ht3 : ¬ z.tmod 2 = 0 := by simpa using hob
                  clear ho
                  go_wp2_with fail
                  refine (l06Has_c ci HTs.out hni2 (show j < 8 by omega)).mono ?_
                  rintro e w6 ⟨rfl, hb6⟩
                  cases hg : hasG ts j
                  · have HS := Lib.hid (oddAt_odd (ts := ts) hzx.out HO2.out hg)
                    clear hg
                    have hcf6 := (World.cell?_of_block (a := ⟨b, off + i, none⟩) (hb6.block b (World.block_lt_of_cell? _ _ hcf))).trans hcf
                    go_wp2_with fail
                    go_roundw
                    case rel => exact ⟨j + 1, by omega, by go_num, below_trans' hb hb6 hb.size, hA.keep hb6 hA.lt, hcf6, Lib.hid (HTs.out.keep hb6), range_all_step H2.out HS.out⟩
                    case measure => simp [intOf] <;> omega
                  · have HS0 := Lib.hid (oddAt_odd (ts := ts) hzx.out HO2.out hg)
                    clear hg
                    have HS : Hid (pureAt zs ims i = false) := Lib.hid (by rw [HPE.out, noOdd]; exact range_all_no (by rw [HLE.out]; exact hlj) HS0.out)
                    go_wp2_with fail
                    go_ret2
                    refine ⟨?_, below_trans' hb hb6 hb.size⟩
                    rw [purV_yes HA.out, alE8_yes HA.out, show purB zs ims = false by rw [purB, HLn.out]; exact range_all_no hlt HS.out]
                    rfl
              · have he : j = dn := by omega
                have hnl : ¬ (j : Int) < (dn : Int) := by omega
                have HS : Hid (pureAt zs ims i = true) := Lib.hid (by rw [HPE.out, noOdd, HLE.out, ← he]; exact H2.out)
                subst he
                go_wp2_with fail
                go_roundw
                case rel => exact ⟨i + 1, by omega, by go_num, hb, hA, range_all_step H.out HS.out⟩
                case measure => simp [intOf] <;> omega
      · have he : i = dn := by omega
        have hnl : ¬ (i : Int) < (dn : Int) := by omega
        have HAL : Hid ((List.range n).all (pureAt zs ims) = true) := Lib.hid (by rw [HNN.out, ← he]; exact H.out)
        subst he
        go_wp2_with fail
        go_ret2
        refine ⟨?_, hb⟩
        rw [purV_yes HA.out, alE8_yes HA.out, show purB zs ims = true by rw [purB, HLn.out]; exact HAL.out]
        rfl
end Go.Proofs.Ytndnkeijddagiaa
