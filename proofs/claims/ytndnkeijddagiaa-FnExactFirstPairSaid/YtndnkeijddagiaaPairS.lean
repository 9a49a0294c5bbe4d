
import Derived.Test.YtndnkeijddagiaaPairC
import Derived.OwnWalk
namespace Go.Proofs.Ytndnkeijddagiaa
open Go.RowKit Go.Deep
set_option maxHeartbeats 4000000 in
set_option maxRecDepth 100000 in
theorem FirstPair_c {w : World} {da : Option Addr} {dn : Nat} {zs : List Int} {a : Option Addr} {n : Nat} {ims : List (List Tm)} (dc c : Nat) (hd : Ints w da dn zs) (hdn : dn ≤ 1048576) (hF : Frms w a n ims) (hn : n ≤ 1048576) (hL : ∀ im ∈ ims, (im.length : Int) ≤ 1048576) :
    Calls Try.prog 45 #[.agg #[.slice da dn dc, .slice a n c]] w fun e w' => ∃ ra rn rc, e = .returned (.tuple #[.slice ra rn rc, .int .i64 (fpE zs ims)]) ∧ OwnI w' w.heap.size w'.heap.size ra rn (fpV zs ims) ∧ Below w.heap.size w w' := by
  have HLL := Lib.hid hL
  have HLn := Lib.hid hF.len
  have HFF := Lib.hid hF
  have HT := Lib.hid hF.tm
  have HDL := Lib.hid hd.len
  clear hL
  have hA := Own.new w 29 #[.slice da dn dc, .slice a n c]
  have hb := below_alloc1 w (.cells #[.slice da dn dc, .slice a n c] 29)
  have c0 := hA.cell 0
  have c1 := hA.cell 1
  cases hal : isAlg zs ims
  all_goals
    have HA := Lib.hid hal
    clear hal
    go_enter Try.func45, Try.ntmps45
    go_upto_region 1 with fail
    generalize w.alloc (.cells #[.slice da dn dc, .slice a n c] 29) = w0 at *
    go_wp2_with fail
    refine (IsAlgebra_c dc c (hd.keep hb) hdn (hF.keep hb) hn HLL.out).mono ?_
    rintro e w1 ⟨rfl, hb1⟩
    rw [HA.out]
    have hA1 := hA.keep hb1 hA.lt
    have hb2 := below_trans' hb hb1 hb.size
    clear hA hb hb1 c0 c1
    have c0 := hA1.cell 0
    have c1 := hA1.cell 1
  · go_wp2_with fail
    go_ret2
    exact ⟨none, 0, 0, by rw [(fp_no HA.out).2]; rfl, by rw [(fp_no HA.out).1]; exact OwnI.none_, hb2⟩
  · have H1 : Hid (∀ ts ∈ ims, ∀ t ∈ ts, 1 ≤ wlen t.m) := Lib.hid (fun ts hts => by
      obtain ⟨i, hi, rfl⟩ := List.mem_iff_getElem.1 hts
      exact isAlg_im0 HA.out HT.out (List.getElem?_eq_getElem hi))
    go_wp2_with fail
    refine (firstPair_c dc c (HFF.out.keep hb2) hn HLL.out H1.out).mono ?_
    rintro e w2 ⟨i, j, f, b, rfl, HFP, hb3⟩
    have hb4 := below_trans' hb2 hb3 hb2.size
    clear hb2 hb3 hA1 c0 c1
    rcases HFP.out with ⟨rfl, p, q, rfl, rfl, hfp⟩ | ⟨rfl, hfp⟩
    · have HP := Lib.hid (fp_yes HA.out hfp)
      clear hfp
      have hX := Own.new w2 110 #[.int .i64 p, .int .i64 q, .int .i64 f]
      replace hb4 := below_trans' hb4 (below_alloc1 w2 (.cells #[.int .i64 p, .int .i64 q, .int .i64 f] 110)) hb4.size
      go_upto_region 4 with fail
      generalize w2.alloc (.cells #[.int .i64 p, .int .i64 q, .int .i64 f] 110) = w3 at *
      generalize w2.heap.size = gX at *
      have x0 := hX.cell 0
      have x1 := hX.cell 1
      have hG := Own.new w3 2 #[.int .i64 p, .int .i64 q]
      have hb5 := below_trans' hb4 (below_alloc1 w3 (.cells #[.int .i64 p, .int .i64 q] 2)) hb4.size
      have hs := hb4.size
      have hs2 : (w3.alloc (.cells #[.int .i64 p, .int .i64 q] 2)).heap.size = w3.heap.size + 1 := by rw [size_alloc]
      go_wp2_with fail
      go_ret2
      refine ⟨some ⟨w3.heap.size, 0, none⟩, 2, 2, by rw [HP.out.2]; rfl, ?_, hb5⟩
      rw [HP.out.1]
      exact ⟨rfl, fun _ => ⟨_, rfl, hs, by omega, hG⟩⟩
    · have HP := Lib.hid (fp_miss HA.out hfp)
      clear hfp
      have hX := Own.new w2 110 #[.int .i64 i, .int .i64 j, .int .i64 f]
      replace hb4 := below_trans' hb4 (below_alloc1 w2 (.cells #[.int .i64 i, .int .i64 j, .int .i64 f] 110)) hb4.size
      go_upto_region 4 with fail
      generalize w2.alloc (.cells #[.int .i64 i, .int .i64 j, .int .i64 f] 110) = w3 at *
      generalize w2.heap.size = gX at *
      go_wp2_with fail
      go_ret2
      exact ⟨none, 0, 0, by rw [HP.out.2]; rfl, by rw [HP.out.1]; exact OwnI.none_, hb4⟩
set_option maxHeartbeats 4000000 in
set_option maxRecDepth 100000 in
theorem l06Pair_c {w : World} {da : Option Addr} {n : Nat} {a : Option Addr} {ims : List (List Tm)} (dc c : Nat) (h8 : n ≤ 8) (hF : Frms w a n ims) (hn : n ≤ 1048576) (hL : ∀ im ∈ ims, (im.length : Int) ≤ 1048576) (hone : ∀ ts ∈ ims, (Srt ts ∧ (∀ t ∈ ts, IsTm t) ∧ (∀ t ∈ ts, 1 ≤ t.f)) ∧ ∀ t ∈ ts, wlen t.m = 1 → oneAt t.m < n) :
    Calls Try.prog 91 #[.agg #[.slice da n dc, .slice a n c]] w fun e w' => ∃ (i j : Int) (b : Bool), e = .returned (.tuple #[.int .i64 i, .int .i64 j, .bool b]) ∧ Hid (FPR ims i j b) ∧ Below w.heap.size w w' := by
  have HLL := Lib.hid hL
  have HLn := Lib.hid hF.len
  have H1 := Lib.hid hone
  clear hL hone
  have hA := Own.new w 29 #[.slice da n dc, .slice a n c]
  have hb := below_alloc1 w (.cells #[.slice da n dc, .slice a n c] 29)
  have c0 := hA.cell 0
  have c1 := hA.cell 1
  go_enter Try.func91, Try.ntmps91
  go_upto_region 1 with fail
  generalize w.alloc (.cells #[.slice da n dc, .slice a n c] 29) = w0 at *
  go_wp2_with fail
  refine (l02Linear_c dc c h8 (hF.keep hb) hn HLL.out (fun ts hts => (H1.out ts hts).2)).mono ?_
  rintro e w1 ⟨ra, rc, rfl, hO, hb1⟩
  have hb2 := below_trans' hb hb1 hb.size
  have hT := hO.tab
  clear hA hb hb1 c0 c1 hO hF
  have HTB := Lib.hid hT
  clear hT
  go_upto_region 3 with fail
  go_loopw [6] (fun y wr => ∃ k : Nat, k ≤ n ∧ y = .int .i64 k ∧ wr = w1 ∧ Hid (∀ p, p < k → ∀ us, ims[p]? = some us → linOf us = none)) (fun y _ => n - (intOf y).toNat)
  case atStart => exact ⟨0, Nat.zero_le _, rfl, rfl, Lib.hid (fun p hp => absurd hp (by omega))⟩
  case round =>
    obtain ⟨k, hk, rfl, rfl, HN⟩ := hrel
    have hk0 : (0 : Int) ≤ (k : Int) := by omega
    by_cases hin : k < n
    · have hkn : (k : Int) < (n : Int) := by omega
      obtain ⟨b, off, r, ai, mi, ci, rfl, hbl, hc, hI, hx⟩ := HTB.out.at_ hin
      obtain ⟨ts, hts⟩ : ∃ ts, ims[k]? = some ts := ⟨_, List.getElem?_eq_getElem (by have := HLn.out; omega)⟩
      have hr : r = linRow n ts := by
        have := hx.out
        rw [List.getElem?_map, hts] at this
        exact (Option.some.inj this).symm
      have HR := Lib.hid hr
      have HTS := Lib.hid hts
      have HM := Lib.hid (H1.out ts (List.mem_of_getElem? hts))
      obtain rfl : mi = n := by have := hI.len; rw [hr, linRow, linTo_len] at this; omega
      have HII := Lib.hid hI
      clear hr hts hI
      go_upto_region 6 with fail
      go_loopw [7] (fun y wq => ∃ j : Nat, j ≤ mi ∧ y = .int .i64 j ∧ wq = wr ∧ Hid (∀ i, i < j → ∀ y, (linRow mi ts)[i]? = some y → y = 0)) (fun y _ => mi - (intOf y).toNat)
      case atStart => exact ⟨0, Nat.zero_le _, rfl, rfl, Lib.hid (fun p hp => absurd hp (by omega))⟩
      case round =>
        obtain ⟨j, hj, rfl, rfl, HJ⟩ := hrel
        have hj0 : (0 : Int) ≤ (j : Int) := by omega
        by_cases hjn : j < mi
        · have hji : (j : Int) < (mi : Int) := by omega
          obtain ⟨b2, off2, y, rfl, hbl2, hc2, hy⟩ := HII.out.at_ hjn
          have hy2 : (linRow mi ts)[j]? = some y := by rw [← HR.out]; exact hy.out
          have HY := Lib.hid hy2
          clear hy2 hy
          by_cases h0 : y = 0
          · subst h0
            go_wp2_with fail
            go_roundw
            case rel =>
              refine ⟨j + 1, by omega, by go_num, by trivial, Lib.hid (fun i hi y hy => ?_)⟩
              by_cases e : i = j
              · subst e
                rw [HY.out, Option.some.injEq] at hy
                exact hy.symm
              · exact HJ.out i (by omega) y hy
            case measure => simp [intOf] <;> omega
          · have hyb : (y != 0) = true := by simpa using h0
            have hlin : ∃ t, linOf ts = some t ∧ oneAt t.m = j := by
              cases hl : linOf ts with
              | none => exact absurd (row_none hl HY.out) h0
              | some t =>
                obtain ⟨r1, r2, r3, r4⟩ := row_some HM.out.1.1 HM.out.1.2.1 HM.out.1.2.2 HM.out.2 hl
                refine ⟨t, rfl, ?_⟩
                rcases Nat.lt_trichotomy (oneAt t.m) j with h1 | h1 | h1
                · exact absurd (HJ.out _ h1 _ r1) r2
                · exact h1
                · exact absurd (r4 j y h1 HY.out) h0
            have HLI := Lib.hid hlin
            clear hlin
            go_wp2_with fail
            go_ret3
            refine ⟨(k : Int), (j : Int), true, rfl, Lib.hid (Or.inl ⟨rfl, k, j, rfl, rfl, ?_⟩), hb2⟩
            obtain ⟨t, h1, h2⟩ := HLI.out
            rw [fp_hit h1 HN.out HTS.out, h2, Nat.zero_add]
        · have he : j = mi := by omega
          subst he
          go_wp2_with fail
          go_roundw
          case rel =>
            refine ⟨k + 1, by omega, by go_num, by trivial, Lib.hid (fun p hp us hu => ?_)⟩
            by_cases e : p = k
            · subst e
              rw [HTS.out, Option.some.injEq] at hu
              subst hu
              cases hl : linOf ts with
              | none => rfl
              | some t =>
                obtain ⟨r1, r2, r3, r4⟩ := row_some HM.out.1.1 HM.out.1.2.1 HM.out.1.2.2 HM.out.2 hl
                exact absurd (HJ.out _ r3 _ r1) r2
            · exact HN.out p (by omega) us hu
          case measure => simp [intOf] <;> omega
    · have he : k = n := by omega
      subst he
      go_wp2_with fail
      go_ret3
      exact ⟨0, 0, false, rfl, Lib.hid (Or.inr ⟨rfl, fp_none (fun p us hu => HN.out p (by have := (List.getElem?_eq_some_iff.1 hu).1; have := HLn.out; omega) us hu)⟩), hb2⟩
set_option maxHeartbeats 4000000 in
set_option maxRecDepth 100000 in
theorem FirstPair_s {w : World} {da : Option Addr} {dn : Nat} {zs : List Int} {a : Option Addr} {n : Nat} {ims : List (List Tm)} (dc c : Nat) (hd : Ints w da dn zs) (hdn : dn ≤ 1048576) (hF : Frms w a n ims) (hn : n ≤ 1048576) (hL : ∀ im ∈ ims, (im.length : Int) ≤ 1048576) :
    Calls Try.prog 44 #[.agg #[.slice da dn dc, .slice a n c]] w fun e w' => ∃ ra rn rc, e = .returned (.tuple #[.slice ra rn rc, .int .i64 (fpE zs ims)]) ∧ OwnI w' w.heap.size w'.heap.size ra rn (fpV zs ims) ∧ Below w.heap.size w w' := by
  have HLL := Lib.hid hL
  have HLn := Lib.hid hF.len
  have HFF := Lib.hid hF
  have HT := Lib.hid hF.tm
  have HDL := Lib.hid hd.len
  clear hL
  have hA := Own.new w 29 #[.slice da dn dc, .slice a n c]
  have hb := below_alloc1 w (.cells #[.slice da dn dc, .slice a n c] 29)
  have c0 := hA.cell 0
  have c1 := hA.cell 1
  cases hal : isAlg zs ims
  all_goals
    have HA := Lib.hid hal
    clear hal
    go_enter Try.func44, Try.ntmps44
    go_upto_region 1 with fail
    generalize w.alloc (.cells #[.slice da dn dc, .slice a n c] 29) = w0 at *
    go_wp2_with fail
    refine (l02Is_c dc c (hd.keep hb) hdn (hF.keep hb) hn HLL.out).mono ?_
    rintro e w1 ⟨rfl, hb1⟩
    rw [HA.out]
    have hA1 := hA.keep hb1 hA.lt
    have hb2 := below_trans' hb hb1 hb.size
    clear hA hb hb1 c0 c1
    have c0 := hA1.cell 0
    have c1 := hA1.cell 1
  · go_wp2_with fail
    go_ret2
    exact ⟨none, 0, 0, by rw [(fp_no HA.out).2]; rfl, by rw [(fp_no HA.out).1]; exact OwnI.none_, hb2⟩
  · obtain rfl : dn = n := by have := isAlg_len2 HA.out; have := HLn.out; have := HDL.out; omega
    have h8 : dn ≤ 8 := by have := degsOk_len (isAlg_degs HA.out); have := HDL.out; omega
    have HOK := Lib.hid (isAlg_ok HA.out HT.out)
    have HONE : Hid (∀ ts ∈ ims, (Srt ts ∧ (∀ t ∈ ts, IsTm t) ∧ (∀ t ∈ ts, 1 ≤ t.f)) ∧ ∀ t ∈ ts, wlen t.m = 1 → oneAt t.m < dn) := Lib.hid (fun ts hts => by
      obtain ⟨k, hk, hkx⟩ := List.mem_iff_getElem.1 hts
      have h9 := HOK.out.at_ k
      rw [List.getD_eq_getElem?_getD, List.getElem?_eq_getElem hk, hkx] at h9
      obtain ⟨-, g1, g2, g3, g4⟩ := h9
      exact ⟨⟨g4, g1, fun t ht => (g3 t ht).1⟩, fun t ht h1 => one_lt (HT.out ts hts t ht).1 (g2 t ht) HDL.out h1⟩)
    go_wp2_with fail
    refine (l06Pair_c dc c h8 (HFF.out.keep hb2) hn HLL.out HONE.out).mono ?_
    rintro e w2 ⟨i, j, b, rfl, HFP, hb3⟩
    have hb4 := below_trans' hb2 hb3 hb2.size
    clear hb2 hb3 hA1 c0 c1
    rcases HFP.out with ⟨rfl, p, q, rfl, rfl, hfp⟩ | ⟨rfl, hfp⟩
    · have HP := Lib.hid (fp_yes HA.out hfp)
      clear hfp

      have hG := Own.new w2 2 #[.int .i64 p, .int .i64 q]
      have hb5 := below_trans' hb4 (below_alloc1 w2 (.cells #[.int .i64 p, .int .i64 q] 2)) hb4.size
      have hs := hb4.size
      have hs2 : (w2.alloc (.cells #[.int .i64 p, .int .i64 q] 2)).heap.size = w2.heap.size + 1 := by rw [size_alloc]
      go_wp2_with fail
      go_ret2
      refine ⟨some ⟨w2.heap.size, 0, none⟩, 2, 2, by rw [HP.out.2]; rfl, ?_, hb5⟩
      rw [HP.out.1]
      exact ⟨rfl, fun _ => ⟨_, rfl, hs, by omega, hG⟩⟩
    · have HP := Lib.hid (fp_miss HA.out hfp)
      clear hfp

      go_wp2_with fail
      go_ret2
      exact ⟨none, 0, 0, by rw [HP.out.2]; rfl, by rw [HP.out.1]; exact OwnI.none_, hb4⟩
end Go.Proofs.Ytndnkeijddagiaa
