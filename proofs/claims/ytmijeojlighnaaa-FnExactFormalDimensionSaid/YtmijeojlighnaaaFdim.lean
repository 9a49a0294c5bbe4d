
import Derived.Test.YtmijeojlighnaaaIsAlg
import Derived.Test.YtmijeojlighnaaaIsAlgS
namespace Go.Proofs.Ytmijeojlighnaaa
open Go.RowKit Go.Deep
theorem isAlg_dz {zs : List Int} {ims : List (List Tm)} (h : isAlg zs ims = true) : degsOk zs = true := by
  simp only [isAlg, Bool.and_eq_true, decide_eq_true_eq] at h
  exact h.1
theorem odd_emod (x : Int) : (x % 2 != 0) = odd x := by rw [← odd_bne, Bool.eq_iff_iff]; simp [odd_tmod]
def fdOf (z : Int) : Int := if odd z = true then z else 1 - z
def fdTo (zs : List Int) : Nat → Int
  | 0 => 0
  | k + 1 => fdTo zs k + fdOf (zs.getD k 0)
def fdV (zs : List Int) (ims : List (List Tm)) : Int := if isAlg zs ims = true then fdTo zs zs.length else 0
def algE (zs : List Int) (ims : List (List Tm)) : Int := if isAlg zs ims = true then 0 else 1
theorem fdV_no {zs : List Int} {ims : List (List Tm)} (h : isAlg zs ims = false) : fdV zs ims = 0 := by simp [fdV, h]
theorem fdV_yes {zs : List Int} {ims : List (List Tm)} (h : isAlg zs ims = true) : fdV zs ims = fdTo zs zs.length := by simp [fdV, h]
theorem algE_no {zs : List Int} {ims : List (List Tm)} (h : isAlg zs ims = false) : algE zs ims = 1 := by simp [algE, h]
theorem algE_yes {zs : List Int} {ims : List (List Tm)} (h : isAlg zs ims = true) : algE zs ims = 0 := by simp [algE, h]
theorem fdTo_step {zs : List Int} {k : Nat} {z D : Int} (h : fdTo zs k = D) (hz : zs[k]? = some z) : fdTo zs (k + 1) = D + fdOf z := by rw [fdTo, h, List.getD_eq_getElem?_getD, hz]; rfl
theorem fdTo_bd {zs : List Int} (h : degsOk zs = true) : ∀ k, k ≤ zs.length → -12 * (k : Int) ≤ fdTo zs k ∧ fdTo zs k ≤ 12 * (k : Int)
  | 0, _ => by simp [fdTo]
  | k + 1, hk => by
    have h1 := fdTo_bd h k (by omega)
    have hz : zs[k]? = some zs[k] := List.getElem?_eq_getElem (by omega)
    have h2 := degsOk_at h hz
    rw [fdTo_step rfl hz, fdOf]
    split <;> omega
set_option maxHeartbeats 2000000 in
set_option maxRecDepth 100000 in
theorem FormalDimension_c {w : World} {da : Option Addr} {dn : Nat} {zs : List Int} {a : Option Addr} {n : Nat} {ims : List (List Tm)} (dc c : Nat) (hd : Ints w da dn zs) (hdn : dn ≤ 1048576) (hF : Frms w a n ims) (hn : n ≤ 1048576) (hL : ∀ im ∈ ims, (im.length : Int) ≤ 1048576) :
    Calls Try.prog 31 #[.agg #[.slice da dn dc, .slice a n c]] w fun e w' => e = .returned (.tuple #[.int .i64 (fdV zs ims), .int .i64 (algE zs ims)]) ∧ Below w.heap.size w w' := by
  have HLL := Lib.hid hL
  have HLE := Lib.hid hd.len
  clear hL
  have hA := Own.new w 25 #[.slice da dn dc, .slice a n c]
  have hb := below_alloc1 w (.cells #[.slice da dn dc, .slice a n c] 25)
  have c0 := hA.cell 0
  have c1 := hA.cell 1
  cases hal : isAlg zs ims
  all_goals
    have HA := Lib.hid hal
    clear hal
    go_enter Try.func31, Try.ntmps31
    go_upto_region 1 with fail
    generalize w.alloc (.cells #[.slice da dn dc, .slice a n c] 25) = w0 at *
    go_wp2_with fail
    refine (IsAlgebra_c dc c (hd.keep hb) hdn (hF.keep hb) hn HLL.out).mono ?_
    rintro e w1 ⟨rfl, hb1⟩
    rw [HA.out]
    have hA1 := hA.keep hb1 hA.lt
    have hb2 := below_trans' hb hb1 hb.size
    clear hA hb hb1 c0 c1
    have c0 := hA1.cell 0
  · go_wp2_with fail
    go_ret2
    exact ⟨by rw [fdV_no HA.out, algE_no HA.out]; rfl, hb2⟩
  · have hdz := isAlg_dz HA.out
    have h8 := degsOk_len hdz
    have HDZ := Lib.hid hdz
    have hlen := HLE.out
    have hd8 : dn ≤ 8 := by omega
    clear hdz hlen h8
    go_wp2_with fail
    go_loopw [4, 13] (fun x y wr => ∃ i : Nat, i ≤ dn ∧ x = .int .i64 (fdTo zs i) ∧ y = .int .i64 i ∧ Below w.heap.size w wr) (fun _ y _ => dn - (intOf y).toNat)
    case atStart => exact ⟨0, Nat.zero_le _, rfl, rfl, hb2⟩
    case round =>
      clear hb2 hA1 c0
      obtain ⟨i, hi, rfl, rfl, hb⟩ := hrel
      have hi0 : (0 : Int) ≤ (i : Int) := by omega
      obtain ⟨D, hD⟩ : ∃ D, fdTo zs i = D := ⟨_, rfl⟩
      have hbd := fdTo_bd HDZ.out i (by rw [HLE.out]; exact hi)
      rw [hD] at hbd ⊢
      have HDI := Lib.hid hD
      clear hD
      by_cases hlt : i < dn
      · have hin : (i : Int) < (dn : Int) := by omega
        obtain ⟨b, off, x, rfl, hbl, hc, hx⟩ := (hd.keep hb).at_ hlt
        have hxb := degsOk_at HDZ.out hx.out
        go_wp2_with fail
        refine (isOdd_c x wr).mono ?_
        rintro e w5 ⟨rfl, rfl⟩
        cases ho : odd x
        · have hs : fdTo zs (i + 1) = D - (x - 1) := by rw [fdTo_step HDI.out hx.out, fdOf, ho, if_neg (by simp)]; omega
          clear ho
          go_wp2_with fail
          go_roundw
          case rel => exact ⟨i + 1, by omega, by rw [hs], by go_num, hb⟩
          case measure => simp [intOf] <;> omega
        · have hs : fdTo zs (i + 1) = D + x := by rw [fdTo_step HDI.out hx.out, fdOf, ho, if_pos rfl]
          clear ho
          go_wp2_with fail
          go_roundw
          case rel => exact ⟨i + 1, by omega, by rw [hs], by go_num, hb⟩
          case measure => simp [intOf] <;> omega
      · have he : i = dn := by omega
        have hnl : ¬ (i : Int) < (dn : Int) := by omega
        subst he
        go_wp2_with fail
        go_ret2
        refine ⟨?_, hb⟩
        rw [fdV_yes HA.out, algE_yes HA.out, HLE.out, HDI.out]
        rfl
set_option maxHeartbeats 2000000 in
set_option maxRecDepth 100000 in
theorem FormalDimension_s {w : World} {da : Option Addr} {dn : Nat} {zs : List Int} {a : Option Addr} {n : Nat} {ims : List (List Tm)} (dc c : Nat) (hd : Ints w da dn zs) (hdn : dn ≤ 1048576) (hF : Frms w a n ims) (hn : n ≤ 1048576) (hL : ∀ im ∈ ims, (im.length : Int) ≤ 1048576) :
    Calls Try.prog 30 #[.agg #[.slice da dn dc, .slice a n c]] w fun e w' => e = .returned (.tuple #[.int .i64 (fdV zs ims), .int .i64 (algE zs ims)]) ∧ Below w.heap.size w w' := by
  have HLL := Lib.hid hL
  have HLE := Lib.hid hd.len
  clear hL
  have hA := Own.new w 25 #[.slice da dn dc, .slice a n c]
  have hb := below_alloc1 w (.cells #[.slice da dn dc, .slice a n c] 25)
  have c0 := hA.cell 0
  have c1 := hA.cell 1
  cases hal : isAlg zs ims
  all_goals
    have HA := Lib.hid hal
    clear hal
    go_enter Try.func30, Try.ntmps30
    go_upto_region 1 with fail
    generalize w.alloc (.cells #[.slice da dn dc, .slice a n c] 25) = w0 at *
    go_wp2_with fail
    refine (l02Is_c dc c (hd.keep hb) hdn (hF.keep hb) hn HLL.out).mono ?_
    rintro e w1 ⟨rfl, hb1⟩
    rw [HA.out]
    have hA1 := hA.keep hb1 hA.lt
    have hb2 := below_trans' hb hb1 hb.size
    clear hA hb hb1 c0 c1
    have c0 := hA1.cell 0
  · go_wp2_with fail
    go_ret2
    exact ⟨by rw [fdV_no HA.out, algE_no HA.out]; rfl, hb2⟩
  · have hdz := isAlg_dz HA.out
    have h8 := degsOk_len hdz
    have HDZ := Lib.hid hdz
    have hlen := HLE.out
    have hd8 : dn ≤ 8 := by omega
    clear hdz hlen h8
    go_wp2_with fail
    go_loopw [4, 5] (fun x y wr => ∃ i : Nat, i ≤ dn ∧ x = .int .i64 (fdTo zs i) ∧ y = .int .i64 i ∧ Below w.heap.size w wr ∧ Own wr w.heap.size 25 #[.slice da dn dc, .slice a n c]) (fun _ y _ => dn - (intOf y).toNat)
    case atStart => exact ⟨0, Nat.zero_le _, rfl, rfl, hb2, hA1⟩
    case round =>
      clear hb2 hA1 c0
      obtain ⟨i, hi, rfl, rfl, hb, hA⟩ := hrel
      have c0 := hA.cell 0
      have hi0 : (0 : Int) ≤ (i : Int) := by omega
      obtain ⟨D, hD⟩ : ∃ D, fdTo zs i = D := ⟨_, rfl⟩
      have hbd := fdTo_bd HDZ.out i (by rw [HLE.out]; exact hi)
      rw [hD] at hbd ⊢
      have HDI := Lib.hid hD
      clear hD
      by_cases hlt : i < dn
      · have hin : (i : Int) < (dn : Int) := by omega
        obtain ⟨b, off, x, rfl, hbl, hc, hx⟩ := (hd.keep hb).at_ hlt
        have hxb := degsOk_at HDZ.out hx.out
        have hob := odd_emod x
        cases ho : odd x
        · have hs : fdTo zs (i + 1) = D - (x - 1) := by rw [fdTo_step HDI.out hx.out, fdOf, ho, if_neg (by simp)]; omega
          rw [ho] at hob
          clear ho
          go_wp2_with fail
          go_roundw
          case rel => exact ⟨i + 1, by omega, by rw [hs], by go_num, hb, hA⟩
          case measure => simp [intOf] <;> omega
        · have hs : fdTo zs (i + 1) = D + x := by rw [fdTo_step HDI.out hx.out, fdOf, ho, if_pos rfl]
          rw [ho] at hob
          clear ho
          go_wp2_with fail
          go_roundw
          case rel => exact ⟨i + 1, by omega, by rw [hs], by go_num, hb, hA⟩
          case measure => simp [intOf] <;> omega
      · have he : i = dn := by omega
        have hnl : ¬ (i : Int) < (dn : Int) := by omega
        subst he
        go_wp2_with fail
        go_ret2
        refine ⟨?_, hb⟩
        rw [fdV_yes HA.out, algE_yes HA.out, HLE.out, HDI.out]
        rfl
end Go.Proofs.Ytmijeojlighnaaa
