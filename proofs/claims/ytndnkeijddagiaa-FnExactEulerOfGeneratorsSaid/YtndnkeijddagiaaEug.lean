
import Derived.Test.YtndnkeijddagiaaFdim
namespace Go.Proofs.Ytndnkeijddagiaa
open Go.RowKit Go.Deep
def evTo (C : List Int) : Nat → Int
  | 0 => 0
  | j + 1 => evTo C j + (if odd (j : Int) = true then -(C.getD j 0) else C.getD j 0)
theorem evTo_step {C : List Int} {k : Nat} {z D : Int} (h : evTo C k = D) (hz : C[k]? = some z) : evTo C (k + 1) = D + (if odd (k : Int) = true then -z else z) := by rw [evTo, h, List.getD_eq_getElem?_getD, hz]; rfl
theorem evTo_bd {C : List Int} {B : Int} (hB : ∀ z ∈ C, -B ≤ z ∧ z ≤ B) : ∀ k, k ≤ C.length → -(B * (k : Int)) ≤ evTo C k ∧ evTo C k ≤ B * (k : Int)
  | 0, _ => by simp [evTo]
  | k + 1, hk => by
    have h1 := evTo_bd hB k (by omega)
    have hz : C[k]? = some C[k] := List.getElem?_eq_getElem (by omega)
    have h2 := hB _ (List.getElem_mem (show k < C.length by omega))
    have h3 : B * ((k + 1 : Nat) : Int) = B * (k : Int) + B := by rw [Int.natCast_add, Int.mul_add]; simp
    rw [evTo_step rfl hz, h3]
    split <;> omega
def cnE (zs : List Int) : Nat → List Int
  | 0 => List.replicate 13 0
  | k + 1 => (cnE zs k).set (zs.getD k 0).toNat ((cnE zs k).getD (zs.getD k 0).toNat 0 + 1)
theorem cnE_len (zs : List Int) : ∀ k, (cnE zs k).length = 13
  | 0 => by simp [cnE]
  | k + 1 => by rw [cnE, List.length_set, cnE_len zs k]
theorem cnE_step {zs : List Int} {k m : Nat} {v : Int} (hz : zs[k]? = some (m : Int)) (hv : (cnE zs k)[m]? = some v) : cnE zs (k + 1) = (cnE zs k).set m (v + 1) := by
  rw [cnE, List.getD_eq_getElem?_getD, List.getD_eq_getElem?_getD, hz, Option.getD_some, Int.toNat_natCast, hv]
  rfl
theorem cnE_bd (zs : List Int) : ∀ k, ∀ v ∈ cnE zs k, 0 ≤ v ∧ v ≤ (k : Int)
  | 0, v, h => by rw [cnE] at h; have := List.eq_of_mem_replicate h; omega
  | k + 1, v, h => by
    rw [cnE] at h
    rcases List.mem_or_eq_of_mem_set h with h | h
    · have := cnE_bd zs k v h
      omega
    · rw [List.getD_eq_getElem?_getD] at h
      cases hh : (cnE zs k)[(zs.getD k 0).toNat]? with
      | none => rw [hh] at h; simp at h; omega
      | some u =>
        have := cnE_bd zs k u (List.mem_of_getElem? hh)
        rw [hh] at h
        simp at h
        omega
theorem evTo_set {C : List Int} {m : Nat} {v : Int} (hv : C[m]? = some v) : ∀ j, evTo (C.set m (v + 1)) j = evTo C j + (if m < j then eoOf (m : Int) else 0)
  | 0 => by simp [evTo]
  | j + 1 => by
    have hm := (List.getElem?_eq_some_iff.1 hv).1
    rw [evTo, evTo, evTo_set hv j, List.getD_eq_getElem?_getD, List.getD_eq_getElem?_getD, List.getElem?_set]
    by_cases e : m = j
    · subst e
      rw [if_pos rfl, if_pos hm, hv, if_neg (show ¬ m < m by omega), if_pos (show m < m + 1 by omega), eoOf]
      simp only [Option.getD_some]
      split <;> omega
    · rw [if_neg e]
      by_cases h : m < j
      · rw [if_pos h, if_pos (show m < j + 1 by omega)]
        omega
      · rw [if_neg h, if_neg (show ¬ m < j + 1 by omega)]
        omega
theorem evTo_cn {zs : List Int} (h : degsOk zs = true) : ∀ k, k ≤ zs.length → evTo (cnE zs k) 13 = eoTo zs k
  | 0, _ => by simp [evTo, cnE, eoTo, odd]
  | k + 1, hk => by
    have hz : zs[k]? = some zs[k] := List.getElem?_eq_getElem (by omega)
    have hb := degsOk_at h hz
    obtain ⟨m, hm⟩ : ∃ m : Nat, zs[k] = (m : Int) := ⟨zs[k].toNat, by omega⟩
    rw [hm] at hz hb
    obtain ⟨v, hv⟩ : ∃ v, (cnE zs k)[m]? = some v := ⟨_, List.getElem?_eq_getElem (by rw [cnE_len]; omega)⟩
    rw [cnE_step hz hv, evTo_set hv 13, if_pos (show m < 13 by omega), evTo_cn h k (by omega), eoTo_step rfl hz]
def ofE (zs : List Int) : Array Value := (zs.map (Value.int .i64)).toArray
theorem ofE_set {zs : List Int} {i : Nat} {x : Int} : (ofE zs).setIfInBounds i (.int .i64 x) = ofE (zs.set i x) := by simp [ofE, List.map_set]
theorem ofE_get {zs : List Int} {i : Nat} {x : Int} (h : zs[i]? = some x) : (ofE zs)[i]? = some (.int .i64 x) := by simp [ofE, h]
theorem make13 (w : World) :
    (Instr.makeSlice 22 (.int .i64 13) (.int .i64 13)).run Try.prog w = .ok (.slice (some ⟨w.heap.size, 0, none⟩) 13 13) (w.alloc (.cells (Array.replicate 13 (Value.int .i64 0)) 2)) := by
  have h := run_make_row' (P := Try.prog) 22 2 (.int .i64 0) 8 Try.underlying22 Try.info_int64 rfl .i64 .i64 13 (by omega) (by omega) w
  rw [show madeCells #[Value.int .i64 0] 13 = Array.replicate 13 (Value.int .i64 0) by (apply Array.ext'; rw [toList_madeCells_one]; simp)] at h
  exact h
set_option maxHeartbeats 2000000 in
set_option maxRecDepth 100000 in
theorem eulerOf_c {w : World} {a : Option Addr} {n : Nat} {C : List Int} (c : Nat) (h : Ints w a n C) (hn : n ≤ 1048576) (hB : ∀ z ∈ C, -1099511627776 ≤ z ∧ z ≤ 1099511627776) :
    Calls Try.prog 67 #[.slice a n c] w fun e w' => e = .returned (.int .i64 (evTo C n)) ∧ w' = w := by
  have HL := Lib.hid h.len
  have HBB := Lib.hid hB
  have HI := Lib.hid h
  clear hB
  go_enter Try.func67, Try.ntmps67
  go_wp2_with fail
  go_loopw [3, 8] (fun x y wr => ∃ i : Nat, i ≤ n ∧ x = .int .i64 (evTo C i) ∧ y = .int .i64 i ∧ wr = w) (fun _ y _ => n - (intOf y).toNat)
  case atStart => exact ⟨0, Nat.zero_le _, rfl, rfl, rfl⟩
  case round =>
    obtain ⟨i, hi, rfl, rfl, rfl⟩ := hrel
    have hi0 : (0 : Int) ≤ (i : Int) := by omega
    obtain ⟨D, hD⟩ : ∃ D, evTo C i = D := ⟨_, rfl⟩
    have hbd := evTo_bd HBB.out i (by rw [HL.out]; exact hi)
    rw [hD] at hbd ⊢
    have HDI := Lib.hid hD
    clear hD
    by_cases hlt : i < n
    · have hin : (i : Int) < (n : Int) := by omega
      obtain ⟨b, off, x, rfl, hbl, hc, hx⟩ := HI.out.at_ hlt
      have hxb := HBB.out x (List.mem_of_getElem? hx.out)
      clear h
      go_wp2_with fail
      refine (isOdd_c i _).mono ?_
      rintro e w5 ⟨rfl, rfl⟩
      cases ho : odd (i : Int)
      · have hs : evTo C (i + 1) = D + x := by rw [evTo_step HDI.out hx.out, ho, if_neg (by simp)]
        clear ho
        go_wp2_with fail
        go_roundw
        case rel => exact ⟨i + 1, by omega, by rw [hs], by go_num, trivial⟩
        case measure => simp [intOf] <;> omega
      · have hs : evTo C (i + 1) = D + -x := by rw [evTo_step HDI.out hx.out, ho, if_pos rfl]
        clear ho
        go_wp2_with fail
        go_roundw
        case rel => exact ⟨i + 1, by omega, by rw [hs], by go_num, trivial⟩
        case measure => simp [intOf] <;> omega
    · have he : i = n := by omega
      have hnl : ¬ (i : Int) < (n : Int) := by omega
      subst he
      go_wp2_with fail
      go_ret
      exact ⟨by rw [HDI.out]; rfl, rfl⟩
set_option maxHeartbeats 2000000 in
set_option maxRecDepth 100000 in
theorem EulerOfGenerators_c {w : World} {da : Option Addr} {dn : Nat} {zs : List Int} {a : Option Addr} {n : Nat} {ims : List (List Tm)} (dc c : Nat) (hd : Ints w da dn zs) (hdn : dn ≤ 1048576) (hF : Frms w a n ims) (hn : n ≤ 1048576) (hL : ∀ im ∈ ims, (im.length : Int) ≤ 1048576) :
    Calls Try.prog 26 #[.agg #[.slice da dn dc, .slice a n c]] w fun e w' => e = .returned (.tuple #[.int .i64 (eoV zs ims), .int .i64 (alE8 zs ims)]) ∧ Below w.heap.size w w' := by
  have HLL := Lib.hid hL
  have HLE := Lib.hid hd.len
  clear hL
  have hA := Own.new w 29 #[.slice da dn dc, .slice a n c]
  have hb := below_alloc1 w (.cells #[.slice da dn dc, .slice a n c] 29)
  have c0 := hA.cell 0
  have c1 := hA.cell 1
  cases hal : isAlg zs ims
  all_goals
    have HA := Lib.hid hal
    clear hal
    go_enter Try.func26, Try.ntmps26
    go_upto_region 1 with fail
    generalize w.alloc (.cells #[.slice da dn dc, .slice a n c] 29) = w0 at *
    go_wp2_with fail
    refine (IsAlgebra_c dc c (hd.keep hb) hdn (hF.keep hb) hn HLL.out).mono ?_
    rintro e w1 ⟨rfl, hb1⟩
    rw [HA.out]
    have hA1 := hA.keep hb1 hA.lt
    have hb2 := below_trans' hb hb1 hb.size
    clear hA hb hb1 c0 c1
    have c0 := hA1.cell 0
  · go_wp2_with fail
    go_ret2
    exact ⟨by rw [eoV_no HA.out, alE8_no HA.out]; rfl, hb2⟩
  · have hdz := isAlg_dz HA.out
    have h8 := degsOk_len hdz
    have HDZ := Lib.hid hdz
    have hlen := HLE.out
    have hd8 : dn ≤ 8 := by omega
    clear hdz hlen h8
    have hmk := make13 w1
    have hC := Own.new w1 2 (Array.replicate 13 (Value.int .i64 0))
    have hba := below_alloc1 w1 (.cells (Array.replicate 13 (Value.int .i64 0)) 2)
    have hA2 := hA1.keep hba hA1.lt
    have hb3 := below_trans' hb2 hba hb2.size
    have hgs := hb2.size
    go_upto_region 4 with fail
    clear hmk
    generalize w1.alloc (.cells (Array.replicate 13 (Value.int .i64 0)) 2) = w2 at *
    generalize w1.heap.size = gC at *
    clear c0 hA1 hb2 hba
    have hC0 : Own w2 gC 2 (ofE (cnE zs 0)) := by rw [cnE, ofE, List.map_replicate, List.toArray_replicate]; exact hC
    clear hC
    have c0 := hA2.cell 0
    go_wp2_with fail
    clear c0 hA2
    go_loopw [14] (fun y wr => ∃ i : Nat, i ≤ dn ∧ y = .int .i64 i ∧ Below w.heap.size w wr ∧ Own wr gC 2 (ofE (cnE zs i))) (fun y _ => dn - (intOf y).toNat)
    case atStart => exact ⟨0, Nat.zero_le _, rfl, hb3, hC0⟩
    case round =>
      clear hb3 hC0
      obtain ⟨i, hi, rfl, hb, hC⟩ := hrel
      have hi0 : (0 : Int) ≤ (i : Int) := by omega
      by_cases hlt : i < dn
      · have hin : (i : Int) < (dn : Int) := by omega
        obtain ⟨b, off, x, rfl, hbl, hc, hx⟩ := (hd.keep hb).at_ hlt
        have hxb := degsOk_at HDZ.out hx.out
        obtain ⟨m, rfl⟩ : ∃ m : Nat, x = (m : Int) := ⟨x.toNat, by omega⟩
        have hm0 : (0 : Int) ≤ (m : Int) := by omega
        have hm13 : (m : Int) < 13 := by omega
        obtain ⟨v, hv⟩ : ∃ v, (cnE zs i)[m]? = some v := ⟨_, List.getElem?_eq_getElem (by rw [cnE_len]; omega)⟩
        have hvb := cnE_bd zs i v (List.mem_of_getElem? hv)
        have hcC : wr.cell? ⟨gC, m, none⟩ = some (.int .i64 v) := by rw [hC.cell m, ofE_get hv]
        have hfC := hC.frozen m
        have HST := Lib.hid (cnE_step hx.out hv)
        clear hv
        go_wp2_with fail
        go_roundw
        case rel => exact ⟨i + 1, by omega, by go_num, hb.setCell (p := ⟨gC, m, none⟩) hgs _, by rw [HST.out, ← ofE_set]; exact hC.set m _⟩
        case measure => simp [intOf] <;> omega
      · have he : i = dn := by omega
        have hnl : ¬ (i : Int) < (dn : Int) := by omega
        subst he
        have hCI := IntBlk.ints' hC (cnE_len zs i)
        go_wp2_with fail
        refine (eulerOf_c 13 hCI (by omega) (fun z hz => by have := cnE_bd zs i z hz; omega)).mono ?_
        rintro e w5 ⟨rfl, rfl⟩
        go_wp2_with fail
        go_ret2
        refine ⟨?_, hb⟩
        rw [eoV_yes HA.out, alE8_yes HA.out, evTo_cn HDZ.out i (by rw [HLE.out]; exact Nat.le_refl _), HLE.out]
        rfl
set_option maxHeartbeats 2000000 in
set_option maxRecDepth 100000 in
theorem EulerOfGenerators_s {w : World} {da : Option Addr} {dn : Nat} {zs : List Int} {a : Option Addr} {n : Nat} {ims : List (List Tm)} (dc c : Nat) (hd : Ints w da dn zs) (hdn : dn ≤ 1048576) (hF : Frms w a n ims) (hn : n ≤ 1048576) (hL : ∀ im ∈ ims, (im.length : Int) ≤ 1048576) :
    Calls Try.prog 25 #[.agg #[.slice da dn dc, .slice a n c]] w fun e w' => e = .returned (.tuple #[.int .i64 (eoV zs ims), .int .i64 (alE8 zs ims)]) ∧ Below w.heap.size w w' := by
  have HLL := Lib.hid hL
  have HLE := Lib.hid hd.len
  clear hL
  have hA := Own.new w 29 #[.slice da dn dc, .slice a n c]
  have hb := below_alloc1 w (.cells #[.slice da dn dc, .slice a n c] 29)
  have c0 := hA.cell 0
  have c1 := hA.cell 1
  cases hal : isAlg zs ims
  all_goals
    have HA := Lib.hid hal
    clear hal
    go_enter Try.func25, Try.ntmps25
    go_upto_region 1 with fail
    generalize w.alloc (.cells #[.slice da dn dc, .slice a n c] 29) = w0 at *
    go_wp2_with fail
    refine (l02Is_c dc c (hd.keep hb) hdn (hF.keep hb) hn HLL.out).mono ?_
    rintro e w1 ⟨rfl, hb1⟩
    rw [HA.out]
    have hA1 := hA.keep hb1 hA.lt
    have hb2 := below_trans' hb hb1 hb.size
    clear hA hb hb1 c0 c1
    have c0 := hA1.cell 0
  · go_wp2_with fail
    go_ret2
    exact ⟨by rw [eoV_no HA.out, alE8_no HA.out]; rfl, hb2⟩
  · have hdz := isAlg_dz HA.out
    have h8 := degsOk_len hdz
    have HDZ := Lib.hid hdz
    have hlen := HLE.out
    have hd8 : dn ≤ 8 := by omega
    clear hdz hlen h8
    go_wp2_with fail
    go_loopw [4, 5] (fun x y wr => ∃ i : Nat, i ≤ dn ∧ x = .int .i64 (eoTo zs i) ∧ y = .int .i64 i ∧ Below w.heap.size w wr ∧ Own wr w.heap.size 29 #[.slice da dn dc, .slice a n c]) (fun _ y _ => dn - (intOf y).toNat)
    case atStart => exact ⟨0, Nat.zero_le _, rfl, rfl, hb2, hA1⟩
    case round =>
      clear hb2 hA1 c0
      obtain ⟨i, hi, rfl, rfl, hb, hA⟩ := hrel
      have c0 := hA.cell 0
      have hi0 : (0 : Int) ≤ (i : Int) := by omega
      obtain ⟨D, hD⟩ : ∃ D, eoTo zs i = D := ⟨_, rfl⟩
      have hbd := eoTo_bd HDZ.out i (by rw [HLE.out]; exact hi)
      rw [hD] at hbd ⊢
      have HDI := Lib.hid hD
      clear hD
      by_cases hlt : i < dn
      · have hin : (i : Int) < (dn : Int) := by omega
        obtain ⟨b, off, x, rfl, hbl, hc, hx⟩ := (hd.keep hb).at_ hlt
        have hxb := degsOk_at HDZ.out hx.out
        have hs : eoTo zs (i + 1) = D + 1 - 2 * (x % 2) := by
          rw [eoTo_step HDI.out hx.out, eoOf, odd]
          by_cases h2 : x % 2 = 0
          · rw [h2]; simp
          · have : x % 2 = 1 := by omega
            rw [this]; simp; omega
        have HS := Lib.hid hs
        clear hs
        go_wp2_with fail
        go_roundw
        case rel => exact ⟨i + 1, by omega, by rw [HS.out], by go_num, hb, hA⟩
        case measure => simp [intOf] <;> omega
      · have he : i = dn := by omega
        have hnl : ¬ (i : Int) < (dn : Int) := by omega
        subst he
        go_wp2_with fail
        go_ret2
        refine ⟨?_, hb⟩
        rw [eoV_yes HA.out, alE8_yes HA.out, HLE.out, HDI.out]
        rfl
end Go.Proofs.Ytndnkeijddagiaa
