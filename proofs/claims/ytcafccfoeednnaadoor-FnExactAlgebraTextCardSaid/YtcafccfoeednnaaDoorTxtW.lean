/- AlgebraText: the program's and the model's. The text of an algebra: the model's l02Text; AlgebraText of both. -/
import Derived.Test.YtcafccfoeednnaaDoorTxtE
import Derived.Test.YtcafccfoeednnaaDoorIsAlg
import Derived.Test.YtcafccfoeednnaaDoorIsAlgS
namespace Go.Proofs.YtcafccfoeednnaaDoor
open Go.RowKit Go.Deep

theorem jt_len {ps : List (List UInt8)} (h : ∀ x ∈ ps, x.length ≤ 20000) : ∀ k, (jt ps k).length ≤ 20001 * k := by
  intro k
  induction k with
  | zero => simp [jt]
  | succ k ih =>
    rw [jt, List.length_append, List.length_append]
    have h1 : (ps[k]?.getD []).length ≤ 20000 := by
      cases hx : ps[k]? with
      | none => simp
      | some x => exact h x (List.mem_of_getElem? hx)
    have h2 : (if 0 < k then [(59 : UInt8)] else []).length ≤ 1 := by split <;> simp
    omega

set_option maxHeartbeats 4000000 in
set_option maxRecDepth 100000 in
theorem l02Text_c {w : World} {da : Option Addr} {n : Nat} {zs : List Int} {a : Option Addr} {ims : List (List Tm)} (dc c : Nat) (hd : Ints w da n zs) (hF : Frms w a n ims) (hA : FineA zs ims) :
    Calls Tryd.prog 27 #[.agg #[.slice da n dc, .slice a n c]] w fun e w' => e = .returned (str (textA zs ims)) ∧ Below w.heap.size w w' := by
  have HL := Lib.hid hd.len
  have HFA := Lib.hid hA
  have hn8 : n ≤ 8 := by have := hA.few; have := hd.len; omega
  have HJL := Lib.hid (jt_len (partsA_all hA))
  have hP := Own.new w 44 #[.slice da n dc, .slice a n c]
  have hb0 := below_alloc1 w (.cells #[.slice da n dc, .slice a n c] 44)
  go_enter Tryd.func27, Tryd.ntmps27
  go_upto_region 1 with fail
  generalize w.alloc (.cells #[.slice da n dc, .slice a n c] 44) = w1 at *
  go_wp2_with fail
  go_loopw [3, 4] (fun s y wr => ∃ k : Nat, k ≤ n ∧ y = .int .i64 k ∧ s = str (jt (partsA zs ims) k) ∧ Below w.heap.size w wr ∧ Own wr w.heap.size 44 #[.slice da n dc, .slice a n c]) (fun _ y _ => n - (intOf y).toNat)
  case atStart => exact ⟨0, Nat.zero_le _, rfl, rfl, hb0, hP⟩
  case round =>
    clear hb0 hP
    obtain ⟨k, hk, rfl, rfl, hb, hP⟩ := hrel
    have p0 := hP.cell 0
    by_cases hlt : k < n
    · obtain ⟨b1, o1, z, rfl, hbl1, hc1, hz⟩ := hd.at_ hlt
      obtain ⟨b2, o2, im, ai, ni, ci, rfl, hbl2, hc2, hT, hni, hx⟩ := hF.at_ hlt
      have hzb := HFA.out.degs z (List.mem_of_getElem? hz.out)
      obtain ⟨hfi, h4⟩ := HFA.out.form im (List.mem_of_getElem? hx.out)
      have hpa := partsA_at hz.out hx.out
      have HZB := Lib.hid hzb
      have HFI := Lib.hid hfi
      have HT := Lib.hid hT
      have HNI : Hid (ni ≤ 400) := Lib.hid (by have := hT.len; omega)
      have HB1 := Lib.hid hbl1
      have HC1 := Lib.hid hc1
      have HB2 := Lib.hid hbl2
      have HC2 := Lib.hid hc2
      have hst := jt_step hpa
      have hql := HJL.out k
      have h2 := dec_len z.toNat 1 (by omega)
      have h3 := textF_len hfi h4
      obtain ⟨d, hdd⟩ : ∃ d, Lib.decDigits z.toNat = d := ⟨_, rfl⟩
      obtain ⟨t, htt⟩ : ∃ t, textF im = t := ⟨_, rfl⟩
      obtain ⟨p, hp⟩ : ∃ p, jt (partsA zs ims) k = p := ⟨_, rfl⟩
      rw [hdd] at h2
      rw [htt] at h3
      rw [hp] at hst hql
      rw [hp]
      have hpr : partA z im = d ++ [58] ++ t := by rw [partA, hdd, htt]
      rw [hpr] at hst
      have hqa := fun (w : World) => cat (w := w) p [59] (by simp; omega)
      have HDD := Lib.hid hdd
      have HTT := Lib.hid htt
      clear hzb hfi h4 hT hni hpa hdd htt hp hpr hbl1 hc1 hbl2 hc2
      by_cases hk0 : 0 < k
      · have hkp : (0 : Int) < (k : Int) := by omega
        rw [if_pos hk0] at hst
        obtain ⟨q, hq⟩ : ∃ q, p ++ [59] = q := ⟨_, rfl⟩
        have hqe : jt (partsA zs ims) (k + 1) = q ++ d ++ [58] ++ t := by rw [hst, ← hq]; simp [List.append_assoc]
        have hq2 : q.length ≤ 160010 := by rw [← hq]; simp; omega
        rw [hq] at hqa
        have e1 := fun (w : World) => cat (w := w) q d (by omega)
        have e2 := fun (w : World) => cat (w := w) (q ++ d) [58] (by simp; omega)
        have e3 := fun (w : World) => cat (w := w) (q ++ d ++ [58]) t (by simp; omega)
        rw [← hqe] at e3
        have HQE := Lib.hid hqe
        obtain ⟨r3, hr3⟩ : ∃ r, jt (partsA zs ims) (k + 1) = r := ⟨_, rfl⟩
        rw [hr3] at e3
        have HR3 := Lib.hid hr3
        obtain ⟨r2, hr2⟩ : ∃ r, q ++ d ++ [58] = r := ⟨_, rfl⟩
        rw [hr2] at e2 e3
        obtain ⟨r1, hr1⟩ : ∃ r, q ++ d = r := ⟨_, rfl⟩
        rw [hr1] at e1 e2
        clear hq hqe hr3 hr2 hr1 hst
        go_upto_region 7 with fail
        clear p0
        replace hb := Below.drew hb
        replace hP : Own wr.drew w.heap.size 44 #[.slice (some ⟨b1, o1, none⟩) n dc, .slice (some ⟨b2, o2, none⟩) n c] := hP
        go_region_held3 (fun w' => w'.cell? ⟨w.heap.size, 0, none⟩ = some (.slice (some ⟨b1, o1, none⟩) n dc) ∧ w'.cell? ⟨w.heap.size, 1, none⟩ = some (.slice (some ⟨b2, o2, none⟩) n c) ∧ w'.cell? ⟨b1, o1 + k, none⟩ = some (.int .i64 z) ∧ w'.cell? ⟨b2, o2 + k, none⟩ = some (.slice ai ni ci)) (exact ⟨hP.cell 0, hP.cell 1, (World.cell?_of_block (a := ⟨b1, o1 + k, none⟩) (hb.block b1 HB1.out)).trans HC1.out, (World.cell?_of_block (a := ⟨b2, o2 + k, none⟩) (hb.block b2 HB2.out)).trans HC2.out⟩)
          (first
            | (go_at_call 34; (refine (l01Dec_c z.toNat z _ rfl (by have := HZB.out; omega) (by have := HZB.out; omega)).mono ?_); rw [HDD.out]; rintro e wB ⟨rfl, hbB⟩; replace hb := below_trans' hb hbB hb.size; replace hP := hP.keep hbB hP.lt; clear hbB)
            | (go_at_call 19; (refine (l01Text_c ci (HT.out.keep hb) HNI.out HFI.out).mono ?_); rw [HTT.out]; rintro e wC ⟨rfl, hbC⟩; replace hb := below_trans' hb hbC hb.size; replace hP := hP.keep hbC hP.lt; clear hbC))
        go_wp2_with fail
        go_roundw
        case rel => exact ⟨k + 1, by omega, by go_num, by rw [HR3.out], hb, hP⟩
        case measure => simp [intOf]; omega
      · have hkp : ¬ (0 : Int) < (k : Int) := by omega
        rw [if_neg hk0] at hst
        have hqe : jt (partsA zs ims) (k + 1) = p ++ d ++ [58] ++ t := by rw [hst]; simp [List.append_assoc]
        have e1 := fun (w : World) => cat (w := w) p d (by omega)
        have e2 := fun (w : World) => cat (w := w) (p ++ d) [58] (by simp; omega)
        have e3 := fun (w : World) => cat (w := w) (p ++ d ++ [58]) t (by simp; omega)
        rw [← hqe] at e3
        obtain ⟨r3, hr3⟩ : ∃ r, jt (partsA zs ims) (k + 1) = r := ⟨_, rfl⟩
        rw [hr3] at e3
        have HR3 := Lib.hid hr3
        obtain ⟨r2, hr2⟩ : ∃ r, p ++ d ++ [58] = r := ⟨_, rfl⟩
        rw [hr2] at e2 e3
        obtain ⟨r1, hr1⟩ : ∃ r, p ++ d = r := ⟨_, rfl⟩
        rw [hr1] at e1 e2
        clear hqe hr3 hr2 hr1 hst hqa
        go_upto_region 7 with fail
        clear p0
        replace hb := Below.drew hb
        replace hP : Own wr.drew w.heap.size 44 #[.slice (some ⟨b1, o1, none⟩) n dc, .slice (some ⟨b2, o2, none⟩) n c] := hP
        go_region_held3 (fun w' => w'.cell? ⟨w.heap.size, 0, none⟩ = some (.slice (some ⟨b1, o1, none⟩) n dc) ∧ w'.cell? ⟨w.heap.size, 1, none⟩ = some (.slice (some ⟨b2, o2, none⟩) n c) ∧ w'.cell? ⟨b1, o1 + k, none⟩ = some (.int .i64 z) ∧ w'.cell? ⟨b2, o2 + k, none⟩ = some (.slice ai ni ci)) (exact ⟨hP.cell 0, hP.cell 1, (World.cell?_of_block (a := ⟨b1, o1 + k, none⟩) (hb.block b1 HB1.out)).trans HC1.out, (World.cell?_of_block (a := ⟨b2, o2 + k, none⟩) (hb.block b2 HB2.out)).trans HC2.out⟩)
          (first
            | (go_at_call 34; (refine (l01Dec_c z.toNat z _ rfl (by have := HZB.out; omega) (by have := HZB.out; omega)).mono ?_); rw [HDD.out]; rintro e wB ⟨rfl, hbB⟩; replace hb := below_trans' hb hbB hb.size; replace hP := hP.keep hbB hP.lt; clear hbB)
            | (go_at_call 19; (refine (l01Text_c ci (HT.out.keep hb) HNI.out HFI.out).mono ?_); rw [HTT.out]; rintro e wC ⟨rfl, hbC⟩; replace hb := below_trans' hb hbC hb.size; replace hP := hP.keep hbC hP.lt; clear hbC))
        go_wp2_with fail
        go_roundw
        case rel => exact ⟨k + 1, by omega, by go_num, by rw [HR3.out], hb, hP⟩
        case measure => simp [intOf]; omega
    · have hke : k = n := by omega
      subst hke
      have HTX : Hid (textA zs ims = jt (partsA zs ims) k) := Lib.hid (by rw [textA, HL.out])
      go_wp2_with fail
      go_ret
      exact ⟨by rw [HTX.out]; rfl, hb⟩

end Go.Proofs.YtcafccfoeednnaaDoor

namespace Go.Proofs.YtcafccfoeednnaaDoor
open Go.RowKit Go.Deep

theorem degsOk_z {zs : List Int} (h : degsOk zs = true) : ∀ z ∈ zs, 1 ≤ z ∧ z ≤ 12 := by
  intro z hz
  simp only [degsOk, Bool.and_eq_true, List.all_eq_true, decide_eq_true_eq] at h
  have := h.1 z hz
  simpa [okDeg] using this
theorem fineA_of {zs : List Int} {ims : List (List Tm)} (h : isAlg zs ims = true) (ht : ∀ im ∈ ims, ∀ u ∈ im, IsTm u) : FineA zs ims := by
  simp only [isAlg, Bool.and_eq_true, decide_eq_true_eq] at h
  refine ⟨h.2.1, degsOk_len h.1, degsOk_z h.1, fun im hi => ?_⟩
  obtain ⟨i, hl, rfl⟩ := List.mem_iff_getElem.1 hi
  have h1 := List.all_eq_true.1 h.2.2.1 i (by simpa using hl)
  have h2 := zeroOr_form h1
  rw [List.getD_eq_getElem?_getD, List.getElem?_eq_getElem hl] at h2
  exact isForm_fine h2 (ht _ hi)

/-- What both answer. -/
def atV (zs : List Int) (ims : List (List Tm)) : List UInt8 := if isAlg zs ims = true then textA zs ims else []
def atE (zs : List Int) (ims : List (List Tm)) : Int := if isAlg zs ims = true then 0 else 1

set_option maxHeartbeats 2000000 in
set_option maxRecDepth 100000 in
theorem AlgebraText_c {w : World} {da : Option Addr} {dn : Nat} {zs : List Int} {a : Option Addr} {n : Nat} {ims : List (List Tm)} (dc c : Nat) (hd : Ints w da dn zs) (hdn : dn ≤ 1048576) (hF : Frms w a n ims) (hn : n ≤ 1048576) (hL : ∀ im ∈ ims, (im.length : Int) ≤ 1048576) (htab : Tab w) :
    Calls Tryd.prog 15 #[.agg #[.slice da dn dc, .slice a n c]] w fun e w' => e = .returned (.tuple #[str (atV zs ims), .int .i64 (atE zs ims)]) ∧ Below w.heap.size w w' := by
  have HLL := Lib.hid hL
  have HLn := Lib.hid hF.len
  have HLd := Lib.hid hd.len
  have HTM := Lib.hid hF.tm
  clear hL
  have hA := Own.new w 44 #[.slice da dn dc, .slice a n c]
  have hb := below_alloc1 w (.cells #[.slice da dn dc, .slice a n c] 44)
  have c0 := hA.cell 0
  have c1 := hA.cell 1
  cases hal : isAlg zs ims
  all_goals
    have HA := Lib.hid hal
    clear hal
    go_enter Tryd.func15, Tryd.ntmps15
    go_upto_region 1 with fail
    generalize w.alloc (.cells #[.slice da dn dc, .slice a n c] 44) = w0 at *
    go_wp2_with fail
    refine (IsAlgebra_c dc c (hd.keep hb) hdn (hF.keep hb) hn HLL.out).mono ?_
    rintro e w1 ⟨rfl, hb1⟩
    rw [HA.out]
    have hA1 := hA.keep hb1 hA.lt
    have hb2 := below_trans' hb hb1 hb.size
    clear hA hb hb1 c0 c1
    have c0 := hA1.cell 0
    have c1 := hA1.cell 1
  · go_wp2_with fail
    go_ret2
    exact ⟨by rw [atV, atE, HA.out]; rfl, hb2⟩
  · have hfa := fineA_of HA.out HTM.out
    have hnd : n = dn := by have := hfa.len; have := HLn.out; have := HLd.out; omega
    subst hnd
    have HFA := Lib.hid hfa
    clear hfa
    go_wp2_with fail
    refine (textOfAlgebra_c dc c (hd.keep hb2) (hF.keep hb2) HFA.out (htab.keep hb2 (Nat.le_refl _))).mono ?_
    rintro e w2 ⟨rfl, hb3⟩
    go_wp2_with fail
    go_ret2
    exact ⟨by rw [atV, atE, HA.out]; rfl, below_trans' hb2 hb3 hb2.size⟩

set_option maxHeartbeats 2000000 in
set_option maxRecDepth 100000 in
theorem AlgebraText_s {w : World} {da : Option Addr} {dn : Nat} {zs : List Int} {a : Option Addr} {n : Nat} {ims : List (List Tm)} (dc c : Nat) (hd : Ints w da dn zs) (hdn : dn ≤ 1048576) (hF : Frms w a n ims) (hn : n ≤ 1048576) (hL : ∀ im ∈ ims, (im.length : Int) ≤ 1048576) :
    Calls Tryd.prog 13 #[.agg #[.slice da dn dc, .slice a n c]] w fun e w' => e = .returned (.tuple #[str (atV zs ims), .int .i64 (atE zs ims)]) ∧ Below w.heap.size w w' := by
  have HLL := Lib.hid hL
  have HLn := Lib.hid hF.len
  have HLd := Lib.hid hd.len
  have HTM := Lib.hid hF.tm
  clear hL
  have hA := Own.new w 44 #[.slice da dn dc, .slice a n c]
  have hb := below_alloc1 w (.cells #[.slice da dn dc, .slice a n c] 44)
  have c0 := hA.cell 0
  have c1 := hA.cell 1
  cases hal : isAlg zs ims
  all_goals
    have HA := Lib.hid hal
    clear hal
    go_enter Tryd.func13, Tryd.ntmps13
    go_upto_region 1 with fail
    generalize w.alloc (.cells #[.slice da dn dc, .slice a n c] 44) = w0 at *
    go_wp2_with fail
    refine (l02Is_c dc c (hd.keep hb) hdn (hF.keep hb) hn HLL.out).mono ?_
    rintro e w1 ⟨rfl, hb1⟩
    rw [HA.out]
    have hA1 := hA.keep hb1 hA.lt
    have hb2 := below_trans' hb hb1 hb.size
    clear hA hb hb1 c0 c1
    have c0 := hA1.cell 0
    have c1 := hA1.cell 1
  · go_wp2_with fail
    go_ret2
    exact ⟨by rw [atV, atE, HA.out]; rfl, hb2⟩
  · have hfa := fineA_of HA.out HTM.out
    have hnd : n = dn := by have := hfa.len; have := HLn.out; have := HLd.out; omega
    subst hnd
    have HFA := Lib.hid hfa
    clear hfa
    go_wp2_with fail
    refine (l02Text_c dc c (hd.keep hb2) (hF.keep hb2) HFA.out).mono ?_
    rintro e w2 ⟨rfl, hb3⟩
    go_wp2_with fail
    go_ret2
    exact ⟨by rw [atV, atE, HA.out]; rfl, below_trans' hb2 hb3 hb2.size⟩

end Go.Proofs.YtcafccfoeednnaaDoor
