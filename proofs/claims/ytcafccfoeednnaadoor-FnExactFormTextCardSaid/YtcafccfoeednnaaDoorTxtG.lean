/- FormText: the program's and the model's. -/
import Derived.Test.YtcafccfoeednnaaDoorTxtS
import Derived.Test.YtcafccfoeednnaaDoorLawDegF
namespace Go.Proofs.YtcafccfoeednnaaDoor
open Go.RowKit Go.Deep

theorem mono_20 {zs m : List Int} (hm : IsMono m) (h : monoOk zs m = true) : ∀ x ∈ m, x ≤ 20 := by
  intro x hx
  obtain ⟨i, hi, he⟩ := List.getElem_of_mem hx
  have h8 : i < 8 := by rw [← hm.1]; exact hi
  have := List.all_eq_true.1 h i (by simpa using h8)
  simp only [fits, decide_eq_true_eq, List.getD_eq_getElem?_getD, List.getElem?_eq_getElem hi, Option.getD_some, he] at this
  have hc : capAt zs i ≤ 20 := by
    unfold capAt
    split
    · split <;> omega
    · omega
  omega
theorem listOk_fine {zs : List Int} {ts : List Tm} (h : listOk zs ts = true) (hT : ∀ t ∈ ts, IsTm t) : Fine ts := by
  intro t ht
  obtain ⟨i, hi, he⟩ := List.getElem_of_mem ht
  have h1 := List.all_eq_true.1 h i (by simpa using hi)
  rw [okAt, List.getElem?_eq_getElem hi] at h1
  simp only [Bool.and_eq_true, he] at h1
  have h2 := h1.1
  simp only [okTm, Bool.and_eq_true, decide_eq_true_eq] at h2
  exact ⟨(hT t ht).1, mono_20 (hT t ht).1 h2.1, h2.2.1, h2.2.2⟩
theorem isForm_fine {zs : List Int} {ts : List Tm} (h : isForm zs ts = true) (hT : ∀ t ∈ ts, IsTm t) : Fine ts ∧ ts.length ≤ 400 := by
  simp only [isForm, Bool.and_eq_true, decide_eq_true_eq] at h
  exact ⟨listOk_fine h.2.1 hT, h.2.2⟩

/-- What both answer. -/
def ftV (zs : List Int) (ts : List Tm) : List UInt8 := if isForm zs ts = true then textF ts else []
def ftE (zs : List Int) (ts : List Tm) : Int := if isForm zs ts = true then 0 else 1

set_option maxHeartbeats 2000000 in
set_option maxRecDepth 100000 in
theorem FormText_c {w : World} {da : Option Addr} {dn : Nat} {zs : List Int} {a : Option Addr} {n : Nat} {ts : List Tm} (dc c : Nat) (hd : Ints w da dn zs) (hdn : dn ≤ 1048576) (h : Terms w a n ts) (hn : n ≤ 1048576) (htab : Tab w) :
    Calls Tryd.prog 9 #[.slice da dn dc, .agg #[.slice a n c]] w fun e w' => e = .returned (.tuple #[str (ftV zs ts), .int .i64 (ftE zs ts)]) ∧ Below w.heap.size w w' := by
  have HLt := Lib.hid h.len
  have hb0 := below_alloc1 w (.cells #[.slice a n c] 32)
  have hF0 := Own.new w 32 #[.slice a n c]
  have c0 := hF0.cell 0
  cases hif : isForm zs ts with
  | false =>
    have HIF := Lib.hid hif
    clear hif
    go_enter Tryd.func9, Tryd.ntmps9
    go_upto_region 1 with fail
    generalize w.alloc (.cells #[.slice a n c] 32) = w0 at *
    go_wp2_with fail
    refine (IsForm_c dc c (hd.keep hb0) hdn (h.keep hb0) hn).mono ?_
    rintro e w1 ⟨rfl, hb1⟩
    rw [HIF.out]
    go_wp2_with fail
    go_ret2
    exact ⟨by rw [ftV, ftE, HIF.out]; rfl, below_trans' hb0 hb1 hb0.size⟩
  | true =>
    obtain ⟨hf, h400⟩ := isForm_fine hif h.2.1
    have HIF := Lib.hid hif
    have HF := Lib.hid hf
    have H4 := Lib.hid h400
    clear hif hf h400
    go_enter Tryd.func9, Tryd.ntmps9
    go_upto_region 1 with fail
    generalize w.alloc (.cells #[.slice a n c] 32) = w0 at *
    go_wp2_with fail
    refine (IsForm_c dc c (hd.keep hb0) hdn (h.keep hb0) hn).mono ?_
    rintro e w1 ⟨rfl, hb1⟩
    rw [HIF.out]
    have c1 := (hF0.keep hb1 hF0.lt).cell 0
    have hb01 := below_trans' hb0 hb1 hb0.size
    clear c0 hF0 hb0 hb1
    go_wp2_with fail
    refine (textOfForm_c c (h.keep hb01) (by have := HLt.out; have := H4.out; omega) HF.out (htab.keep hb01 (Nat.le_refl _))).mono ?_
    rintro e w2 ⟨rfl, hb2⟩
    go_wp2_with fail
    go_ret2
    exact ⟨by rw [ftV, ftE, HIF.out]; rfl, below_trans' hb01 hb2 hb01.size⟩

set_option maxHeartbeats 2000000 in
set_option maxRecDepth 100000 in
theorem FormText_s {w : World} {da : Option Addr} {dn : Nat} {zs : List Int} {a : Option Addr} {n : Nat} {ts : List Tm} (dc c : Nat) (hd : Ints w da dn zs) (hdn : dn ≤ 1048576) (h : Terms w a n ts) (hn : n ≤ 1048576) :
    Calls Tryd.prog 6 #[.slice da dn dc, .agg #[.slice a n c]] w fun e w' => e = .returned (.tuple #[str (ftV zs ts), .int .i64 (ftE zs ts)]) ∧ Below w.heap.size w w' := by
  have HLt := Lib.hid h.len
  have hb0 := below_alloc1 w (.cells #[.slice a n c] 32)
  have hF0 := Own.new w 32 #[.slice a n c]
  have c0 := hF0.cell 0
  cases hif : isForm zs ts with
  | false =>
    have HIF := Lib.hid hif
    clear hif
    go_enter Tryd.func6, Tryd.ntmps6
    go_upto_region 1 with fail
    generalize w.alloc (.cells #[.slice a n c] 32) = w0 at *
    go_wp2_with fail
    refine (IsForm_s dc c (hd.keep hb0) hdn (h.keep hb0) hn).mono ?_
    rintro e w1 ⟨rfl, hb1⟩
    rw [HIF.out]
    go_wp2_with fail
    go_ret2
    exact ⟨by rw [ftV, ftE, HIF.out]; rfl, below_trans' hb0 hb1 hb0.size⟩
  | true =>
    obtain ⟨hf, h400⟩ := isForm_fine hif h.2.1
    have HIF := Lib.hid hif
    have HF := Lib.hid hf
    have H4 := Lib.hid h400
    clear hif hf h400
    go_enter Tryd.func6, Tryd.ntmps6
    go_upto_region 1 with fail
    generalize w.alloc (.cells #[.slice a n c] 32) = w0 at *
    go_wp2_with fail
    refine (IsForm_s dc c (hd.keep hb0) hdn (h.keep hb0) hn).mono ?_
    rintro e w1 ⟨rfl, hb1⟩
    rw [HIF.out]
    have c1 := (hF0.keep hb1 hF0.lt).cell 0
    have hb01 := below_trans' hb0 hb1 hb0.size
    clear c0 hF0 hb0 hb1
    go_wp2_with fail
    refine (l01Text_c c (h.keep hb01) (by have := HLt.out; have := H4.out; omega) HF.out).mono ?_
    rintro e w2 ⟨rfl, hb2⟩
    go_wp2_with fail
    go_ret2
    exact ⟨by rw [ftV, ftE, HIF.out]; rfl, below_trans' hb01 hb2 hb01.size⟩

end Go.Proofs.YtcafccfoeednnaaDoor
