/- Is a form closed, what is its word length: the program's and the model's. -/
import Derived.Test.YthcaiagnmmjooaaIsAlgS
import Derived.Test.YthcaiagnmmjooaaWord
namespace Go.Proofs.Ythcaiagnmmjooaa
open Go.RowKit Go.Deep

/-- What both ask of an algebra and a form. -/
def algF (zs : List Int) (ims : List (List Tm)) (fs : List Tm) : Bool := isAlg zs ims && isForm zs fs
def algE (zs : List Int) (ims : List (List Tm)) (fs : List Tm) : Int := if algF zs ims fs = true then 0 else 1
def closV (zs : List Int) (ims : List (List Tm)) (fs : List Tm) : Bool := algF zs ims fs && closedB zs ims fs
def wordV (zs : List Int) (ims : List (List Tm)) (fs : List Tm) : Int := if algF zs ims fs = true then leastW fs else 0
theorem algE_no {zs : List Int} {ims : List (List Tm)} {fs : List Tm} (h : algF zs ims fs = false) : algE zs ims fs = 1 ∧ closV zs ims fs = false ∧ wordV zs ims fs = 0 := by simp [algE, closV, wordV, h]
theorem algE_yes {zs : List Int} {ims : List (List Tm)} {fs : List Tm} (h : algF zs ims fs = true) : algE zs ims fs = 0 ∧ closV zs ims fs = closedB zs ims fs ∧ wordV zs ims fs = leastW fs := by simp [algE, closV, wordV, h]
theorem isAlg_degs {zs : List Int} {ims : List (List Tm)} (h : isAlg zs ims = true) : degsOk zs = true := by
  simp only [isAlg, Bool.and_eq_true] at h
  exact h.1
theorem algF_alg {zs : List Int} {ims : List (List Tm)} {fs : List Tm} (h : algF zs ims fs = true) : isAlg zs ims = true ∧ isForm zs fs = true := by simpa [algF] using h

set_option maxRecDepth 100000 in
theorem isAlgebraWithForm_c {w : World} {da : Option Addr} {dn : Nat} {zs : List Int} {a : Option Addr} {n : Nat} {ims : List (List Tm)} {a2 : Option Addr} {n2 : Nat} {fs : List Tm} (dc c c2 : Nat) (hd : Ints w da dn zs) (hdn : dn ≤ 1048576) (hF : Frms w a n ims) (hn : n ≤ 1048576) (hL : ∀ im ∈ ims, (im.length : Int) ≤ 1048576) (h : Terms w a2 n2 fs) (hn2 : n2 ≤ 1048576) :
    Calls Try.prog 115 #[.agg #[.slice da dn dc, .slice a n c], .agg #[.slice a2 n2 c2]] w fun e w' => e = .returned (.bool (algF zs ims fs)) ∧ Below w.heap.size w w' := by
  have HLL := Lib.hid hL
  clear hL
  have hA := (Own.new w 44 #[.slice da dn dc, .slice a n c]).alloc (.cells #[.slice a2 n2 c2] 59)
  have hG := Own.new (w.alloc (.cells #[.slice da dn dc, .slice a n c] 44)) 59 #[.slice a2 n2 c2]
  rw [size_alloc] at hG
  have hb := below_then (below_alloc1 w (.cells #[.slice da dn dc, .slice a n c] 44)) (below_alloc1 _ (.cells #[.slice a2 n2 c2] 59))
  have c0 := hA.cell 0
  have c1 := hA.cell 1
  cases hal : isAlg zs ims
  all_goals
    have HA := Lib.hid hal
    clear hal
    go_enter Try.func115, Try.ntmps115
    go_upto_region 1 with fail
    generalize (w.alloc (.cells #[.slice da dn dc, .slice a n c] 44)).alloc (.cells #[.slice a2 n2 c2] 59) = w0 at *
    go_wp2_with fail
    refine (IsAlgebra_c dc c (hd.keep hb) hdn (hF.keep hb) hn HLL.out).mono ?_
    rintro e w1 ⟨rfl, hb1⟩
    rw [HA.out]
    have hA1 := hA.keep hb1 hA.lt
    have hG1 := hG.keep hb1 hG.lt
    have hb2 := below_trans' hb hb1 hb.size
    clear hA hG hb hb1 c0 c1
    have c0 := hA1.cell 0
    have cg := hG1.cell 0
  · go_wp2_with fail
    go_ret
    exact ⟨ret_b (by rw [algF, HA.out]; rfl), hb2⟩
  · go_wp2_with fail
    refine (IsForm_c dc c2 (hd.keep hb2) hdn (h.keep hb2) hn2).mono ?_
    rintro e w2 ⟨rfl, hb3⟩
    go_wp2_with fail
    go_ret
    exact ⟨ret_b (by rw [algF, HA.out]; rfl), below_trans' hb2 hb3 hb2.size⟩

set_option maxRecDepth 100000 in
theorem l02Both_c {w : World} {da : Option Addr} {dn : Nat} {zs : List Int} {a : Option Addr} {n : Nat} {ims : List (List Tm)} {a2 : Option Addr} {n2 : Nat} {fs : List Tm} (dc c c2 : Nat) (hd : Ints w da dn zs) (hdn : dn ≤ 1048576) (hF : Frms w a n ims) (hn : n ≤ 1048576) (hL : ∀ im ∈ ims, (im.length : Int) ≤ 1048576) (h : Terms w a2 n2 fs) (hn2 : n2 ≤ 1048576) :
    Calls Try.prog 116 #[.agg #[.slice da dn dc, .slice a n c], .agg #[.slice a2 n2 c2]] w fun e w' => e = .returned (.int .i64 (algE zs ims fs)) ∧ Below w.heap.size w w' := by
  have HLL := Lib.hid hL
  clear hL
  have hA := (Own.new w 44 #[.slice da dn dc, .slice a n c]).alloc (.cells #[.slice a2 n2 c2] 59)
  have hG := Own.new (w.alloc (.cells #[.slice da dn dc, .slice a n c] 44)) 59 #[.slice a2 n2 c2]
  rw [size_alloc] at hG
  have hb := below_then (below_alloc1 w (.cells #[.slice da dn dc, .slice a n c] 44)) (below_alloc1 _ (.cells #[.slice a2 n2 c2] 59))
  have c0 := hA.cell 0
  have c1 := hA.cell 1
  cases hal : isAlg zs ims
  case false =>
    have HA := Lib.hid hal
    clear hal
    go_enter Try.func116, Try.ntmps116
    go_upto_region 1 with fail
    generalize (w.alloc (.cells #[.slice da dn dc, .slice a n c] 44)).alloc (.cells #[.slice a2 n2 c2] 59) = w0 at *
    go_wp2_with fail
    refine (l02Is_c dc c (hd.keep hb) hdn (hF.keep hb) hn HLL.out).mono ?_
    rintro e w1 ⟨rfl, hb1⟩
    rw [HA.out]
    go_wp2_with fail
    go_ret
    exact ⟨ret_i (by rw [(algE_no (by rw [algF, HA.out]; rfl)).1]), below_trans' hb hb1 hb.size⟩
  case true =>
    have HF : Hid (isForm zs fs = (listOk zs fs && decide (fs.length ≤ 400))) := Lib.hid (by rw [isForm, isAlg_degs hal, Bool.true_and])
    have HA := Lib.hid hal
    clear hal
    cases hq : (listOk zs fs && decide (fs.length ≤ 400))
    all_goals
      have HQ := Lib.hid hq
      clear hq
      go_enter Try.func116, Try.ntmps116
      go_upto_region 1 with fail
      generalize (w.alloc (.cells #[.slice da dn dc, .slice a n c] 44)).alloc (.cells #[.slice a2 n2 c2] 59) = w0 at *
      go_wp2_with fail
      refine (l02Is_c dc c (hd.keep hb) hdn (hF.keep hb) hn HLL.out).mono ?_
      rintro e w1 ⟨rfl, hb1⟩
      rw [HA.out]
      have hA1 := hA.keep hb1 hA.lt
      have hG1 := hG.keep hb1 hG.lt
      have hb2 := below_trans' hb hb1 hb.size
      clear hA hG hb hb1 c0 c1
      have c0 := hA1.cell 0
      have cg := hG1.cell 0
      go_wp2_with fail
      refine (l01Is_c dc c2 (hd.keep hb2) hdn (h.keep hb2) hn2).mono ?_
      rintro e w2 ⟨rfl, hb3⟩
      rw [HQ.out]
      go_wp2_with fail
      go_ret
    · exact ⟨ret_i (by rw [(algE_no (by rw [algF, HA.out, HF.out, HQ.out]; rfl)).1]), below_trans' hb2 hb3 hb2.size⟩
    · exact ⟨ret_i (by rw [(algE_yes (by rw [algF, HA.out, HF.out, HQ.out]; rfl)).1]), below_trans' hb2 hb3 hb2.size⟩

set_option maxHeartbeats 1000000 in
set_option maxRecDepth 100000 in
theorem IsClosed_c {w : World} {da : Option Addr} {dn : Nat} {zs : List Int} {a : Option Addr} {n : Nat} {ims : List (List Tm)} {a2 : Option Addr} {n2 : Nat} {fs : List Tm} (dc c c2 : Nat) (hd : Ints w da dn zs) (hdn : dn ≤ 1048576) (hF : Frms w a n ims) (hn : n ≤ 1048576) (hL : ∀ im ∈ ims, (im.length : Int) ≤ 1048576) (h : Terms w a2 n2 fs) (hn2 : n2 ≤ 1048576) :
    Calls Try.prog 68 #[.agg #[.slice da dn dc, .slice a n c], .agg #[.slice a2 n2 c2]] w fun e w' => e = .returned (.tuple #[.bool (closV zs ims fs), .int .i64 (algE zs ims fs)]) ∧ Below w.heap.size w w' := by
  have HLL := Lib.hid hL
  have HT := Lib.hid hF.tm
  have HL2 := Lib.hid h.len
  clear hL
  have hA := (Own.new w 44 #[.slice da dn dc, .slice a n c]).alloc (.cells #[.slice a2 n2 c2] 59)
  have hG := Own.new (w.alloc (.cells #[.slice da dn dc, .slice a n c] 44)) 59 #[.slice a2 n2 c2]
  rw [size_alloc] at hG
  have hb := below_then (below_alloc1 w (.cells #[.slice da dn dc, .slice a n c] 44)) (below_alloc1 _ (.cells #[.slice a2 n2 c2] 59))
  have c0 := hA.cell 0
  have c1 := hA.cell 1
  have cg := hG.cell 0
  cases hal : algF zs ims fs
  all_goals
    have HA := Lib.hid hal
    clear hal
    go_enter Try.func68, Try.ntmps68
    go_upto_region 1 with fail
    generalize (w.alloc (.cells #[.slice da dn dc, .slice a n c] 44)).alloc (.cells #[.slice a2 n2 c2] 59) = w0 at *
    go_wp2_with fail
    refine (isAlgebraWithForm_c dc c c2 (hd.keep hb) hdn (hF.keep hb) hn HLL.out (h.keep hb) hn2).mono ?_
    rintro e w1 ⟨rfl, hb1⟩
    rw [HA.out]
    have hA1 := hA.keep hb1 hA.lt
    have hG1 := hG.keep hb1 hG.lt
    have hb2 := below_trans' hb hb1 hb.size
    clear hA hG hb hb1 c0 c1 cg
    have c0 := hA1.cell 0
    have c1 := hA1.cell 1
    have cg := hG1.cell 0
  · go_wp2_with fail
    go_ret2
    exact ⟨by rw [(algE_no HA.out).1, (algE_no HA.out).2.1]; rfl, hb2⟩
  · have HAO := Lib.hid (isAlg_ok (algF_alg HA.out).1 HT.out)
    have hif := (algF_alg HA.out).2
    have HK := Lib.hid (isForm_fit hif)
    have HFB := Lib.hid (isForm_f hif)
    have hn4 : n2 ≤ 400 := by have := isForm_400 hif; have := HL2.out; omega
    have HCL := Lib.hid (HAO.out.closed h.2.1 HK.out)
    clear hif
    go_wp2_with fail
    refine (differentialOf_c dc c c2 (hd.keep hb2) (hF.keep hb2) (h.keep hb2) HAO.out HK.out HFB.out hn4).mono ?_
    rintro e w2 ⟨bm, rfl, hbm, hM, hb3⟩
    have hb4 := below_trans' hb2 hb3 hb2.size
    go_wp2_with fail
    refine (isZero_c hM HCL.out).mono ?_
    rintro e w3 ⟨rfl, hb5⟩
    go_wp2_with fail
    go_ret2
    exact ⟨by rw [(algE_yes HA.out).1, (algE_yes HA.out).2.1]; rfl, below_trans' hb4 hb5 hb4.size⟩

set_option maxHeartbeats 1000000 in
set_option maxRecDepth 100000 in
theorem IsClosed_s {w : World} {da : Option Addr} {dn : Nat} {zs : List Int} {a : Option Addr} {n : Nat} {ims : List (List Tm)} {a2 : Option Addr} {n2 : Nat} {fs : List Tm} (dc c c2 : Nat) (hd : Ints w da dn zs) (hdn : dn ≤ 1048576) (hF : Frms w a n ims) (hn : n ≤ 1048576) (hL : ∀ im ∈ ims, (im.length : Int) ≤ 1048576) (h : Terms w a2 n2 fs) (hn2 : n2 ≤ 1048576) :
    Calls Try.prog 67 #[.agg #[.slice da dn dc, .slice a n c], .agg #[.slice a2 n2 c2]] w fun e w' => e = .returned (.tuple #[.bool (closV zs ims fs), .int .i64 (algE zs ims fs)]) ∧ Below w.heap.size w w' := by
  have HLL := Lib.hid hL
  have HT := Lib.hid hF.tm
  have HL2 := Lib.hid h.len
  clear hL
  have hA := (Own.new w 44 #[.slice da dn dc, .slice a n c]).alloc (.cells #[.slice a2 n2 c2] 59)
  have hG := Own.new (w.alloc (.cells #[.slice da dn dc, .slice a n c] 44)) 59 #[.slice a2 n2 c2]
  rw [size_alloc] at hG
  have hb := below_then (below_alloc1 w (.cells #[.slice da dn dc, .slice a n c] 44)) (below_alloc1 _ (.cells #[.slice a2 n2 c2] 59))
  have c0 := hA.cell 0
  have c1 := hA.cell 1
  have cg := hG.cell 0
  have hfld := field_form
  cases hal : algF zs ims fs
  case false =>
    have HA := Lib.hid hal
    have HE := Lib.hid (algE_no hal).1
    clear hal
    go_enter Try.func67, Try.ntmps67
    go_upto_region 1 with fail
    generalize (w.alloc (.cells #[.slice da dn dc, .slice a n c] 44)).alloc (.cells #[.slice a2 n2 c2] 59) = w0 at *
    go_wp2_with fail
    refine (l02Both_c dc c c2 (hd.keep hb) hdn (hF.keep hb) hn HLL.out (h.keep hb) hn2).mono ?_
    rintro e w1 ⟨rfl, hb1⟩
    rw [HE.out]
    go_wp2_with fail
    go_ret2
    exact ⟨by rw [(algE_no HA.out).1, (algE_no HA.out).2.1]; rfl, below_trans' hb hb1 hb.size⟩
  case true =>
    have HA := Lib.hid hal
    have HE := Lib.hid (algE_yes hal).1
    clear hal
    have HAO := Lib.hid (isAlg_ok (algF_alg HA.out).1 HT.out)
    have HMI := Lib.hid (degsOk_mild (isAlg_degs (algF_alg HA.out).1))
    have hif := (algF_alg HA.out).2
    have HK := Lib.hid (isForm_fit hif)
    have HFB := Lib.hid (isForm_f hif)
    have hn4 : n2 ≤ 400 := by have := isForm_400 hif; have := HL2.out; omega
    have HS := Lib.hid (HAO.out.diff fs [] 0 h.2.1 HK.out sum9_nil)
    obtain ⟨N, hN⟩ : ∃ N, (diffT zs ims [] fs).length = N := ⟨_, rfl⟩
    have HN := Lib.hid hN
    have HCL := Lib.hid (show closedB zs ims fs = (N == 0) by rw [closedB, hN])
    clear hif hN
    go_enter Try.func67, Try.ntmps67
    go_upto_region 1 with fail
    generalize (w.alloc (.cells #[.slice da dn dc, .slice a n c] 44)).alloc (.cells #[.slice a2 n2 c2] 59) = w0 at *
    go_wp2_with fail
    refine (l02Both_c dc c c2 (hd.keep hb) hdn (hF.keep hb) hn HLL.out (h.keep hb) hn2).mono ?_
    rintro e w1 ⟨rfl, hb1⟩
    rw [HE.out]
    have hA1 := hA.keep hb1 hA.lt
    have hG1 := hG.keep hb1 hG.lt
    have hb2 := below_trans' hb hb1 hb.size
    clear hA hG hb hb1 c0 c1 cg
    have c0 := hA1.cell 0
    have c1 := hA1.cell 1
    have cg := hG1.cell 0
    go_wp2_with fail
    refine (l02D_c dc c c2 (hd.keep hb2) (hF.keep hb2) (h.keep hb2) HAO.out HMI.out HK.out HFB.out hn4).mono ?_
    rintro e w2 ⟨v, rfl, hO, hb3⟩
    obtain ⟨va, vc, rfl, -⟩ := hO.r.terms HS.out.tm HN.out
    go_wp2_with fail
    go_ret2
    refine ⟨?_, below_trans' hb2 hb3 hb2.size⟩
    rw [(algE_yes HA.out).1, (algE_yes HA.out).2.1, HCL.out]
    cases N with
    | zero => rfl
    | succ N => rfl

end Go.Proofs.Ythcaiagnmmjooaa
