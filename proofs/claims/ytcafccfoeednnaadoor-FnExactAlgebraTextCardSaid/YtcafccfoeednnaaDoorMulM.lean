/- MultiplyMonomials of the program and of its model: the same monomial, sign and code for every list of numbers and two arrays of eight bytes. -/
import Derived.Test.YtcafccfoeednnaaDoorProd
import Derived.Deep.DeepCutAuto
namespace Go.Proofs.YtcafccfoeednnaaDoor
open Go.RowKit Go.Deep

def mxTo (m : List Int) : Nat → Int
  | 0 => m.getD 0 0
  | j + 1 => max (mxTo m j) (m.getD (j + 1) 0)
def within (m : List Int) : Bool := m.all fun x => decide (x ≤ 20)

theorem mxTo_le (m : List Int) (j : Nat) (B : Int) : mxTo m j ≤ B ↔ ∀ i, i ≤ j → m.getD i 0 ≤ B := by
  induction j with
  | zero => simp [mxTo]
  | succ j ih =>
    simp only [mxTo]
    rw [Int.max_le, ih]
    constructor
    · rintro ⟨h1, h2⟩ i hi
      by_cases h : i = j + 1
      · subst h; exact h2
      · exact h1 i (by omega)
    · intro h
      exact ⟨fun i hi => h i (by omega), h (j + 1) (Nat.le_refl _)⟩
theorem within_mx {m : List Int} (h : m.length = 8) : decide (mxTo m 7 ≤ 20) = within m := by
  rw [Bool.eq_iff_iff, decide_eq_true_eq, mxTo_le, within, List.all_eq_true]
  constructor
  · intro hh x hx
    obtain ⟨i, hi, rfl⟩ := List.mem_iff_getElem.1 hx
    have := hh i (by omega)
    simpa [List.getD, hi] using this
  · intro hh i hi
    have hl : i < m.length := by omega
    have := hh m[i] (List.getElem_mem hl)
    simpa [List.getD, hl] using this
theorem mxTo_bd {m : List Int} (h : IsMono m) (j : Nat) : 0 ≤ mxTo m j ∧ mxTo m j ≤ 255 := by
  induction j with
  | zero => exact getD_mono h 0
  | succ j ih =>
    have := getD_mono h (j + 1)
    simp only [mxTo]
    omega
theorem mxTo_succ {m : List Int} {j : Nat} {y : Int} (hy : m[j + 1]? = some y) : mxTo m (j + 1) = max (mxTo m j) y := by
  simp [mxTo, List.getD, hy]

/-- The product is a monomial for the degrees just if no exponent is too great. -/
theorem sum_ok {zs m k : List Int} (F : Fit zs m k) (hn : isNul zs m k = false) : monoOk zs (addM m k) = within (addM m k) := by
  rw [Bool.eq_iff_iff]
  have hl := addM_len F.hm.1 F.hk.1
  constructor
  · intro h
    rw [within, List.all_eq_true]
    intro x hx
    obtain ⟨i, hi, rfl⟩ := List.mem_iff_getElem.1 hx
    have := mono20 h (i := i) (by omega) (List.getElem?_eq_getElem hi)
    simpa using this
  · intro h
    rw [monoOk, List.all_eq_true]
    intro i hi
    have hi8 : i < 8 := by simpa using hi
    obtain ⟨y, hy0, -, -, HY⟩ := mono_at F.hm hi8
    obtain ⟨z, hz0, -, -, HZ⟩ := mono_at F.hk hi8
    have hA := addM_get HY.out HZ.out
    rw [fits_eq hA]
    simp only [decide_eq_true_eq]
    cases hz : zs[i]? with
    | none =>
      have t1 := tail0 F.hm F.om i (List.getElem?_eq_none_iff.1 hz) hi8
      have t2 := tail0 F.hk F.ok i (List.getElem?_eq_none_iff.1 hz) hi8
      rw [HY.out] at t1
      rw [HZ.out] at t2
      injection t1 with t1
      injection t2 with t2
      rw [capAt, hz, t1, t2]
      decide
    | some d =>
      rw [capAt, hz]
      cases ho : odd d with
      | true =>
        have hb : bad3 (d, y, z) = false := by
          have := hn
          rw [isNul, List.any_eq_false] at this
          have := this (d, y, z) (List.mem_of_getElem? (trip_get hz HY.out HZ.out))
          simpa using this
        simp only [bad3, ho, Bool.true_and, decide_eq_false_iff_not] at hb
        simp; omega
      | false =>
        rw [within, List.all_eq_true] at h
        have := h _ (List.mem_of_getElem? hA)
        simpa [ho] using this

/-- What both answer. -/
def okM (zs m k : List Int) : Bool := degsOk zs && monoOk zs m && monoOk zs k
def mulM (zs m k : List Int) : List Int := if okM zs m k && (isNul zs m k || within (addM m k)) then joinM zs m k else nul8
def mulS (zs m k : List Int) : Int := if okM zs m k && (isNul zs m k || within (addM m k)) then joinS zs m k else 0
def mulE (zs m k : List Int) : Int := if okM zs m k then (if isNul zs m k || within (addM m k) then 0 else 3) else 1

theorem okM_fit {zs m k : List Int} (hm : IsMono m) (hk : IsMono k) (h : okM zs m k = true) : Fit zs m k := by
  simp only [okM, Bool.and_eq_true] at h
  exact ⟨degsOk_len h.1.1, hm, hk, h.1.2, h.2⟩

theorem own3 (w : World) (t : TypeId) (A B C : Array Value) :
    Own (((w.alloc (.cells A t)).alloc (.cells B t)).alloc (.cells C t)) w.heap.size t A ∧
    Own (((w.alloc (.cells A t)).alloc (.cells B t)).alloc (.cells C t)) (w.heap.size + 1) t B ∧
    Own (((w.alloc (.cells A t)).alloc (.cells B t)).alloc (.cells C t)) (w.heap.size + 1 + 1) t C ∧
    Below w.heap.size w (((w.alloc (.cells A t)).alloc (.cells B t)).alloc (.cells C t)) := by
  have o1 := ((Own.new w t A).alloc (.cells B t)).alloc (.cells C t)
  have o2 := (Own.new (w.alloc (.cells A t)) t B).alloc (.cells C t)
  have o3 := Own.new ((w.alloc (.cells A t)).alloc (.cells B t)) t C
  rw [size_alloc] at o2
  rw [size_alloc, size_alloc] at o3
  exact ⟨o1, o2, o3, below_then (below_then (below_alloc1 w _) (below_alloc1 _ _)) (below_alloc1 _ _)⟩

theorem okM_no1 {zs m k : List Int} (h : degsOk zs = false) : okM zs m k = false := by simp [okM, h]
theorem okM_no2 {zs m k : List Int} (h : monoOk zs m = false) : okM zs m k = false := by simp [okM, h]
theorem okM_no3 {zs m k : List Int} (h : monoOk zs k = false) : okM zs m k = false := by simp [okM, h]
theorem okM_yes {zs m k : List Int} (h : degsOk zs = true) (h1 : monoOk zs m = true) (h2 : monoOk zs k = true) : okM zs m k = true := by simp [okM, h, h1, h2]
theorem joinM_mono {zs m k : List Int} (F : Fit zs m k) : IsMono (joinM zs m k) := by
  unfold joinM
  split
  · exact ⟨rfl, by decide⟩
  · refine ⟨addM_len F.hm.1 F.hk.1, fun x hx => ?_⟩
    obtain ⟨i, hi, rfl⟩ := List.mem_iff_getElem.1 hx
    have hi8 : i < 8 := by rw [addM_len F.hm.1 F.hk.1] at hi; exact hi
    obtain ⟨y, hy0, -, -, HY⟩ := mono_at F.hm hi8
    obtain ⟨z, hz0, -, -, HZ⟩ := mono_at F.hk hi8
    have hA := addM_get HY.out HZ.out
    rw [List.getElem?_eq_getElem hi] at hA
    injection hA with hA
    have := mono20 F.om hi8 HY.out
    have := mono20 F.ok hi8 HZ.out
    omega
theorem joinS_bd (zs m k : List Int) : -1 ≤ joinS zs m k ∧ joinS zs m k ≤ 1 := by
  unfold joinS
  split
  · decide
  · rcases (sgn3_pm (trip zs m k)).1 with h | h <;> rw [h] <;> decide
theorem joinS_ne {zs m k : List Int} (h : isNul zs m k = false) : joinS zs m k ≠ 0 := by
  unfold joinS
  rw [h]
  rcases (sgn3_pm (trip zs m k)).1 with h | h <;> simp [h]
theorem nul_within : within nul8 = true := by decide

theorem cond_eq (zs m k : List Int) : (isNul zs m k || within (addM m k)) = within (joinM zs m k) := by
  unfold joinM
  cases isNul zs m k with
  | true => simp [nul_within]
  | false => simp
theorem okM_isMono (zs m k : List Int) : okM zs m k = (isMono zs m && isMono zs k) := by
  unfold okM isMono
  cases degsOk zs <;> simp

theorem mulM_mono {zs m k : List Int} (hm : IsMono m) (hk : IsMono k) : IsMono (mulM zs m k) := by
  unfold mulM
  split
  · rename_i h
    exact joinM_mono (okM_fit hm hk (by simp only [Bool.and_eq_true] at h; exact h.1))
  · exact ⟨rfl, by decide⟩

end Go.Proofs.YtcafccfoeednnaaDoor
