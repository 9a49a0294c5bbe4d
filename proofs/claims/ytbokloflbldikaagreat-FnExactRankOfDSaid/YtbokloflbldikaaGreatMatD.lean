
import Derived.Test.YtbokloflbldikaaGreatDiffT
import Derived.Test.YtbokloflbldikaaGreatMonsM
namespace Go.Proofs.YtbokloflbldikaaGreat
open Go.RowKit Go.Deep
structure Deg1 (zs k : List Int) (N : Int) : Prop where
  wt : _root_.Go.Proofs.YtbokloflbldikaaGreat.wt zs k = N
  odd1 : ∀ (j : Nat) (z y : Int), zs[j]? = some z → k[j]? = some y → odd z = true → y ≤ 1
  tail : Tail0 k zs.length
theorem join_deg {zs m k : List Int} (F : FitW zs m k) (hj : ¬ joinS zs m k = 0) : Deg1 zs (joinM zs m k) (wt zs m + wt zs k) := by
  have hn : isNul zs m k = false := by
    unfold joinS at hj
    split at hj
    · exact absurd rfl hj
    · rename_i h1; simpa using h1
  rw [join_ne hj]
  refine ⟨wt_add zs m k (by have := F.n8; have := F.hm.1; omega) (by rw [F.hm.1, F.hk.1]), fun j z y hz hy ho => ?_, fun i h1 h2 => ?_⟩
  · have hj8 : j < 8 := by have := (List.getElem?_eq_some_iff.1 hz).1; have := F.n8; omega
    obtain ⟨a, ha0, -, -, HA⟩ := mono_at F.hm hj8
    obtain ⟨b, hb0, -, -, HB⟩ := mono_at F.hk hj8
    have hA := addM_get HA.out HB.out
    rw [hA, Option.some.injEq] at hy
    subst hy
    have hb : bad3 (z, a, b) = false := by
      have := hn
      rw [isNul, List.any_eq_false] at this
      have := this (z, a, b) (List.mem_of_getElem? (trip_get hz HA.out HB.out))
      simpa using this
    simp only [bad3, ho, Bool.true_and, decide_eq_false_iff_not] at hb
    omega
  · have := addM_get (F.tm i h1 h2) (F.tk i h1 h2)
    simpa using this
theorem wtTo_ge {zs m : List Int} (hz : ∀ z ∈ zs, 1 ≤ z) (hm : ∀ x ∈ m, 0 ≤ x) : ∀ j, 0 ≤ wtTo zs m j ∧ ∀ i, i < j → zs.getD i 0 * m.getD i 0 ≤ wtTo zs m j
  | 0 => ⟨by simp [wtTo], fun i h => absurd h (by omega)⟩
  | j + 1 => by
    obtain ⟨h1, h2⟩ := wtTo_ge hz hm j
    have g : ∀ (l : List Int) (i : Nat), (∀ x ∈ l, 0 ≤ x) → 0 ≤ l.getD i 0 := fun l i hl => by
      rw [List.getD_eq_getElem?_getD]
      cases h : l[i]? with
      | none => simp
      | some x => simpa using hl x (List.mem_of_getElem? h)
    have h3 : 0 ≤ zs.getD j 0 * m.getD j 0 := Int.mul_nonneg (g zs j (fun z hzz => by have := hz z hzz; omega)) (g m j hm)
    rw [wtTo]
    refine ⟨by omega, fun i hi => ?_⟩
    by_cases e : i = j
    · subst e; omega
    · have := h2 i (by omega); omega
theorem Deg1.ok {zs k : List Int} {N : Int} (h : Deg1 zs k N) (hz : ∀ z ∈ zs, 1 ≤ z) (h8 : zs.length ≤ 8) (hk : IsMono k) (hN : N ≤ 41) : monoOk zs k = true := by
  rw [monoOk, List.all_eq_true]
  intro i hi
  have hi8 : i < 8 := by simpa using hi
  obtain ⟨y, hy0, -, -, HY⟩ := mono_at hk hi8
  cases hzi : zs[i]? with
  | none =>
    have hle := List.getElem?_eq_none_iff.1 hzi
    have := h.tail i hle hi8
    rw [HY.out, Option.some.injEq] at this
    rw [fits_out hle HY.out, decide_eq_true_eq]
    omega
  | some z =>
    have hlt := (List.getElem?_eq_some_iff.1 hzi).1
    rw [fits_in hzi HY.out, decide_eq_true_eq]
    cases ho : odd z with
    | true =>
      simpa using h.odd1 i z y hzi HY.out ho
    | false =>
      have h1 := (wtTo_ge hz (fun x hx => (hk.2 x hx).1) zs.length).2 i hlt
      rw [show wtTo zs k zs.length = _root_.Go.Proofs.YtbokloflbldikaaGreat.wt zs k from rfl, h.wt, List.getD_eq_getElem?_getD, List.getD_eq_getElem?_getD, hzi, HY.out] at h1
      simp only [Option.getD_some] at h1
      have hz1 := hz z (List.mem_of_getElem? hzi)
      have hz2 : 2 ≤ z := by
        have hne : ¬ z = 1 := fun e => by subst e; revert ho; decide
        omega
      have h2 : 2 * y ≤ z * y := Int.mul_le_mul_of_nonneg_right hz2 hy0
      simp
      omega
theorem wt_set {zs m : List Int} {i : Nat} {v : Int} (hi : i < zs.length) (hm : i < m.length) : wt zs (m.set i v) = wt zs m + zs.getD i 0 * (v - m.getD i 0) := by
  have key : ∀ j, wtTo zs (m.set i v) j = wtTo zs m j + if i < j then zs.getD i 0 * (v - m.getD i 0) else 0 := by
    intro j
    induction j with
    | zero => simp [wtTo]
    | succ j ih =>
      rw [wtTo, wtTo, ih]
      by_cases e : i = j
      · subst e
        rw [if_neg (by omega), if_pos (by omega)]
        rw [show (m.set i v).getD i 0 = v by rw [List.getD_eq_getElem?_getD, List.getElem?_set_self hm]; rfl, Int.mul_sub]
        omega
      · rw [show (m.set i v).getD j 0 = m.getD j 0 by rw [List.getD_eq_getElem?_getD, List.getElem?_set_ne e, ← List.getD_eq_getElem?_getD]]
        by_cases h : i < j
        · rw [if_pos h, if_pos (by omega)]; omega
        · rw [if_neg h, if_neg (by omega)]; omega
  rw [wt, key, if_pos hi, wt]
theorem around_add {m : List Int} {i : Nat} (hm : m.length = 8) (hi : i < 8) : addM (leftM m i) (backM m i) = m.set i (m.getD i 0 - 1) := by
  have hx : m[i]? = some (m.getD i 0) := by rw [List.getD_eq_getElem?_getD, List.getElem?_eq_getElem (by omega)]; rfl
  apply List.ext_getElem?
  intro j
  by_cases hj : j < 8
  · have hL : (leftM m i)[j]? = some (if j < i then m.getD j 0 else if j = i then m.getD i 0 - 1 else 0) := by
      rw [leftM, List.getElem?_set, frontM_len hm (by omega)]
      by_cases e : i = j
      · subst e; simp [hj]
      · rw [if_neg e, frontM]
        by_cases h : j < i
        · rw [List.getElem?_append_left (by rw [List.length_take]; omega), List.getElem?_take, if_pos h, if_pos h, List.getD_eq_getElem?_getD, List.getElem?_eq_getElem (by omega)]; rfl
        · rw [List.getElem?_append_right (by rw [List.length_take]; omega), List.getElem?_replicate, if_pos (by rw [List.length_take]; omega), if_neg h, if_neg (fun h => e h.symm)]
    have hB : (backM m i)[j]? = some (if i < j then m.getD j 0 else 0) := by
      rw [backM]
      by_cases h : i < j
      · rw [List.getElem?_append_right (by rw [List.length_replicate]; omega), List.length_replicate, List.getElem?_drop, if_pos h, show i + 1 + (j - (i + 1)) = j by omega, List.getD_eq_getElem?_getD, List.getElem?_eq_getElem (by omega)]; rfl
      · rw [List.getElem?_append_left (by rw [List.length_replicate]; omega), List.getElem?_replicate, if_pos (by omega), if_neg h]
    rw [addM_get hL hB, List.getElem?_set, hm]
    by_cases e : i = j
    · subst e; simp [hj]
    · rw [if_neg e, List.getElem?_eq_getElem (by omega)]
      congr 1
      have hg : m.getD j 0 = m[j] := by rw [List.getD_eq_getElem?_getD, List.getElem?_eq_getElem (by omega)]; rfl
      rw [hg]
      by_cases h : j < i
      · rw [if_pos h, if_neg (show ¬ i < j by omega)]; omega
      · rw [if_neg h, if_neg (fun h => e h.symm), if_pos (show i < j by omega)]; omega
  · rw [List.getElem?_eq_none (by simp [addM, leftM, frontM, backM]; omega), List.getElem?_eq_none (by simp [hm]; omega)]
theorem wt_around {zs m : List Int} {i : Nat} (h8 : zs.length ≤ 8) (hm : m.length = 8) (hi : i < zs.length) : wt zs (leftM m i) + wt zs (backM m i) = wt zs m - zs.getD i 0 := by
  have hl := leftM_len hm (show i ≤ 8 by omega)
  have hb := backM_len hm (show i < 8 by omega)
  rw [← wt_add zs _ _ (by omega) (by omega), around_add hm (by omega), wt_set hi (by omega), show m.getD i 0 - 1 - m.getD i 0 = -1 by omega]
  omega
theorem zeroOr_wt {zs : List Int} {ts : List Tm} {x : Int} (h : zeroOr zs ts x = true) : ∀ u ∈ ts, wt zs u.m = x := by
  intro u hu
  have hf := zeroOr_form h
  simp only [zeroOr, Bool.and_eq_true, Bool.or_eq_true, beq_iff_eq] at h
  obtain ⟨h1, h2⟩ := h
  have hne : ¬ ts.length = 0 := fun e => by rw [List.length_eq_zero_iff.1 e] at hu; simp at hu
  have h3 : degF zs ts = x := by
    rcases h2 with h2 | h2
    · exact h2
    · exact absurd h2 hne
  have hw : allW zs ts = true := by
    simp only [codF, if_pos hf] at h1
    split at h1
    · assumption
    · omega
  rw [degF, if_pos ⟨hf, hw⟩] at h3
  obtain ⟨i, hi, rfl⟩ := List.mem_iff_getElem.1 hu
  have := List.all_eq_true.1 hw i (List.mem_range.2 hi)
  rw [sameW_of (List.getElem?_eq_getElem hi), decide_eq_true_eq] at this
  rw [this, h3]
theorem isAlg_wt {zs : List Int} {ims : List (List Tm)} (h : isAlg zs ims = true) {i : Nat} (hi : i < zs.length) : ∀ u ∈ ims.getD i [], wt zs u.m = zs.getD i 0 + 1 := by
  simp only [isAlg, Bool.and_eq_true, decide_eq_true_eq] at h
  have := List.all_eq_true.1 h.2.2.1 i (List.mem_range.2 (by omega))
  exact zeroOr_wt this
def AllD (zs : List Int) (T : List Tm) (N : Int) : Prop := ∀ x ∈ T, Deg1 zs x.m N
theorem between_deg {zs m : List Int} {ims : List (List Tm)} (hA : isAlg zs ims = true) (h : AlgOk zs ims) {i : Nat} (hm : IsMono m) (ok : monoOk zs m = true) (hi : i < zs.length) (hp : 0 < m.getD i 0) : AllD zs (_root_.Go.Proofs.YtbokloflbldikaaGreat.between zs (leftM m i) (backM m i) (ims.getD i [])) (wt zs m + 1) := by
  obtain ⟨h1, h2, h3, h4, h5⟩ := h.at_ i
  have T1 := two_left h.h8 hm ok hi hp h2 h3 h4 h5
  have T2 := two_back h.h8 hm ok hi hp h2 h3 h4 h5
  have hw := wt_around h.h8 hm.1 hi
  have hu := isAlg_wt hA hi
  have D1 : ∀ x ∈ timesT zs (ims.getD i []) [] [⟨leftM m i, 1⟩], wt zs x.m = wt zs (leftM m i) + (zs.getD i 0 + 1) :=
    times_all (p := fun k => wt zs k = wt zs (leftM m i) + (zs.getD i 0 + 1)) (by simp) (fun t ht u hu' hj => by
      obtain rfl : t = ⟨leftM m i, 1⟩ := by simpa using ht
      rw [(join_deg (T1.fit _ ht u hu') hj).wt, hu u hu'])
  refine times_all (p := fun k => Deg1 zs k (wt zs m + 1)) (by simp) (fun t ht u hu' hj => ?_)
  obtain rfl : u = ⟨backM m i, 1⟩ := by simpa using hu'
  have := join_deg (T2.fit t ht _ hu') hj
  have e : wt zs t.m + wt zs (backM m i) = wt zs m + 1 := by rw [D1 t ht]; omega
  rw [e] at this
  exact this
theorem term_deg {zs : List Int} {ims : List (List Tm)} (hA : isAlg zs ims = true) (h : AlgOk zs ims) {t : Tm} {out : List Tm} (hm : IsMono t.m) (ok : monoOk zs t.m = true) (H : AllD zs out (wt zs t.m + 1)) : ∀ i : Nat, i ≤ zs.length → AllD zs (termT zs ims t out i) (wt zs t.m + 1)
  | 0, _ => by rw [termT]; exact H
  | i + 1, hi => by
    have ih := term_deg hA h hm ok H i (by omega)
    have hg := getD_mono hm i
    rw [termT]
    split
    · exact ih
    · exact addT_all (p := fun x => Deg1 zs x.m (wt zs t.m + 1)) _ _ ih (fun g hg' _ _ => between_deg hA h hm ok (by omega) (by omega) g hg') (fun f hf _ _ => ih f hf)
theorem diff_mem {zs : List Int} {ims : List (List Tm)} (hA : isAlg zs ims = true) (h : AlgOk zs ims) (hz : ∀ z ∈ zs, 1 ≤ z) {t : Tm} (ht : IsTm t) (ok : monoOk zs t.m = true) {n : Nat} (hw : wt zs t.m = n) (hn : n ≤ 40) : ∀ x ∈ diffT zs ims [] [t], x.m ∈ ext [] (mons zs (n + 1)) := by
  intro x hx
  have hD : Deg1 zs x.m (wt zs t.m + 1) := term_deg hA h (out := []) ht.1 ok (fun _ hx => absurd hx (by simp)) zs.length (Nat.le_refl _) x hx
  have hs := h.diff [t] [] 0 (fun u hu => by obtain rfl : u = t := by simpa using hu
                                             exact ht) (fun u hu => by obtain rfl : u = t := by simpa using hu
                                                                       exact ok) sum9_nil
  have hm := (hs.tm x hx).1
  rw [hw] at hD
  exact ext_mem h.h8 hz hm (hD.ok hz h.h8 hm (by omega)) (by rw [hD.wt]; rfl)
end Go.Proofs.YtbokloflbldikaaGreat
