
import Derived.Test.YtndnkeijddagiaaLinS
namespace Go.Proofs.Ytndnkeijddagiaa
open Go.RowKit Go.Deep
theorem wlTo_zero0 {m : List Int} (hm : IsMono m) : ∀ k : Nat, wlTo m k = 0 → ∀ i, i < k → m.getD i 0 = 0
  | 0, _, i, hi => absurd hi (by omega)
  | k + 1, h, i, hi => by
    have h1 := (wlTo_bd hm k).1
    have h2 := (getD_mono hm k).1
    rw [wlTo] at h
    by_cases e : i = k
    · subst e; omega
    · exact wlTo_zero0 hm k (by omega) i (by omega)
theorem wtTo_nil0 {zs m : List Int} (h : ∀ i, i < 8 → m.getD i 0 = 0) : ∀ k : Nat, k ≤ 8 → wtTo zs m k = 0
  | 0, _ => rfl
  | k + 1, hk => by rw [wtTo, wtTo_nil0 h k (by omega), h k (by omega)]; simp
theorem wlen_pos0 {zs m : List Int} (hm : IsMono m) (h8 : zs.length ≤ 8) (h : ¬ wt zs m = 0) : 1 ≤ wlen m := by
  have h1 := (wlen_bd hm).1
  by_cases h0 : wlen m = 0
  · exact absurd (wtTo_nil0 (wlTo_zero0 hm 8 h0) zs.length h8) h
  · omega
theorem isAlg_im0 {zs : List Int} {ims : List (List Tm)} (h : isAlg zs ims = true) (ht : ∀ im ∈ ims, ∀ u ∈ im, IsTm u) {i : Nat} {ts : List Tm} (hx : ims[i]? = some ts) : ∀ t ∈ ts, 1 ≤ wlen t.m := by
  intro t hts
  simp only [isAlg, Bool.and_eq_true, decide_eq_true_eq] at h
  obtain ⟨h1, h2, h3, -⟩ := h
  have hi := (List.getElem?_eq_some_iff.1 hx).1
  have h4 : okIm zs ims i = true := List.all_eq_true.1 h3 i (by simpa using hi)
  have hz : zs[i]? = some zs[i] := List.getElem?_eq_getElem (by omega)
  have hd := degsOk_at h1 hz
  rw [okIm, List.getD_eq_getElem?_getD, List.getD_eq_getElem?_getD, hx, hz] at h4
  simp only [Option.getD_some, zeroOr, Bool.and_eq_true, Bool.or_eq_true, beq_iff_eq] at h4
  obtain ⟨h5, h6⟩ := h4
  obtain ⟨k, hk, rfl⟩ := List.mem_iff_getElem.1 hts
  have hc : isForm zs ts = true ∧ allW zs ts = true := by
    unfold codF at h5
    split at h5
    · rename_i a
      split at h5
      · rename_i b; exact ⟨a, b⟩
      · simp at h5
    · simp at h5
  have hw : wt zs ts[k].m = headW zs ts := by
    have := List.all_eq_true.1 hc.2 k (by simpa using hk)
    rw [sameW_of (List.getElem?_eq_getElem hk)] at this
    simpa using this
  rcases h6 with h6 | h6
  · rw [degF, if_pos hc] at h6
    refine wlen_pos0 (zs := zs) (ht ts (List.mem_of_getElem? hx) _ (List.getElem_mem hk)).1 (degsOk_len h1) ?_
    rw [hw, h6]
    omega
  · omega
def linOf (ts : List Tm) : Option Tm := ts.find? (fun t => decide (wlen t.m = 1))
def fpFrom : List (List Tm) → Nat → Option (Nat × Nat)
  | [], _ => none
  | ts :: r, i => match linOf ts with
    | some t => some (i, oneAt t.m)
    | none => fpFrom r (i + 1)
theorem fp_hit {t : Tm} {ts : List Tm} (h2 : linOf ts = some t) : ∀ {ims : List (List Tm)} {i k : Nat}, (∀ p, p < i → ∀ us, ims[p]? = some us → linOf us = none) → ims[i]? = some ts → fpFrom ims k = some (k + i, oneAt t.m)
  | [], i, k, _, h1 => by simp at h1
  | us :: r, 0, k, _, h1 => by
    simp only [List.getElem?_cons_zero, Option.some.injEq] at h1
    subst h1
    simp only [fpFrom, h2, Nat.add_zero]
  | us :: r, i + 1, k, h, h1 => by
    have h0 := h 0 (by omega) us rfl
    simp only [List.getElem?_cons_succ] at h1
    have := fp_hit h2 (ims := r) (i := i) (k := k + 1) (fun p hp vs hv => h (p + 1) (by omega) vs (by simpa using hv)) h1
    simp only [fpFrom, h0, this, Option.some.injEq, Prod.mk.injEq, and_true]
    omega
theorem fp_none : ∀ {ims : List (List Tm)} {k : Nat}, (∀ (p : Nat) us, ims[p]? = some us → linOf us = none) → fpFrom ims k = none
  | [], k, _ => rfl
  | us :: r, k, h => by
    have h0 := h 0 us rfl
    simp only [fpFrom, h0]
    exact fp_none (fun p vs hv => h (p + 1) vs (by simpa using hv))
theorem linOf_none {ts : List Tm} (h : ∀ t ∈ ts, ¬ wlen t.m = 1) : linOf ts = none := by
  rw [linOf, List.find?_eq_none]
  intro t ht
  simpa using h t ht
theorem linOf_no {ts : List Tm} (h : linOf ts = none) : ∀ t ∈ ts, ¬ wlen t.m = 1 := by
  rw [linOf, List.find?_eq_none] at h
  intro t ht
  simpa using h t ht
theorem linOf_at {ts : List Tm} {k : Nat} {t : Tm} (hk : ts[k]? = some t) (h1 : wlen t.m = 1) (h : ∀ p, p < k → ∀ u, ts[p]? = some u → ¬ wlen u.m = 1) : linOf ts = some t := by
  obtain ⟨hl, rfl⟩ := List.getElem?_eq_some_iff.1 hk
  rw [linOf, List.find?_eq_some_iff_append]
  refine ⟨by simpa using h1, ts.take k, ts.drop (k + 1), ?_, fun a ha => ?_⟩
  · rw [← List.drop_eq_getElem_cons hl, List.take_append_drop]
  · obtain ⟨p, hp, rfl⟩ := List.mem_iff_getElem.1 ha
    rw [List.length_take] at hp
    have := h p (by omega) _ (by rw [List.getElem?_eq_getElem (by omega)])
    simpa [List.getElem_take] using this
theorem one_same {m k : List Int} (hm : IsMono m) (hk : IsMono k) (h1 : wlen m = 1) (h2 : wlen k = 1) (e : oneAt m = oneAt k) : m = k := by
  obtain ⟨a1, a2, a3⟩ := oneAt_spec hm h1
  obtain ⟨b1, b2, b3⟩ := oneAt_spec hk h2
  apply List.ext_getElem
  · rw [hm.1, hk.1]
  · intro i h3 h4
    rw [hm.1] at h3
    have c1 : m.getD i 0 = k.getD i 0 := by
      by_cases hi : i = oneAt m
      · rw [hi, a2, e, b2]
      · rw [a3 i h3 hi, b3 i h3 (by rw [← e]; exact hi)]
    rwa [List.getD_eq_getElem?_getD, List.getElem?_eq_getElem (by rw [hm.1]; exact h3), List.getD_eq_getElem?_getD, List.getElem?_eq_getElem h4] at c1
theorem one_before {m k : List Int} (hm : IsMono m) (hk : IsMono k) (h1 : wlen m = 1) (h2 : wlen k = 1) (h : before m k = true) : oneAt m < oneAt k := by
  obtain ⟨a1, a2, a3⟩ := oneAt_spec hm h1
  obtain ⟨b1, b2, b3⟩ := oneAt_spec hk h2
  rcases Nat.lt_trichotomy (oneAt m) (oneAt k) with hl | he | hg
  · exact hl
  · rw [one_same hm hk h1 h2 he, before_self] at h
    cases h
  · have g1 : ∀ {x : List Int}, IsMono x → ∀ i, i < 8 → x[i]? = some (x.getD i 0) := fun {x} hx i hi => by
      rw [List.getD_eq_getElem?_getD, List.getElem?_eq_getElem (by rw [hx.1]; exact hi)]; rfl
    have hy : m[oneAt k]? = some 0 := by rw [g1 hm _ b1, a3 _ b1 (by omega)]
    have hz : k[oneAt k]? = some 1 := by rw [g1 hk _ b1, b2]
    have ht : m.take (oneAt k) = k.take (oneAt k) := by
      apply List.ext_getElem?
      intro i
      rw [List.getElem?_take, List.getElem?_take]
      split
      · rename_i hi
        rw [g1 hm i (by omega), g1 hk i (by omega), a3 i (by omega) (by omega), b3 i (by omega) (by omega)]
      · rfl
    rw [before_at hy hz ht (by omega)] at h
    simp at h
theorem linTo_nz {n : Nat} {ts : List Tm} {j : Nat} {y : Int} (hy : ¬ y = 0) : ∀ {k : Nat}, (linTo n ts k)[j]? = some y → ∃ q t, q < k ∧ ts[q]? = some t ∧ wlen t.m = 1 ∧ oneAt t.m = j
  | 0, h => by
    rw [linTo, List.getElem?_replicate] at h
    split at h
    · exact absurd (Option.some.inj h).symm hy
    · cases h
  | k + 1, h => by
    cases hk : ts[k]? with
    | none =>
      rw [linTo, hk] at h
      obtain ⟨q, t, h1, h2⟩ := linTo_nz hy h
      exact ⟨q, t, by omega, h2⟩
    | some t =>
      by_cases h1 : wlen t.m = 1
      · rw [linTo_yes hk h1] at h
        by_cases hj : oneAt t.m = j
        · exact ⟨k, t, by omega, hk, h1, hj⟩
        · rw [List.getElem?_set_ne hj] at h
          obtain ⟨q, u, h3, h4⟩ := linTo_nz hy h
          exact ⟨q, u, by omega, h4⟩
      · rw [linTo_no hk h1] at h
        obtain ⟨q, u, h3, h4⟩ := linTo_nz hy h
        exact ⟨q, u, by omega, h4⟩
theorem linTo_at {n : Nat} {ts : List Tm} {q : Nat} {t : Tm} (hq : ts[q]? = some t) (h1 : wlen t.m = 1) (hn : oneAt t.m < n) (hno : ∀ r u, q < r → ts[r]? = some u → wlen u.m = 1 → ¬ oneAt u.m = oneAt t.m) : ∀ {k : Nat}, q < k → (linTo n ts k)[oneAt t.m]? = some t.f
  | k + 1, hk => by
    by_cases e : q = k
    · subst e
      rw [linTo_yes hq h1, List.getElem?_set_self (by rw [linTo_len]; exact hn)]
    · have ih := linTo_at hq h1 hn hno (k := k) (by omega)
      cases hk2 : ts[k]? with
      | none => rw [linTo, hk2]; exact ih
      | some u =>
        by_cases h3 : wlen u.m = 1
        · rw [linTo_yes hk2 h3, List.getElem?_set_ne (hno k u (by omega) hk2 h3)]
          exact ih
        · rw [linTo_no hk2 h3]; exact ih
theorem row_none {n : Nat} {ts : List Tm} (h : linOf ts = none) {j : Nat} {y : Int} (hj : (linRow n ts)[j]? = some y) : y = 0 := by
  by_cases hy : y = 0
  · exact hy
  · obtain ⟨q, t, -, h2, h3, -⟩ := linTo_nz hy hj
    exact absurd h3 (linOf_no h t (List.mem_of_getElem? h2))
theorem row_some {n : Nat} {ts : List Tm} {t : Tm} (hS : Srt ts) (hT : ∀ u ∈ ts, IsTm u) (hf : ∀ u ∈ ts, 1 ≤ u.f) (hn : ∀ u ∈ ts, wlen u.m = 1 → oneAt u.m < n) (h : linOf ts = some t) :
    (linRow n ts)[oneAt t.m]? = some t.f ∧ ¬ t.f = 0 ∧ oneAt t.m < n ∧ ∀ j y, j < oneAt t.m → (linRow n ts)[j]? = some y → y = 0 := by
  rw [linOf, List.find?_eq_some_iff_append] at h
  obtain ⟨h1, l1, l2, rfl, hno⟩ := h
  have hw : wlen t.m = 1 := by simpa using h1
  have hmem : t ∈ l1 ++ t :: l2 := by simp
  have hq : (l1 ++ t :: l2)[l1.length]? = some t := by simp
  have hlater : ∀ r u, l1.length < r → (l1 ++ t :: l2)[r]? = some u → wlen u.m = 1 → oneAt t.m < oneAt u.m := fun r u hr hu hu1 => by
    obtain ⟨hl, rfl⟩ := List.getElem?_eq_some_iff.1 hu
    have hp := (List.pairwise_iff_getElem.1 hS) l1.length r (by simp) hl hr
    have e : (l1 ++ t :: l2)[l1.length] = t := by simp
    rw [e] at hp
    exact one_before (hT t hmem).1 (hT _ (List.getElem_mem hl)).1 hw hu1 hp
  refine ⟨linTo_at hq hw (hn t hmem hw) (fun r u hr hu hu1 e => by have := hlater r u hr hu hu1; omega) (by simp), by have := hf t hmem; omega, hn t hmem hw, fun j y hj hy => ?_⟩
  by_cases h0 : y = 0
  · exact h0
  · obtain ⟨q, u, -, h2, h3, h4⟩ := linTo_nz h0 hy
    rcases Nat.lt_trichotomy q l1.length with hl | he | hg
    · have : u ∈ l1 := by
        rw [List.getElem?_append_left hl] at h2
        exact List.mem_of_getElem? h2
      have := hno u this
      simp [h3] at this
    · subst he
      rw [hq, Option.some.injEq] at h2
      subst h2
      omega
    · have := hlater q u hg h2 h3
      omega
def fpV (zs : List Int) (ims : List (List Tm)) : List Int := if isAlg zs ims = true then (match fpFrom ims 0 with
  | some p => [(p.1 : Int), (p.2 : Int)]
  | none => []) else []
def fpE (zs : List Int) (ims : List (List Tm)) : Int := if isAlg zs ims = true then (match fpFrom ims 0 with
  | some _ => 0
  | none => 4) else 1
theorem fp_no {zs : List Int} {ims : List (List Tm)} (h : isAlg zs ims = false) : fpV zs ims = [] ∧ fpE zs ims = 1 := by simp [fpV, fpE, h]
theorem fp_miss {zs : List Int} {ims : List (List Tm)} (h : isAlg zs ims = true) (h1 : fpFrom ims 0 = none) : fpV zs ims = [] ∧ fpE zs ims = 4 := by simp [fpV, fpE, h, h1]
theorem fp_yes {zs : List Int} {ims : List (List Tm)} {i j : Nat} (h : isAlg zs ims = true) (h1 : fpFrom ims 0 = some (i, j)) : fpV zs ims = [(i : Int), (j : Int)] ∧ fpE zs ims = 0 := by simp [fpV, fpE, h, h1]
end Go.Proofs.Ytndnkeijddagiaa
