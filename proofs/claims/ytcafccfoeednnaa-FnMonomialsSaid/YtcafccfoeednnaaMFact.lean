/- Facts on products of monomials: the product turned round, the degrees, the signs; numbers and their inverses. No function of the program. -/
import Derived.Test.YtcafccfoeednnaaMulM
namespace Go.Proofs.Ytcafccfoeednnaa
open Go.RowKit

/-! Turned round. -/
theorem trip_cons (z a b : Int) (zs m k : List Int) : trip (z :: zs) (a :: m) (b :: k) = (z, a, b) :: trip zs m k := rfl
theorem addM_comm (m k : List Int) : addM m k = addM k m := by
  induction m generalizing k with
  | nil => cases k <;> rfl
  | cons a m ih =>
    cases k with
    | nil => rfl
    | cons b k =>
      have := ih k
      simp only [addM, List.zipWith_cons_cons] at this ⊢
      rw [this, Int.add_comm]
theorem isNul_comm (zs m k : List Int) : isNul zs m k = isNul zs k m := by
  induction zs generalizing m k with
  | nil => rfl
  | cons z zs ih =>
    cases m with
    | nil => cases k <;> rfl
    | cons a m =>
      cases k with
      | nil => rfl
      | cons b k =>
        have := ih m k
        simp only [isNul] at this ⊢
        rw [trip_cons, trip_cons, List.any_cons, List.any_cons, this]
        simp [bad3, Int.add_comm]
theorem okM_comm (zs m k : List Int) : okM zs m k = okM zs k m := by
  simp only [okM, Bool.and_assoc]
  rw [Bool.and_comm (monoOk zs m)]
theorem mulM_comm (zs m k : List Int) : mulM zs m k = mulM zs k m := by
  simp only [mulM, joinM]
  rw [okM_comm zs m k, isNul_comm zs m k, addM_comm m k]
theorem mulE_comm (zs m k : List Int) : mulE zs m k = mulE zs k m := by
  simp only [mulE]
  rw [okM_comm zs m k, isNul_comm zs m k, addM_comm m k]
theorem mulE_zero {zs m k : List Int} (h : mulE zs m k = 0) : okM zs m k = true ∧ (isNul zs m k || within (addM m k)) = true := by
  unfold mulE at h
  split at h
  · rename_i h1
    split at h
    · rename_i h2
      exact ⟨h1, h2⟩
    · simp at h
  · simp at h
theorem mulS_zero {zs m k : List Int} (h : mulE zs m k = 0) : (mulS zs m k = 0 ↔ isNul zs m k = true) := by
  obtain ⟨h1, h2⟩ := mulE_zero h
  rw [mulS, h1, h2]
  simp only [Bool.and_self, if_true, joinS]
  cases hn : isNul zs m k with
  | true => simp
  | false =>
    simp only [Bool.false_eq_true, if_false, iff_false]
    rcases (sgn3_pm (trip zs m k)).1 with h | h <;> omega

/-! Signs. -/
def both (q q' : Int) : Int := if q = -1 ∧ q' = -1 then -1 else 1
/-- Exponents of odd generators are 0 or 1, and not 1 twice. -/
def Thin (l : List (Int × Int × Int)) : Prop := ∀ x ∈ l, odd x.1 = true → (x.2.1 = 0 ∨ x.2.1 = 1) ∧ (x.2.2 = 0 ∨ x.2.2 = 1) ∧ ¬ (x.2.1 = 1 ∧ x.2.2 = 1)
def flip3 (l : List (Int × Int × Int)) : List (Int × Int × Int) := l.map fun x => (x.1, x.2.2, x.2.1)
theorem flip_trip (zs m k : List Int) : flip3 (trip zs m k) = trip zs k m := by
  induction zs generalizing m k with
  | nil => rfl
  | cons z zs ih =>
    cases m with
    | nil => cases k <;> rfl
    | cons a m =>
      cases k with
      | nil => rfl
      | cons b k =>
        rw [trip_cons, trip_cons]
        have := ih m k
        simp only [flip3, List.map_cons] at this ⊢
        rw [this]
theorem sgn3_both : ∀ (l : List (Int × Int × Int)), Thin l → (sgn3 l).1 * (sgn3 (flip3 l)).1 = both (sgn3 l).2 (sgn3 (flip3 l)).2
  | [], _ => by simp [sgn3, flip3, both]
  | (d, a, b) :: r, h => by
    have ih := sgn3_both r (fun x hx => h x (by simp [hx]))
    have e : flip3 ((d, a, b) :: r) = (d, b, a) :: flip3 r := rfl
    rw [e]
    have p1 := sgn3_pm r
    have p2 := sgn3_pm (flip3 r)
    cases ho : odd d with
    | false => simp only [sgn3, ho, Bool.false_eq_true, if_false]; exact ih
    | true =>
      obtain ⟨h1, h2, h3⟩ := h (d, a, b) (by simp) ho
      simp only at h1 h2 h3
      simp only [sgn3, ho, if_true]
      generalize (sgn3 r).1 = s at *
      generalize (sgn3 r).2 = q at *
      generalize (sgn3 (flip3 r)).1 = s' at *
      generalize (sgn3 (flip3 r)).2 = q' at *
      rcases h1 with rfl | rfl <;> rcases h2 with rfl | rfl
      · simpa using ih
      · rcases p1 with ⟨rfl | rfl, rfl | rfl⟩ <;> rcases p2 with ⟨rfl | rfl, rfl | rfl⟩ <;> simp [both] at ih ⊢
      · rcases p1 with ⟨rfl | rfl, rfl | rfl⟩ <;> rcases p2 with ⟨rfl | rfl, rfl | rfl⟩ <;> simp [both] at ih ⊢
      · exact absurd ⟨rfl, rfl⟩ h3

/-! Degrees. -/
theorem wtTo_cons (z x : Int) (zs m : List Int) (j : Nat) : wtTo (z :: zs) (x :: m) (j + 1) = z * x + wtTo zs m j := by
  induction j with
  | zero => simp [wtTo]
  | succ j ih =>
    rw [wtTo, ih, wtTo]
    simp only [List.getD_cons_succ]
    omega
theorem wt_cons (z x : Int) (zs m : List Int) : wt (z :: zs) (x :: m) = z * x + wt zs m := by
  rw [wt, List.length_cons, wtTo_cons, wt]
theorem wt_add : ∀ (zs m k : List Int), zs.length ≤ m.length → m.length = k.length → wt zs (addM m k) = wt zs m + wt zs k
  | [], _, _, _, _ => by simp [wt, wtTo]
  | z :: zs, a :: m, b :: k, h1, h2 => by
    simp only [List.length_cons] at h1 h2
    have e : addM (a :: m) (b :: k) = (a + b) :: addM m k := rfl
    rw [e, wt_cons, wt_cons, wt_cons, wt_add zs m k (by omega) (by omega), Int.mul_add]
    omega
  | z :: zs, [], k, h1, h2 => by simp at h1
  | z :: zs, a :: m, [], h1, h2 => by simp at h2
theorem odd_mod (d : Int) : odd d = true ↔ d % 2 = 1 := by
  unfold odd
  simp
  omega
theorem wt_sign : ∀ (zs m k : List Int), zs.length ≤ m.length → m.length = k.length → Thin (trip zs m k) → ((sgn3 (trip zs m k)).2 = -1 ↔ wt zs m % 2 = 1)
  | [], m, k, _, _, _ => by
    have : trip [] m k = [] := rfl
    rw [this]
    simp [sgn3, wt, wtTo]
  | z :: zs, a :: m, b :: k, h1, h2, hT => by
    simp only [List.length_cons] at h1 h2
    rw [trip_cons] at hT ⊢
    have ih := wt_sign zs m k (by omega) (by omega) (fun x hx => hT x (by simp [hx]))
    rw [wt_cons]
    have pm := (sgn3_pm (trip zs m k)).2
    cases ho : odd z with
    | false =>
      simp only [sgn3, ho, Bool.false_eq_true, if_false]
      have hz : z % 2 = 0 := by
        have h9 := odd_mod z
        rw [ho] at h9
        simp at h9
        omega
      have : (z * a) % 2 = 0 := by rw [Int.mul_emod, hz]; simp
      rw [ih]
      omega
    | true =>
      obtain ⟨h3, -, -⟩ := hT (z, a, b) (by simp) ho
      have hz := (odd_mod z).1 ho
      simp only [sgn3, ho, if_true]
      simp only at h3
      rcases h3 with rfl | rfl
      · simp only [Int.mul_zero, Int.zero_add]
        rw [if_neg (by omega)]
        exact ih
      · simp only [if_true, Int.mul_one]
        rcases pm with h | h
        · rw [h] at ih ⊢
          simp at ih ⊢
          omega
        · rw [h] at ih ⊢
          simp at ih ⊢
          omega
  | z :: zs, [], k, h1, h2, _ => by simp at h1
  | z :: zs, a :: m, [], h1, h2, _ => by simp at h2

theorem thin_of {zs m k : List Int} (F : Fit zs m k) (hn : isNul zs m k = false) : Thin (trip zs m k) := by
  intro x hx ho
  have hb : bad3 x = false := by
    have := List.any_eq_false.1 hn x hx
    simpa using this
  obtain ⟨i, hi, he⟩ := List.getElem_of_mem hx
  have hiz : i < zs.length := by simp [trip] at hi; omega
  have him : i < m.length := by simp [trip] at hi; omega
  have hik : i < k.length := by simp [trip] at hi; omega
  have hxe : x = (zs[i], m[i], k[i]) := by
    rw [← he]
    simp [trip]
  subst hxe
  simp only at ho
  have h8 : i < 8 := by rw [← F.hm.1]; exact him
  have m0 := F.hm.2 m[i] (List.getElem_mem him)
  have k0 := F.hk.2 k[i] (List.getElem_mem hik)
  have m1 := List.all_eq_true.1 F.om i (by simpa using h8)
  have k1 := List.all_eq_true.1 F.ok i (by simpa using h8)
  simp only [fits, decide_eq_true_eq, List.getD_eq_getElem?_getD, List.getElem?_eq_getElem him, List.getElem?_eq_getElem hik, Option.getD_some, capAt, List.getElem?_eq_getElem hiz, ho, if_true] at m1 k1
  simp only [bad3, ho, Bool.true_and, decide_eq_false_iff_not] at hb
  simp only
  omega
theorem nul_ok (zs : List Int) : monoOk zs nul8 = true := by
  rw [monoOk, List.all_eq_true]
  intro i _
  have h0 : nul8.getD i 0 = 0 := by
    rw [List.getD_eq_getElem?_getD]
    cases h : nul8[i]? with
    | none => rfl
    | some x =>
      have := List.mem_of_getElem? h
      simp [nul8] at this
      rw [this]; rfl
  rw [fits, h0, capAt, decide_eq_true_eq]
  split
  · split <;> omega
  · omega

/-- What the law asks of a product that there is, and of the product turned round. -/
structure MulFacts (zs m k : List Int) : Prop where
  im : isMono zs m = true
  ik : isMono zs k = true
  ip : isMono zs (mulM zs m k) = true
  e : mulE zs k m = 0
  p : mulM zs k m = mulM zs m k
  z : mulS zs m k = 0 ↔ mulS zs k m = 0
  deg : mulS zs m k ≠ 0 → wt zs (mulM zs m k) = wt zs m + wt zs k
  sign : mulS zs m k ≠ 0 → (mulS zs m k = mulS zs k m ↔ (wt zs m * wt zs k) % 2 = 0)
theorem mul_facts {zs m k : List Int} (hm : IsMono m) (hk : IsMono k) (h : mulE zs m k = 0) : MulFacts zs m k := by
  obtain ⟨h1, h2⟩ := mulE_zero h
  have F := okM_fit hm hk h1
  have hd : degsOk zs = true := by simp only [okM, Bool.and_eq_true] at h1; exact h1.1.1
  have hE : mulE zs k m = 0 := by rw [mulE_comm]; exact h
  have hne : mulS zs m k ≠ 0 → isNul zs m k = false := fun hs => by
    cases hn : isNul zs m k with
    | false => rfl
    | true => exact absurd ((mulS_zero h).2 hn) hs
  have hP : mulM zs m k = joinM zs m k := by rw [mulM, h1, h2]; rfl
  have hS : mulS zs m k = joinS zs m k := by rw [mulS, h1, h2]; rfl
  have hS' : mulS zs k m = joinS zs k m := by
    have h1' : okM zs k m = true := by rw [okM_comm]; exact h1
    have h2' : (isNul zs k m || within (addM k m)) = true := by rw [isNul_comm, addM_comm]; exact h2
    rw [mulS, h1', h2']; rfl
  refine ⟨by rw [isMono, hd, F.om]; rfl, by rw [isMono, hd, F.ok]; rfl, ?_, hE, mulM_comm zs k m, ?_, ?_, ?_⟩
  · rw [isMono, hd, hP, joinM]
    cases hn : isNul zs m k with
    | true => rw [if_pos rfl, nul_ok]; rfl
    | false =>
      rw [if_neg (by simp), sum_ok F hn]
      rw [hn] at h2
      simpa using h2
  · rw [mulS_zero h, mulS_zero hE, isNul_comm]
  · intro hs
    have hn := hne hs
    rw [hP, joinM, hn]
    simp only [Bool.false_eq_true, if_false]
    exact wt_add zs m k (by rw [hm.1]; exact F.n8) (by rw [hm.1, hk.1])
  · intro hs
    have hn := hne hs
    have hT := thin_of F hn
    have hn' : isNul zs k m = false := by rw [isNul_comm]; exact hn
    have F' : Fit zs k m := ⟨F.n8, F.hk, F.hm, F.ok, F.om⟩
    have hT' := thin_of F' hn'
    have hb := sgn3_both _ hT
    rw [flip_trip] at hb
    have w1 := wt_sign zs m k (by rw [hm.1]; exact F.n8) (by rw [hm.1, hk.1]) hT
    have w2 := wt_sign zs k m (by rw [hk.1]; exact F.n8) (by rw [hm.1, hk.1]) hT'
    rw [hS, hS', joinS, joinS, hn, hn']
    simp only [Bool.false_eq_true, if_false]
    have p1 := sgn3_pm (trip zs m k)
    have p2 := sgn3_pm (trip zs k m)
    have hpar : (wt zs m * wt zs k) % 2 = 0 ↔ ¬ (wt zs m % 2 = 1 ∧ wt zs k % 2 = 1) := by
      rw [Int.mul_emod]
      rcases Int.emod_two_eq (wt zs m) with h3 | h3 <;> rcases Int.emod_two_eq (wt zs k) with h4 | h4 <;> rw [h3, h4] <;> simp
    rw [hpar, ← w1, ← w2]
    rcases p1 with ⟨a1 | a1, b1 | b1⟩ <;> rcases p2 with ⟨a2 | a2, b2 | b2⟩ <;> rw [a1, b1, a2, b2] at hb ⊢ <;> simp [both] at hb ⊢

/-! Inverses. -/
def pwN : Nat → Nat → Nat → Nat → Nat
  | 0, out, _, _ => out
  | f + 1, out, sq, k => if 0 < k then pwN f (if k % 2 = 1 then out * sq % 10007 else out) (sq * sq % 10007) (k / 2) else out
theorem pw_nat : ∀ (f out sq k : Nat), pw f (out : Int) (sq : Int) (k : Int) = ((pwN f out sq k : Nat) : Int)
  | 0, _, _, _ => rfl
  | f + 1, out, sq, k => by
    rw [pw, pwN]
    by_cases h : 0 < k
    · rw [if_pos h, if_pos (by omega)]
      have e1 : num ((sq : Int) * sq) = ((sq * sq % 10007 : Nat) : Int) := by unfold num; omega
      have e2 : num ((out : Int) * sq) = ((out * sq % 10007 : Nat) : Int) := by unfold num; omega
      have e3 : ((k : Int) / 2) = ((k / 2 : Nat) : Int) := by omega
      rw [e1, e3]
      by_cases h2 : k % 2 = 1
      · rw [if_pos h2, if_pos (by omega), e2, pw_nat]
      · rw [if_neg h2, if_neg (by omega), pw_nat]
    · rw [if_neg h, if_neg (by omega)]
def fermatTo (lo : Nat) : Nat → Bool
  | 0 => true
  | n + 1 => ((lo + n) * pwN 14 1 (lo + n) 10005 % 10007 == 1) && fermatTo lo n
theorem fermatTo_at {lo : Nat} : ∀ {n : Nat}, fermatTo lo n = true → ∀ i, i < n → (lo + i) * pwN 14 1 (lo + i) 10005 % 10007 = 1
  | n + 1, h, i, hi => by
    rw [fermatTo, Bool.and_eq_true] at h
    by_cases e : i = n
    · subst e; simpa using h.1
    · exact fermatTo_at h.2 i (by omega)
theorem fermat_0 : fermatTo 1 400 = true := by kernel_rfl

end Go.Proofs.Ytcafccfoeednnaa
