/- Differentials, coefficient by coefficient: one generator of one monomial replaced by its image; no function of the program. -/
import Derived.Test.YthcaiagnmmjooaaTimesM
namespace Go.Proofs.Ythcaiagnmmjooaa
open Go.RowKit Go.Deep

theorem num_mul (F b : Int) : num (F * num b) = num (F * b) := by
  unfold num
  rw [Int.mul_emod, Int.emod_emod, ← Int.mul_emod]
theorem num_add_mul (a F b : Int) : num (a + F * num b) = num (a + F * b) := by
  rw [← num_add a (F * num b), num_mul, num_add]
theorem joinS_pm {zs m k : List Int} (h : ¬ joinS zs m k = 0) : joinS zs m k = 1 ∨ joinS zs m k = -1 := by
  unfold joinS at h ⊢
  split at h
  · exact absurd rfl h
  · rename_i h1
    rw [if_neg h1]
    exact (sgn3_pm _).1
theorem num_neg_ne {x : Int} (h : ¬ num x = 0) : ¬ num (-x) = 0 := by unfold num at *; omega
theorem num_sign_ne {s x : Int} (hs : s = 1 ∨ s = -1) (hx : 1 ≤ x ∧ x ≤ 10006) : ¬ num (s * x) = 0 := by
  have h0 : ¬ num x = 0 := by rw [num_self (by omega)]; omega
  rcases hs with h | h
  · rw [h, Int.one_mul]; exact h0
  · rw [h, Int.neg_one_mul]; exact num_neg_ne h0
/-- What the program does with an image that stands between two monomials, times a number. -/
def pstep (zs left right : List Int) (F : Int) (S : List Int → Int) (u : Tm) : List Int → Int :=
  if joinS zs left u.m = 0 then S
  else if joinS zs (joinM zs left u.m) right = 0 then S
  else updS S (joinM zs (joinM zs left u.m) right) (num (S (joinM zs (joinM zs left u.m) right) + joinS zs left u.m * joinS zs (joinM zs left u.m) right * num F * u.f))
def addP (zs left right : List Int) (F : Int) (S : List Int → Int) (im : List Tm) : List Int → Int := im.foldl (pstep zs left right F) S
/-- The model's: the image between the two monomials. -/
def between (zs left right : List Int) (im : List Tm) : List Tm := timesT zs [⟨right, 1⟩] [] (timesT zs im [] [⟨left, 1⟩])
theorem own_shift {zs left : List Int} {im : List Tm} (hf : ∀ u ∈ im, 1 ≤ u.f ∧ u.f ≤ 10006) : timesT zs im [] [⟨left, 1⟩] = shiftT zs ⟨left, 1⟩ im := by
  show addT 1 [] (shiftT zs ⟨left, 1⟩ im) = _
  have hx : ∀ x ∈ shiftT zs ⟨left, 1⟩ im, 1 ≤ x.f ∧ x.f ≤ 10006 := fun x hx => by
    have hb := shiftT_bd x hx
    obtain ⟨u, hu, hj, _, e⟩ := shiftT_mem hx
    have := num_sign_ne (joinS_pm hj) (hf u hu)
    rw [Int.mul_one] at e
    rw [← e] at this
    omega
  rw [scT_add (by omega) (by omega) _ hx, scT]
  have : ∀ l : List Tm, (∀ x ∈ l, 1 ≤ x.f ∧ x.f ≤ 10006) → (l.map fun t => (⟨t.m, num (1 * t.f)⟩ : Tm)) = l := by
    intro l
    induction l with
    | nil => intro _; rfl
    | cons t l ih =>
      intro h
      have ht := h t (by simp)
      rw [List.map_cons, ih (fun x hx => h x (by simp [hx])), Int.one_mul, num_self (by omega)]
  exact this _ hx
theorem addP_coef {zs left right : List Int} {F : Int} {S0 : List Int → Int} : ∀ (im : List Tm) (S G : List Int → Int), (∀ m, S m = num (S0 m + num F * G m)) → ∀ m, addP zs left right F S im m = num (S0 m + num F * sumS zs [⟨right, 1⟩] G (shiftT zs ⟨left, 1⟩ im) m)
  | [], S, G, h, m => h m
  | u :: im, S, G, h, m => by
    show addP zs left right F (pstep zs left right F S u) im m = _
    by_cases h1 : joinS zs left u.m = 0
    · rw [shiftT_no (t := ⟨left, 1⟩) h1, pstep, if_pos h1]
      exact addP_coef im S G h m
    · rw [shiftT_yes (t := ⟨left, 1⟩) h1, pstep, if_neg h1]
      show addP zs left right F _ im m = num (S0 m + num F * sumS zs [⟨right, 1⟩] (stepS zs ⟨joinM zs left u.m, num (joinS zs left u.m * 1 * u.f)⟩ G ⟨right, 1⟩) (shiftT zs ⟨left, 1⟩ im) m)
      refine addP_coef im _ _ (fun k => ?_) m
      by_cases h2 : joinS zs (joinM zs left u.m) right = 0
      · rw [if_pos h2, stepS, if_pos h2]
        exact h k
      · rw [if_neg h2, stepS, if_neg h2]
        unfold updS
        by_cases hk : k = joinM zs (joinM zs left u.m) right
        · rw [if_pos hk, if_pos hk, hk, h, num_add']
          rw [Int.mul_one, Int.mul_one, num_add_mul, Int.mul_add, ← Int.add_assoc]
          rw [← num_add, ← num_add (S0 (joinM zs (joinM zs left u.m) right) + num F * G (joinM zs (joinM zs left u.m) right)) (num F * (joinS zs (joinM zs left u.m) right * num (joinS zs left u.m * u.f)))]
          congr 2
          rw [← Int.mul_assoc, num_mul]
          congr 1
          ac_rfl
        · rw [if_neg hk, if_neg hk]
          exact h k

end Go.Proofs.Ythcaiagnmmjooaa
