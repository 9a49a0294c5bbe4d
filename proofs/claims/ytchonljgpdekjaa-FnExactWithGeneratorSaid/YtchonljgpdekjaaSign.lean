/- Products of monomials as plain lists: sums of exponents, the sign that odd degrees tell. No function of the program. -/
import Derived.Test.YtchonljgpdekjaaMono
namespace Go.Proofs.Ytchonljgpdekjaa
open Go.RowKit

/-- The sign of a product, and that of passing all odd generators of the first monomial. -/
def sgn3 : List (Int × Int × Int) → Int × Int
  | [] => (1, 1)
  | (d, a, b) :: r => if odd d then (if b = 1 then (sgn3 r).1 * (sgn3 r).2 else (sgn3 r).1, if a = 1 then -(sgn3 r).2 else (sgn3 r).2) else sgn3 r
/-- An odd generator twice. -/
def bad3 (x : Int × Int × Int) : Bool := odd x.1 && decide (1 < x.2.1 + x.2.2)
def trip (zs m k : List Int) : List (Int × Int × Int) := zs.zip (m.zip k)
def addM (m k : List Int) : List Int := List.zipWith (· + ·) m k
def isNul (zs m k : List Int) : Bool := (trip zs m k).any bad3
def joinM (zs m k : List Int) : List Int := if isNul zs m k then nul8 else addM m k
def joinS (zs m k : List Int) : Int := if isNul zs m k then 0 else (sgn3 (trip zs m k)).1

theorem sgn3_pm (l : List (Int × Int × Int)) : ((sgn3 l).1 = 1 ∨ (sgn3 l).1 = -1) ∧ ((sgn3 l).2 = 1 ∨ (sgn3 l).2 = -1) := by
  induction l with
  | nil => simp [sgn3]
  | cons x r ih =>
    obtain ⟨d, a, b⟩ := x
    obtain ⟨h1, h2⟩ := ih
    simp only [sgn3]
    split
    · constructor
      · dsimp only
        split
        · rcases h1 with h1 | h1 <;> rcases h2 with h2 | h2 <;> simp [h1, h2]
        · exact h1
      · dsimp only
        split
        · rcases h2 with h2 | h2 <;> simp [h2]
        · exact h2
    · exact ⟨h1, h2⟩

theorem trip_get {zs m k : List Int} {i : Nat} {d a b : Int} (h1 : zs[i]? = some d) (h2 : m[i]? = some a) (h3 : k[i]? = some b) : (trip zs m k)[i]? = some (d, a, b) := by
  simp [trip, List.getElem?_zip_eq_some, h1, h2, h3]
theorem trip_len {zs m k : List Int} (hz : zs.length ≤ 8) (hm : m.length = 8) (hk : k.length = 8) : (trip zs m k).length = zs.length := by
  simp [trip, hm, hk]; omega
theorem drop_of {l : List (Int × Int × Int)} {i : Nat} {x : Int × Int × Int} (h : l[i]? = some x) : l.drop i = x :: l.drop (i + 1) := by
  obtain ⟨hlt, he⟩ := List.getElem?_eq_some_iff.1 h
  rw [List.drop_eq_getElem_cons hlt, he]

theorem sgn3_even {d a b : Int} {r : List (Int × Int × Int)} (h : odd d = false) : sgn3 ((d, a, b) :: r) = sgn3 r := by simp [sgn3, h]
theorem sgn3_odd {d a b : Int} {r : List (Int × Int × Int)} (h : odd d = true) : sgn3 ((d, a, b) :: r) = (if b = 1 then (sgn3 r).1 * (sgn3 r).2 else (sgn3 r).1, if a = 1 then -(sgn3 r).2 else (sgn3 r).2) := by simp [sgn3, h]

/-! The spec's loop: one step from the left. -/
theorem left_even {l : List (Int × Int × Int)} {i : Nat} {d a b s R : Int} (h : l[i]? = some (d, a, b)) (ho : odd d = false) (H : s * (sgn3 (l.drop i)).1 = R ∧ (l.take i).any bad3 = false) :
    s * (sgn3 (l.drop (i + 1))).1 = R ∧ (l.take (i + 1)).any bad3 = false := by
  rw [drop_of h, sgn3_even ho] at H
  refine ⟨H.1, ?_⟩
  rw [List.take_add_one, h, List.any_append, H.2]
  simp [bad3, ho]
theorem left_odd0 {l : List (Int × Int × Int)} {i : Nat} {d a b s R : Int} (h : l[i]? = some (d, a, b)) (ho : odd d = true) (hb : b ≠ 1) (hab : a + b ≤ 1) (H : s * (sgn3 (l.drop i)).1 = R ∧ (l.take i).any bad3 = false) :
    s * (sgn3 (l.drop (i + 1))).1 = R ∧ (l.take (i + 1)).any bad3 = false := by
  rw [drop_of h, sgn3_odd ho, if_neg hb] at H
  refine ⟨H.1, ?_⟩
  rw [List.take_add_one, h, List.any_append, H.2]
  simp [bad3]; intro; omega
theorem left_odd1 {l : List (Int × Int × Int)} {i : Nat} {d a b s t R : Int} (h : l[i]? = some (d, a, b)) (ho : odd d = true) (hb : b = 1) (hab : a + b ≤ 1) (H : s * (sgn3 (l.drop i)).1 = R ∧ (l.take i).any bad3 = false)
    (ht : t = s * (sgn3 (l.drop (i + 1))).2) : t * (sgn3 (l.drop (i + 1))).1 = R ∧ (l.take (i + 1)).any bad3 = false := by
  rw [drop_of h, sgn3_odd ho, if_pos hb] at H
  refine ⟨by rw [← H.1, ht, Int.mul_assoc, Int.mul_comm (sgn3 _).2], ?_⟩
  rw [List.take_add_one, h, List.any_append, H.2]
  simp [bad3]; intro; omega
theorem left_bad {l : List (Int × Int × Int)} {i : Nat} {d a b : Int} (h : l[i]? = some (d, a, b)) (ho : odd d = true) (hab : 1 < a + b) : l.any bad3 = true := by
  rw [List.any_eq_true]
  exact ⟨_, List.mem_of_getElem? h, by simp [bad3, ho]; omega⟩
/-- The inner loop: passing one generator. -/
theorem pass_flip {l : List (Int × Int × Int)} {j : Nat} {d a b t R : Int} (h : l[j]? = some (d, a, b)) (ho : odd d = true) (ha : a = 1) (H : t * (sgn3 (l.drop j)).2 = R) : -t * (sgn3 (l.drop (j + 1))).2 = R := by
  rw [drop_of h, sgn3_odd ho] at H
  simp only [ha, if_true] at H
  rw [Int.neg_mul, ← H, Int.mul_neg]
theorem pass_stay {l : List (Int × Int × Int)} {j : Nat} {d a b t R : Int} (h : l[j]? = some (d, a, b)) (ho : ¬ (odd d = true ∧ a = 1)) (H : t * (sgn3 (l.drop j)).2 = R) : t * (sgn3 (l.drop (j + 1))).2 = R := by
  rw [drop_of h] at H
  cases hd : odd d with
  | true =>
    rw [sgn3_odd hd] at H
    have ha : a ≠ 1 := fun e => ho ⟨hd, e⟩
    simpa only [if_neg ha] using H
  | false => rwa [sgn3_even hd] at H

/-! The program's loop: one step from the right. -/
theorem right_any {l : List (Int × Int × Int)} {i : Nat} {x : Int × Int × Int} (h : l[i]? = some x) (hx : bad3 x = false) (H : (l.drop (i + 1)).any bad3 = false) : (l.drop i).any bad3 = false := by
  rw [drop_of h, List.any_cons, hx, H]; rfl

/-! Rows of exponents. -/
theorem addM_get {m k : List Int} {i : Nat} {a b : Int} (h1 : m[i]? = some a) (h2 : k[i]? = some b) : (addM m k)[i]? = some (a + b) := by
  simp [addM, List.getElem?_zipWith, h1, h2]
theorem addM_len {m k : List Int} (hm : m.length = 8) (hk : k.length = 8) : (addM m k).length = 8 := by simp [addM, hm, hk]
def rowS (A : List Int) (k : Nat) : List Int := A.take k ++ List.replicate (8 - k) 0
def rowI (A : List Int) (k : Nat) : List Int := List.replicate k 0 ++ A.drop k
theorem rowS_zero (A : List Int) : rowS A 0 = nul8 := by simp [rowS, nul8]
theorem rowS_step {A : List Int} (hA : A.length = 8) {k : Nat} {v : Int} (hk : k < 8) (hv : A[k]? = some v) : (rowS A k).set k v = rowS A (k + 1) := by
  have hlen : (A.take k).length = k := by simp [hA]; omega
  rw [rowS, List.set_append_right _ _ (by omega), hlen, Nat.sub_self, rowS, List.take_add_one, hv]
  obtain ⟨r, hr⟩ : ∃ r, 8 - k = r + 1 := ⟨8 - k - 1, by omega⟩
  rw [hr, show 8 - (k + 1) = r by omega]
  simp [List.replicate_succ]
theorem rowS_len {A : List Int} (hA : A.length = 8) {k : Nat} (hk : k ≤ 8) : (rowS A k).length = 8 := by simp [rowS, hA]; omega
theorem rowI_len {A : List Int} (hA : A.length = 8) {k : Nat} (hk : k ≤ 8) : (rowI A k).length = 8 := by simp [rowI, hA]; omega
theorem rowI_step {A : List Int} {k : Nat} {v : Int} (hv : A[k]? = some v) : (rowI A (k + 1)).set k v = rowI A k := by
  obtain ⟨hlt, he⟩ := List.getElem?_eq_some_iff.1 hv
  rw [rowI, List.set_append_left _ _ (by simp), rowI, List.drop_eq_getElem_cons hlt, he]
  rw [List.replicate_succ', List.set_append_right _ _ (by simp)]
  simp
theorem rowI_zero (A : List Int) : rowI A 0 = A := by simp [rowI]
/-- Behind the generators all exponents are 0. -/
def Tail0 (A : List Int) (n : Nat) : Prop := ∀ i, n ≤ i → i < 8 → A[i]? = some 0
theorem rowI_n {A : List Int} (hA : A.length = 8) {n : Nat} (hn : n ≤ 8) (h : Tail0 A n) : rowI A n = nul8 := by
  have e : A.drop n = List.replicate (8 - n) 0 := by
    apply List.ext_getElem?
    intro i
    rw [List.getElem?_drop]
    by_cases hi : i < 8 - n
    · rw [h (n + i) (by omega) (by omega)]; simp [hi]
    · rw [List.getElem?_eq_none (by omega), List.getElem?_eq_none (by simp; omega)]
  rw [rowI, e, List.replicate_append_replicate, show n + (8 - n) = 8 by omega]
  rfl
theorem rowS_n {A : List Int} (hA : A.length = 8) {n : Nat} (hn : n ≤ 8) (h : Tail0 A n) : rowS A n = A := by
  have e : A.drop n = List.replicate (8 - n) 0 := by
    apply List.ext_getElem?
    intro i
    rw [List.getElem?_drop]
    by_cases hi : i < 8 - n
    · rw [h (n + i) (by omega) (by omega)]; simp [hi]
    · rw [List.getElem?_eq_none (by omega), List.getElem?_eq_none (by simp; omega)]
  rw [rowS, ← e, List.take_append_drop]
theorem monoOk_at {zs m : List Int} (h : monoOk zs m = true) {i : Nat} (hi : i < 8) {y : Int} (hy : m[i]? = some y) : y ≤ capAt zs i := by
  simp only [monoOk, List.all_eq_true, List.mem_range] at h
  have := h i hi
  rw [fits_eq hy] at this
  simpa using this
theorem tail0 {zs m : List Int} (hm : IsMono m) (h : monoOk zs m = true) : Tail0 m zs.length := by
  intro i h1 h2
  obtain ⟨y, hy0, _, _, hy⟩ := mono_at hm h2
  have : y ≤ 0 := by simpa [capAt, List.getElem?_eq_none h1] using monoOk_at h h2 hy.out
  rw [hy.out]
  congr 1
  omega
theorem tail0_add {m k : List Int} {n : Nat} (h1 : Tail0 m n) (h2 : Tail0 k n) : Tail0 (addM m k) n := by
  intro i hi h8
  rw [addM_get (h1 i hi h8) (h2 i hi h8)]; rfl
theorem mono20 {zs m : List Int} (h : monoOk zs m = true) {i : Nat} (hi : i < 8) {y : Int} (hy : m[i]? = some y) : y ≤ 20 := by
  have := monoOk_at h hi hy
  have := capAt_hi zs i
  omega
theorem mono_odd {zs m : List Int} (h : monoOk zs m = true) {i : Nat} (hi : i < 8) {y d : Int} (hy : m[i]? = some y) (hd : zs[i]? = some d) (ho : odd d = true) : y ≤ 1 := by
  have := monoOk_at h hi hy
  rw [capAt, hd] at this
  simpa [ho] using this
theorem mcells_set {r : List Int} {i : Nat} {v : Int} : (mcells r).toArray.setIfInBounds i (.int .u8 v) = (mcells (r.set i v)).toArray := by
  apply Array.ext'
  simp [mcells, List.map_set]

end Go.Proofs.Ytchonljgpdekjaa
