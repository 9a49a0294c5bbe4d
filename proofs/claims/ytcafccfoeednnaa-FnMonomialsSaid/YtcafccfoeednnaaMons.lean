/- Lists of monomials of a degree: what they are, and how many. -/
import Derived.Test.YtcafccfoeednnaaMono
namespace Go.Proofs.Ytcafccfoeednnaa
open Go.RowKit Go.Deep

/-- The values of f at k - 1, k - 2 .. 0, joined. -/
def down {α : Type} (f : Nat → List α) : Nat → List α
  | 0 => []
  | k + 1 => f k ++ down f k
/-- The greatest exponent of a generator of the degree d. -/
def gx (d : Int) : Nat := if odd d then 1 else 20
/-- The exponents of all monomials of the degree n, in order. -/
def mons : List Int → Nat → List (List Int)
  | [], n => if n = 0 then [[]] else []
  | d :: zs, n => down (fun e => (mons zs (n - e * d.toNat)).map ((e : Int) :: ·)) (min (gx d) (n / d.toNat) + 1)
def cnt (zs : List Int) (n : Nat) : Nat := (mons zs n).length
/-- How many monomials of the degree n have an exponent less than e of the first generator. -/
def cpart (d : Int) (zs : List Int) : Nat → Nat → Nat
  | 0, _ => 0
  | e + 1, n => cpart d zs e n + if e * d.toNat ≤ n then cnt zs (n - e * d.toNat) else 0
theorem down_len {α : Type} (f : Nat → List α) : ∀ k, (down f k).length = ((List.range k).map fun e => (f e).length).sum
  | 0 => rfl
  | k + 1 => by rw [down, List.length_append, down_len f k, List.range_succ, List.map_append, List.sum_append]; simp [Nat.add_comm]
theorem cpart_sum {d : Int} {zs : List Int} {n : Nat} : ∀ k, (∀ e, e < k → e * d.toNat ≤ n) → cpart d zs k n = ((List.range k).map fun e => cnt zs (n - e * d.toNat)).sum
  | 0, _ => rfl
  | k + 1, h => by
    rw [cpart, cpart_sum k (fun e he => h e (by omega)), if_pos (h k (by omega)), List.range_succ, List.map_append, List.sum_append]
    simp
theorem cpart_stop {d : Int} {zs : List Int} {n k : Nat} (h : ∀ e, k ≤ e → ¬ e * d.toNat ≤ n) : ∀ j, cpart d zs (k + j) n = cpart d zs k n
  | 0 => rfl
  | j + 1 => by
    rw [← Nat.add_assoc, cpart, if_neg (h (k + j) (by omega)), Nat.add_zero]
    exact cpart_stop h j
theorem cpart_end {d : Int} {zs : List Int} {n : Nat} (hd : 1 ≤ d) : cpart d zs (gx d + 1) n = cnt (d :: zs) n := by
  have hd' : 0 < d.toNat := by omega
  have h2 : cnt (d :: zs) n = ((List.range (min (gx d) (n / d.toNat) + 1)).map fun e => cnt zs (n - e * d.toNat)).sum := by
    rw [cnt, mons, down_len]
    simp [cnt]
  rw [h2, ← cpart_sum (min (gx d) (n / d.toNat) + 1) (fun e he => by
    have : e ≤ n / d.toNat := by omega
    exact (Nat.le_div_iff_mul_le hd').1 this)]
  by_cases h : gx d ≤ n / d.toNat
  · rw [Nat.min_eq_left h]
  · rw [Nat.min_eq_right (by omega)]
    have := cpart_stop (d := d) (zs := zs) (n := n) (k := n / d.toNat + 1) (fun e he hh => by
      have := (Nat.le_div_iff_mul_le hd').2 hh
      omega) (gx d - n / d.toNat)
    rw [show n / d.toNat + 1 + (gx d - n / d.toNat) = gx d + 1 by omega] at this
    exact this
theorem down_mem {α : Type} {f : Nat → List α} {x : α} : ∀ {k}, x ∈ down f k → ∃ e, e < k ∧ x ∈ f e
  | 0, h => by simp [down] at h
  | k + 1, h => by
    rw [down, List.mem_append] at h
    rcases h with h | h
    · exact ⟨k, by omega, h⟩
    · obtain ⟨e, he, hx⟩ := down_mem h
      exact ⟨e, by omega, hx⟩
theorem gx_le (d : Int) : gx d ≤ 20 := by unfold gx; split <;> omega
theorem mons_len : ∀ {zs : List Int} {n : Nat} {m : List Int}, m ∈ mons zs n → m.length = zs.length ∧ ∀ x ∈ m, 0 ≤ x ∧ x ≤ 20
  | [], n, m, h => by
    rw [mons] at h
    split at h
    · simp at h; subst h; simp
    · simp at h
  | d :: zs, n, m, h => by
    rw [mons] at h
    obtain ⟨e, he, hm⟩ := down_mem h
    obtain ⟨m', hm', rfl⟩ := List.mem_map.1 hm
    obtain ⟨h1, h2⟩ := mons_len hm'
    refine ⟨by simp [h1], fun x hx => ?_⟩
    have := gx_le d
    rcases List.mem_cons.1 hx with rfl | hx
    · omega
    · exact h2 x hx
theorem cnt_le (zs : List Int) : ∀ n, cnt zs n ≤ 21 ^ zs.length := by
  induction zs with
  | nil => intro n; rw [cnt, mons]; split <;> simp
  | cons d zs ih =>
    intro n
    have : ∀ k, (down (fun e => (mons zs (n - e * d.toNat)).map ((e : Int) :: ·)) k).length ≤ k * 21 ^ zs.length := by
      intro k
      induction k with
      | zero => simp [down]
      | succ k ihk =>
        rw [down, List.length_append, List.length_map, Nat.succ_mul]
        have := ih (n - k * d.toNat)
        rw [cnt] at this
        omega
    rw [cnt, mons]
    refine Nat.le_trans (this _) ?_
    rw [List.length_cons, Nat.pow_succ, Nat.mul_comm]
    have := gx_le d
    exact Nat.mul_le_mul_left _ (by omega)

/-- The monomials that begin with p and go on with one of L. -/
def ext (p : List Int) (L : List (List Int)) : List (List Int) := L.map (fun x => (p ++ x) ++ List.replicate (8 - (p ++ x).length) 0)
theorem ext_cons (p : List Int) (e : Int) (L : List (List Int)) : ext p (L.map (e :: ·)) = ext (p ++ [e]) L := by
  simp [ext, List.map_map, Function.comp_def]
theorem ext_app (p : List Int) (L K : List (List Int)) : ext p (L ++ K) = ext p L ++ ext p K := by simp [ext]
theorem ext_len (p : List Int) (L : List (List Int)) : (ext p L).length = L.length := by simp [ext]
/-- The exponents ahead of a place, set at this place. -/
theorem take_set_next {E : List Int} {i : Nat} {e : Int} (h : i < E.length) : (E.set i e).take (i + 1) = E.take i ++ [e] := by
  rw [List.take_succ_eq_append_getElem (by simpa using h), List.take_set_of_le (Nat.le_refl _)]
  simp
theorem drop_set_lt {E : List Int} {i n : Nat} {e : Int} (h : i < n) : (E.set i e).drop n = E.drop n := by
  rw [List.drop_set]; rw [if_pos h]
/-- What is left of a list that stops growing at 401. -/
theorem take_more {α : Type} {X : List α} (Y : List α) {k : Nat} (h : k ≤ (X.take k).length) : (X ++ Y).take k = X.take k := by
  rw [List.length_take] at h
  rw [List.take_append_of_le_length (by omega)]
theorem take_app {α : Type} {X : List α} {k : Nat} (h : (X.take k).length < k) : X.take k = X := by
  rw [List.length_take] at h
  rw [List.take_of_length_le (by omega)]

theorem cpart_le (d : Int) (zs : List Int) (n : Nat) : ∀ e, cpart d zs e n ≤ e * 21 ^ zs.length
  | 0 => by simp [cpart]
  | e + 1 => by
    rw [cpart, Nat.succ_mul]
    have h1 := cpart_le d zs n e
    have h2 := cnt_le zs (n - e * d.toNat)
    split <;> omega
/-- A row of counts, and one of which the places ahead of t have one exponent more. -/
def cntR (zs : List Int) (r : Nat) : List Int := (List.range (r + 1)).map fun s => (cnt zs s : Int)
def mix (d : Int) (zs : List Int) (e t s : Nat) : Nat := if s < t then cpart d zs (e + 1) s else cpart d zs e s
def mixR (d : Int) (zs : List Int) (r e t : Nat) : List Int := (List.range (r + 1)).map fun s => (mix d zs e t s : Int)
theorem mixR_len (d : Int) (zs : List Int) (r e t : Nat) : (mixR d zs r e t).length = r + 1 := by simp [mixR]
theorem cntR_len (zs : List Int) (r : Nat) : (cntR zs r).length = r + 1 := by simp [cntR]
theorem mixR_step {d : Int} {zs : List Int} {r e t : Nat} (ht : t ≤ r) (he : e * d.toNat ≤ t) : (mixR d zs r e t).set t ((cpart d zs e t : Int) + (cnt zs (t - e * d.toNat) : Int)) = mixR d zs r e (t + 1) := by
  apply List.ext_getElem?
  intro s
  rw [List.getElem?_set]
  by_cases hs : t = s
  · subst hs
    rw [if_pos rfl, if_pos (by rw [mixR_len]; omega), mixR, List.getElem?_map, List.getElem?_range (by omega)]
    simp only [Option.map_some, mix]
    rw [if_pos (by omega), cpart, if_pos he, Int.natCast_add]
  · rw [if_neg hs]
    by_cases hr : s < r + 1
    · rw [mixR, mixR, List.getElem?_map, List.getElem?_map, List.getElem?_range hr]
      simp only [Option.map_some, mix]
      by_cases h : s < t
      · rw [if_pos h, if_pos (by omega)]
      · rw [if_neg h, if_neg (by omega)]
    · rw [List.getElem?_eq_none (by rw [mixR_len]; omega), List.getElem?_eq_none (by rw [mixR_len]; omega)]
theorem mixR_start (d : Int) (zs : List Int) (r e : Nat) : mixR d zs r e (e * d.toNat) = (List.range (r + 1)).map fun s => (cpart d zs e s : Int) := by
  apply List.map_congr_left
  intro s _
  rw [mix]
  split
  · rw [cpart, if_neg (by omega), Nat.add_zero]
  · rfl
theorem mixR_end {d : Int} {zs : List Int} {r e t : Nat} (ht : r < t) : mixR d zs r e t = (List.range (r + 1)).map fun s => (cpart d zs (e + 1) s : Int) := by
  apply List.map_congr_left
  intro s hs
  have := List.mem_range.1 hs
  rw [mix, if_pos (by omega)]
theorem mixR_done {d : Int} {zs : List Int} {r : Nat} (hd : 1 ≤ d) : ((List.range (r + 1)).map fun s => (cpart d zs (gx d + 1) s : Int)) = cntR (d :: zs) r := by
  apply List.map_congr_left
  intro s _
  rw [cpart_end hd]
theorem mixR_zero (d : Int) (zs : List Int) (r : Nat) : ((List.range (r + 1)).map fun s => (cpart d zs 0 s : Int)) = List.replicate (r + 1) 0 := by
  simp only [cpart]
  rw [List.map_const']
  simp
theorem mixR_get {d : Int} {zs : List Int} {r e t : Nat} (ht : t ≤ r) : (mixR d zs r e t)[t]? = some (cpart d zs e t : Int) := by
  rw [mixR, List.getElem?_map, List.getElem?_range (by omega)]
  simp [mix]
theorem cntR_get {zs : List Int} {r s : Nat} (hs : s ≤ r) : (cntR zs r)[s]? = some (cnt zs s : Int) := by
  rw [cntR, List.getElem?_map, List.getElem?_range (by omega)]
  rfl
theorem cntR_nil (r : Nat) : (List.replicate (r + 1) (0 : Int)).set 0 1 = cntR [] r := by
  apply List.ext_getElem?
  intro s
  rw [List.getElem?_set]
  by_cases h : s < r + 1
  · rw [cntR_get (by omega)]
    cases s with
    | zero => simp [cnt, mons]
    | succ s => simp [cnt, mons, List.getElem?_replicate]; omega
  · have h1 : (cntR [] r)[s]? = none := List.getElem?_eq_none (by rw [cntR_len]; omega)
    have h2 : (List.replicate (r + 1) (0 : Int))[s]? = none := List.getElem?_eq_none (by rw [List.length_replicate]; omega)
    rw [h1, if_neg (by omega), h2]
theorem capAt_gx {zs : List Int} {i : Nat} {d : Int} (h : zs[i]? = some d) : capAt zs i = (gx d : Int) := by
  rw [capAt, h, gx]
  simp only []
  cases odd d <;> rfl
theorem drop_at {zs : List Int} {i : Nat} {d : Int} (h : zs[i]? = some d) : zs.drop i = d :: zs.drop (i + 1) := by
  obtain ⟨hk, rfl⟩ := List.getElem?_eq_some_iff.1 h
  rw [List.drop_eq_getElem_cons hk]

end Go.Proofs.Ytcafccfoeednnaa
