/- Sizes, copies and comparisons of algebras; marks in algebras; worlds that differ in some blocks alone. -/
import Derived.Test.YtcafccfoeednnaaAlg
import Derived.Test.YtcafccfoeednnaaResult
namespace Go.Proofs.Ytcafccfoeednnaa
open Go.RowKit Go.Deep

/-- What is left of a size behind the forms of a list, or -1. -/
def szFs : Int → List (List Tm) → Int
  | L, [] => L
  | L, ts :: r => if (ts.length : Int) ≤ L then szFs (L - ts.length) r else -1
def szFn (L : Int) (n : Nat) (fss : List (List Tm)) : Int := if (n : Int) ≤ L then szFs (L - n) fss else -1
def szA (L : Int) (dn n : Nat) (fss : List (List Tm)) : Int := if (dn : Int) ≤ L then szFn (L - dn) n fss else -1
theorem szFs_drop {q : Int} {fss : List (List Tm)} {k : Nat} {ts : List Tm} (h : fss[k]? = some ts) : szFs q (fss.drop k) = if (ts.length : Int) ≤ q then szFs (q - ts.length) (fss.drop (k + 1)) else -1 := by
  obtain ⟨hk, rfl⟩ := List.getElem?_eq_some_iff.1 h
  rw [List.drop_eq_getElem_cons hk, szFs]
theorem szFs_spec : ∀ (l : List (List Tm)) (q : Int), 0 ≤ q → szFs q l = -1 ∨ (0 ≤ szFs q l ∧ szFs q l ≤ q ∧ ∀ ts ∈ l, (ts.length : Int) ≤ q)
  | [], q, h => Or.inr ⟨h, Int.le_refl _, by simp⟩
  | ts :: r, q, h => by
    rw [szFs]
    split
    · rename_i h1
      rcases szFs_spec r (q - ts.length) (by omega) with h2 | ⟨h2, h3, h4⟩
      · exact Or.inl h2
      · refine Or.inr ⟨h2, by omega, fun u hu => ?_⟩
        rcases List.mem_cons.1 hu with rfl | hu
        · exact h1
        · have := h4 u hu
          omega
    · exact Or.inl rfl
theorem szA_spec {L : Int} {dn n : Nat} {fss : List (List Tm)} : szA L dn n fss = -1 ∨ (0 ≤ szA L dn n fss ∧ szA L dn n fss ≤ L ∧ (dn : Int) ≤ L ∧ (n : Int) ≤ L ∧ ∀ ts ∈ fss, (ts.length : Int) ≤ L) := by
  unfold szA szFn
  split
  · split
    · rcases szFs_spec fss (L - dn - n) (by omega) with h2 | ⟨h2, h3, h4⟩
      · exact Or.inl h2
      · exact Or.inr ⟨h2, by omega, by omega, by omega, fun u hu => by have := h4 u hu; omega⟩
    · exact Or.inl rfl
  · exact Or.inl rfl

/-! Copies. -/
theorem Try.info_form3 : (Try.prog.info? 49).map (fun i => (i.zero, i.size, i.bytes)) = some (some (.agg #[.slice none 0 0]), 1, 24) := by kernel_rfl
theorem madeCells_one (v : Value) (n : Nat) : madeCells #[v] (n * 1) = Array.replicate n v := by
  apply Array.ext_getElem?
  intro i
  by_cases hi : i < n
  · simp [madeCells, hi, Nat.mod_one]
  · rw [Array.getElem?_eq_none (by simp [madeCells]; omega), Array.getElem?_eq_none (by simp; omega)]
/-- The cells of a list of forms whose terms lie in the blocks gs. -/
def slCells (fss : List (List Tm)) (gs : List Nat) : List Value := List.zipWith (fun ts g => Value.slice (some ⟨g, 0, none⟩) ts.length ts.length) fss gs
theorem slCells_len {fss : List (List Tm)} {gs : List Nat} (h : gs.length = fss.length) : (slCells fss gs).length = fss.length := by simp [slCells, h]
theorem slCells_snoc {fss : List (List Tm)} {gs : List Nat} {k g : Nat} {ts : List Tm} (h : gs.length = k) (hx : fss[k]? = some ts) : slCells (fss.take (k + 1)) (gs ++ [g]) = slCells (fss.take k) gs ++ [.slice (some ⟨g, 0, none⟩) ts.length ts.length] := by
  obtain ⟨hk, rfl⟩ := List.getElem?_eq_some_iff.1 hx
  rw [slCells, List.take_succ_eq_append_getElem hk, List.zipWith_append (by rw [List.length_take]; omega)]
  rfl
theorem slCells_get {fss : List (List Tm)} {gs : List Nat} {i g : Nat} {ts : List Tm} (hx : fss[i]? = some ts) (hg : gs[i]? = some g) : (slCells fss gs)[i]? = some (.slice (some ⟨g, 0, none⟩) ts.length ts.length) := by
  rw [slCells, List.getElem?_zipWith, hx, hg]
/-- A list of forms as the laws copy it: a block of slices, and a block for each form, each behind the one before it. -/
structure FrmsBlk (w : World) (g : Nat) (fss : List (List Tm)) (gs : List Nat) : Prop where
  len : gs.length = fss.length
  own : Own w g 49 (slCells fss gs).toArray
  each : ∀ (i gi : Nat) (ts : List Tm), gs[i]? = some gi → fss[i]? = some ts → Own w gi 97 (rcells ts).toArray
  up : (g :: gs).Pairwise (· < ·)
theorem FrmsBlk.lt {w : World} {g : Nat} {fss : List (List Tm)} {gs : List Nat} (h : FrmsBlk w g fss gs) : ∀ x ∈ gs, g < x ∧ x < w.heap.size := fun x hx => by
  refine ⟨(List.pairwise_cons.1 h.up).1 x hx, ?_⟩
  obtain ⟨i, hi, rfl⟩ := List.mem_iff_getElem.1 hx
  have := h.len
  exact (h.each i _ _ (List.getElem?_eq_getElem hi) (List.getElem?_eq_getElem (show i < fss.length by omega))).lt
theorem FrmsBlk.keep {w w' : World} {g : Nat} {fss : List (List Tm)} {gs : List Nat} (h : FrmsBlk w g fss gs) (hb : Below w.heap.size w w') : FrmsBlk w' g fss gs :=
  ⟨h.len, h.own.keep hb h.own.lt, fun i gi ts h1 h2 => (h.each i gi ts h1 h2).keep hb (h.each i gi ts h1 h2).lt, h.up⟩
theorem FrmsBlk.far {w : World} {g : Nat} {fss : List (List Tm)} {gs : List Nat} (h : FrmsBlk w g fss gs) {p : Addr} (hp : p.block < g) (u : Value) : FrmsBlk (w.setCell p u) g fss gs :=
  ⟨h.len, h.own.far (by omega) u, fun i gi ts h1 h2 => (h.each i gi ts h1 h2).far (by have := (List.pairwise_cons.1 h.up).1 gi (List.mem_of_getElem? h1); omega) u, h.up⟩
theorem FrmsBlk.frms {w : World} {g n : Nat} {fss : List (List Tm)} {gs : List Nat} (h : FrmsBlk w g fss gs) (hT : ∀ ts ∈ fss, ∀ t ∈ ts, IsTm t) (hL : ∀ ts ∈ fss, (ts.length : Int) ≤ 1048576) (hn : fss.length = n) : Frms w (some ⟨g, 0, none⟩) n fss := by
  refine ⟨hn, fun _ => ⟨g, 0, rfl, h.own.lt, fun i ts hi => ?_⟩⟩
  have hl : i < gs.length := by rw [h.len]; exact (List.getElem?_eq_some_iff.1 hi).1
  have hg : gs[i]? = some gs[i] := List.getElem?_eq_getElem hl
  have hm := List.mem_of_getElem? hi
  refine ⟨some ⟨gs[i], 0, none⟩, ts.length, ts.length, ?_, Terms.of_own (h.each i _ ts hg hi) (hT ts hm) rfl, by have := hL ts hm; omega⟩
  rw [Nat.zero_add, h.own.cell i, List.getElem?_toArray]
  exact slCells_get hi hg

/-! Comparisons. -/
/-- Nothing that was there has changed but in blocks of p. -/
structure Touch (p : Nat → Prop) (w w' : World) : Prop where
  below : Below 0 w w'
  other : ∀ k, k < w.heap.size → ¬ p k → w'.heap[k]? = w.heap[k]?
section
variable {p q : Nat → Prop} {w w' a b c : World}
theorem Touch.of_only {g : Nat} (h : Only g w w') : Touch (fun k => k = g) w w' := ⟨h.below 0 (Nat.zero_le _), fun k _ hk => h.other k hk⟩
theorem Touch.of_below (h : Below w.heap.size w w') : Touch p w w' := ⟨h.mono (Nat.zero_le _), fun k hk _ => h.block k hk⟩
theorem Touch.refl (p : Nat → Prop) (w : World) : Touch p w w := ⟨Below.refl _ _, fun _ _ _ => rfl⟩
theorem Touch.mono (h : Touch p w w') (hp : ∀ k, p k → q k) : Touch q w w' := ⟨h.below, fun k hk hq => h.other k hk (fun hh => hq (hp k hh))⟩
theorem Touch.trans (h : Touch p a b) (k : Touch p b c) : Touch p a c := ⟨h.below.trans k.below, fun i hi hp => (k.other i (Nat.lt_of_lt_of_le hi h.below.size) hp).trans (h.other i hi hp)⟩
theorem Touch.bel {B : Nat} (h : Touch p w w') (hB : ∀ k, p k → B ≤ k) (hs : B ≤ w.heap.size) : Below B w w' :=
  ⟨h.below.os, h.below.tape, h.below.output, h.below.size, fun k hk => h.other k (by omega) (fun hp => by have := hB k hp; omega)⟩
theorem Touch.own {g : Nat} {t : TypeId} {cs : Array Value} (h : Touch p w w') (o : Own w g t cs) (hg : ¬ p g) : Own w' g t cs := (h.other g o.lt hg).trans o
theorem Touch.frms {g : Nat} {fss : List (List Tm)} {gs : List Nat} (h : Touch p w w') (o : FrmsBlk w g fss gs) (hg : ¬ p g) (hgs : ∀ x ∈ gs, ¬ p x) : FrmsBlk w' g fss gs :=
  ⟨o.len, h.own o.own hg, fun i gi ts h1 h2 => h.own (o.each i gi ts h1 h2) (hgs gi (List.mem_of_getElem? h1)), o.up⟩
theorem Touch.form {B : Nat} {v : Value} {ts : List Tm} (h : Touch p w w') (o : OwnR w B v ts) (hv : ∀ q, v.ownBlock = some q → ¬ p q) : OwnR w' B v ts := by
  obtain ⟨hl, h1⟩ := o
  refine ⟨hl, ?_⟩
  rcases h1 with h0 | ⟨g, cap, cur, hv2, hb, hg, r⟩
  · exact Or.inl h0
  · exact Or.inr ⟨g, cap, cur, hv2, hb, (h.other g (Array.getElem?_eq_some_iff.1 hg).1 (hv g (by rw [hv2]; rfl))).trans hg, r⟩
end

/-- How many terms a list of forms has. -/
def sumLen (fss : List (List Tm)) : Nat := (fss.map List.length).sum
theorem sumLen_take {fss : List (List Tm)} {k : Nat} {ts : List Tm} (h : fss[k]? = some ts) : sumLen (fss.take (k + 1)) = sumLen (fss.take k) + ts.length := by
  obtain ⟨hk, rfl⟩ := List.getElem?_eq_some_iff.1 h
  rw [sumLen, List.take_succ_eq_append_getElem hk, List.map_append, List.sum_append]
  simp [sumLen]
theorem sumLen_le (fss : List (List Tm)) (k : Nat) : sumLen (fss.take k) ≤ sumLen fss := by
  have h : sumLen fss = sumLen (fss.take k) + sumLen (fss.drop k) := by
    rw [sumLen, sumLen, sumLen, ← List.sum_append, ← List.map_append, List.take_append_drop]
  omega
theorem szFs_sum : ∀ (l : List (List Tm)) (q : Int), 0 ≤ q → szFs q l = -1 ∨ (sumLen l : Int) + szFs q l = q
  | [], q, _ => Or.inr (by simp [sumLen, szFs])
  | ts :: r, q, h => by
    rw [szFs]
    split
    · rename_i h1
      rcases szFs_sum r (q - ts.length) (by omega) with h2 | h2
      · exact Or.inl h2
      · refine Or.inr ?_
        have : sumLen (ts :: r) = ts.length + sumLen r := by simp [sumLen]
        rw [this]
        omega
    · exact Or.inl rfl
theorem szA_sum {L : Int} {dn n : Nat} {fss : List (List Tm)} (h : ¬ szA L dn n fss = -1) : (sumLen fss : Int) + szA L dn n fss + dn + n = L := by
  unfold szA szFn at h ⊢
  split
  · rename_i h1
    rw [if_pos h1] at h
    split
    · rename_i h2
      rw [if_pos h2] at h
      rcases szFs_sum fss (L - dn - n) (by omega) with h3 | h3
      · exact absurd h3 h
      · omega
    · rename_i h2
      rw [if_neg h2] at h
      exact absurd rfl h
  · rename_i h1
    rw [if_neg h1] at h
    exact absurd rfl h

theorem eqInts_c {w : World} {a a' : Option Addr} {n : Nat} {xs : List Int} (c c' : Nat) (h : Ints w a n xs) (h' : Ints w a' n xs) (hn : n ≤ 1048576) :
    Calls Try.prog 27 #[.slice a n c, .slice a' n c'] w fun e w' => e = .returned (.bool true) ∧ Below w.heap.size w w' := by
  refine (eqInt64S_c c c' h h' hn hn).mono ?_
  rintro e w1 ⟨rfl, q, rfl⟩
  exact ⟨by simp, below_drewN (Below.refl _ _) q⟩

theorem rk_range {kd kg gX : Nat} {ks : List Nat} (h1 : kd < kg) (h2 : kg < gX) (h3 : ∀ x ∈ ks, kg < x ∧ x < gX) : ∀ k, (k = kd ∨ k ∈ ks) → kd ≤ k ∧ k < gX := by
  intro k hk
  rcases hk with h | h
  · omega
  · have := h3 k h
    omega

end Go.Proofs.Ytcafccfoeednnaa
