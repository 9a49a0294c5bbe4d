
import Derived.Test.YtbokloflbldikaaGreatSingle
import Derived.Test.YtbokloflbldikaaGreatIsAlgS
import Derived.Test.YtbokloflbldikaaGreatTbl
import Derived.Deep.RegionWith
import Derived.Test.YtbokloflbldikaaGreatKeep
import Derived.Deep.DeepAppendWide
namespace Go.Proofs.YtbokloflbldikaaGreat
open Go.RowKit Go.Deep
def oneFrom (m : List Int) : Nat → Nat → Nat
  | 0, k => k
  | d + 1, k => if m.getD k 0 = 1 then k else oneFrom m d (k + 1)
def oneAt (m : List Int) : Nat := oneFrom m 8 0
def linTo (m : Nat) (fs : List Tm) : Nat → List Int
  | 0 => List.replicate m 0
  | k + 1 => match fs[k]? with
    | some t => if wlen t.m = 1 then (linTo m fs k).set (oneAt t.m) t.f else linTo m fs k
    | none => linTo m fs k
def linRow (m : Nat) (fs : List Tm) : List Int := linTo m fs fs.length
end Go.Proofs.YtbokloflbldikaaGreat
namespace Go.Proofs.YtbokloflbldikaaGreat
open Go.RowKit Go.Deep
theorem Tryz.info_ints : (Tryz.prog.info? 22).map (fun i => (i.zero, i.size, i.bytes)) = some (some (.slice none 0 0), 1, 24) := by kernel_rfl
theorem make_rows (n : Nat) (hn : n ≤ 1048576) (w : World) :
    (Instr.makeSlice 27 (.int .i64 (n : Int)) (.int .i64 (n : Int))).run Tryz.prog w = .ok (.slice (some ⟨w.heap.size, 0, none⟩) n n) (w.alloc (.cells (Array.replicate n (Value.slice none 0 0)) 22)) := by
  have h := run_make_row' (P := Tryz.prog) 27 22 (.slice none 0 0) 24 Tryz.underlying27 Tryz.info_ints rfl .i64 .i64 n (by omega) (by omega) w
  rwa [show madeCells #[Value.slice none 0 0] n = Array.replicate n (Value.slice none 0 0) by (apply Array.ext'; rw [toList_madeCells_one]; simp)] at h
def rowCells (m n : Nat) (gs : List Nat) : List Value := gs.map (fun g => Value.slice (some ⟨g, 0, none⟩) m m) ++ List.replicate (n - gs.length) (Value.slice none 0 0)
theorem rowCells_step {m n k g : Nat} {gs : List Nat} (hk : gs.length = k) (hn : k < n) : ((rowCells m n gs).toArray).setIfInBounds k (.slice (some ⟨g, 0, none⟩) m m) = (rowCells m n (gs ++ [g])).toArray := by
  apply Array.ext'
  rw [Array.toList_setIfInBounds]
  simp only [rowCells, List.map_append, List.length_append, List.map_cons, List.map_nil, List.length_cons, List.length_nil]
  rw [List.set_append_right _ _ (by rw [List.length_map]; omega), List.length_map, hk, Nat.sub_self, show n - k = (n - (k + 1)) + 1 by omega, List.replicate_succ, List.set_cons_zero, List.append_assoc]
  rfl
theorem ownT_of {w : World} {lo gO m n : Nat} {gs : List Nat} {V : List (List Int)} (hV : V.length = n) (hgs : gs.length = n) (hm : ∀ row ∈ V, row.length = m) (ho : Own w gO 22 (rowCells m n gs).toArray) (hlo : lo ≤ gO)
    (hr : ∀ (i g : Nat) row, gs[i]? = some g → V[i]? = some row → Own w g 2 ((row.map (Value.int .i64)).toArray)) (hup : (gO :: gs).Pairwise (· < ·)) : OwnT w lo w.heap.size (some ⟨gO, 0, none⟩) n V := by
  refine ⟨hV, fun hn => ⟨gO, (List.zipWith (fun g row => (⟨some ⟨g, 0, none⟩, m, m, g, ((row.map (Value.int .i64)).toArray)⟩ : Rw)) gs V), rfl, hlo, ho.lt, ⟨by simp [hgs, hV], ⟨_, ho, ?_⟩, ?_, ?_⟩, ?_, ?_, ?_⟩⟩
  · intro i r hr0
    rw [List.getElem?_zipWith] at hr0
    cases hg : gs[i]? with
    | none => rw [hg] at hr0; simp at hr0
    | some g =>
      cases hv : V[i]? with
      | none => rw [hg, hv] at hr0; simp at hr0
      | some row =>
        rw [hg, hv] at hr0
        injection hr0 with hr0
        subst hr0
        rw [List.getElem?_toArray, rowCells, List.getElem?_append_left (by rw [List.length_map]; exact (List.getElem?_eq_some_iff.1 hg).1), List.getElem?_map, hg]
        rfl
  · intro i r hr0 hp
    rw [List.getElem?_zipWith] at hr0
    cases hg : gs[i]? with
    | none => rw [hg] at hr0; simp at hr0
    | some g =>
      cases hv : V[i]? with
      | none => rw [hg, hv] at hr0; simp at hr0
      | some row =>
        rw [hg, hv] at hr0
        injection hr0 with hr0
        subst hr0
        exact ⟨rfl, hr i g row hg hv, by have := hm row (List.mem_of_getElem? hv); simp; omega⟩
  · intro i j r s hij hr0 hs0 _ _
    rw [List.getElem?_zipWith] at hr0 hs0
    cases hg : gs[i]? with
    | none => rw [hg] at hr0; simp at hr0
    | some g =>
      cases hv : V[i]? with
      | none => rw [hg, hv] at hr0; simp at hr0
      | some row =>
        cases hg' : gs[j]? with
        | none => rw [hg'] at hs0; simp at hs0
        | some g' =>
          cases hv' : V[j]? with
          | none => rw [hg', hv'] at hs0; simp at hs0
          | some row' =>
            rw [hg, hv] at hr0
            rw [hg', hv'] at hs0
            injection hr0 with hr0
            injection hs0 with hs0
            subst hr0
            subst hs0
            obtain ⟨h1, h2⟩ := List.getElem?_eq_some_iff.1 hg
            obtain ⟨h3, h4⟩ := List.getElem?_eq_some_iff.1 hg'
            have := List.pairwise_iff_getElem.1 (List.pairwise_cons.1 hup).2 i j h1 h3 hij
            rw [h2, h4] at this
            exact Nat.ne_of_lt this
  · intro r hr0 _
    obtain ⟨i, hi, hri⟩ := List.mem_iff_getElem.1 hr0
    have hr1 := List.getElem?_eq_getElem hi
    rw [hri, List.getElem?_zipWith] at hr1
    cases hg : gs[i]? with
    | none => rw [hg] at hr1; simp at hr1
    | some g =>
      cases hv : V[i]? with
      | none => rw [hg, hv] at hr1; simp at hr1
      | some row =>
        rw [hg, hv] at hr1
        injection hr1 with hr1
        subst hr1
        have h1 := (List.pairwise_cons.1 hup).1 g (List.mem_of_getElem? hg)
        have h2 := (hr i g row hg hv).lt
        exact ⟨by show lo ≤ g; omega, h2⟩
  · apply List.ext_getElem?
    intro i
    rw [List.getElem?_map, List.getElem?_zipWith, List.getElem?_map]
    cases hv : V[i]? with
    | none => cases gs[i]? <;> rfl
    | some row =>
      have hi := (List.getElem?_eq_some_iff.1 hv).1
      rw [List.getElem?_eq_getElem (show i < gs.length by omega)]
      simp [hm row (List.mem_of_getElem? hv)]
  · intro i r row hr0 hv
    rw [List.getElem?_zipWith, hv] at hr0
    cases hg : gs[i]? with
    | none => rw [hg] at hr0; simp at hr0
    | some g =>
      rw [hg] at hr0
      injection hr0 with hr0
      subst hr0
      exact IntBlk.ints' (hr i g row hg hv) (hm row (List.mem_of_getElem? hv))
theorem pair_snoc {gs : List Nat} {b g : Nat} (h : (b :: gs).Pairwise (· < ·)) (hb : b < g) (hg : ∀ x ∈ gs, x < g) : (b :: (gs ++ [g])).Pairwise (· < ·) := by
  rw [← List.cons_append]
  refine List.pairwise_append.2 ⟨h, List.pairwise_singleton _ _, fun x hx y hy => ?_⟩
  obtain rfl : y = g := by simpa using hy
  rcases List.mem_cons.1 hx with rfl | hx
  · exact hb
  · exact hg x hx
def Rows (w : World) (gO dn : Nat) (ims : List (List Tm)) (k : Nat) (gs : List Nat) : Prop :=
  gs.length = k ∧ (∀ (i g : Nat) ts, gs[i]? = some g → ims[i]? = some ts → Own w g 2 (((linRow dn ts).map (Value.int .i64)).toArray)) ∧ (gO :: gs).Pairwise (· < ·) ∧ ∀ x ∈ gs, x < w.heap.size
theorem Rows.keep {w w' : World} {gO dn k : Nat} {ims : List (List Tm)} {gs : List Nat} (h : Rows w gO dn ims k gs) (hb : Below w.heap.size w w') : Rows w' gO dn ims k gs :=
  ⟨h.1, fun i g ts h1 h2 => (h.2.1 i g ts h1 h2).keep hb (h.2.1 i g ts h1 h2).lt, h.2.2.1, fun x hx => Nat.lt_of_lt_of_le (h.2.2.2 x hx) hb.size⟩
theorem Rows.snoc {w : World} {gO dn k g : Nat} {ims : List (List Tm)} {gs : List Nat} {ts : List Tm} {v : Value} (h : Rows w gO dn ims k gs) (hx : ims[k]? = some ts) (hlt : ∀ x ∈ gs, x < g) (hO : gO < g)
    (hg : Own w g 2 (((linRow dn ts).map (Value.int .i64)).toArray)) : Rows (w.setCell ⟨gO, k, none⟩ v) gO dn ims (k + 1) (gs ++ [g]) := by
  have hup := h.2.2.1
  refine ⟨by rw [List.length_append, h.1]; rfl, fun i g' ts' h1 h2 => ?_, pair_snoc hup hO hlt, fun x hx => ?_⟩
  · by_cases hi : i < k
    · rw [List.getElem?_append_left (by rw [h.1]; exact hi)] at h1
      have h3 := (List.pairwise_cons.1 hup).1 g' (List.mem_of_getElem? h1)
      exact (h.2.1 i g' ts' h1 h2).far (by dsimp only; omega) _
    · have hik : i = k := by
        have := (List.getElem?_eq_some_iff.1 h1).1
        rw [List.length_append, h.1] at this
        simp at this
        omega
      subst hik
      rw [List.getElem?_append_right (by rw [h.1]; omega), h.1, Nat.sub_self] at h1
      injection h1 with h1
      subst h1
      rw [hx] at h2
      injection h2 with h2
      subst h2
      exact hg.far (by dsimp only; omega) _
  · rcases List.mem_append.1 hx with hx | hx
    · have := h.2.2.2 x hx
      simpa using this
    · obtain rfl : x = g := by simpa using hx
      have := hg.lt
      simpa using this
end Go.Proofs.YtbokloflbldikaaGreat
namespace Go.Proofs.YtbokloflbldikaaGreat
open Go.RowKit Go.Deep
theorem Tryz.info_intsA : ∃ i z, Tryz.prog.info? 22 = some i ∧ i.zero = some z ∧ i.size = 1 ∧ i.bytes = 24 ∧ z.cells.size = 1 := by
  obtain ⟨i, hi, hzz⟩ := Option.map_eq_some_iff.1 Tryz.info_ints
  simp only [Prod.mk.injEq] at hzz
  obtain ⟨hz, hs, hb⟩ := hzz
  exact ⟨i, _, hi, hz, hs, hb, rfl⟩
theorem empty_rowG (w : World) (t : TypeId) {B : Nat} (hB : B ≤ w.heap.size) : (w.alloc (.cells #[] t)).ownsRow B t 1 (.slice (some ⟨w.heap.size, 0, none⟩) 0 0) 0 [] :=
  ⟨rfl, Or.inr ⟨w.heap.size, 0, #[], rfl, hB, heap_alloc_new w _, Nat.le_refl _, by simp [maxLen], rfl, rfl⟩⟩
def rowSl (m : Nat) (gs : List Nat) : List Value := gs.map (fun g => Value.slice (some ⟨g, 0, none⟩) m m)
def RowsB (w : World) (lo dn : Nat) (ims : List (List Tm)) (k : Nat) (gs : List Nat) : Prop :=
  gs.length = k ∧ (∀ (i g : Nat) ts, gs[i]? = some g → ims[i]? = some ts → Own w g 2 (((linRow dn ts).map (Value.int .i64)).toArray)) ∧ gs.Pairwise (· < ·) ∧ ∀ x ∈ gs, lo ≤ x ∧ x < w.heap.size
theorem RowsB.keep {w w' : World} {lo dn k : Nat} {ims : List (List Tm)} {gs : List Nat} (h : RowsB w lo dn ims k gs) (hb : Below w.heap.size w w') : RowsB w' lo dn ims k gs :=
  ⟨h.1, fun i g ts h1 h2 => (h.2.1 i g ts h1 h2).keep hb (h.2.1 i g ts h1 h2).lt, h.2.2.1, fun x hx => ⟨(h.2.2.2 x hx).1, Nat.lt_of_lt_of_le (h.2.2.2 x hx).2 hb.size⟩⟩
theorem RowsB.grown {w w' : World} {lo dn k B m n : Nat} {ims : List (List Tm)} {gs : List Nat} {v : Value} {xs : List Value} (h : RowsB w lo dn ims k gs) (ho : w.ownsRow B 22 m v n xs) (hg : w.grownBy w' v.ownBlock) : RowsB w' lo dn ims k gs :=
  ⟨h.1, fun i g ts h1 h2 => (h.2.1 i g ts h1 h2).grown hg (own_ne_row (h.2.1 i g ts h1 h2) ho (by decide)), h.2.2.1, fun x hx => ⟨(h.2.2.2 x hx).1, Nat.lt_of_lt_of_le (h.2.2.2 x hx).2 hg.size⟩⟩
theorem RowsB.snoc {w : World} {lo dn k g : Nat} {ims : List (List Tm)} {gs : List Nat} {ts : List Tm} (h : RowsB w lo dn ims k gs) (hx : ims[k]? = some ts) (hlt : ∀ x ∈ gs, x < g) (hlo : lo ≤ g)
    (hg : Own w g 2 (((linRow dn ts).map (Value.int .i64)).toArray)) : RowsB w lo dn ims (k + 1) (gs ++ [g]) := by
  refine ⟨by rw [List.length_append, h.1]; rfl, fun i g' ts' h1 h2 => ?_, ?_, fun x hx => ?_⟩
  · by_cases hi : i < k
    · rw [List.getElem?_append_left (by rw [h.1]; exact hi)] at h1
      exact h.2.1 i g' ts' h1 h2
    · have hik : i = k := by
        have := (List.getElem?_eq_some_iff.1 h1).1
        rw [List.length_append, h.1] at this
        simp at this
        omega
      subst hik
      rw [List.getElem?_append_right (by rw [h.1]; omega), h.1, Nat.sub_self] at h1
      injection h1 with h1
      subst h1
      rw [hx] at h2
      injection h2 with h2
      subst h2
      exact hg
  · refine List.pairwise_append.2 ⟨h.2.2.1, List.pairwise_singleton _ _, fun x hx y hy => ?_⟩
    obtain rfl : y = g := by simpa using hy
    exact hlt x hx
  · rcases List.mem_append.1 hx with hx | hx
    · exact h.2.2.2 x hx
    · obtain rfl : x = g := by simpa using hx
      exact ⟨hlo, hg.lt⟩
theorem ownT_row {w : World} {lo m n : Nat} {gs : List Nat} {V : List (List Int)} {v : Value} (hV : V.length = n) (hgs : gs.length = n) (hm : ∀ row ∈ V, row.length = m) (ho : w.ownsRow lo 22 1 v n (rowSl m gs))
    (hr : ∀ (i g : Nat) row, gs[i]? = some g → V[i]? = some row → Own w g 2 ((row.map (Value.int .i64)).toArray)) (hlg : ∀ g ∈ gs, lo ≤ g) (hup : gs.Pairwise (· < ·)) : ∃ a c, v = .slice a n c ∧ OwnT w lo w.heap.size a n V := by
  rcases ho.2 with ⟨hv, h0⟩ | ⟨gO, cap, cur, hv, hb, hg, hn, hmx, hs, ht⟩
  · subst h0
    have hV0 : V = [] := List.eq_nil_of_length_eq_zero hV
    subst hV0
    exact ⟨none, 0, hv, OwnT.none_⟩
  refine ⟨some ⟨gO, 0, none⟩, cap, hv, hV, fun _ => ⟨gO, (List.zipWith (fun g row => (⟨some ⟨g, 0, none⟩, m, m, g, ((row.map (Value.int .i64)).toArray)⟩ : Rw)) gs V), rfl, hb, (show Own w gO 22 cur from hg).lt, ⟨by simp [hgs, hV], ⟨cur, hg, ?_⟩, ?_, ?_⟩, ?_, ?_, ?_⟩⟩
  · intro i r hr0
    rw [List.getElem?_zipWith] at hr0
    cases hg : gs[i]? with
    | none => rw [hg] at hr0; simp at hr0
    | some g =>
      cases hv : V[i]? with
      | none => rw [hg, hv] at hr0; simp at hr0
      | some row =>
        rw [hg, hv] at hr0
        injection hr0 with hr0
        subst hr0
        have h1 : (rowSl m gs)[i]? = some (Value.slice (some ⟨g, 0, none⟩) m m) := by rw [rowSl, List.getElem?_map, hg]; rfl
        have hi := (List.getElem?_eq_some_iff.1 hg).1
        rw [← ht, Nat.mul_one, List.getElem?_take, if_pos (by omega), Array.getElem?_toList] at h1
        exact h1
  · intro i r hr0 hp
    rw [List.getElem?_zipWith] at hr0
    cases hg : gs[i]? with
    | none => rw [hg] at hr0; simp at hr0
    | some g =>
      cases hv : V[i]? with
      | none => rw [hg, hv] at hr0; simp at hr0
      | some row =>
        rw [hg, hv] at hr0
        injection hr0 with hr0
        subst hr0
        exact ⟨rfl, hr i g row hg hv, by have := hm row (List.mem_of_getElem? hv); simp; omega⟩
  · intro i j r s hij hr0 hs0 _ _
    rw [List.getElem?_zipWith] at hr0 hs0
    cases hg : gs[i]? with
    | none => rw [hg] at hr0; simp at hr0
    | some g =>
      cases hv : V[i]? with
      | none => rw [hg, hv] at hr0; simp at hr0
      | some row =>
        cases hg' : gs[j]? with
        | none => rw [hg'] at hs0; simp at hs0
        | some g' =>
          cases hv' : V[j]? with
          | none => rw [hg', hv'] at hs0; simp at hs0
          | some row' =>
            rw [hg, hv] at hr0
            rw [hg', hv'] at hs0
            injection hr0 with hr0
            injection hs0 with hs0
            subst hr0
            subst hs0
            obtain ⟨h1, h2⟩ := List.getElem?_eq_some_iff.1 hg
            obtain ⟨h3, h4⟩ := List.getElem?_eq_some_iff.1 hg'
            have := List.pairwise_iff_getElem.1 hup i j h1 h3 hij
            rw [h2, h4] at this
            exact Nat.ne_of_lt this
  · intro r hr0 _
    obtain ⟨i, hi, hri⟩ := List.mem_iff_getElem.1 hr0
    have hr1 := List.getElem?_eq_getElem hi
    rw [hri, List.getElem?_zipWith] at hr1
    cases hg : gs[i]? with
    | none => rw [hg] at hr1; simp at hr1
    | some g =>
      cases hv : V[i]? with
      | none => rw [hg, hv] at hr1; simp at hr1
      | some row =>
        rw [hg, hv] at hr1
        injection hr1 with hr1
        subst hr1
        exact ⟨hlg g (List.mem_of_getElem? hg), (hr i g row hg hv).lt⟩
  · apply List.ext_getElem?
    intro i
    rw [List.getElem?_map, List.getElem?_zipWith, List.getElem?_map]
    cases hv : V[i]? with
    | none => cases gs[i]? <;> rfl
    | some row =>
      have hi := (List.getElem?_eq_some_iff.1 hv).1
      rw [List.getElem?_eq_getElem (show i < gs.length by omega)]
      simp [hm row (List.mem_of_getElem? hv)]
  · intro i r row hr0 hv
    rw [List.getElem?_zipWith, hv] at hr0
    cases hg : gs[i]? with
    | none => rw [hg] at hr0; simp at hr0
    | some g =>
      rw [hg] at hr0
      injection hr0 with hr0
      subst hr0
      exact IntBlk.ints' (hr i g row hg hv) (hm row (List.mem_of_getElem? hv))
end Go.Proofs.YtbokloflbldikaaGreat
