
import Derived.Test.YtndnkeijddagiaaWord
import Derived.Test.YtndnkeijddagiaaTbl
import Derived.Deep.RegionWith
import Derived.Test.YtndnkeijddagiaaKeep
import Derived.Deep.DeepAppendWide
namespace Go.Proofs.Ytndnkeijddagiaa
open Go.RowKit Go.Deep
def oneFrom (m : List Int) : Nat → Nat → Nat
  | 0, k => k
  | d + 1, k => if m.getD k 0 = 1 then k else oneFrom m d (k + 1)
def oneAt (m : List Int) : Nat := oneFrom m 8 0
theorem wlTo_mono {m : List Int} (h : IsMono m) {j k : Nat} (hjk : j ≤ k) : wlTo m j ≤ wlTo m k := by
  induction k with
  | zero => have : j = 0 := by omega
            subst this; exact Int.le_refl _
  | succ k ih =>
    by_cases e : j = k + 1
    · subst e; exact Int.le_refl _
    · have h1 := ih (by omega)
      have h2 := (getD_mono h k).1
      rw [wlTo]
      omega
theorem one_uniq {m : List Int} (h : IsMono m) (h1 : wlen m = 1) {i : Nat} (hi : i < 8) (hx : m.getD i 0 = 1) : ∀ j, j < 8 → ¬ j = i → m.getD j 0 = 0 := by
  intro j hj hne
  have hj0 := (getD_mono h j).1
  rcases Nat.lt_or_gt_of_ne hne with hlt | hgt
  · have a1 := wlTo_mono h (show j + 1 ≤ i by omega)
    have a2 := wlTo_mono h (show i + 1 ≤ 8 by omega)
    have a3 := (wlTo_bd h j).1
    rw [wlen] at h1
    rw [wlTo] at a1 a2
    omega
  · have a1 := wlTo_mono h (show i + 1 ≤ j by omega)
    have a2 := wlTo_mono h (show j + 1 ≤ 8 by omega)
    have a3 := (wlTo_bd h i).1
    rw [wlen] at h1
    rw [wlTo] at a1 a2
    omega
theorem one_ex {m : List Int} (h : IsMono m) (h1 : wlen m = 1) : ∃ i, i < 8 ∧ m.getD i 0 = 1 := by
  have key : ∀ k, k ≤ 8 → wlTo m k = 1 → ∃ i, i < k ∧ m.getD i 0 = 1 := by
    intro k
    induction k with
    | zero => intro _ h; simp [wlTo] at h
    | succ k ih =>
      intro hk hs
      rw [wlTo] at hs
      have a1 := (wlTo_bd h k).1
      have a2 := (getD_mono h k).1
      by_cases e : m.getD k 0 = 1
      · exact ⟨k, by omega, e⟩
      · obtain ⟨i, hi, hx⟩ := ih (by omega) (by omega)
        exact ⟨i, by omega, hx⟩
  exact key 8 (Nat.le_refl _) h1
theorem oneFrom_eq {m : List Int} {i : Nat} (hx : m.getD i 0 = 1) (hz : ∀ j, j < i → ¬ m.getD j 0 = 1) : ∀ d k, k ≤ i → i < k + d → oneFrom m d k = i
  | 0, k, h1, h2 => by omega
  | d + 1, k, h1, h2 => by
    rw [oneFrom]
    by_cases e : k = i
    · subst e; rw [if_pos hx]
    · rw [if_neg (hz k (by omega))]
      exact oneFrom_eq hx hz d (k + 1) (by omega) (by omega)
theorem oneAt_spec {m : List Int} (h : IsMono m) (h1 : wlen m = 1) : oneAt m < 8 ∧ m.getD (oneAt m) 0 = 1 ∧ ∀ j, j < 8 → ¬ j = oneAt m → m.getD j 0 = 0 := by
  obtain ⟨i, hi, hx⟩ := one_ex h h1
  have hu := one_uniq h h1 hi hx
  have he : oneAt m = i := oneFrom_eq hx (fun j hj e => by have := hu j (by omega) (by omega); omega) 8 0 (by omega) (by omega)
  rw [he]
  exact ⟨hi, hx, hu⟩
def linTo (m : Nat) (fs : List Tm) : Nat → List Int
  | 0 => List.replicate m 0
  | k + 1 => match fs[k]? with
    | some t => if wlen t.m = 1 then (linTo m fs k).set (oneAt t.m) t.f else linTo m fs k
    | none => linTo m fs k
def linRow (m : Nat) (fs : List Tm) : List Int := linTo m fs fs.length
theorem linTo_len (m : Nat) (fs : List Tm) : ∀ k, (linTo m fs k).length = m
  | 0 => by simp [linTo]
  | k + 1 => by
    rw [linTo]
    split
    · split
      · rw [List.length_set]; exact linTo_len m fs k
      · exact linTo_len m fs k
    · exact linTo_len m fs k
theorem linTo_yes {m : Nat} {fs : List Tm} {k : Nat} {t : Tm} (h : fs[k]? = some t) (h1 : wlen t.m = 1) : linTo m fs (k + 1) = (linTo m fs k).set (oneAt t.m) t.f := by
  rw [linTo, h]
  simp only [if_pos h1]
theorem linTo_no {m : Nat} {fs : List Tm} {k : Nat} {t : Tm} (h : fs[k]? = some t) (h1 : ¬ wlen t.m = 1) : linTo m fs (k + 1) = linTo m fs k := by
  rw [linTo, h]
  simp only [if_neg h1]
theorem one_lt {zs m : List Int} {n : Nat} (hm : IsMono m) (ok : monoOk zs m = true) (hn : zs.length = n) (h1 : wlen m = 1) : oneAt m < n := by
  obtain ⟨h2, h3, -⟩ := oneAt_spec hm h1
  by_cases h : oneAt m < n
  · exact h
  · have hl : oneAt m < m.length := by rw [hm.1]; exact h2
    have h4 := monoOk_at ok h2 (List.getElem?_eq_getElem hl)
    rw [capAt, List.getElem?_eq_none (by omega)] at h4
    rw [List.getD_eq_getElem?_getD, List.getElem?_eq_getElem hl] at h3
    simp only [Option.getD_some] at h3
    have h5 : m[oneAt m] ≤ 0 := h4
    omega
theorem ints_set {w : World} {g i : Nat} {v : Int} {zs : List Int} (h : Own w g 2 ((zs.map (Value.int .i64)).toArray)) : Own (w.setCell ⟨g, i, none⟩ (.int .i64 v)) g 2 (((zs.set i v).map (Value.int .i64)).toArray) := by
  have := h.set i (.int .i64 v)
  rwa [show ((zs.map (Value.int .i64)).toArray).setIfInBounds i (.int .i64 v) = (((zs.set i v).map (Value.int .i64)).toArray) by simp [List.map_set]] at this
end Go.Proofs.Ytndnkeijddagiaa
namespace Go.Proofs.Ytndnkeijddagiaa
open Go.RowKit Go.Deep
theorem Try.info_ints : (Try.prog.info? 22).map (fun i => (i.zero, i.size, i.bytes)) = some (some (.slice none 0 0), 1, 24) := by kernel_rfl
theorem isAlg_len2 {zs : List Int} {ims : List (List Tm)} (h : isAlg zs ims = true) : ims.length = zs.length := by
  simp only [isAlg, Bool.and_eq_true, decide_eq_true_eq] at h
  obtain ⟨-, h2, -⟩ := h
  omega
theorem pair_snoc {gs : List Nat} {b g : Nat} (h : (b :: gs).Pairwise (· < ·)) (hb : b < g) (hg : ∀ x ∈ gs, x < g) : (b :: (gs ++ [g])).Pairwise (· < ·) := by
  rw [← List.cons_append]
  refine List.pairwise_append.2 ⟨h, List.pairwise_singleton _ _, fun x hx y hy => ?_⟩
  obtain rfl : y = g := by simpa using hy
  rcases List.mem_cons.1 hx with rfl | hx
  · exact hb
  · exact hg x hx
def Rows (w : World) (gO dn : Nat) (ims : List (List Tm)) (k : Nat) (gs : List Nat) : Prop :=
  gs.length = k ∧ (∀ (i g : Nat) ts, gs[i]? = some g → ims[i]? = some ts → Own w g 2 (((linRow dn ts).map (Value.int .i64)).toArray)) ∧ (gO :: gs).Pairwise (· < ·) ∧ ∀ x ∈ gs, x < w.heap.size
theorem Rows.keep {w w' : World} {gO dn k : Nat} {ims : List (List Tm)} {gs : List Nat} (h : Rows w gO dn ims k gs) (hb : Below w.heap.size w w') : Rows w' gO dn ims k gs :=
  ⟨h.1, fun i g ts h1 h2 => (h.2.1 i g ts h1 h2).keep hb (h.2.1 i g ts h1 h2).lt, h.2.2.1, fun x hx => Nat.lt_of_lt_of_le (h.2.2.2 x hx) hb.size⟩
theorem Rows.snoc {w : World} {gO dn k g : Nat} {ims : List (List Tm)} {gs : List Nat} {ts : List Tm} {v : Value} (h : Rows w gO dn ims k gs) (hx : ims[k]? = some ts) (hlt : ∀ x ∈ gs, x < g) (hO : gO < g)
    (hg : Own w g 2 (((linRow dn ts).map (Value.int .i64)).toArray)) : Rows (w.setCell ⟨gO, k, none⟩ v) gO dn ims (k + 1) (gs ++ [g]) := by
  have hup := h.2.2.1
  refine ⟨by rw [List.length_append, h.1]; rfl, fun i g' ts' h1 h2 => ?_, pair_snoc hup hO hlt, fun x hx => ?_⟩
  · by_cases hi : i < k
    · rw [List.getElem?_append_left (by rw [h.1]; exact hi)] at h1
      have h3 := (List.pairwise_cons.1 hup).1 g' (List.mem_of_getElem? h1)
      exact (h.2.1 i g' ts' h1 h2).far (by dsimp only; omega) _
    · have hik : i = k := by
        have := (List.getElem?_eq_some_iff.1 h1).1
        rw [List.length_append, h.1] at this
        simp at this
        omega
      subst hik
      rw [List.getElem?_append_right (by rw [h.1]; omega), h.1, Nat.sub_self] at h1
      injection h1 with h1
      subst h1
      rw [hx] at h2
      injection h2 with h2
      subst h2
      exact hg.far (by dsimp only; omega) _
  · rcases List.mem_append.1 hx with hx | hx
    · have := h.2.2.2 x hx
      simpa using this
    · obtain rfl : x = g := by simpa using hx
      have := hg.lt
      simpa using this
end Go.Proofs.Ytndnkeijddagiaa
namespace Go.Proofs.Ytndnkeijddagiaa
open Go.RowKit Go.Deep
theorem Try.info_intsA : ∃ i z, Try.prog.info? 22 = some i ∧ i.zero = some z ∧ i.size = 1 ∧ i.bytes = 24 ∧ z.cells.size = 1 := by
  obtain ⟨i, hi, hzz⟩ := Option.map_eq_some_iff.1 Try.info_ints
  simp only [Prod.mk.injEq] at hzz
  obtain ⟨hz, hs, hb⟩ := hzz
  exact ⟨i, _, hi, hz, hs, hb, rfl⟩
theorem empty_rowG (w : World) (t : TypeId) {B : Nat} (hB : B ≤ w.heap.size) : (w.alloc (.cells #[] t)).ownsRow B t 1 (.slice (some ⟨w.heap.size, 0, none⟩) 0 0) 0 [] :=
  ⟨rfl, Or.inr ⟨w.heap.size, 0, #[], rfl, hB, heap_alloc_new w _, Nat.le_refl _, by simp [maxLen], rfl, rfl⟩⟩
theorem made_ints2 (n : Nat) (hn : n ≤ 1048576) (w : World) :
    (Instr.makeSlice 22 (.int .i64 (n : Int)) (.int .i64 (n : Int))).run Try.prog w = .ok (.slice (some ⟨w.heap.size, 0, none⟩) n n) (w.alloc (.cells (Array.replicate n (Value.int .i64 0)) 2)) := by
  have h := run_make_row' (P := Try.prog) 22 2 (.int .i64 0) 8 Try.underlying22 Try.info_int64 rfl .i64 .i64 n (by omega) (by omega) w
  rwa [show madeCells #[Value.int .i64 0] n = Array.replicate n (Value.int .i64 0) by (apply Array.ext'; rw [toList_madeCells_one]; simp)] at h
theorem term_cell {p0 p1 p2 p3 p4 p5 p6 p7 f y : Int} {j : Nat} (hj : j < 8) (h : ([p0, p1, p2, p3, p4, p5, p6, p7] : List Int)[j]? = some y) : (#[.int .u8 p0, .int .u8 p1, .int .u8 p2, .int .u8 p3, .int .u8 p4, .int .u8 p5, .int .u8 p6, .int .u8 p7, .int .i64 f] : Array Value)[j]? = some (.int .u8 y) := by
  match j, hj, h with
  | 0, _, h => have e : p0 = y := (by simpa using h); subst e; rfl
  | 1, _, h => have e : p1 = y := (by simpa using h); subst e; rfl
  | 2, _, h => have e : p2 = y := (by simpa using h); subst e; rfl
  | 3, _, h => have e : p3 = y := (by simpa using h); subst e; rfl
  | 4, _, h => have e : p4 = y := (by simpa using h); subst e; rfl
  | 5, _, h => have e : p5 = y := (by simpa using h); subst e; rfl
  | 6, _, h => have e : p6 = y := (by simpa using h); subst e; rfl
  | 7, _, h => have e : p7 = y := (by simpa using h); subst e; rfl
def linJ (row : List Int) (p : Nat) (f : Int) (j : Nat) : List Int := if p < j then row.set p f else row
theorem linJ_zero (row : List Int) (p : Nat) (f : Int) : linJ row p f 0 = row := by rw [linJ, if_neg (by omega)]
theorem linJ_hit (row : List Int) (p : Nat) (f : Int) : linJ row p f (p + 1) = (linJ row p f p).set p f := by rw [linJ, linJ, if_pos (by omega), if_neg (by omega)]
theorem linJ_miss {row : List Int} {p j : Nat} {f : Int} (h : ¬ j = p) : linJ row p f (j + 1) = linJ row p f j := by
  rw [linJ, linJ]
  by_cases h1 : p < j
  · rw [if_pos (by omega), if_pos h1]
  · rw [if_neg (by omega), if_neg h1]
theorem linJ_end {row : List Int} {p n : Nat} {f : Int} (h : p < n) : linJ row p f n = row.set p f := by rw [linJ, if_pos h]
theorem linJ_len (row : List Int) (p : Nat) (f : Int) (j : Nat) : (linJ row p f j).length = row.length := by
  rw [linJ]; split
  · exact List.length_set
  · rfl
def rowSl (m : Nat) (gs : List Nat) : List Value := gs.map (fun g => Value.slice (some ⟨g, 0, none⟩) m m)
def RowsB (w : World) (lo dn : Nat) (ims : List (List Tm)) (k : Nat) (gs : List Nat) : Prop :=
  gs.length = k ∧ (∀ (i g : Nat) ts, gs[i]? = some g → ims[i]? = some ts → Own w g 2 (((linRow dn ts).map (Value.int .i64)).toArray)) ∧ gs.Pairwise (· < ·) ∧ ∀ x ∈ gs, lo ≤ x ∧ x < w.heap.size
theorem RowsB.keep {w w' : World} {lo dn k : Nat} {ims : List (List Tm)} {gs : List Nat} (h : RowsB w lo dn ims k gs) (hb : Below w.heap.size w w') : RowsB w' lo dn ims k gs :=
  ⟨h.1, fun i g ts h1 h2 => (h.2.1 i g ts h1 h2).keep hb (h.2.1 i g ts h1 h2).lt, h.2.2.1, fun x hx => ⟨(h.2.2.2 x hx).1, Nat.lt_of_lt_of_le (h.2.2.2 x hx).2 hb.size⟩⟩
theorem RowsB.grown {w w' : World} {lo dn k B m n : Nat} {ims : List (List Tm)} {gs : List Nat} {v : Value} {xs : List Value} (h : RowsB w lo dn ims k gs) (ho : w.ownsRow B 22 m v n xs) (hg : w.grownBy w' v.ownBlock) : RowsB w' lo dn ims k gs :=
  ⟨h.1, fun i g ts h1 h2 => (h.2.1 i g ts h1 h2).grown hg (own_ne_row (h.2.1 i g ts h1 h2) ho (by decide)), h.2.2.1, fun x hx => ⟨(h.2.2.2 x hx).1, Nat.lt_of_lt_of_le (h.2.2.2 x hx).2 hg.size⟩⟩
theorem RowsB.snoc {w : World} {lo dn k g : Nat} {ims : List (List Tm)} {gs : List Nat} {ts : List Tm} (h : RowsB w lo dn ims k gs) (hx : ims[k]? = some ts) (hlt : ∀ x ∈ gs, x < g) (hlo : lo ≤ g)
    (hg : Own w g 2 (((linRow dn ts).map (Value.int .i64)).toArray)) : RowsB w lo dn ims (k + 1) (gs ++ [g]) := by
  refine ⟨by rw [List.length_append, h.1]; rfl, fun i g' ts' h1 h2 => ?_, ?_, fun x hx => ?_⟩
  · by_cases hi : i < k
    · rw [List.getElem?_append_left (by rw [h.1]; exact hi)] at h1
      exact h.2.1 i g' ts' h1 h2
    · have hik : i = k := by
        have := (List.getElem?_eq_some_iff.1 h1).1
        rw [List.length_append, h.1] at this
        simp at this
        omega
      subst hik
      rw [List.getElem?_append_right (by rw [h.1]; omega), h.1, Nat.sub_self] at h1
      injection h1 with h1
      subst h1
      rw [hx] at h2
      injection h2 with h2
      subst h2
      exact hg
  · refine List.pairwise_append.2 ⟨h.2.2.1, List.pairwise_singleton _ _, fun x hx y hy => ?_⟩
    obtain rfl : y = g := by simpa using hy
    exact hlt x hx
  · rcases List.mem_append.1 hx with hx | hx
    · exact h.2.2.2 x hx
    · obtain rfl : x = g := by simpa using hx
      exact ⟨hlo, hg.lt⟩
theorem ownT_row {w : World} {lo m n : Nat} {gs : List Nat} {V : List (List Int)} {v : Value} (hV : V.length = n) (hgs : gs.length = n) (hm : ∀ row ∈ V, row.length = m) (ho : w.ownsRow lo 22 1 v n (rowSl m gs))
    (hr : ∀ (i g : Nat) row, gs[i]? = some g → V[i]? = some row → Own w g 2 ((row.map (Value.int .i64)).toArray)) (hlg : ∀ g ∈ gs, lo ≤ g) (hup : gs.Pairwise (· < ·)) : ∃ a c, v = .slice a n c ∧ OwnT w lo w.heap.size a n V := by
  rcases ho.2 with ⟨hv, h0⟩ | ⟨gO, cap, cur, hv, hb, hg, hn, hmx, hs, ht⟩
  · subst h0
    have hV0 : V = [] := List.eq_nil_of_length_eq_zero hV
    subst hV0
    exact ⟨none, 0, hv, OwnT.none_⟩
  refine ⟨some ⟨gO, 0, none⟩, cap, hv, hV, fun _ => ⟨gO, (List.zipWith (fun g row => (⟨some ⟨g, 0, none⟩, m, m, g, ((row.map (Value.int .i64)).toArray)⟩ : Rw)) gs V), rfl, hb, (show Own w gO 22 cur from hg).lt, ⟨by simp [hgs, hV], ⟨cur, hg, ?_⟩, ?_, ?_⟩, ?_, ?_, ?_⟩⟩
  · intro i r hr0
    rw [List.getElem?_zipWith] at hr0
    cases hg : gs[i]? with
    | none => rw [hg] at hr0; simp at hr0
    | some g =>
      cases hv : V[i]? with
      | none => rw [hg, hv] at hr0; simp at hr0
      | some row =>
        rw [hg, hv] at hr0
        injection hr0 with hr0
        subst hr0
        have h1 : (rowSl m gs)[i]? = some (Value.slice (some ⟨g, 0, none⟩) m m) := by rw [rowSl, List.getElem?_map, hg]; rfl
        have hi := (List.getElem?_eq_some_iff.1 hg).1
        rw [← ht, Nat.mul_one, List.getElem?_take, if_pos (by omega), Array.getElem?_toList] at h1
        exact h1
  · intro i r hr0 hp
    rw [List.getElem?_zipWith] at hr0
    cases hg : gs[i]? with
    | none => rw [hg] at hr0; simp at hr0
    | some g =>
      cases hv : V[i]? with
      | none => rw [hg, hv] at hr0; simp at hr0
      | some row =>
        rw [hg, hv] at hr0
        injection hr0 with hr0
        subst hr0
        exact ⟨rfl, hr i g row hg hv, by have := hm row (List.mem_of_getElem? hv); simp; omega⟩
  · intro i j r s hij hr0 hs0 _ _
    rw [List.getElem?_zipWith] at hr0 hs0
    cases hg : gs[i]? with
    | none => rw [hg] at hr0; simp at hr0
    | some g =>
      cases hv : V[i]? with
      | none => rw [hg, hv] at hr0; simp at hr0
      | some row =>
        cases hg' : gs[j]? with
        | none => rw [hg'] at hs0; simp at hs0
        | some g' =>
          cases hv' : V[j]? with
          | none => rw [hg', hv'] at hs0; simp at hs0
          | some row' =>
            rw [hg, hv] at hr0
            rw [hg', hv'] at hs0
            injection hr0 with hr0
            injection hs0 with hs0
            subst hr0
            subst hs0
            obtain ⟨h1, h2⟩ := List.getElem?_eq_some_iff.1 hg
            obtain ⟨h3, h4⟩ := List.getElem?_eq_some_iff.1 hg'
            have := List.pairwise_iff_getElem.1 hup i j h1 h3 hij
            rw [h2, h4] at this
            exact Nat.ne_of_lt this
  · intro r hr0 _
    obtain ⟨i, hi, hri⟩ := List.mem_iff_getElem.1 hr0
    have hr1 := List.getElem?_eq_getElem hi
    rw [hri, List.getElem?_zipWith] at hr1
    cases hg : gs[i]? with
    | none => rw [hg] at hr1; simp at hr1
    | some g =>
      cases hv : V[i]? with
      | none => rw [hg, hv] at hr1; simp at hr1
      | some row =>
        rw [hg, hv] at hr1
        injection hr1 with hr1
        subst hr1
        exact ⟨hlg g (List.mem_of_getElem? hg), (hr i g row hg hv).lt⟩
  · apply List.ext_getElem?
    intro i
    rw [List.getElem?_map, List.getElem?_zipWith, List.getElem?_map]
    cases hv : V[i]? with
    | none => cases gs[i]? <;> rfl
    | some row =>
      have hi := (List.getElem?_eq_some_iff.1 hv).1
      rw [List.getElem?_eq_getElem (show i < gs.length by omega)]
      simp [hm row (List.mem_of_getElem? hv)]
  · intro i r row hr0 hv
    rw [List.getElem?_zipWith, hv] at hr0
    cases hg : gs[i]? with
    | none => rw [hg] at hr0; simp at hr0
    | some g =>
      rw [hg] at hr0
      injection hr0 with hr0
      subst hr0
      exact IntBlk.ints' (hr i g row hg hv) (hm row (List.mem_of_getElem? hv))
set_option maxHeartbeats 4000000 in
set_option maxRecDepth 100000 in
theorem l02Linear_c {w : World} {da : Option Addr} {dn : Nat} {a : Option Addr} {n : Nat} {ims : List (List Tm)} (dc c : Nat) (hd8 : dn ≤ 8) (hF : Frms w a n ims) (hn : n ≤ 1048576) (hL : ∀ im ∈ ims, (im.length : Int) ≤ 1048576) (hone : ∀ ts ∈ ims, ∀ t ∈ ts, wlen t.m = 1 → oneAt t.m < dn) :
    Calls Try.prog 120 #[.agg #[.slice da dn dc, .slice a n c]] w fun e w' => ∃ ra rc, e = .returned (.slice ra n rc) ∧ OwnT w' w.heap.size w'.heap.size ra n (ims.map (linRow dn)) ∧ Below w.heap.size w w' := by
  have HLL := Lib.hid hL
  have HLn := Lib.hid hF.len
  have HFF := Lib.hid hF
  have H1 := Lib.hid hone
  obtain ⟨ti, tz, hti, htz, hts, htb, htzs⟩ := Try.info_intsA
  have HI := Lib.hid hti
  have HZ := Lib.hid htz
  have HS := Lib.hid hts
  have HBt := Lib.hid htb
  have HZs := Lib.hid htzs
  clear hL hone hF hti htz hts htb htzs
  have hA := Own.new w 29 #[.slice da dn dc, .slice a n c]
  have hb := below_alloc1 w (.cells #[.slice da dn dc, .slice a n c] 29)
  go_enter Try.func120, Try.ntmps120
  go_upto_region 1 with fail
  generalize w.alloc (.cells #[.slice da dn dc, .slice a n c] 29) = w0 at *
  have hl0 := hA.lt
  have hR0 := empty_rowG w0 22 (B := w.heap.size + 1) (by omega)
  have hba := below_alloc1 w0 (.cells #[] 22)
  have hA1 := hA.keep hba hA.lt
  have hb1 := below_trans' hb hba hb.size
  go_upto_region 2 with fail
  generalize w0.alloc (.cells #[] 22) = w1 at *
  generalize w0.heap.size = gO at *
  clear hA hb hba hl0
  have HW0 : Hid (RowsB w1 (w.heap.size + 1) dn ims 0 []) := Lib.hid ⟨rfl, by simp, by simp, by simp⟩
  go_upto_region 3 with fail
  go_loopw [3, 4] (fun o y wr => ∃ (k : Nat) (oa : Option Addr) (oc : Nat) (gs : List Nat), k ≤ n ∧ y = .int .i64 k ∧ o = .slice oa k oc ∧ Below w.heap.size w wr ∧ Own wr w.heap.size 29 #[.slice da dn dc, .slice a n c] ∧ wr.ownsRow (w.heap.size + 1) 22 1 (.slice oa k oc) k (rowSl dn gs) ∧ Hid (RowsB wr (w.heap.size + 1) dn ims k gs)) (fun _ y _ => n - (intOf y).toNat)
  case atStart => exact ⟨0, _, _, [], Nat.zero_le _, rfl, rfl, hb1, hA1, hR0, HW0⟩
  case round =>
    clear hb1 hA1 hR0 HW0
    obtain ⟨k, oa, oc, gs, hk, rfl, rfl, hb, hA, hR, HW⟩ := hrel
    by_cases hin : k < n
    · obtain ⟨b, off, ts, ai, ni, ci, rfl, hbl, hc0, hT0, hni, hx⟩ := HFF.out.at_ hin
      have hmem := List.mem_of_getElem? hx.out
      have hni2 : ni ≤ 1048576 := by have := HLL.out ts hmem; have := hT0.len; omega
      have HONE := Lib.hid (H1.out ts hmem)
      have HTL := Lib.hid hT0.len
      clear hmem
      have hk0 : (0 : Int) ≤ (k : Int) := by omega
      have hkn : (k : Int) < (n : Int) := by omega
      have hmk1 := made_ints2 dn (by omega) wr
      have hG := Own.new wr 2 (Array.replicate dn (Value.int .i64 0))
      have hba := below_alloc1 wr (.cells (Array.replicate dn (Value.int .i64 0)) 2)
      have cA0 := hA.cell 0
      have cA1 := hA.cell 1
      have hGl : w.heap.size < wr.heap.size := hA.lt
      have HR := Lib.hid hR
      go_upto_region 6 with fail
      generalize wr.alloc (.cells (Array.replicate dn (Value.int .i64 0)) 2) = w2 at *
      generalize hgR : wr.heap.size = gR at *
      have HGR := Lib.hid hgR
      clear hmk1 cA0 cA1 hR hgR
      generalize wr = W1 at *
      have hG0 : Own w2 gR 2 (((linTo dn ts 0).map (Value.int .i64)).toArray) := by
        rw [linTo, show ((List.replicate dn (0 : Int)).map (Value.int .i64)).toArray = Array.replicate dn (Value.int .i64 0) by simp]; exact hG
      clear hG
      go_upto_region 7 with fail
      go_loopw [6] (fun y wr => ∃ q : Nat, q ≤ ni ∧ y = .int .i64 q ∧ Below gR W1 wr ∧ Own wr gR 2 (((linTo dn ts q).map (Value.int .i64)).toArray)) (fun y _ => ni - (intOf y).toNat)
      case atStart => exact ⟨0, Nat.zero_le _, rfl, hba, hG0⟩
      case round =>
        clear hG0 hba
        obtain ⟨q, hq, rfl, hbx, hG⟩ := hrel
        have hAx := hA.keep hbx hGl
        have hlx : gR < wr.heap.size := hG.lt
        have cA1 := hAx.cell 1
        have hbxw := hb.trans (hbx.mono (Nat.le_of_lt hGl))
        have hcr := (World.cell?_of_block (a := ⟨b, off + k, none⟩) (hbxw.block b hbl)).trans hc0
        have hTx := hT0.keep hbxw
        by_cases hqn : q < ni
        · obtain ⟨bt, ot, t, rfl, hbtl, hro, ht, hxt⟩ := hTx.at_ hqn
          have HO := Lib.hid (HONE.out t (List.mem_of_getElem? hxt.out))
          have HYS := Lib.hid (fun e => linTo_yes (m := dn) hxt.out e)
          have HNO := Lib.hid (fun e => linTo_no (m := dn) hxt.out e)
          obtain ⟨mt, ft⟩ := t
          have hmt : IsMono mt := ht.1
          have HM := Lib.hid hmt
          obtain ⟨p0, p1, p2, p3, p4, p5, p6, p7, rfl⟩ := mono8 hmt
          obtain ⟨y0, y1, y2, y3, y4, y5, y6, y7, y8⟩ := nine hro
          obtain ⟨x, hxe⟩ : ∃ x, wlen [p0, p1, p2, p3, p4, p5, p6, p7] = x := ⟨_, rfl⟩
          have HX := Lib.hid hxe
          clear hxe
          have hT := Own.new wr 76 #[.int .u8 p0, .int .u8 p1, .int .u8 p2, .int .u8 p3, .int .u8 p4, .int .u8 p5, .int .u8 p6, .int .u8 p7, .int .i64 ft]
          have hba := below_alloc1 wr (.cells #[.int .u8 p0, .int .u8 p1, .int .u8 p2, .int .u8 p3, .int .u8 p4, .int .u8 p5, .int .u8 p6, .int .u8 p7, .int .i64 ft] 76)
          have hbx3 := below_trans' hbx hba (Nat.le_of_lt hlx)
          have hG3 := hG.keep hba hG.lt
          have hA3 := hAx.keep hba hAx.lt
          have hq0 : (0 : Int) ≤ (q : Int) := by omega
          have hqn2 : (q : Int) < (ni : Int) := by omega
          go_upto_region 10 with fail
          generalize wr.alloc (.cells #[.int .u8 p0, .int .u8 p1, .int .u8 p2, .int .u8 p3, .int .u8 p4, .int .u8 p5, .int .u8 p6, .int .u8 p7, .int .i64 ft] 76) = wt at *
          generalize hgT : wr.heap.size = gT at *
          clear hbx hba hG y0 y1 y2 y3 y4 y5 y6 y7 y8 hro cA1 hAx hcr hTx hbxw hgT
          have hTl := hT.lt
          go_upto_region 11 with fail
          by_cases hx1 : x = 1
          · subst hx1
            have hp := HO.out HX.out
            have HSP := Lib.hid (oneAt_spec HM.out HX.out)
            obtain ⟨p, hpe⟩ : ∃ p, oneAt [p0, p1, p2, p3, p4, p5, p6, p7] = p := ⟨_, rfl⟩
            rw [hpe] at hp
            have HPE := Lib.hid hpe
            clear hpe
            obtain ⟨row, hrw⟩ : ∃ row, linTo dn ts q = row := ⟨_, rfl⟩
            rw [hrw] at hG3
            have HRW := Lib.hid hrw
            have HRL := Lib.hid (show row.length = dn by rw [← hrw]; exact linTo_len _ _ _)
            clear hrw
            go_loopw [8] (fun y wr => ∃ j : Nat, j ≤ dn ∧ y = .int .i64 j ∧ Below gR W1 wr ∧ Own wr w.heap.size 29 #[.slice da dn dc, .slice (some ⟨b, off, none⟩) n c] ∧ Own wr gT 76 #[.int .u8 p0, .int .u8 p1, .int .u8 p2, .int .u8 p3, .int .u8 p4, .int .u8 p5, .int .u8 p6, .int .u8 p7, .int .i64 ft] ∧ Own wr gR 2 (((linJ row p ft j).map (Value.int .i64)).toArray)) (fun y _ => dn - (intOf y).toNat)
            case atStart => exact ⟨0, Nat.zero_le _, rfl, hbx3, hA3, hT, by rw [linJ_zero]; exact hG3⟩
            case round =>
              clear hbx3 hA3 hT hG3 hTl
              obtain ⟨j, hj, rfl, hbz, hAz, hT, hG⟩ := hrel
              have cA0 := hAz.cell 0
              by_cases hjn : j < dn
              · have hj0 : (0 : Int) ≤ (j : Int) := by omega
                have hjd : (j : Int) < (dn : Int) := by omega
                have hj8 : (j : Int) < 8 := by omega
                obtain ⟨z0, z1, z2, z3, z4, z5, z6, z7, z8⟩ : wr.cell? ⟨gT, 0, none⟩ = some (.int .u8 p0) ∧ wr.cell? ⟨gT, 1, none⟩ = some (.int .u8 p1) ∧ wr.cell? ⟨gT, 2, none⟩ = some (.int .u8 p2) ∧ wr.cell? ⟨gT, 3, none⟩ = some (.int .u8 p3) ∧ wr.cell? ⟨gT, 4, none⟩ = some (.int .u8 p4) ∧ wr.cell? ⟨gT, 5, none⟩ = some (.int .u8 p5) ∧ wr.cell? ⟨gT, 6, none⟩ = some (.int .u8 p6) ∧ wr.cell? ⟨gT, 7, none⟩ = some (.int .u8 p7) ∧ wr.cell? ⟨gT, 8, none⟩ = some (.int .i64 ft) := ⟨hT.cell 0, hT.cell 1, hT.cell 2, hT.cell 3, hT.cell 4, hT.cell 5, hT.cell 6, hT.cell 7, hT.cell 8⟩
                go_wp2_with fail
                refine (l02Word8 HM.out HX.out).mono ?_
                rintro e w5 ⟨rfl, hb5⟩
                have hT5 := hT.keep hb5 hT.lt
                have hG5 := hG.keep hb5 hG.lt
                have hA5 := hAz.keep hb5 hAz.lt
                have hgTz := hT.lt
                have hgRz := hG.lt
                have hbz5 := below_trans' hbz hb5 (Nat.le_of_lt hG.lt)
                clear hT hG hAz hbz hb5 z0 z1 z2 z3 z4 z5 z6 z7 z8 cA0
                obtain ⟨y, hy0, hy1, hy, HY⟩ := mono_at HM.out (show j < 8 by omega)
                have hcy : w5.cell? ⟨gT, j, none⟩ = some (.int .u8 y) := by
                  rw [hT5.cell j]
                  exact term_cell (by omega) HY.out
                have z8 := hT5.cell 8
                by_cases hjp : j = p
                · have hyv : y = 1 := by
                    have := HSP.out.2.1
                    rw [HPE.out, ← hjp, List.getD_eq_getElem?_getD, HY.out] at this
                    exact this
                  subst hyv
                  subst hjp
                  have hfz := hG5.frozen j
                  obtain ⟨ov, hcv⟩ := hG5.has (i := j) (by have := HRL.out; simp [linJ_len]; omega)
                  go_wp2_with fail
                  go_roundw
                  case rel =>
                    refine ⟨j + 1, by omega, by go_num, hbz5.setCell (p := ⟨gR, j, none⟩) (by dsimp only; omega) _, hA5.far (by dsimp only; omega) _, hT5.far (by dsimp only; omega) _, ?_⟩
                    rw [linJ_hit]
                    exact ints_set hG5
                  case measure => simp [intOf] <;> omega
                · have hyv : y = 0 := by
                    have := HSP.out.2.2 j (by omega) (by rw [HPE.out]; exact hjp)
                    rw [List.getD_eq_getElem?_getD, HY.out] at this
                    exact this
                  subst hyv
                  go_wp2_with fail
                  go_roundw
                  case rel => exact ⟨j + 1, by omega, by go_num, hbz5, hA5, hT5, by rw [linJ_miss hjp]; exact hG5⟩
                  case measure => simp [intOf] <;> omega
              · have he : j = dn := by omega
                subst he
                go_wp2_with fail
                go_roundw
                case rel => exact ⟨q + 1, by omega, by go_num, hbz, by rw [HYS.out HX.out, HPE.out, HRW.out, ← linJ_end hp]; exact hG⟩
                case measure => simp [intOf] <;> omega
          · have hx1b : (x == 1) = false := by simpa using hx1
            go_loopw [8] (fun y wr => y = .int .i64 0 ∧ Below gR W1 wr ∧ Own wr w.heap.size 29 #[.slice da dn dc, .slice (some ⟨b, off, none⟩) n c] ∧ Own wr gT 76 #[.int .u8 p0, .int .u8 p1, .int .u8 p2, .int .u8 p3, .int .u8 p4, .int .u8 p5, .int .u8 p6, .int .u8 p7, .int .i64 ft] ∧ Own wr gR 2 (((linTo dn ts q).map (Value.int .i64)).toArray)) (fun y _ => 0)
            case atStart => exact ⟨rfl, hbx3, hA3, hT, hG3⟩
            case round =>
              clear hbx3 hA3 hT hG3 hTl
              obtain ⟨rfl, hbx3, hA3, hT, hG3⟩ := hrel
              have cA0 := hA3.cell 0
              by_cases hjn : 0 < dn
              · have hjd : (0 : Int) < (dn : Int) := by omega
                obtain ⟨z0, z1, z2, z3, z4, z5, z6, z7, z8⟩ : wr.cell? ⟨gT, 0, none⟩ = some (.int .u8 p0) ∧ wr.cell? ⟨gT, 1, none⟩ = some (.int .u8 p1) ∧ wr.cell? ⟨gT, 2, none⟩ = some (.int .u8 p2) ∧ wr.cell? ⟨gT, 3, none⟩ = some (.int .u8 p3) ∧ wr.cell? ⟨gT, 4, none⟩ = some (.int .u8 p4) ∧ wr.cell? ⟨gT, 5, none⟩ = some (.int .u8 p5) ∧ wr.cell? ⟨gT, 6, none⟩ = some (.int .u8 p6) ∧ wr.cell? ⟨gT, 7, none⟩ = some (.int .u8 p7) ∧ wr.cell? ⟨gT, 8, none⟩ = some (.int .i64 ft) := ⟨hT.cell 0, hT.cell 1, hT.cell 2, hT.cell 3, hT.cell 4, hT.cell 5, hT.cell 6, hT.cell 7, hT.cell 8⟩
                go_wp2_with fail
                refine (l02Word8 HM.out HX.out).mono ?_
                rintro e w5 ⟨rfl, hb5⟩
                go_wp2_with fail
                go_roundw
                case rel => exact ⟨q + 1, by omega, by go_num, below_trans' hbx3 hb5 (Nat.le_of_lt hG3.lt), by rw [HNO.out (by rw [HX.out]; exact hx1)]; exact hG3.keep hb5 hG3.lt⟩
                case measure => simp [intOf] <;> omega
              · have hjd : ¬ (0 : Int) < (dn : Int) := by omega
                go_wp2_with fail
                go_roundw
                case rel => exact ⟨q + 1, by omega, by go_num, hbx3, by rw [HNO.out (by rw [HX.out]; exact hx1)]; exact hG3⟩
                case measure => simp [intOf] <;> omega
        · have he : q = ni := by omega
          subst he
          have hk0 : (0 : Int) ≤ (k : Int) := by omega
          have hkn : (k : Int) < (n : Int) := by omega
          have hGL : Own wr gR 2 (((linRow dn ts).map (Value.int .i64)).toArray) := by rw [linRow, HTL.out]; exact hG
          have hbr : Below W1.heap.size W1 wr := by rw [HGR.out]; exact hbx
          have hRx : wr.ownsRow (w.heap.size + 1) 22 1 (.slice oa k oc) k (rowSl dn gs) := World.ownsRow.kept HR.out (row := none) ⟨hbr.os, hbr.tape, hbr.output, hbr.size, fun j hj _ => hbr.block j hj⟩ (by cases oa <;> simp [Value.ownBlock])
          have HLT := Lib.hid (fun x hx => (show x < gR by rw [← HGR.out]; exact (HW.out.2.2.2 x hx).2))
          have HWx := Lib.hid ((HW.out.keep hbr).snoc hx.out HLT.out (show w.heap.size + 1 ≤ gR by omega) hGL)
          have hlw := hAx.lt
          clear hbr hbx hA hG hGL HR hb
          have hnews : ∀ j u, ([Value.slice (some ⟨gR, 0, none⟩) dn dn] : List Value)[j]? = some u → (wr.alloc (.cells #[.slice (some ⟨gR, 0, none⟩) dn dn] 22)).cell? ((⟨wr.heap.size, 0, none⟩ : Addr).add j) = some u := fun j u hu => by
            rw [Addr.add_mid]
            exact (Own.new wr 22 #[.slice (some ⟨gR, 0, none⟩) dn dn]).range j u hu
          have hone : ∀ u ∈ ([Value.slice (some ⟨gR, 0, none⟩) dn dn] : List Value), u.oneCell' = true := by simp [Value.oneCell']
          have HN := Lib.hid hnews
          have HO := Lib.hid hone
          have hba := below_alloc1 wr (.cells #[.slice (some ⟨gR, 0, none⟩) dn dn] 22)
          have HR2 := Lib.hid (hRx.alloc (.cells #[.slice (some ⟨gR, 0, none⟩) dn dn] 22))
          have hA3 := hAx.keep hba hAx.lt
          have hb3 := below_trans' hbxw hba hbxw.size
          have HW3 := Lib.hid (HWx.out.keep hba)
          clear hnews hone hRx HWx hba
          go_upto_region 15 with fail
          go_wp2_with (refine wpList_append_own_wide _ rfl (.tmp 64) (.tmp 66) 134 rfl (w.heap.size + 1) 22 ti tz 1 24 Try.underlying134 HI.out HZ.out HS.out HBt.out HZs.out (by omega) (.slice oa k oc) k (rowSl dn gs) rfl HR2.out ⟨wr.heap.size, 0, none⟩ 1 1 [Value.slice (some ⟨gR, 0, none⟩) dn dn] rfl rfl HN.out HO.out (by simp only [maxLen]; omega) (by omega) (by rw [size_alloc]; omega) (fun v' w' h2 h3 h4 => ?_))
          have hA4 := hA3.grown h3 (fun e => by have := (HR2.out.lt _ e.symm).1; omega)
          have hb4 := grown_below hb3 h3 (fun j e => by have := (HR2.out.lt j e).1; omega) hb3.size
          have HW4 := Lib.hid (HW3.out.grown HR2.out h3)
          obtain ⟨va, vc, rfl⟩ := row_slice h2
          have hR4 : w'.ownsRow (w.heap.size + 1) 22 1 (.slice va (k + 1) vc) (k + 1) (rowSl dn (gs ++ [gR])) := by
            rw [rowSl, List.map_append]; exact h2
          clear h2 h3 h4 hA3 hb3 HR2 HW3 HN HO hbxw hAx
          go_roundw
          case rel => exact ⟨k + 1, va, vc, gs ++ [gR], by omega, by go_num, rfl, hb4, hA4, hR4, HW4⟩
          case measure => simp [intOf] <;> omega
    · have he : k = n := by omega
      subst he
      have cA1 := hA.cell 1
      have HR := Lib.hid hR
      clear hR
      go_wp2_with fail
      go_ret
      obtain ⟨ra, rc, hrr, hO⟩ := ownT_row (V := ims.map (linRow dn)) (by rw [List.length_map]; exact HLn.out) HW.out.1 (by
        intro row hrow
        obtain ⟨ts, -, rfl⟩ := List.mem_map.1 hrow
        exact linTo_len _ _ _) HR.out (by
        intro i g row h1 h2
        rw [List.getElem?_map] at h2
        cases hts : ims[i]? with
        | none => rw [hts] at h2; simp at h2
        | some ts =>
          rw [hts] at h2
          injection h2 with h2
          subst h2
          exact HW.out.2.1 i g ts h1 hts) (fun g hg => (HW.out.2.2.2 g hg).1) HW.out.2.2.1
      simp only [Value.slice.injEq] at hrr
      obtain ⟨rfl, -, rfl⟩ := hrr
      exact ⟨oa, oc, rfl, hO.weaken (by omega) (Nat.le_refl _), hb⟩
end Go.Proofs.Ytndnkeijddagiaa
