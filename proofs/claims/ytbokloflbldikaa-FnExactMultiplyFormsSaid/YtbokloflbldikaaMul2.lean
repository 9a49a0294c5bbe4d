
import Derived.Test.YtbokloflbldikaaSumF
import Derived.Test.YtbokloflbldikaaTimes
import Derived.Test.YtbokloflbldikaaToldF
namespace Go.Proofs.Ytbokloflbldikaa
open Go.RowKit Go.Deep
def prodV (zs : List Int) (fs gs : List Tm) : List Tm := if isForm zs fs = true ∧ isForm zs gs = true ∧ (listOk zs (timesT zs gs [] fs) && decide ((timesT zs gs [] fs).length ≤ 400)) = true then timesT zs gs [] fs else []
def prodE (zs : List Int) (fs gs : List Tm) : Int := if isForm zs fs = true ∧ isForm zs gs = true then (if (listOk zs (timesT zs gs [] fs) && decide ((timesT zs gs [] fs).length ≤ 400)) = true then 0 else 3) else 1
theorem prodE_1 {zs : List Int} {fs gs : List Tm} (h : isForm zs fs = false ∨ isForm zs gs = false) : prodE zs fs gs = 1 ∧ prodV zs fs gs = [] := by
  have h1 : ¬ (isForm zs fs = true ∧ isForm zs gs = true) := fun ⟨a, b⟩ => by rcases h with h | h <;> simp [h] at a b
  exact ⟨by rw [prodE, if_neg h1], by rw [prodV, if_neg (fun h2 => h1 ⟨h2.1, h2.2.1⟩)]⟩
theorem prodE_0 {zs : List Int} {fs gs : List Tm} (h1 : isForm zs fs = true) (h2 : isForm zs gs = true) (h : (listOk zs (timesT zs gs [] fs) && decide ((timesT zs gs [] fs).length ≤ 400)) = true) : prodE zs fs gs = 0 ∧ prodV zs fs gs = timesT zs gs [] fs :=
  ⟨by rw [prodE, if_pos ⟨h1, h2⟩, if_pos h], by rw [prodV, if_pos ⟨h1, h2, h⟩]⟩
theorem prodE_3 {zs : List Int} {fs gs : List Tm} (h1 : isForm zs fs = true) (h2 : isForm zs gs = true) (h : (listOk zs (timesT zs gs [] fs) && decide ((timesT zs gs [] fs).length ≤ 400)) = false) : prodE zs fs gs = 3 ∧ prodV zs fs gs = [] :=
  ⟨by rw [prodE, if_pos ⟨h1, h2⟩, if_neg (by rw [h]; simp)], by rw [prodV, if_neg (fun h3 => by have := h3.2.2; rw [h] at this; cases this)]⟩
theorem fit_of {zs : List Int} {fs gs : List Tm} (h0 : degsOk zs = true) (h1 : isForm zs fs = true) (h2 : isForm zs gs = true) (t1 : ∀ t ∈ fs, IsTm t) (t2 : ∀ t ∈ gs, IsTm t) {t u : Tm} (ht : t ∈ fs) (hu : u ∈ gs) : Fit zs t.m u.m :=
  ⟨by have := degsOk_len h0; omega, (t1 t ht).1, (t2 u hu).1, isForm_fit h1 t ht, isForm_fit h2 u hu⟩
theorem two_of {zs : List Int} {fs gs : List Tm} (h0 : degsOk zs = true) (h1 : isForm zs fs = true) (h2 : isForm zs gs = true) (t1 : ∀ t ∈ fs, IsTm t) (t2 : ∀ t ∈ gs, IsTm t) : Two zs fs gs :=
  ⟨t1, t2, fun t ht u hu => (fit_of h0 h1 h2 t1 t2 ht hu).wide, isForm_f h1, isForm_f h2, by simp only [isForm, Bool.and_eq_true] at h2; exact listOk_srt h2.2.1⟩
set_option maxHeartbeats 8000000 in
set_option maxRecDepth 100000 in
theorem MultiplyForms_s {w : World} {da : Option Addr} {dn : Nat} {zs : List Int} {a1 a2 : Option Addr} {n1 n2 : Nat} {fs gs : List Tm} (dc c1 c2 : Nat) (hd : Ints w da dn zs) (hdn : dn ≤ 1048576) (h1 : Terms w a1 n1 fs) (hn1 : n1 ≤ 1048576) (h2 : Terms w a2 n2 gs) (hn2 : n2 ≤ 1048576) :
    Calls Try.prog 8 #[.slice da dn dc, .agg #[.slice a1 n1 c1], .agg #[.slice a2 n2 c2]] w fun e w' => ∃ v, e = .returned (.tuple #[.agg #[v], .int .i64 (prodE zs fs gs)]) ∧ OwnR w' w.heap.size v (prodV zs fs gs) ∧ Below w.heap.size w w' := by
  have HL := Lib.hid hd.len
  have hF := ((Own.new w 29 #[.slice a1 n1 c1]).alloc (.cells #[.slice a2 n2 c2] 29)).alloc (.cells #[.slice none 0 0] 29)
  have hG := (Own.new (w.alloc (.cells #[.slice a1 n1 c1] 29)) 29 #[.slice a2 n2 c2]).alloc (.cells #[.slice none 0 0] 29)
  have hR := Own.new ((w.alloc (.cells #[.slice a1 n1 c1] 29)).alloc (.cells #[.slice a2 n2 c2] 29)) 29 #[.slice none 0 0]
  simp only [size_alloc] at hG hR
  have hb := below_then (below_then (below_alloc1 w (.cells #[.slice a1 n1 c1] 29)) (below_alloc1 _ (.cells #[.slice a2 n2 c2] 29))) (below_alloc1 _ (.cells #[.slice none 0 0] 29))
  have cF := hF.cell 0
  have cG := hG.cell 0
  generalize hg6 : w.heap.size + 1 + 1 = g6 at *
  generalize hg1 : w.heap.size + 1 = g1 at *
  have hq : ∀ ts : List Tm, degsOk zs = true → isForm zs ts = (listOk zs ts && decide (ts.length ≤ 400)) := fun ts h => by rw [isForm, h, Bool.true_and]
  cases i0 : degsOk zs with
  | false =>
    have hE := Lib.hid (prodE_1 (fs := fs) (gs := gs) (Or.inl (by rw [isForm, i0]; rfl)))
    have I0 := Lib.hid i0
    clear i0 hq
    go_enter Try.func8, Try.ntmps8
    go_upto_region 1 with fail
    generalize ((w.alloc (.cells #[.slice a1 n1 c1] 29)).alloc (.cells #[.slice a2 n2 c2] 29)).alloc (.cells #[.slice none 0 0] 29) = w0 at *
    try simp only [hg6, hg1]
    go_wp2_with fail
    refine (l01Degrees_c dc (hd.keep hb) hdn).mono ?_
    rintro e w' ⟨rfl, rfl⟩
    rw [I0.out]
    clear cF cG
    have cR := hR.cell 0
    have fR := hR.frozen 0
    go_wp2_with fail
    have q := hR.set 0 (.slice none 0 0)
    refine bodyPost_ret (results_row2 rfl _ _ g6 29 #[.slice none 0 0] (0, 0) _ rfl q Try.underlying29 rfl Try.info_form) rfl ⟨.slice none 0 0, by rw [hE.out.1]; rfl, ?_, hb.setCell (p := ⟨g6, 0, none⟩) (by dsimp only; omega) _⟩
    rw [hE.out.2]
    exact ownR_nil _ _
  | true =>
    have I0 := Lib.hid i0
    have J1 := Lib.hid (hq fs i0)
    have J2 := Lib.hid (hq gs i0)
    cases i1 : isForm zs fs with
    | false =>
      have hE := Lib.hid (prodE_1 (gs := gs) (Or.inl i1))
      have K1 := Lib.hid (J1.out.symm.trans i1)
      clear i1 i0 hq
      go_enter Try.func8, Try.ntmps8
      go_upto_region 1 with fail
      generalize ((w.alloc (.cells #[.slice a1 n1 c1] 29)).alloc (.cells #[.slice a2 n2 c2] 29)).alloc (.cells #[.slice none 0 0] 29) = w0 at *
      try simp only [hg6, hg1]
      go_wp2_with fail
      refine (l01Degrees_c dc (hd.keep hb) hdn).mono ?_
      rintro e w' ⟨rfl, rfl⟩
      rw [I0.out]
      go_wp2_with fail
      refine (l01Is_c dc c1 (hd.keep hb) hdn (h1.keep hb) hn1).mono ?_
      rintro e w1 ⟨rfl, hb1⟩
      rw [K1.out]
      clear cF cG
      replace hb := below_trans' hb hb1 hb.size
      replace hF := hF.keep hb1 hF.lt
      replace hG := hG.keep hb1 hG.lt
      replace hR := hR.keep hb1 hR.lt
      clear hb1
      have cR := hR.cell 0
      have fR := hR.frozen 0
      go_wp2_with fail
      have q := hR.set 0 (.slice none 0 0)
      refine bodyPost_ret (results_row2 rfl _ _ g6 29 #[.slice none 0 0] (0, 0) _ rfl q Try.underlying29 rfl Try.info_form) rfl ⟨.slice none 0 0, by rw [hE.out.1]; rfl, ?_, hb.setCell (p := ⟨g6, 0, none⟩) (by dsimp only; omega) _⟩
      rw [hE.out.2]
      exact ownR_nil _ _
    | true =>
      have K1 := Lib.hid (J1.out.symm.trans i1)
      cases i2 : isForm zs gs with
      | false =>
        have hE := Lib.hid (prodE_1 (fs := fs) (Or.inr i2))
        have K2 := Lib.hid (J2.out.symm.trans i2)
        clear i1 i0 i2 hq
        go_enter Try.func8, Try.ntmps8
        go_upto_region 1 with fail
        generalize ((w.alloc (.cells #[.slice a1 n1 c1] 29)).alloc (.cells #[.slice a2 n2 c2] 29)).alloc (.cells #[.slice none 0 0] 29) = w0 at *
        try simp only [hg6, hg1]
        go_wp2_with fail
        refine (l01Degrees_c dc (hd.keep hb) hdn).mono ?_
        rintro e w' ⟨rfl, rfl⟩
        rw [I0.out]
        go_wp2_with fail
        refine (l01Is_c dc c1 (hd.keep hb) hdn (h1.keep hb) hn1).mono ?_
        rintro e w1 ⟨rfl, hb1⟩
        rw [K1.out]
        clear cF cG
        replace hb := below_trans' hb hb1 hb.size
        replace hF := hF.keep hb1 hF.lt
        replace hG := hG.keep hb1 hG.lt
        replace hR := hR.keep hb1 hR.lt
        clear hb1
        have cG := hG.cell 0
        go_wp2_with fail
        refine (l01Is_c dc c2 (hd.keep hb) hdn (h2.keep hb) hn2).mono ?_
        rintro e w2 ⟨rfl, hb2⟩
        rw [K2.out]
        clear cG
        replace hb := below_trans' hb hb2 hb.size
        replace hF := hF.keep hb2 hF.lt
        replace hG := hG.keep hb2 hG.lt
        replace hR := hR.keep hb2 hR.lt
        clear hb2
        have cR := hR.cell 0
        have fR := hR.frozen 0
        go_wp2_with fail
        have q := hR.set 0 (.slice none 0 0)
        refine bodyPost_ret (results_row2 rfl _ _ g6 29 #[.slice none 0 0] (0, 0) _ rfl q Try.underlying29 rfl Try.info_form) rfl ⟨.slice none 0 0, by rw [hE.out.1]; rfl, ?_, hb.setCell (p := ⟨g6, 0, none⟩) (by dsimp only; omega) _⟩
        rw [hE.out.2]
        exact ownR_nil _ _
      | true =>
        have K2 := Lib.hid (J2.out.symm.trans i2)
        have hl1 := h1.len
        have hl2 := h2.len
        have f1 := isForm_400 i1
        have f2 := isForm_400 i2
        have HTW := two_of i0 i1 i2 h1.2.1 h2.2.1
        obtain ⟨nR, hnR⟩ : ∃ nR, (timesT zs gs [] fs).length = nR := ⟨_, rfl⟩
        have hln := times_len (zs := zs) (gs := gs) fs []
        have hE0 := fun h => Lib.hid (prodE_0 i1 i2 h)
        have hE3 := fun h => Lib.hid (prodE_3 i1 i2 h)
        have HN := Lib.hid hnR
        have HT := Lib.hid HTW.tm
        have hn9 : nR ≤ 1048576 := by
          rw [hnR, List.length_nil] at hln
          have h5 : fs.length * gs.length ≤ 400 * 400 := Nat.mul_le_mul f1 f2
          omega
        obtain ⟨bq, hbq⟩ : ∃ bq, (listOk zs (timesT zs gs [] fs) && decide ((timesT zs gs [] fs).length ≤ 400)) = bq := ⟨_, rfl⟩
        have HBQ := Lib.hid hbq
        have HTWH := Lib.hid HTW
        clear i1 i2 i0 hq hnR hln hbq HTW
        go_enter Try.func8, Try.ntmps8
        go_upto_region 1 with fail
        generalize ((w.alloc (.cells #[.slice a1 n1 c1] 29)).alloc (.cells #[.slice a2 n2 c2] 29)).alloc (.cells #[.slice none 0 0] 29) = w0 at *
        try simp only [hg6, hg1]
        go_wp2_with fail
        refine (l01Degrees_c dc (hd.keep hb) hdn).mono ?_
        rintro e w' ⟨rfl, rfl⟩
        rw [I0.out]
        go_wp2_with fail
        refine (l01Is_c dc c1 (hd.keep hb) hdn (h1.keep hb) hn1).mono ?_
        rintro e w1 ⟨rfl, hb1⟩
        rw [K1.out]
        clear cF cG
        replace hb := below_trans' hb hb1 hb.size
        replace hF := hF.keep hb1 hF.lt
        replace hG := hG.keep hb1 hG.lt
        replace hR := hR.keep hb1 hR.lt
        clear hb1
        have cG := hG.cell 0
        go_wp2_with fail
        refine (l01Is_c dc c2 (hd.keep hb) hdn (h2.keep hb) hn2).mono ?_
        rintro e w2 ⟨rfl, hb2⟩
        rw [K2.out]
        clear cG
        replace hb := below_trans' hb hb2 hb.size
        replace hF := hF.keep hb2 hF.lt
        replace hG := hG.keep hb2 hG.lt
        replace hR := hR.keep hb2 hR.lt
        clear hb2
        have cF := hF.cell 0
        have cG := hG.cell 0
        go_wp2_with fail
        clear cF cG
        refine (l01Times_c dc c1 c2 (hd.keep hb) (h1.keep hb) (by omega) (h2.keep hb) (by omega) HTWH.out).mono ?_
        rintro e w3 ⟨v, rfl, hO0, hb3⟩
        have hO := hO0.r
        obtain ⟨va, vc, rfl, ht3⟩ := hO.terms HT.out HN.out
        have hl6 := hR.lt
        clear hO0
        replace hb := below_trans' hb hb3 hb.size
        replace hF := hF.keep hb3 hF.lt
        replace hG := hG.keep hb3 hG.lt
        replace hR := hR.keep hb3 hR.lt
        clear hb3
        cases bq with
        | true =>
          have hE := hE0 HBQ.out
          clear hE0 hE3
          go_wp2_with fail
          refine (l01Told_c (b := true) dc vc (hd.keep hb) hdn ht3 hn9 HBQ.out).mono ?_
          rintro e w4 ⟨rfl, hb4⟩
          simp only [if_true]
          replace hO := hO.keep hb4
          replace hb := below_trans' hb hb4 hb.size
          replace hF := hF.keep hb4 hF.lt
          replace hG := hG.keep hb4 hG.lt
          replace hR := hR.keep hb4 hR.lt
          clear hb4
          have cR := hR.cell 0
          have fR := hR.frozen 0
          go_wp2_with fail
          have q := hR.set 0 (.slice va nR vc)
          refine bodyPost_ret (results_row2 rfl _ _ g6 29 #[.slice va nR vc] (0, 0) _ rfl q Try.underlying29 rfl Try.info_form) rfl ⟨.slice va nR vc, by rw [hE.out.1]; rfl, ?_, hb.setCell (p := ⟨g6, 0, none⟩) (by dsimp only; omega) _⟩
          rw [hE.out.2]
          exact (hO.set (p := ⟨g6, 0, none⟩) (by dsimp only; omega) _).weaken (by omega)
        | false =>
          have hE := hE3 HBQ.out
          clear hE0 hE3
          go_wp2_with fail
          refine (l01Told_c (b := false) dc vc (hd.keep hb) hdn ht3 hn9 HBQ.out).mono ?_
          rintro e w4 ⟨rfl, hb4⟩
          simp only [Bool.false_eq_true, if_false]
          replace hb := below_trans' hb hb4 hb.size
          replace hF := hF.keep hb4 hF.lt
          replace hG := hG.keep hb4 hG.lt
          replace hR := hR.keep hb4 hR.lt
          clear hb4
          have cR := hR.cell 0
          have fR := hR.frozen 0
          go_wp2_with fail
          have q := hR.set 0 (.slice none 0 0)
          refine bodyPost_ret (results_row2 rfl _ _ g6 29 #[.slice none 0 0] (0, 0) _ rfl q Try.underlying29 rfl Try.info_form) rfl ⟨.slice none 0 0, by rw [hE.out.1]; rfl, ?_, hb.setCell (p := ⟨g6, 0, none⟩) (by dsimp only; omega) _⟩
          rw [hE.out.2]
          exact ownR_nil _ _
theorem Two.winOk {zs : List Int} {fs gs : List Tm} (h9 : ∀ t ∈ fs, ∀ u ∈ gs, Fit zs t.m u.m) : ∀ x ∈ timesT zs gs [] fs, monoOk zs x.m = within x.m :=
  times_all (p := fun m => monoOk zs m = within m) (by simp) (fun t ht u hu hj => by
    have F := h9 t ht u hu
    have hn : isNul zs t.m u.m = false := by
      unfold joinS at hj
      split at hj
      · exact absurd rfl hj
      · rename_i h1; simpa using h1
    rw [join_ne hj]
    exact sum_ok F hn)
theorem Two.lsOk {zs : List Int} {fs gs : List Tm} (h : Two zs fs gs) (h9 : ∀ t ∈ fs, ∀ u ∈ gs, Fit zs t.m u.m) : listOk zs (timesT zs gs [] fs) = (timesT zs gs [] fs).all (fun x => within x.m) := by
  rw [Bool.eq_iff_iff, List.all_eq_true]
  constructor
  · intro h1 x hx
    have := listOk_all h1 x hx
    simp only [okTm, Bool.and_eq_true] at this
    rw [← Two.winOk h9 x hx]
    exact this.1
  · intro h1
    refine listOk_of (fun x hx => ?_) h.good.srt
    have := h.good.nz x hx
    exact okTm_yes (by rw [Two.winOk h9 x hx]; exact h1 x hx) (by simpa using this)
theorem len_of_nodup {α : Type} [DecidableEq α] : ∀ {K l : List α}, K.Nodup → (∀ x ∈ K, x ∈ l) → K.length ≤ l.length
  | [], _, _, _ => Nat.zero_le _
  | x :: K, l, hn, h => by
    rw [List.nodup_cons] at hn
    have hx := h x (by simp)
    have h1 := len_of_nodup (K := K) (l := l.erase x) hn.2 (fun y hy => (List.mem_erase_of_ne (fun e => hn.1 (by rw [← e]; exact hy))).2 (h y (by simp [hy])))
    rw [List.length_erase_of_mem hx] at h1
    have := List.length_pos_of_mem hx
    rw [List.length_cons]
    omega
theorem coef_ne {ts : List Tm} {m : List Int} (h : ¬ coef ts m = 0) : ∃ t ∈ ts, t.m = m := by
  by_cases h1 : ∃ t ∈ ts, t.m = m
  · exact h1
  · exact absurd (coef_none fun t ht e => h1 ⟨t, ht, e⟩) h
set_option maxHeartbeats 8000000 in
set_option maxRecDepth 100000 in
theorem MultiplyForms_n {w : World} {da : Option Addr} {dn : Nat} {zs : List Int} {a1 a2 : Option Addr} {n1 n2 : Nat} {fs gs : List Tm} (dc c1 c2 : Nat) (hd : Ints w da dn zs) (hdn : dn ≤ 1048576) (h1 : Terms w a1 n1 fs) (hn1 : n1 ≤ 1048576) (h2 : Terms w a2 n2 gs) (hn2 : n2 ≤ 1048576) (hi : ¬ (isForm zs fs = true ∧ isForm zs gs = true)) :
    Calls Try.prog 11 #[.slice da dn dc, .agg #[.slice a1 n1 c1], .agg #[.slice a2 n2 c2]] w fun e w' => ∃ v, e = .returned (.tuple #[.agg #[v], .int .i64 (prodE zs fs gs)]) ∧ OwnR w' w.heap.size v (prodV zs fs gs) ∧ Below w.heap.size w w' := by
  have HL := Lib.hid hd.len
  have hF := ((Own.new w 29 #[.slice a1 n1 c1]).alloc (.cells #[.slice a2 n2 c2] 29)).alloc (.cells #[.slice none 0 0] 29)
  have hG := (Own.new (w.alloc (.cells #[.slice a1 n1 c1] 29)) 29 #[.slice a2 n2 c2]).alloc (.cells #[.slice none 0 0] 29)
  have hR := Own.new ((w.alloc (.cells #[.slice a1 n1 c1] 29)).alloc (.cells #[.slice a2 n2 c2] 29)) 29 #[.slice none 0 0]
  simp only [size_alloc] at hG hR
  have hb := below_then (below_then (below_alloc1 w (.cells #[.slice a1 n1 c1] 29)) (below_alloc1 _ (.cells #[.slice a2 n2 c2] 29))) (below_alloc1 _ (.cells #[.slice none 0 0] 29))
  have cF := hF.cell 0
  have cG := hG.cell 0
  generalize hg6 : w.heap.size + 1 + 1 = g6 at *
  generalize hg1 : w.heap.size + 1 = g1 at *
  cases i1 : isForm zs fs with
  | false =>
    have hE := Lib.hid (prodE_1 (gs := gs) (Or.inl i1))
    have I1 := Lib.hid i1
    clear i1
    go_enter Try.func11, Try.ntmps11
    go_upto_region 1 with fail
    generalize ((w.alloc (.cells #[.slice a1 n1 c1] 29)).alloc (.cells #[.slice a2 n2 c2] 29)).alloc (.cells #[.slice none 0 0] 29) = w0 at *
    try simp only [hg6, hg1]
    go_wp2_with fail
    refine (IsForm_c dc c1 (hd.keep hb) hdn (h1.keep hb) hn1).mono ?_
    rintro e w1 ⟨rfl, hb1⟩
    rw [I1.out]
    clear cF cG
    replace hb := below_trans' hb hb1 hb.size
    replace hF := hF.keep hb1 hF.lt
    replace hG := hG.keep hb1 hG.lt
    replace hR := hR.keep hb1 hR.lt
    clear hb1
    have cR := hR.cell 0
    have fR := hR.frozen 0
    go_wp2_with fail
    have q := hR.set 0 (.slice none 0 0)
    refine bodyPost_ret (results_row2 rfl _ _ g6 29 #[.slice none 0 0] (0, 0) _ rfl q Try.underlying29 rfl Try.info_form) rfl ⟨.slice none 0 0, by rw [hE.out.1]; rfl, ?_, hb.setCell (p := ⟨g6, 0, none⟩) (by dsimp only; omega) _⟩
    rw [hE.out.2]
    exact ownR_nil _ _
  | true =>
    have I1 := Lib.hid i1
    cases i2 : isForm zs gs with
    | false =>
      have hE := Lib.hid (prodE_1 (fs := fs) (Or.inr i2))
      have I2 := Lib.hid i2
      clear i1 i2
      go_enter Try.func11, Try.ntmps11
      go_upto_region 1 with fail
      generalize ((w.alloc (.cells #[.slice a1 n1 c1] 29)).alloc (.cells #[.slice a2 n2 c2] 29)).alloc (.cells #[.slice none 0 0] 29) = w0 at *
      try simp only [hg6, hg1]
      go_wp2_with fail
      refine (IsForm_c dc c1 (hd.keep hb) hdn (h1.keep hb) hn1).mono ?_
      rintro e w1 ⟨rfl, hb1⟩
      rw [I1.out]
      clear cF cG
      replace hb := below_trans' hb hb1 hb.size
      replace hF := hF.keep hb1 hF.lt
      replace hG := hG.keep hb1 hG.lt
      replace hR := hR.keep hb1 hR.lt
      clear hb1
      have cG := hG.cell 0
      go_wp2_with fail
      clear cG
      refine (IsForm_c dc c2 (hd.keep hb) hdn (h2.keep hb) hn2).mono ?_
      rintro e w2 ⟨rfl, hb2⟩
      rw [I2.out]
      replace hb := below_trans' hb hb2 hb.size
      replace hF := hF.keep hb2 hF.lt
      replace hG := hG.keep hb2 hG.lt
      replace hR := hR.keep hb2 hR.lt
      clear hb2
      have cR := hR.cell 0
      have fR := hR.frozen 0
      go_wp2_with fail
      have q := hR.set 0 (.slice none 0 0)
      refine bodyPost_ret (results_row2 rfl _ _ g6 29 #[.slice none 0 0] (0, 0) _ rfl q Try.underlying29 rfl Try.info_form) rfl ⟨.slice none 0 0, by rw [hE.out.1]; rfl, ?_, hb.setCell (p := ⟨g6, 0, none⟩) (by dsimp only; omega) _⟩
      rw [hE.out.2]
      exact ownR_nil _ _
    | true => exact absurd (And.intro I1.out i2) hi
theorem MultiplyForms_c {w : World} {da : Option Addr} {dn : Nat} {zs : List Int} {a1 a2 : Option Addr} {n1 n2 : Nat} {fs gs : List Tm} (dc c1 c2 : Nat) (hd : Ints w da dn zs) (hdn : dn ≤ 1048576) (h1 : Terms w a1 n1 fs) (hn1 : n1 ≤ 1048576) (h2 : Terms w a2 n2 gs) (hn2 : n2 ≤ 1048576) :
    Calls Try.prog 11 #[.slice da dn dc, .agg #[.slice a1 n1 c1], .agg #[.slice a2 n2 c2]] w fun e w' => ∃ v, e = .returned (.tuple #[.agg #[v], .int .i64 (prodE zs fs gs)]) ∧ OwnR w' w.heap.size v (prodV zs fs gs) ∧ Below w.heap.size w w' := by
  by_cases hi : isForm zs fs = true ∧ isForm zs gs = true
  · obtain ⟨i1, i2⟩ := hi
    have T := two_of (isForm_degs i1) i1 i2 h1.2.1 h2.2.1
    have h9 := fun t (ht : t ∈ fs) u (hu : u ∈ gs) => fit_of (isForm_degs i1) i1 i2 h1.2.1 h2.2.1 ht hu
    refine (MultiplyForms_p dc c1 c2 hd hdn h1 hn1 h2 hn2 i1 i2 (fun wx b n S hM hn hS => form_c hM (by omega) hS)).mono ?_
    rintro e w' ⟨hf, hb⟩
    obtain ⟨hco, hgd⟩ := times_coef (zs := zs) (fun g hg => (h2.2.1 g hg).1.1) T.s2 fs [] zeroS (fun t ht => (h1.2.1 t ht).1.1) good_nil (fun _ => rfl)
    have hle : ∀ x ∈ timesT zs gs [] fs, IsMono x.m := fun x hx => (T.tm x hx).1
    rcases hf with ⟨v, L, rfl, hO, hs, ht, hF, hW, hl, hc⟩ | ⟨rfl, hbad⟩
    · have hLR : L = timesT zs gs [] fs := srt_ext L _ hs hgd.srt (fun t h => (ht t h).1) hle (fun t h => by have := hF t h; omega) (fun t h => by have := hgd.nz t h; omega) (fun m hm => by rw [hc m hm, hco m])
      subst hLR
      have hok : (listOk zs (timesT zs gs [] fs) && decide ((timesT zs gs [] fs).length ≤ 400)) = true := by
        rw [T.lsOk h9, Bool.and_eq_true, decide_eq_true_eq, List.all_eq_true]
        exact ⟨hW, hl⟩
      obtain ⟨e1, e2⟩ := prodE_0 i1 i2 hok
      exact ⟨v, by rw [e1], by rw [e2]; exact hO, hb⟩
    · have hok : (listOk zs (timesT zs gs [] fs) && decide ((timesT zs gs [] fs).length ≤ 400)) = false := by
        rw [Bool.and_eq_false_iff, decide_eq_false_iff_not]
        rcases hbad with ⟨m, hm, hne, hw⟩ | ⟨K, hK, h4, hk⟩
        · left
          rw [hco m] at hne
          obtain ⟨t, ht, rfl⟩ := coef_ne hne
          rw [T.lsOk h9, List.all_eq_false]
          exact ⟨t, ht, by rw [hw]; simp⟩
        · right
          have hsub : ∀ m ∈ K, m ∈ (timesT zs gs [] fs).map (·.m) := fun m hm => by
            have h := (hk m hm).2
            rw [hco m] at h
            obtain ⟨t, ht, rfl⟩ := coef_ne h
            exact List.mem_map.2 ⟨t, ht, rfl⟩
          have := len_of_nodup hK hsub
          rw [List.length_map] at this
          omega
      obtain ⟨e1, e2⟩ := prodE_3 i1 i2 hok
      exact ⟨.slice none 0 0, by rw [e1], by rw [e2]; exact ownR_nil _ _, hb⟩
  · exact MultiplyForms_n dc c1 c2 hd hdn h1 hn1 h2 hn2 hi
end Go.Proofs.Ytbokloflbldikaa
