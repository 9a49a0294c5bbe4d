/- Sums of forms: the program's and the model's. -/
import Derived.Test.YtcafccfoeednnaaMerge
import Derived.Test.YtcafccfoeednnaaToldF
namespace Go.Proofs.Ytcafccfoeednnaa
open Go.RowKit Go.Deep

def addV (zs : List Int) (fs gs : List Tm) : List Tm := if isForm zs fs = true ∧ isForm zs gs = true ∧ (addT 1 fs gs).length ≤ 400 then addT 1 fs gs else []
def addE (zs : List Int) (fs gs : List Tm) : Int := if isForm zs fs = true ∧ isForm zs gs = true then (if (addT 1 fs gs).length ≤ 400 then 0 else 3) else 1
theorem addE_1 {zs : List Int} {fs gs : List Tm} (h : isForm zs fs = false ∨ isForm zs gs = false) : addE zs fs gs = 1 ∧ addV zs fs gs = [] := by
  have h1 : ¬ (isForm zs fs = true ∧ isForm zs gs = true) := fun ⟨a, b⟩ => by rcases h with h | h <;> simp [h] at a b
  exact ⟨by rw [addE, if_neg h1], by rw [addV, if_neg (fun h2 => h1 ⟨h2.1, h2.2.1⟩)]⟩
theorem addE_0 {zs : List Int} {fs gs : List Tm} (h1 : isForm zs fs = true) (h2 : isForm zs gs = true) (h : (addT 1 fs gs).length ≤ 400) : addE zs fs gs = 0 ∧ addV zs fs gs = addT 1 fs gs :=
  ⟨by rw [addE, if_pos ⟨h1, h2⟩, if_pos h], by rw [addV, if_pos ⟨h1, h2, h⟩]⟩
theorem addE_3 {zs : List Int} {fs gs : List Tm} (h1 : isForm zs fs = true) (h2 : isForm zs gs = true) (h : ¬ (addT 1 fs gs).length ≤ 400) : addE zs fs gs = 3 ∧ addV zs fs gs = [] :=
  ⟨by rw [addE, if_pos ⟨h1, h2⟩, if_neg h], by rw [addV, if_neg (fun h3 => h h3.2.2)]⟩

set_option maxHeartbeats 8000000 in
set_option maxRecDepth 100000 in
theorem AddForms_c {w : World} {da : Option Addr} {dn : Nat} {zs : List Int} {b1 o1 b2 o2 n1 n2 : Nat} {fs gs : List Tm} (dc c1 c2 : Nat) (hd : Ints w da dn zs) (hdn : dn ≤ 1048576) (h1 : Terms w (some ⟨b1, o1, none⟩) n1 fs) (hn1 : n1 ≤ 1048576) (hc1 : n1 ≤ c1) (h2 : Terms w (some ⟨b2, o2, none⟩) n2 gs) (hn2 : n2 ≤ 1048576) (hc2 : n2 ≤ c2) :
    Calls Try.prog 25 #[.slice da dn dc, .agg #[.slice (some ⟨b1, o1, none⟩) n1 c1], .agg #[.slice (some ⟨b2, o2, none⟩) n2 c2]] w fun e w' => ∃ v, e = .returned (.tuple #[.agg #[v], .int .i64 (addE zs fs gs)]) ∧ OwnR w' w.heap.size v (addV zs fs gs) ∧ Below w.heap.size w w' := by
  have HL := Lib.hid hd.len
  have hF := ((Own.new w 49 #[.slice (some ⟨b1, o1, none⟩) n1 c1]).alloc (.cells #[.slice (some ⟨b2, o2, none⟩) n2 c2] 49)).alloc (.cells #[.slice none 0 0] 49)
  have hG := (Own.new (w.alloc (.cells #[.slice (some ⟨b1, o1, none⟩) n1 c1] 49)) 49 #[.slice (some ⟨b2, o2, none⟩) n2 c2]).alloc (.cells #[.slice none 0 0] 49)
  have hR := Own.new ((w.alloc (.cells #[.slice (some ⟨b1, o1, none⟩) n1 c1] 49)).alloc (.cells #[.slice (some ⟨b2, o2, none⟩) n2 c2] 49)) 49 #[.slice none 0 0]
  simp only [size_alloc] at hG hR
  have hb := below_then (below_then (below_alloc1 w (.cells #[.slice (some ⟨b1, o1, none⟩) n1 c1] 49)) (below_alloc1 _ (.cells #[.slice (some ⟨b2, o2, none⟩) n2 c2] 49))) (below_alloc1 _ (.cells #[.slice none 0 0] 49))
  have cF := hF.cell 0
  have cG := hG.cell 0
  generalize hg6 : w.heap.size + 1 + 1 = g6 at *
  generalize hg1 : w.heap.size + 1 = g1 at *
  cases i1 : isForm zs fs with
  | false =>
    have hE := Lib.hid (addE_1 (gs := gs) (Or.inl i1))
    have I1 := Lib.hid i1
    clear i1
    go_enter Try.func25, Try.ntmps25
    go_upto_region 1 with fail
    generalize ((w.alloc (.cells #[.slice (some ⟨b1, o1, none⟩) n1 c1] 49)).alloc (.cells #[.slice (some ⟨b2, o2, none⟩) n2 c2] 49)).alloc (.cells #[.slice none 0 0] 49) = w0 at *
    try simp only [hg6, hg1]
    go_wp2_with fail
    refine (IsForm_c dc c1 (hd.keep hb) hdn (h1.keep hb) hn1).mono ?_
    rintro e w1 ⟨rfl, hb1⟩
    rw [I1.out]
    clear cF cG
    replace hb := below_trans' hb hb1 hb.size
    replace hF := hF.keep hb1 hF.lt
    replace hG := hG.keep hb1 hG.lt
    replace hR := hR.keep hb1 hR.lt
    clear hb1
    have cR := hR.cell 0
    have fR := hR.frozen 0
    go_wp2_with fail
    have q := hR.set 0 (.slice none 0 0)
    refine bodyPost_ret (results_row2 rfl _ _ g6 49 #[.slice none 0 0] (0, 0) _ rfl q Try.underlying49 rfl Try.info_form) rfl ⟨.slice none 0 0, by rw [hE.out.1]; rfl, ?_, hb.setCell (p := ⟨g6, 0, none⟩) (by dsimp only; omega) _⟩
    rw [hE.out.2]
    exact ownR_nil _ _
  | true =>
    have I1 := Lib.hid i1
    cases i2 : isForm zs gs with
    | false =>
      have hE := Lib.hid (addE_1 (fs := fs) (Or.inr i2))
      have I2 := Lib.hid i2
      clear i1 i2
      go_enter Try.func25, Try.ntmps25
      go_upto_region 1 with fail
      generalize ((w.alloc (.cells #[.slice (some ⟨b1, o1, none⟩) n1 c1] 49)).alloc (.cells #[.slice (some ⟨b2, o2, none⟩) n2 c2] 49)).alloc (.cells #[.slice none 0 0] 49) = w0 at *
      try simp only [hg6, hg1]
      go_wp2_with fail
      refine (IsForm_c dc c1 (hd.keep hb) hdn (h1.keep hb) hn1).mono ?_
      rintro e w1 ⟨rfl, hb1⟩
      rw [I1.out]
      clear cF cG
      replace hb := below_trans' hb hb1 hb.size
      replace hF := hF.keep hb1 hF.lt
      replace hG := hG.keep hb1 hG.lt
      replace hR := hR.keep hb1 hR.lt
      clear hb1
      have cG := hG.cell 0
      go_wp2_with fail
      clear cG
      refine (IsForm_c dc c2 (hd.keep hb) hdn (h2.keep hb) hn2).mono ?_
      rintro e w2 ⟨rfl, hb2⟩
      rw [I2.out]
      replace hb := below_trans' hb hb2 hb.size
      replace hF := hF.keep hb2 hF.lt
      replace hG := hG.keep hb2 hG.lt
      replace hR := hR.keep hb2 hR.lt
      clear hb2
      have cR := hR.cell 0
      have fR := hR.frozen 0
      go_wp2_with fail
      have q := hR.set 0 (.slice none 0 0)
      refine bodyPost_ret (results_row2 rfl _ _ g6 49 #[.slice none 0 0] (0, 0) _ rfl q Try.underlying49 rfl Try.info_form) rfl ⟨.slice none 0 0, by rw [hE.out.1]; rfl, ?_, hb.setCell (p := ⟨g6, 0, none⟩) (by dsimp only; omega) _⟩
      rw [hE.out.2]
      exact ownR_nil _ _
    | true =>
      have I2 := Lib.hid i2
      have hl1 := h1.len
      have hl2 := h2.len
      have f1 := isForm_400 i1
      have f2 := isForm_400 i2
      obtain ⟨nR, hnR⟩ : ∃ nR, (addT 1 fs gs).length = nR := ⟨_, rfl⟩
      have hE0 := fun h => Lib.hid (addE_0 i1 i2 (by rw [hnR]; exact h))
      have hE3 := fun h => Lib.hid (addE_3 i1 i2 (by rw [hnR]; exact h))
      have HM := Lib.hid (isForm_f i1)
      have HM2 := Lib.hid (isForm_f i2)
      have HN := Lib.hid hnR
      have HT := Lib.hid (addT_tm (k := 1) h1.2.1 h2.2.1)
      clear i1 i2 hnR
      go_enter Try.func25, Try.ntmps25
      go_upto_region 1 with fail
      generalize ((w.alloc (.cells #[.slice (some ⟨b1, o1, none⟩) n1 c1] 49)).alloc (.cells #[.slice (some ⟨b2, o2, none⟩) n2 c2] 49)).alloc (.cells #[.slice none 0 0] 49) = w0 at *
      try simp only [hg6, hg1]
      go_wp2_with fail
      refine (IsForm_c dc c1 (hd.keep hb) hdn (h1.keep hb) hn1).mono ?_
      rintro e w1 ⟨rfl, hb1⟩
      rw [I1.out]
      clear cF cG
      replace hb := below_trans' hb hb1 hb.size
      replace hF := hF.keep hb1 hF.lt
      replace hG := hG.keep hb1 hG.lt
      replace hR := hR.keep hb1 hR.lt
      clear hb1
      have cG := hG.cell 0
      go_wp2_with fail
      clear cG
      refine (IsForm_c dc c2 (hd.keep hb) hdn (h2.keep hb) hn2).mono ?_
      rintro e w2 ⟨rfl, hb2⟩
      rw [I2.out]
      replace hb := below_trans' hb hb2 hb.size
      replace hF := hF.keep hb2 hF.lt
      replace hG := hG.keep hb2 hG.lt
      replace hR := hR.keep hb2 hR.lt
      clear hb2
      have cF := hF.cell 0
      have cG := hG.cell 0
      go_wp2_with fail
      clear cF cG
      refine (mergeTerms_c c1 c2 (h1.keep hb) (h2.keep hb) hc1 hc2 (by omega) HM.out HM2.out).mono ?_
      rintro e w3 ⟨v, rfl, hO, hb3⟩
      obtain ⟨va, vc, rfl, -⟩ := hO.terms HT.out HN.out
      have hl6 := hR.lt
      replace hb := below_trans' hb hb3 hb.size
      replace hF := hF.keep hb3 hF.lt
      replace hG := hG.keep hb3 hG.lt
      replace hR := hR.keep hb3 hR.lt
      clear hb3
      have cR := hR.cell 0
      have fR := hR.frozen 0
      by_cases h4 : nR ≤ 400
      · have hE := hE0 h4
        clear hE0 hE3
        have h5 : ¬ ((400 : Int) < (nR : Int)) := by omega
        go_wp2_with fail
        have q := hR.set 0 (.slice va nR vc)
        refine bodyPost_ret (results_row2 rfl _ _ g6 49 #[.slice va nR vc] (0, 0) _ rfl q Try.underlying49 rfl Try.info_form) rfl ⟨.slice va nR vc, by rw [hE.out.1]; rfl, ?_, hb.setCell (p := ⟨g6, 0, none⟩) (by dsimp only; omega) _⟩
        rw [hE.out.2]
        exact (hO.set (p := ⟨g6, 0, none⟩) (by dsimp only; omega) _).weaken (by omega)
      · have hE := hE3 h4
        clear hE0 hE3
        have h5 : (400 : Int) < (nR : Int) := by omega
        go_wp2_with fail
        have q := hR.set 0 (.slice none 0 0)
        refine bodyPost_ret (results_row2 rfl _ _ g6 49 #[.slice none 0 0] (0, 0) _ rfl q Try.underlying49 rfl Try.info_form) rfl ⟨.slice none 0 0, by rw [hE.out.1]; rfl, ?_, hb.setCell (p := ⟨g6, 0, none⟩) (by dsimp only; omega) _⟩
        rw [hE.out.2]
        exact ownR_nil _ _

set_option maxHeartbeats 8000000 in
set_option maxRecDepth 100000 in
theorem AddForms_s {w : World} {da : Option Addr} {dn : Nat} {zs : List Int} {a1 a2 : Option Addr} {n1 n2 : Nat} {fs gs : List Tm} (dc c1 c2 : Nat) (hd : Ints w da dn zs) (hdn : dn ≤ 1048576) (h1 : Terms w a1 n1 fs) (hn1 : n1 ≤ 1048576) (h2 : Terms w a2 n2 gs) (hn2 : n2 ≤ 1048576) :
    Calls Try.prog 22 #[.slice da dn dc, .agg #[.slice a1 n1 c1], .agg #[.slice a2 n2 c2]] w fun e w' => ∃ v, e = .returned (.tuple #[.agg #[v], .int .i64 (addE zs fs gs)]) ∧ OwnR w' w.heap.size v (addV zs fs gs) ∧ Below w.heap.size w w' := by
  have HL := Lib.hid hd.len
  have hF := ((Own.new w 49 #[.slice a1 n1 c1]).alloc (.cells #[.slice a2 n2 c2] 49)).alloc (.cells #[.slice none 0 0] 49)
  have hG := (Own.new (w.alloc (.cells #[.slice a1 n1 c1] 49)) 49 #[.slice a2 n2 c2]).alloc (.cells #[.slice none 0 0] 49)
  have hR := Own.new ((w.alloc (.cells #[.slice a1 n1 c1] 49)).alloc (.cells #[.slice a2 n2 c2] 49)) 49 #[.slice none 0 0]
  simp only [size_alloc] at hG hR
  have hb := below_then (below_then (below_alloc1 w (.cells #[.slice a1 n1 c1] 49)) (below_alloc1 _ (.cells #[.slice a2 n2 c2] 49))) (below_alloc1 _ (.cells #[.slice none 0 0] 49))
  have cF := hF.cell 0
  have cG := hG.cell 0
  generalize hg6 : w.heap.size + 1 + 1 = g6 at *
  generalize hg1 : w.heap.size + 1 = g1 at *
  have hq : ∀ ts : List Tm, degsOk zs = true → isForm zs ts = (listOk zs ts && decide (ts.length ≤ 400)) := fun ts h => by rw [isForm, h, Bool.true_and]
  cases i0 : degsOk zs with
  | false =>
    have hE := Lib.hid (addE_1 (fs := fs) (gs := gs) (Or.inl (by rw [isForm, i0]; rfl)))
    have I0 := Lib.hid i0
    clear i0 hq
    go_enter Try.func22, Try.ntmps22
    go_upto_region 1 with fail
    generalize ((w.alloc (.cells #[.slice a1 n1 c1] 49)).alloc (.cells #[.slice a2 n2 c2] 49)).alloc (.cells #[.slice none 0 0] 49) = w0 at *
    try simp only [hg6, hg1]
    go_wp2_with fail
    refine (l01Degrees_c dc (hd.keep hb) hdn).mono ?_
    rintro e w' ⟨rfl, rfl⟩
    rw [I0.out]
    clear cF cG
    have cR := hR.cell 0
    have fR := hR.frozen 0
    go_wp2_with fail
    have q := hR.set 0 (.slice none 0 0)
    refine bodyPost_ret (results_row2 rfl _ _ g6 49 #[.slice none 0 0] (0, 0) _ rfl q Try.underlying49 rfl Try.info_form) rfl ⟨.slice none 0 0, by rw [hE.out.1]; rfl, ?_, hb.setCell (p := ⟨g6, 0, none⟩) (by dsimp only; omega) _⟩
    rw [hE.out.2]
    exact ownR_nil _ _
  | true =>
    have I0 := Lib.hid i0
    have J1 := Lib.hid (hq fs i0)
    have J2 := Lib.hid (hq gs i0)
    cases i1 : isForm zs fs with
    | false =>
      have hE := Lib.hid (addE_1 (gs := gs) (Or.inl i1))
      have K1 := Lib.hid (J1.out.symm.trans i1)
      clear i1 i0 hq
      go_enter Try.func22, Try.ntmps22
      go_upto_region 1 with fail
      generalize ((w.alloc (.cells #[.slice a1 n1 c1] 49)).alloc (.cells #[.slice a2 n2 c2] 49)).alloc (.cells #[.slice none 0 0] 49) = w0 at *
      try simp only [hg6, hg1]
      go_wp2_with fail
      refine (l01Degrees_c dc (hd.keep hb) hdn).mono ?_
      rintro e w' ⟨rfl, rfl⟩
      rw [I0.out]
      go_wp2_with fail
      refine (l01Is_c dc c1 (hd.keep hb) hdn (h1.keep hb) hn1).mono ?_
      rintro e w1 ⟨rfl, hb1⟩
      rw [K1.out]
      clear cF cG
      replace hb := below_trans' hb hb1 hb.size
      replace hF := hF.keep hb1 hF.lt
      replace hG := hG.keep hb1 hG.lt
      replace hR := hR.keep hb1 hR.lt
      clear hb1
      have cR := hR.cell 0
      have fR := hR.frozen 0
      go_wp2_with fail
      have q := hR.set 0 (.slice none 0 0)
      refine bodyPost_ret (results_row2 rfl _ _ g6 49 #[.slice none 0 0] (0, 0) _ rfl q Try.underlying49 rfl Try.info_form) rfl ⟨.slice none 0 0, by rw [hE.out.1]; rfl, ?_, hb.setCell (p := ⟨g6, 0, none⟩) (by dsimp only; omega) _⟩
      rw [hE.out.2]
      exact ownR_nil _ _
    | true =>
      have K1 := Lib.hid (J1.out.symm.trans i1)
      cases i2 : isForm zs gs with
      | false =>
        have hE := Lib.hid (addE_1 (fs := fs) (Or.inr i2))
        have K2 := Lib.hid (J2.out.symm.trans i2)
        clear i1 i0 i2 hq
        go_enter Try.func22, Try.ntmps22
        go_upto_region 1 with fail
        generalize ((w.alloc (.cells #[.slice a1 n1 c1] 49)).alloc (.cells #[.slice a2 n2 c2] 49)).alloc (.cells #[.slice none 0 0] 49) = w0 at *
        try simp only [hg6, hg1]
        go_wp2_with fail
        refine (l01Degrees_c dc (hd.keep hb) hdn).mono ?_
        rintro e w' ⟨rfl, rfl⟩
        rw [I0.out]
        go_wp2_with fail
        refine (l01Is_c dc c1 (hd.keep hb) hdn (h1.keep hb) hn1).mono ?_
        rintro e w1 ⟨rfl, hb1⟩
        rw [K1.out]
        clear cF cG
        replace hb := below_trans' hb hb1 hb.size
        replace hF := hF.keep hb1 hF.lt
        replace hG := hG.keep hb1 hG.lt
        replace hR := hR.keep hb1 hR.lt
        clear hb1
        have cG := hG.cell 0
        go_wp2_with fail
        refine (l01Is_c dc c2 (hd.keep hb) hdn (h2.keep hb) hn2).mono ?_
        rintro e w2 ⟨rfl, hb2⟩
        rw [K2.out]
        clear cG
        replace hb := below_trans' hb hb2 hb.size
        replace hF := hF.keep hb2 hF.lt
        replace hG := hG.keep hb2 hG.lt
        replace hR := hR.keep hb2 hR.lt
        clear hb2
        have cR := hR.cell 0
        have fR := hR.frozen 0
        go_wp2_with fail
        have q := hR.set 0 (.slice none 0 0)
        refine bodyPost_ret (results_row2 rfl _ _ g6 49 #[.slice none 0 0] (0, 0) _ rfl q Try.underlying49 rfl Try.info_form) rfl ⟨.slice none 0 0, by rw [hE.out.1]; rfl, ?_, hb.setCell (p := ⟨g6, 0, none⟩) (by dsimp only; omega) _⟩
        rw [hE.out.2]
        exact ownR_nil _ _
      | true =>
        have K2 := Lib.hid (J2.out.symm.trans i2)
        have hl1 := h1.len
        have hl2 := h2.len
        have f1 := isForm_400 i1
        have f2 := isForm_400 i2
        obtain ⟨nR, hnR⟩ : ∃ nR, (addT 1 fs gs).length = nR := ⟨_, rfl⟩
        have hln := addT_len (k := 1) fs gs
        have hE0 := fun h => Lib.hid (addE_0 i1 i2 (by rw [hnR]; exact h))
        have hE3 := fun h => Lib.hid (addE_3 i1 i2 (by rw [hnR]; exact h))
        have HM := Lib.hid (fun t ht => (show 0 ≤ t.f ∧ t.f ≤ 10006 by have := isForm_f i1 t ht; omega) : ∀ t ∈ fs, 0 ≤ t.f ∧ t.f ≤ 10006)
        have HM2 := Lib.hid (fun t ht => (show 0 ≤ t.f ∧ t.f ≤ 10006 by have := isForm_f i2 t ht; omega) : ∀ t ∈ gs, 0 ≤ t.f ∧ t.f ≤ 10006)
        have HN := Lib.hid hnR
        have HT := Lib.hid (addT_tm (k := 1) h1.2.1 h2.2.1)
        have hok : listOk zs (addT 1 fs gs) = true := addT_listOk h1.2.1 h2.2.1 (by have := K1.out; simp only [Bool.and_eq_true] at this; exact this.1) (by have := K2.out; simp only [Bool.and_eq_true] at this; exact this.1)
        have HOK := Lib.hid hok
        have hn9 : nR ≤ 1048576 := by omega
        clear i1 i2 i0 hq hnR hok hln
        go_enter Try.func22, Try.ntmps22
        go_upto_region 1 with fail
        generalize ((w.alloc (.cells #[.slice a1 n1 c1] 49)).alloc (.cells #[.slice a2 n2 c2] 49)).alloc (.cells #[.slice none 0 0] 49) = w0 at *
        try simp only [hg6, hg1]
        go_wp2_with fail
        refine (l01Degrees_c dc (hd.keep hb) hdn).mono ?_
        rintro e w' ⟨rfl, rfl⟩
        rw [I0.out]
        go_wp2_with fail
        refine (l01Is_c dc c1 (hd.keep hb) hdn (h1.keep hb) hn1).mono ?_
        rintro e w1 ⟨rfl, hb1⟩
        rw [K1.out]
        clear cF cG
        replace hb := below_trans' hb hb1 hb.size
        replace hF := hF.keep hb1 hF.lt
        replace hG := hG.keep hb1 hG.lt
        replace hR := hR.keep hb1 hR.lt
        clear hb1
        have cG := hG.cell 0
        go_wp2_with fail
        refine (l01Is_c dc c2 (hd.keep hb) hdn (h2.keep hb) hn2).mono ?_
        rintro e w2 ⟨rfl, hb2⟩
        rw [K2.out]
        clear cG
        replace hb := below_trans' hb hb2 hb.size
        replace hF := hF.keep hb2 hF.lt
        replace hG := hG.keep hb2 hG.lt
        replace hR := hR.keep hb2 hR.lt
        clear hb2
        have cF := hF.cell 0
        have cG := hG.cell 0
        go_wp2_with fail
        clear cF cG
        refine (l01Add_c c1 c2 1 (by omega) (by omega) (h1.keep hb) (h2.keep hb) (by omega) HM.out HM2.out).mono ?_
        rintro e w3 ⟨v, rfl, hO0, hb3⟩
        have hO := hO0.r
        obtain ⟨va, vc, rfl, ht3⟩ := hO.terms HT.out HN.out
        have hl6 := hR.lt
        clear hO0
        replace hb := below_trans' hb hb3 hb.size
        replace hF := hF.keep hb3 hF.lt
        replace hG := hG.keep hb3 hG.lt
        replace hR := hR.keep hb3 hR.lt
        clear hb3
        by_cases h4 : nR ≤ 400
        · have hE := hE0 h4
          clear hE0 hE3
          go_wp2_with fail
          refine (l01Told_c (b := true) dc vc (hd.keep hb) hdn ht3 hn9 (by rw [HOK.out, HN.out]; simpa using h4)).mono ?_
          rintro e w4 ⟨rfl, hb4⟩
          simp only [if_true]
          replace hO := hO.keep hb4
          replace hb := below_trans' hb hb4 hb.size
          replace hF := hF.keep hb4 hF.lt
          replace hG := hG.keep hb4 hG.lt
          replace hR := hR.keep hb4 hR.lt
          clear hb4
          have cR := hR.cell 0
          have fR := hR.frozen 0
          go_wp2_with fail
          have q := hR.set 0 (.slice va nR vc)
          refine bodyPost_ret (results_row2 rfl _ _ g6 49 #[.slice va nR vc] (0, 0) _ rfl q Try.underlying49 rfl Try.info_form) rfl ⟨.slice va nR vc, by rw [hE.out.1]; rfl, ?_, hb.setCell (p := ⟨g6, 0, none⟩) (by dsimp only; omega) _⟩
          rw [hE.out.2]
          exact (hO.set (p := ⟨g6, 0, none⟩) (by dsimp only; omega) _).weaken (by omega)
        · have hE := hE3 h4
          clear hE0 hE3
          go_wp2_with fail
          refine (l01Told_c (b := false) dc vc (hd.keep hb) hdn ht3 hn9 (by rw [HOK.out, HN.out]; simpa using h4)).mono ?_
          rintro e w4 ⟨rfl, hb4⟩
          simp only [Bool.false_eq_true, if_false]
          replace hb := below_trans' hb hb4 hb.size
          replace hF := hF.keep hb4 hF.lt
          replace hG := hG.keep hb4 hG.lt
          replace hR := hR.keep hb4 hR.lt
          clear hb4
          have cR := hR.cell 0
          have fR := hR.frozen 0
          go_wp2_with fail
          have q := hR.set 0 (.slice none 0 0)
          refine bodyPost_ret (results_row2 rfl _ _ g6 49 #[.slice none 0 0] (0, 0) _ rfl q Try.underlying49 rfl Try.info_form) rfl ⟨.slice none 0 0, by rw [hE.out.1]; rfl, ?_, hb.setCell (p := ⟨g6, 0, none⟩) (by dsimp only; omega) _⟩
          rw [hE.out.2]
          exact ownR_nil _ _

end Go.Proofs.Ytcafccfoeednnaa
