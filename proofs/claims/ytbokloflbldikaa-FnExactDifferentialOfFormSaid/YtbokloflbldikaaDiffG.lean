
import Derived.Test.YtbokloflbldikaaSumF
import Derived.Test.YtbokloflbldikaaClosed
import Derived.Test.YtbokloflbldikaaLawDiff
namespace Go.Proofs.Ytbokloflbldikaa
open Go.RowKit Go.Deep
theorem sum_okW {zs m k : List Int} (F : FitW zs m k) (hn : isNul zs m k = false) : monoOk zs (addM m k) = within (addM m k) := by
  rw [Bool.eq_iff_iff]
  have hl := addM_len F.hm.1 F.hk.1
  constructor
  · intro h
    rw [within, List.all_eq_true]
    intro x hx
    obtain ⟨i, hi, rfl⟩ := List.mem_iff_getElem.1 hx
    have := mono20 h (i := i) (by omega) (List.getElem?_eq_getElem hi)
    simpa using this
  · intro h
    rw [monoOk, List.all_eq_true]
    intro i hi
    have hi8 : i < 8 := by simpa using hi
    obtain ⟨y, hy0, -, -, HY⟩ := mono_at F.hm hi8
    obtain ⟨z, hz0, -, -, HZ⟩ := mono_at F.hk hi8
    have hA := addM_get HY.out HZ.out
    rw [fits_eq hA]
    simp only [decide_eq_true_eq]
    cases hz : zs[i]? with
    | none =>
      have t1 := F.tm i (List.getElem?_eq_none_iff.1 hz) hi8
      have t2 := F.tk i (List.getElem?_eq_none_iff.1 hz) hi8
      rw [HY.out] at t1
      rw [HZ.out] at t2
      injection t1 with t1
      injection t2 with t2
      rw [capAt, hz, t1, t2]
      decide
    | some d =>
      rw [capAt, hz]
      cases ho : odd d with
      | true =>
        have hb : bad3 (d, y, z) = false := by
          have := hn
          rw [isNul, List.any_eq_false] at this
          have := this (d, y, z) (List.mem_of_getElem? (trip_get hz HY.out HZ.out))
          simpa using this
        simp only [bad3, ho, Bool.true_and, decide_eq_false_iff_not] at hb
        simp; omega
      | false =>
        rw [within, List.all_eq_true] at h
        have := h _ (List.mem_of_getElem? hA)
        simpa [ho] using this
def WinOk (zs : List Int) (T : List Tm) : Prop := ∀ x ∈ T, monoOk zs x.m = within x.m
theorem Two.winOkW {zs : List Int} {fs gs : List Tm} (h : Two zs fs gs) : WinOk zs (timesT zs gs [] fs) :=
  times_all (p := fun m => monoOk zs m = within m) (by simp) (fun t ht u hu hj => by
    have hn : isNul zs t.m u.m = false := by
      unfold joinS at hj
      split at hj
      · exact absurd rfl hj
      · rename_i h1; simpa using h1
    rw [join_ne hj]
    exact sum_okW (h.fit t ht u hu) hn)
theorem AlgOk.winBetween {zs m : List Int} {ims : List (List Tm)} (h : AlgOk zs ims) {i : Nat} (hm : IsMono m) (ok : monoOk zs m = true) (hi : i < zs.length) (hp : 0 < m.getD i 0) : WinOk zs (_root_.Go.Proofs.Ytbokloflbldikaa.between zs (leftM m i) (backM m i) (ims.getD i [])) := by
  obtain ⟨h1, h2, h3, h4, h5⟩ := h.at_ i
  exact (two_back h.h8 hm ok hi hp h2 h3 h4 h5).winOkW
theorem AlgOk.winTerm {zs : List Int} {ims : List (List Tm)} (h : AlgOk zs ims) {t : Tm} {out : List Tm} (hm : IsMono t.m) (ok : monoOk zs t.m = true) (H : WinOk zs out) : ∀ i : Nat, i ≤ zs.length → WinOk zs (termT zs ims t out i)
  | 0, _ => by rw [termT]; exact H
  | i + 1, hi => by
    have ih := h.winTerm hm ok H i (by omega)
    have hg := getD_mono hm i
    rw [termT]
    split
    · exact ih
    · exact addT_all (p := fun x => monoOk zs x.m = within x.m) _ _ ih (fun g hg' _ _ => h.winBetween hm ok (by omega) (by omega) g hg') (fun f hf _ _ => ih f hf)
theorem AlgOk.winDiff {zs : List Int} {ims : List (List Tm)} (h : AlgOk zs ims) : ∀ (fs out : List Tm), (∀ t ∈ fs, IsTm t) → (∀ t ∈ fs, monoOk zs t.m = true) → WinOk zs out → WinOk zs (diffT zs ims out fs)
  | [], out, _, _, H => H
  | t :: fs, out, ht, hk, H => h.winDiff fs _ (fun u hu => ht u (by simp [hu])) (fun u hu => hk u (by simp [hu])) (h.winTerm (ht t (by simp)).1 (hk t (by simp)) H zs.length (Nat.le_refl _))
def okT (zs : List Int) (T : List Tm) : Bool := listOk zs T && decide (T.length ≤ 400)
theorem good_lsOk {zs : List Int} {T : List Tm} (hg : Good T) (hw : WinOk zs T) : listOk zs T = T.all (fun x => within x.m) := by
  rw [Bool.eq_iff_iff, List.all_eq_true]
  constructor
  · intro h1 x hx
    have := listOk_all h1 x hx
    simp only [okTm, Bool.and_eq_true] at this
    rw [← hw x hx]
    exact this.1
  · intro h1
    refine listOk_of (fun x hx => ?_) hg.srt
    have := hg.nz x hx
    exact okTm_yes (by rw [hw x hx]; exact h1 x hx) (by simpa using this)
theorem len_nodup {α : Type} [DecidableEq α] : ∀ {K l : List α}, K.Nodup → (∀ x ∈ K, x ∈ l) → K.length ≤ l.length
  | [], _, _, _ => Nat.zero_le _
  | x :: K, l, hn, h => by
    rw [List.nodup_cons] at hn
    have hx := h x (by simp)
    have h1 := len_nodup (K := K) (l := l.erase x) hn.2 (fun y hy => (List.mem_erase_of_ne (fun e => hn.1 (by rw [← e]; exact hy))).2 (h y (by simp [hy])))
    rw [List.length_erase_of_mem hx] at h1
    have := List.length_pos_of_mem hx
    rw [List.length_cons]
    omega
theorem coef_nz {ts : List Tm} {m : List Int} (h : ¬ coef ts m = 0) : ∃ t ∈ ts, t.m = m := by
  by_cases h1 : ∃ t ∈ ts, t.m = m
  · exact h1
  · exact absurd (coef_none fun t ht e => h1 ⟨t, ht, e⟩) h
theorem FormOf.told {w w' : World} {S : List Int → Int} {e : Ending} {zs : List Int} {T : List Tm} (h : FormOf w S e w') (hg : Good T) (ht : ∀ x ∈ T, IsTm x) (hw : WinOk zs T) (hc : ∀ m, S m = coef T m) :
    (okT zs T = true ∧ ∃ v, e = .returned (.tuple #[.agg #[v], .int .i64 0]) ∧ OwnR w' w.heap.size v T) ∨ (okT zs T = false ∧ e = .returned (.tuple #[.agg #[.slice none 0 0], .int .i64 3])) := by
  rcases h with ⟨v, L, rfl, hO, hs, hT, hF, hW, hl, hco⟩ | ⟨rfl, hbad⟩
  · have hLR : L = T := srt_ext L _ hs hg.srt (fun t h => (hT t h).1) (fun x hx => (ht x hx).1) (fun t h => by have := hF t h; omega) (fun t h => by have := hg.nz t h; omega) (fun m hm => by rw [hco m hm, hc m])
    subst hLR
    left
    refine ⟨?_, v, rfl, hO⟩
    rw [okT, good_lsOk hg hw, Bool.and_eq_true, decide_eq_true_eq, List.all_eq_true]
    exact ⟨hW, hl⟩
  · right
    refine ⟨?_, rfl⟩
    rw [okT, Bool.and_eq_false_iff, decide_eq_false_iff_not]
    rcases hbad with ⟨m, hm, hne, hw2⟩ | ⟨K, hK, h4, hk⟩
    · left
      rw [hc m] at hne
      obtain ⟨t, ht', rfl⟩ := coef_nz hne
      rw [good_lsOk hg hw, List.all_eq_false]
      exact ⟨t, ht', by rw [hw2]; simp⟩
    · right
      have hsub : ∀ m ∈ K, m ∈ T.map (·.m) := fun m hm => by
        have h := (hk m hm).2
        rw [hc m] at h
        obtain ⟨t, ht', rfl⟩ := coef_nz h
        exact List.mem_map.2 ⟨t, ht', rfl⟩
      have := len_nodup hK hsub
      rw [List.length_map] at this
      omega
def diffV (zs : List Int) (ims : List (List Tm)) (fs : List Tm) : List Tm := if (algF zs ims fs && okT zs (diffT zs ims [] fs)) = true then diffT zs ims [] fs else []
def diffE (zs : List Int) (ims : List (List Tm)) (fs : List Tm) : Int := if algF zs ims fs = true then (if okT zs (diffT zs ims [] fs) = true then 0 else 3) else 1
theorem diff_no {zs : List Int} {ims : List (List Tm)} {fs : List Tm} (h : algF zs ims fs = false) : diffE zs ims fs = 1 ∧ diffV zs ims fs = [] := by simp [diffE, diffV, h]
theorem diff_lim {zs : List Int} {ims : List (List Tm)} {fs : List Tm} (h : algF zs ims fs = true) (k : okT zs (diffT zs ims [] fs) = false) : diffE zs ims fs = 3 ∧ diffV zs ims fs = [] := by simp [diffE, diffV, h, k]
theorem diff_yes {zs : List Int} {ims : List (List Tm)} {fs : List Tm} (h : algF zs ims fs = true) (k : okT zs (diffT zs ims [] fs) = true) : diffE zs ims fs = 0 ∧ diffV zs ims fs = diffT zs ims [] fs := by simp [diffE, diffV, h, k]
theorem ownR_none (w : World) (B : Nat) : OwnR w B (.slice none 0 0) [] := World.ownsRow_nil _ _ _ _
set_option maxHeartbeats 2000000 in
set_option maxRecDepth 100000 in
theorem DifferentialOfForm_c {w : World} {da : Option Addr} {dn : Nat} {zs : List Int} {a : Option Addr} {n : Nat} {ims : List (List Tm)} {a2 : Option Addr} {n2 : Nat} {fs : List Tm} (dc c c2 : Nat) (hd : Ints w da dn zs) (hdn : dn ≤ 1048576) (hF : Frms w a n ims) (hn : n ≤ 1048576) (hL : ∀ im ∈ ims, (im.length : Int) ≤ 1048576) (h : Terms w a2 n2 fs) (hn2 : n2 ≤ 1048576) :
    Calls Try.prog 20 #[.agg #[.slice da dn dc, .slice a n c], .agg #[.slice a2 n2 c2]] w fun e w' => ∃ v, e = .returned (.tuple #[.agg #[v], .int .i64 (diffE zs ims fs)]) ∧ OwnR w' w.heap.size v (diffV zs ims fs) ∧ Below w.heap.size w w' := by
  have HLL := Lib.hid hL
  have HT := Lib.hid hF.tm
  have HL2 := Lib.hid h.len
  clear hL
  have hA := ((Own.new w 46 #[.slice da dn dc, .slice a n c]).alloc (.cells #[.slice a2 n2 c2] 29)).alloc (.cells #[.slice none 0 0] 29)
  have hG := (Own.new (w.alloc (.cells #[.slice da dn dc, .slice a n c] 46)) 29 #[.slice a2 n2 c2]).alloc (.cells #[.slice none 0 0] 29)
  have hR := Own.new ((w.alloc (.cells #[.slice da dn dc, .slice a n c] 46)).alloc (.cells #[.slice a2 n2 c2] 29)) 29 #[.slice none 0 0]
  simp only [size_alloc] at hG hR
  have hb := below_then (below_then (below_alloc1 w (.cells #[.slice da dn dc, .slice a n c] 46)) (below_alloc1 _ (.cells #[.slice a2 n2 c2] 29))) (below_alloc1 _ (.cells #[.slice none 0 0] 29))
  have c0 := hA.cell 0
  have c1 := hA.cell 1
  have cg := hG.cell 0
  cases hal : algF zs ims fs
  all_goals
    have HA := Lib.hid hal
    clear hal
    go_enter Try.func20, Try.ntmps20
    go_upto_region 1 with fail
    generalize ((w.alloc (.cells #[.slice da dn dc, .slice a n c] 46)).alloc (.cells #[.slice a2 n2 c2] 29)).alloc (.cells #[.slice none 0 0] 29) = w0 at *
    go_wp2_with fail
    refine (isAlgebraWithForm_c dc c c2 (hd.keep hb) hdn (hF.keep hb) hn HLL.out (h.keep hb) hn2).mono ?_
    rintro e w1 ⟨rfl, hb1⟩
    rw [HA.out]
    have hA1 := hA.keep hb1 hA.lt
    have hG1 := hG.keep hb1 hG.lt
    have hR1 := hR.keep hb1 hR.lt
    have hb2 := below_trans' hb hb1 hb.size
    clear hA hG hR hb hb1 c0 c1 cg
    have c0 := hA1.cell 0
    have c1 := hA1.cell 1
    have cg := hG1.cell 0
  · have cR := hR1.cell 0
    have fR := hR1.frozen 0
    go_wp2_with fail
    have q := hR1.set 0 (.slice none 0 0)
    refine bodyPost_ret (results_row2 rfl _ _ (w.heap.size + 1 + 1) 29 #[.slice none 0 0] (0, 0) _ rfl q Try.underlying29 rfl Try.info_form) rfl ⟨.slice none 0 0, by rw [(diff_no HA.out).1]; rfl, ?_, hb2.setCell (p := ⟨w.heap.size + 1 + 1, 0, none⟩) (by dsimp only; omega) _⟩
    rw [(diff_no HA.out).2]
    exact ownR_none _ _
  · have HAO := Lib.hid (isAlg_ok (algF_alg HA.out).1 HT.out)
    have hif := (algF_alg HA.out).2
    have HK := Lib.hid (isForm_fit hif)
    have HFB := Lib.hid (isForm_f hif)
    have hn4 : n2 ≤ 400 := by have := isForm_400 hif; have := HL2.out; omega
    have HS9 := Lib.hid (HAO.out.diff fs [] 0 h.2.1 HK.out sum9_nil)
    have HW := Lib.hid (HAO.out.winDiff fs [] h.2.1 HK.out (by simp [WinOk]))
    have HCO := Lib.hid (diff_coef HAO.out.ims HAO.out.ln HAO.out.h8 fs [] zeroL (fun t hx => (h.2.1 t hx).1) HK.out (fun _ => rfl) good_nil).1
    clear hif
    have hlR : w.heap.size + 1 + 1 < w1.heap.size := hR1.lt
    go_wp2_with fail
    refine (differentialOf_c dc c c2 (hd.keep hb2) (hF.keep hb2) (h.keep hb2) HAO.out HK.out HFB.out hn4).mono ?_
    rintro e w2 ⟨bm, rfl, hbm, hM, hb3⟩
    have hR2 := hR1.keep hb3 hR1.lt
    have hb4 := below_trans' hb2 hb3 hb2.size
    have hs2 : w1.heap.size ≤ w2.heap.size := hb3.size
    clear hR1 hb2 hb3 c0 c1 cg
    go_wp2_with fail
    refine (form_c hM (by omega) (diffS_bd (fun _ => by simp [zeroL]))).mono ?_
    rintro e w3 ⟨hf, hb5⟩
    have hR3 := hR2.keep hb5 hR2.lt
    have hb6 := below_trans' hb4 hb5 hb4.size
    have cR := hR3.cell 0
    have fR := hR3.frozen 0
    rcases hf.told HS9.out.good HS9.out.tm HW.out HCO.out with ⟨hok, v, rfl, hO⟩ | ⟨hok, rfl⟩
    · have HOK := Lib.hid hok
      clear hok hf
      obtain ⟨va, vn, vc, rfl⟩ := hO.isSlice
      go_wp2_with fail
      have q := hR3.set 0 (.slice va vn vc)
      refine bodyPost_ret (results_row2 rfl _ _ (w.heap.size + 1 + 1) 29 #[.slice va vn vc] (0, 0) _ rfl q Try.underlying29 rfl Try.info_form) rfl ⟨.slice va vn vc, by rw [(diff_yes HA.out HOK.out).1]; rfl, ?_, hb6.setCell (p := ⟨w.heap.size + 1 + 1, 0, none⟩) (by dsimp only; omega) _⟩
      rw [(diff_yes HA.out HOK.out).2]
      exact (hO.set (p := ⟨w.heap.size + 1 + 1, 0, none⟩) (by dsimp only; omega) _).weaken (by omega)
    · have HOK := Lib.hid hok
      clear hok hf
      go_wp2_with fail
      have q := hR3.set 0 (.slice none 0 0)
      refine bodyPost_ret (results_row2 rfl _ _ (w.heap.size + 1 + 1) 29 #[.slice none 0 0] (0, 0) _ rfl q Try.underlying29 rfl Try.info_form) rfl ⟨.slice none 0 0, by rw [(diff_lim HA.out HOK.out).1]; rfl, ?_, hb6.setCell (p := ⟨w.heap.size + 1 + 1, 0, none⟩) (by dsimp only; omega) _⟩
      rw [(diff_lim HA.out HOK.out).2]
      exact ownR_none _ _
inductive Told : Bool → Option Addr → Nat → Nat → Ending → Prop
  | yes {a : Option Addr} {n c : Nat} : Told true a n c (.returned (.tuple #[.agg #[.slice a n c], .int .i64 0]))
  | no {a : Option Addr} {n c : Nat} : Told false a n c (.returned (.tuple #[.agg #[.slice none 0 0], .int .i64 3]))
theorem Told.eq {b : Bool} {a : Option Addr} {n c : Nat} {e : Ending} (h : Told b a n c e) : e = .returned (.tuple #[.agg #[bif b then .slice a n c else .slice none 0 0], .int .i64 (bif b then 0 else 3)]) := by
  cases h <;> rfl
set_option maxRecDepth 100000 in
theorem l01Told_c {w : World} {da : Option Addr} {dn : Nat} {zs : List Int} {a : Option Addr} {n : Nat} {ts : List Tm} (dc c : Nat) (hd : Ints w da dn zs) (hdn : dn ≤ 1048576) (h : Terms w a n ts) (hn : n ≤ 2000000) :
    Calls Try.prog 32 #[.slice da dn dc, .agg #[.slice a n c]] w fun e w' => Told (okT zs ts) a n c e ∧ Below w.heap.size w w' := by
  have hG := (Own.new w 29 #[.slice a n c]).alloc (.cells #[.slice none 0 0] 29)
  have hR := Own.new (w.alloc (.cells #[.slice a n c] 29)) 29 #[.slice none 0 0]
  rw [size_alloc] at hR
  have hb := below_then (below_alloc1 w (.cells #[.slice a n c] 29)) (below_alloc1 _ (.cells #[.slice none 0 0] 29))
  have cg := hG.cell 0
  cases hq : okT zs ts
  all_goals
    have HQ := Lib.hid hq
    have HQ2 : Hid ((listOk zs ts && decide (ts.length ≤ 400)) = _) := Lib.hid hq
    clear hq
    go_enter Try.func32, Try.ntmps32
    go_upto_region 1 with fail
    generalize (w.alloc (.cells #[.slice a n c] 29)).alloc (.cells #[.slice none 0 0] 29) = w0 at *
    go_wp2_with fail
    refine (l01Is_cB dc c (hd.keep hb) hdn (h.keep hb) hn).mono ?_
    rintro e w1 ⟨rfl, hb1⟩
    rw [HQ2.out]
    have hG1 := hG.keep hb1 hG.lt
    have hR1 := hR.keep hb1 hR.lt
    have hb2 := below_trans' hb hb1 hb.size
    clear hG hR hb hb1 cg
    have cg := hG1.cell 0
    have cR := hR1.cell 0
    have fR := hR1.frozen 0
    go_wp2_with fail
  · have q := hR1.set 0 (.slice none 0 0)
    exact bodyPost_ret (results_row2 rfl _ _ (w.heap.size + 1) 29 #[.slice none 0 0] (0, 0) _ rfl q Try.underlying29 rfl Try.info_form) rfl ⟨Told.no, hb2.setCell (p := ⟨w.heap.size + 1, 0, none⟩) (by dsimp only; omega) _⟩
  · have q := hR1.set 0 (.slice a n c)
    exact bodyPost_ret (results_row2 rfl _ _ (w.heap.size + 1) 29 #[.slice a n c] (0, 0) _ rfl q Try.underlying29 rfl Try.info_form) rfl ⟨Told.yes, hb2.setCell (p := ⟨w.heap.size + 1, 0, none⟩) (by dsimp only; omega) _⟩
set_option maxHeartbeats 2000000 in
set_option maxRecDepth 100000 in
theorem DifferentialOfForm_s {w : World} {da : Option Addr} {dn : Nat} {zs : List Int} {a : Option Addr} {n : Nat} {ims : List (List Tm)} {a2 : Option Addr} {n2 : Nat} {fs : List Tm} (dc c c2 : Nat) (hd : Ints w da dn zs) (hdn : dn ≤ 1048576) (hF : Frms w a n ims) (hn : n ≤ 1048576) (hL : ∀ im ∈ ims, (im.length : Int) ≤ 1048576) (h : Terms w a2 n2 fs) (hn2 : n2 ≤ 1048576) :
    Calls Try.prog 18 #[.agg #[.slice da dn dc, .slice a n c], .agg #[.slice a2 n2 c2]] w fun e w' => ∃ v, e = .returned (.tuple #[.agg #[v], .int .i64 (diffE zs ims fs)]) ∧ OwnR w' w.heap.size v (diffV zs ims fs) ∧ Below w.heap.size w w' := by
  have HLL := Lib.hid hL
  have HT := Lib.hid hF.tm
  have HL2 := Lib.hid h.len
  clear hL
  have hA := ((Own.new w 46 #[.slice da dn dc, .slice a n c]).alloc (.cells #[.slice a2 n2 c2] 29)).alloc (.cells #[.slice none 0 0] 29)
  have hG := (Own.new (w.alloc (.cells #[.slice da dn dc, .slice a n c] 46)) 29 #[.slice a2 n2 c2]).alloc (.cells #[.slice none 0 0] 29)
  have hR := Own.new ((w.alloc (.cells #[.slice da dn dc, .slice a n c] 46)).alloc (.cells #[.slice a2 n2 c2] 29)) 29 #[.slice none 0 0]
  simp only [size_alloc] at hG hR
  have hb := below_then (below_then (below_alloc1 w (.cells #[.slice da dn dc, .slice a n c] 46)) (below_alloc1 _ (.cells #[.slice a2 n2 c2] 29))) (below_alloc1 _ (.cells #[.slice none 0 0] 29))
  have c0 := hA.cell 0
  have c1 := hA.cell 1
  have cg := hG.cell 0
  cases hal : algF zs ims fs
  case false =>
    have HA := Lib.hid hal
    have HE := Lib.hid (algE_no hal).1
    clear hal
    go_enter Try.func18, Try.ntmps18
    go_upto_region 1 with fail
    generalize ((w.alloc (.cells #[.slice da dn dc, .slice a n c] 46)).alloc (.cells #[.slice a2 n2 c2] 29)).alloc (.cells #[.slice none 0 0] 29) = w0 at *
    go_wp2_with fail
    refine (l02Both_c dc c c2 (hd.keep hb) hdn (hF.keep hb) hn HLL.out (h.keep hb) hn2).mono ?_
    rintro e w1 ⟨rfl, hb1⟩
    rw [HE.out]
    have hR1 := hR.keep hb1 hR.lt
    have hb2 := below_trans' hb hb1 hb.size
    clear hA hG hR hb hb1 c0 c1 cg
    have cR := hR1.cell 0
    have fR := hR1.frozen 0
    go_wp2_with fail
    have q := hR1.set 0 (.slice none 0 0)
    refine bodyPost_ret (results_row2 rfl _ _ (w.heap.size + 1 + 1) 29 #[.slice none 0 0] (0, 0) _ rfl q Try.underlying29 rfl Try.info_form) rfl ⟨.slice none 0 0, by rw [(diff_no HA.out).1]; rfl, ?_, hb2.setCell (p := ⟨w.heap.size + 1 + 1, 0, none⟩) (by dsimp only; omega) _⟩
    rw [(diff_no HA.out).2]
    exact ownR_none _ _
  case true =>
    have HA := Lib.hid hal
    have HE := Lib.hid (algE_yes hal).1
    clear hal
    have HAO := Lib.hid (isAlg_ok (algF_alg HA.out).1 HT.out)
    have HMI := Lib.hid (degsOk_mild (isAlg_degs (algF_alg HA.out).1))
    have hif := (algF_alg HA.out).2
    have HK := Lib.hid (isForm_fit hif)
    have HFB := Lib.hid (isForm_f hif)
    have hn4 : n2 ≤ 400 := by have := isForm_400 hif; have := HL2.out; omega
    have HS9 := Lib.hid (HAO.out.diff fs [] 0 h.2.1 HK.out sum9_nil)
    obtain ⟨T, hT⟩ : ∃ T, diffT zs ims [] fs = T := ⟨_, rfl⟩
    have HTT := Lib.hid hT
    have HS : Hid (Sum9 T (0 + fs.length * 3200)) := Lib.hid (by have := HS9.out; rw [hT] at this; exact this)
    obtain ⟨N, hN⟩ : ∃ N, T.length = N := ⟨_, rfl⟩
    have HN := Lib.hid hN
    have hNb : N ≤ 2000000 := by have := HS.out.len; have := HL2.out; omega
    clear hif hN hT HS9
    go_enter Try.func18, Try.ntmps18
    go_upto_region 1 with fail
    generalize ((w.alloc (.cells #[.slice da dn dc, .slice a n c] 46)).alloc (.cells #[.slice a2 n2 c2] 29)).alloc (.cells #[.slice none 0 0] 29) = w0 at *
    go_wp2_with fail
    refine (l02Both_c dc c c2 (hd.keep hb) hdn (hF.keep hb) hn HLL.out (h.keep hb) hn2).mono ?_
    rintro e w1 ⟨rfl, hb1⟩
    rw [HE.out]
    have hA1 := hA.keep hb1 hA.lt
    have hG1 := hG.keep hb1 hG.lt
    have hR1 := hR.keep hb1 hR.lt
    have hb2 := below_trans' hb hb1 hb.size
    clear hA hG hR hb hb1 c0 c1 cg
    have c0 := hA1.cell 0
    have c1 := hA1.cell 1
    have cg := hG1.cell 0
    go_upto_region 4 with fail
    have hd2 := hd.keep hb2.drew
    have hF2 := hF.keep hb2.drew
    have h2 := h.keep hb2.drew
    replace hA1 : Own w1.drew w.heap.size 46 #[.slice da dn dc, .slice a n c] := hA1
    replace hG1 : Own w1.drew (w.heap.size + 1) 29 #[.slice a2 n2 c2] := hG1
    replace hR1 : Own w1.drew (w.heap.size + 1 + 1) 29 #[.slice none 0 0] := hR1
    replace hb2 : Below w.heap.size w w1.drew := hb2.drew
    have hs1 := hR1.lt
    clear c0 c1 cg
    cases hok : okT zs T with
    | true =>
      have HOK := Lib.hid hok
      clear hok
      go_region_held3 (fun w' => w'.cell? ⟨w.heap.size, 0, none⟩ = some (.slice da dn dc) ∧ w'.cell? ⟨w.heap.size, 1, none⟩ = some (.slice a n c) ∧ w'.cell? ⟨w.heap.size + 1, 0, none⟩ = some (.slice a2 n2 c2)) (first | exact ⟨hA1.cell 0, hA1.cell 1, hG1.cell 0⟩ | exact ⟨(hA1.far (by dsimp only; omega) _).cell 0, (hA1.far (by dsimp only; omega) _).cell 1, (hG1.far (by dsimp only; omega) _).cell 0⟩)
        (first
          | (go_at_call 45; refine (l02D_c dc c c2 hd2 hF2 h2 HAO.out HMI.out HK.out HFB.out hn4).mono ?_; rintro e w2 ⟨v, rfl, hO, hb3⟩; rw [HTT.out] at hO; obtain ⟨va, vc, rfl, hvT⟩ := hO.r.terms HS.out.tm HN.out; have hA2 := hA1.keep hb3 hA1.lt; have hG2 := hG1.keep hb3 hG1.lt; have hR2 := hR1.keep hb3 hR1.lt; have hb4 := below_trans' hb2 hb3 hb2.size; have hd3 := hd2.keep hb3; clear hA1 hG1 hR1 hb2 hb3; have hA1 := hA2; have hG1 := hG2; have hR1 := hR2; have hb2 := hb4; clear hA2 hG2 hR2 hb4)
          | (go_at_call 32; refine (l01Told_c dc vc hd3 hdn hvT hNb).mono ?_; rintro e w3 ⟨hor, hb5⟩; rw [HOK.out] at hor; obtain rfl := hor.eq; have hO3 := hO.keep hb5; have hA2 := hA1.keep hb5 hA1.lt; have hG2 := hG1.keep hb5 hG1.lt; have hR2 := hR1.keep hb5 hR1.lt; have hb6 := below_trans' hb2 hb5 hb2.size; clear hor hA1 hG1 hR1 hb2 hb5; have hA1 := hA2; have hG1 := hG2; have hR1 := hR2; have hb2 := hb6; clear hA2 hG2 hR2 hb6; have cR := hR1.cell 0; have fR := hR1.frozen 0; dsimp only [cond]))
      go_wp2_with fail
      have q := hR1.set 0 (.slice va N vc)
      refine bodyPost_ret (results_row2 rfl _ _ (w.heap.size + 1 + 1) 29 #[.slice va N vc] (0, 0) _ rfl q Try.underlying29 rfl Try.info_form) rfl ⟨.slice va N vc, by rw [(diff_yes HA.out (by rw [HTT.out]; exact HOK.out)).1]; rfl, ?_, hb2.setCell (p := ⟨w.heap.size + 1 + 1, 0, none⟩) (by dsimp only; omega) _⟩
      rw [(diff_yes HA.out (by rw [HTT.out]; exact HOK.out)).2, HTT.out]
      exact (hO3.r.set (p := ⟨w.heap.size + 1 + 1, 0, none⟩) (by dsimp only; omega) _).weaken (by omega)
    | false =>
      have HOK := Lib.hid hok
      clear hok
      go_region_held3 (fun w' => w'.cell? ⟨w.heap.size, 0, none⟩ = some (.slice da dn dc) ∧ w'.cell? ⟨w.heap.size, 1, none⟩ = some (.slice a n c) ∧ w'.cell? ⟨w.heap.size + 1, 0, none⟩ = some (.slice a2 n2 c2)) (first | exact ⟨hA1.cell 0, hA1.cell 1, hG1.cell 0⟩ | exact ⟨(hA1.far (by dsimp only; omega) _).cell 0, (hA1.far (by dsimp only; omega) _).cell 1, (hG1.far (by dsimp only; omega) _).cell 0⟩)
        (first
          | (go_at_call 45; refine (l02D_c dc c c2 hd2 hF2 h2 HAO.out HMI.out HK.out HFB.out hn4).mono ?_; rintro e w2 ⟨v, rfl, hO, hb3⟩; rw [HTT.out] at hO; obtain ⟨va, vc, rfl, hvT⟩ := hO.r.terms HS.out.tm HN.out; have hA2 := hA1.keep hb3 hA1.lt; have hG2 := hG1.keep hb3 hG1.lt; have hR2 := hR1.keep hb3 hR1.lt; have hb4 := below_trans' hb2 hb3 hb2.size; have hd3 := hd2.keep hb3; clear hA1 hG1 hR1 hb2 hb3; have hA1 := hA2; have hG1 := hG2; have hR1 := hR2; have hb2 := hb4; clear hA2 hG2 hR2 hb4)
          | (go_at_call 32; refine (l01Told_c dc vc hd3 hdn hvT hNb).mono ?_; rintro e w3 ⟨hor, hb5⟩; rw [HOK.out] at hor; obtain rfl := hor.eq; have hO3 := hO.keep hb5; have hA2 := hA1.keep hb5 hA1.lt; have hG2 := hG1.keep hb5 hG1.lt; have hR2 := hR1.keep hb5 hR1.lt; have hb6 := below_trans' hb2 hb5 hb2.size; clear hor hA1 hG1 hR1 hb2 hb5; have hA1 := hA2; have hG1 := hG2; have hR1 := hR2; have hb2 := hb6; clear hA2 hG2 hR2 hb6; have cR := hR1.cell 0; have fR := hR1.frozen 0; dsimp only [cond]))
      go_wp2_with fail
      have q := hR1.set 0 (.slice none 0 0)
      refine bodyPost_ret (results_row2 rfl _ _ (w.heap.size + 1 + 1) 29 #[.slice none 0 0] (0, 0) _ rfl q Try.underlying29 rfl Try.info_form) rfl ⟨.slice none 0 0, by rw [(diff_lim HA.out (by rw [HTT.out]; exact HOK.out)).1]; rfl, ?_, hb2.setCell (p := ⟨w.heap.size + 1 + 1, 0, none⟩) (by dsimp only; omega) _⟩
      rw [(diff_lim HA.out (by rw [HTT.out]; exact HOK.out)).2]
      exact ownR_none _ _
theorem diffV_400 {zs : List Int} {ims : List (List Tm)} {fs : List Tm} : (diffV zs ims fs).length ≤ 400 := by
  unfold diffV
  split
  · rename_i h
    simp only [okT, Bool.and_eq_true, decide_eq_true_eq] at h
    exact h.2.2
  · simp
theorem diffV_tm {zs : List Int} {ims : List (List Tm)} {fs : List Tm} (hT : ∀ im ∈ ims, ∀ u ∈ im, IsTm u) (ht : ∀ t ∈ fs, IsTm t) : ∀ t ∈ diffV zs ims fs, IsTm t := by
  intro t h
  unfold diffV at h
  split at h
  · rename_i h1
    simp only [Bool.and_eq_true] at h1
    have h2 := algF_alg h1.1
    exact ((isAlg_ok h2.1 hT).diff fs [] 0 ht (isForm_fit h2.2) sum9_nil).tm t h
  · simp at h
theorem differentialOfForm_walk (da : Option Addr) (dn dc : Nat) (zs : List Int) (a : Option Addr) (n c : Nat) (fss : List (List Tm)) (a2 : Option Addr) (n2 c2 : Nat) (fs : List Tm) (w : World) (hd : Ints w da dn zs) (hdm : (dn : Int) ≤ 9223372036854775807) (hF : Frms w a n fss) (hnm : (n : Int) ≤ 9223372036854775807) (h2 : Terms w a2 n2 fs) (hm2 : (n2 : Int) ≤ 9223372036854775807) :
    Calls Try.prog 4 #[.agg #[.slice da dn dc, .slice a n c], .agg #[.slice a2 n2 c2]] w fun e w' => e = .returned (.bool true) ∧ Below w.heap.size w w' :=
  lawDiff_walk da dn dc zs a n c fss a2 n2 c2 fs w hd hdm hF hnm h2 hm2 (diffV zs fss fs) (diffE zs fss fs) _ (diffV_tm hF.tm h2.2.1) rfl (Nat.le_trans diffV_400 (by decide))
    (fun _ _ dc' _ c' _ q h1 h2 h3 h4 h5 h6 h7 => DifferentialOfForm_s dc' c' q h5 h1 h6 h2 h3 h7 h4) (fun _ _ dc' _ c' _ q h1 h2 h3 h4 h5 h6 h7 => DifferentialOfForm_c dc' c' q h5 h1 h6 h2 h3 h7 h4)
end Go.Proofs.Ytbokloflbldikaa
