
import Derived.Test.YtbokloflbldikaaTimesM
import Derived.Test.YtbokloflbldikaaMap
import Derived.Test.YtbokloflbldikaaMulM
import Derived.Test.YtbokloflbldikaaScaleS
import Derived.Test.YtbokloflbldikaaResult
namespace Go.Proofs.Ytbokloflbldikaa
open Go.RowKit Go.Deep Go.Maps
theorem productOf8 {w : World} {a : Option Addr} {n : Nat} {zs : List Int} {p0 p1 p2 p3 p4 p5 p6 p7 q0 q1 q2 q3 q4 q5 q6 q7 r0 r1 r2 r3 r4 r5 r6 r7 s : Int} (c : Nat) (h : Ints w a n zs) (F : Fit zs [p0, p1, p2, p3, p4, p5, p6, p7] [q0, q1, q2, q3, q4, q5, q6, q7]) (hr : joinM zs [p0, p1, p2, p3, p4, p5, p6, p7] [q0, q1, q2, q3, q4, q5, q6, q7] = [r0, r1, r2, r3, r4, r5, r6, r7]) (hs : joinS zs [p0, p1, p2, p3, p4, p5, p6, p7] [q0, q1, q2, q3, q4, q5, q6, q7] = s) :
    Calls Try.prog 36 #[.slice a n c, .agg #[.int .u8 p0, .int .u8 p1, .int .u8 p2, .int .u8 p3, .int .u8 p4, .int .u8 p5, .int .u8 p6, .int .u8 p7], .agg #[.int .u8 q0, .int .u8 q1, .int .u8 q2, .int .u8 q3, .int .u8 q4, .int .u8 q5, .int .u8 q6, .int .u8 q7]] w fun e w' => e = .returned (.tuple #[.agg #[.int .u8 r0, .int .u8 r1, .int .u8 r2, .int .u8 r3, .int .u8 r4, .int .u8 r5, .int .u8 r6, .int .u8 r7], .int .i64 s]) ∧ Below w.heap.size w w' := by
  have := productOf_c c h F
  rw [hr, hs] at this
  exact this
theorem rowSum_take {zs : List Int} {t u : Tm} {S : List Int → Int} {gs : List Tm} {j : Nat} (h : gs[j]? = some u) : rowSum zs t S (gs.take (j + 1)) = stepS zs t (rowSum zs t S (gs.take j)) u := by
  rw [rowSum, rowSum, List.take_add_one, h, List.foldl_append]; rfl
theorem sumS_take {zs : List Int} {t : Tm} {S : List Int → Int} {fs gs : List Tm} {i : Nat} (h : fs[i]? = some t) : sumS zs gs S (fs.take (i + 1)) = rowSum zs t (sumS zs gs S (fs.take i)) gs := by
  rw [sumS, sumS, List.take_add_one, h, List.foldl_append]; rfl
theorem sumS_bd {zs : List Int} {gs : List Tm} : ∀ {fs : List Tm} {S : List Int → Int}, (∀ m, 0 ≤ S m ∧ S m ≤ 10006) → ∀ m, 0 ≤ sumS zs gs S fs m ∧ sumS zs gs S fs m ≤ 10006
  | [], _, h => h
  | t :: fs, S, h => sumS_bd (fs := fs) (S := rowSum zs t S gs) (rowSum_bd h)
theorem stepS_no {zs : List Int} {t u : Tm} {S : List Int → Int} (h : joinS zs t.m u.m = 0) : stepS zs t S u = S := by rw [stepS, if_pos h]
theorem stepS_yes {zs : List Int} {t u : Tm} {S : List Int → Int} {r : List Int} {s : Int} (hs : joinS zs t.m u.m = s) (hr : joinM zs t.m u.m = r) (h : ¬ s = 0) : stepS zs t S u = updS S r (num (S r + s * t.f * u.f)) := by
  rw [stepS, if_neg (by rw [hs]; exact h), hr, hs]
theorem isForm_fit {zs : List Int} {fs : List Tm} (h : isForm zs fs = true) : ∀ t ∈ fs, monoOk zs t.m = true := by
  intro t ht
  simp only [isForm, Bool.and_eq_true] at h
  have := listOk_all h.2.1 t ht
  simp only [okTm, Bool.and_eq_true] at this
  exact this.1
theorem bel_map {w w0 w1 : World} {b : Nat} (hb : Below w.heap.size w w0) (hg : w0.grownBy w1 (some b)) (h : w.heap.size ≤ b) : Below w.heap.size w w1 :=
  grown_below hb hg (fun k e => by cases e; exact h) hb.size
def zeroS : List Int → Int := fun _ => 0
def FormOf (w : World) (S : List Int → Int) (e : Ending) (w' : World) : Prop :=
  (∃ v L, e = .returned (.tuple #[.agg #[v], .int .i64 0]) ∧ OwnR w' w.heap.size v L ∧ Srt L ∧ (∀ t ∈ L, IsTm t) ∧ (∀ t ∈ L, 1 ≤ t.f ∧ t.f ≤ 10006) ∧ (∀ t ∈ L, within t.m = true) ∧ L.length ≤ 400 ∧ ∀ m, IsMono m → coef L m = S m) ∨
  (e = .returned (.tuple #[.agg #[.slice none 0 0], .int .i64 3]) ∧ ((∃ m, IsMono m ∧ ¬ S m = 0 ∧ within m = false) ∨ ∃ K : List (List Int), K.Nodup ∧ 400 < K.length ∧ ∀ m ∈ K, IsMono m ∧ ¬ S m = 0))
set_option maxHeartbeats 8000000 in
set_option maxRecDepth 100000 in
theorem MultiplyForms_p {w : World} {da : Option Addr} {dn : Nat} {zs : List Int} {a1 a2 : Option Addr} {n1 n2 : Nat} {fs gs : List Tm} (dc c1 c2 : Nat) (hd : Ints w da dn zs) (hdn : dn ≤ 1048576) (h1 : Terms w a1 n1 fs) (hn1 : n1 ≤ 1048576) (h2 : Terms w a2 n2 gs) (hn2 : n2 ≤ 1048576)
    (i1 : isForm zs fs = true) (i2 : isForm zs gs = true)
    (HFORM : ∀ (wx : World) (b n : Nat) (S : List Int → Int), MapIs wx b n S → n ≤ 200000 → (∀ m, 0 ≤ S m ∧ S m ≤ 10006) → Calls Try.prog 38 #[.map (some b)] wx fun e w' => FormOf wx S e w' ∧ Below wx.heap.size wx w') :
    Calls Try.prog 11 #[.slice da dn dc, .agg #[.slice a1 n1 c1], .agg #[.slice a2 n2 c2]] w fun e w' => FormOf w (sumS zs gs zeroS fs) e w' ∧ Below w.heap.size w w' := by
  have HL := Lib.hid hd.len
  have hl1 := h1.len
  have hl2 := h2.len
  have f1 := isForm_400 i1
  have f2 := isForm_400 i2
  have hd8 : dn ≤ 8 := by have := degsOk_len (isForm_degs i1); have := HL.out; omega
  have hz8 : zs.length ≤ 8 := by have := HL.out; omega
  have HF1 := Lib.hid (isForm_f i1)
  have HF2 := Lib.hid (isForm_f i2)
  have HO1 := Lib.hid (isForm_fit i1)
  have HO2 := Lib.hid (isForm_fit i2)
  have I1 := Lib.hid i1
  have I2 := Lib.hid i2
  have HFM := Lib.hid HFORM
  clear i1 i2 HFORM
  have hF := ((Own.new w 29 #[.slice a1 n1 c1]).alloc (.cells #[.slice a2 n2 c2] 29)).alloc (.cells #[.slice none 0 0] 29)
  have hG := (Own.new (w.alloc (.cells #[.slice a1 n1 c1] 29)) 29 #[.slice a2 n2 c2]).alloc (.cells #[.slice none 0 0] 29)
  have hR := Own.new ((w.alloc (.cells #[.slice a1 n1 c1] 29)).alloc (.cells #[.slice a2 n2 c2] 29)) 29 #[.slice none 0 0]
  simp only [size_alloc] at hG hR
  have hb := below_then (below_then (below_alloc1 w (.cells #[.slice a1 n1 c1] 29)) (below_alloc1 _ (.cells #[.slice a2 n2 c2] 29))) (below_alloc1 _ (.cells #[.slice none 0 0] 29))
  have cF := hF.cell 0
  generalize hg6 : w.heap.size + 1 + 1 = g6 at *
  generalize hg1 : w.heap.size + 1 = g1 at *
  go_enter Try.func11, Try.ntmps11
  go_upto_region 1 with fail
  generalize ((w.alloc (.cells #[.slice a1 n1 c1] 29)).alloc (.cells #[.slice a2 n2 c2] 29)).alloc (.cells #[.slice none 0 0] 29) = w0 at *
  try simp only [hg6, hg1]
  go_wp2_with fail
  refine (IsForm_c dc c1 (hd.keep hb) hdn (h1.keep hb) hn1).mono ?_
  rintro e w1 ⟨rfl, hb1⟩
  rw [I1.out]
  clear cF
  replace hb := below_trans' hb hb1 hb.size
  replace hF := hF.keep hb1 hF.lt
  replace hG := hG.keep hb1 hG.lt
  replace hR := hR.keep hb1 hR.lt
  clear hb1
  have cG := hG.cell 0
  go_wp2_with fail
  clear cG
  refine (IsForm_c dc c2 (hd.keep hb) hdn (h2.keep hb) hn2).mono ?_
  rintro e w2 ⟨rfl, hb2⟩
  rw [I2.out]
  replace hb := below_trans' hb hb2 hb.size
  replace hF := hF.keep hb2 hF.lt
  replace hG := hG.keep hb2 hG.lt
  replace hR := hR.keep hb2 hR.lt
  clear hb2
  have hmm := @run_makeMap Try.prog
  have hl6 := hR.lt
  have hM := mapIs_made w2
  replace hF := hF.alloc (.map #[] 0)
  replace hG := hG.alloc (.map #[] 0)
  replace hR := hR.alloc (.map #[] 0)
  replace hb := below_trans' hb (below_alloc1 w2 (.map #[] 0)) hb.size
  have cF := hF.cell 0
  go_wp2_with fail
  clear cF hmm
  generalize w2.alloc (.map #[] 0) = w3 at *
  generalize hgb : w2.heap.size = b at *
  clear hgb
  go_loopw [30] (fun x wr => ∃ i : Nat, i ≤ n1 ∧ x = .int .i64 i ∧ Below w.heap.size w wr ∧ Own wr g1 29 #[.slice a2 n2 c2] ∧ Own wr g6 29 #[.slice none 0 0] ∧ MapIs wr b (i * 400) (sumS zs gs zeroS (fs.take i))) (fun x _ => n1 - (intOf x).toNat)
  case atStart => exact ⟨0, Nat.zero_le _, rfl, hb, hG, hR, by rw [List.take_zero]; exact hM.mono (Nat.zero_le _)⟩
  case round =>
    clear hb hF hG hR hM
    obtain ⟨i, hi, rfl, hb, hG, hR, hM⟩ := hrel
    by_cases hi1 : i < n1
    · obtain ⟨b1, o1, t, rfl, hbl1, hr10, ht, hx⟩ := h1.at_ hi1
      obtain ⟨mt, tf⟩ := t
      have hmt : IsMono mt := ht.1
      have htf : 1 ≤ tf ∧ tf ≤ 10006 := HF1.out ⟨mt, tf⟩ (List.mem_of_getElem? hx.out)
      have hot : monoOk zs mt = true := HO1.out ⟨mt, tf⟩ (List.mem_of_getElem? hx.out)
      obtain ⟨p0, p1, p2, p3, p4, p5, p6, p7, rfl⟩ := mono8 hmt
      obtain ⟨y0, y1, y2, y3, y4, y5, y6, y7, y8⟩ := nine (rangeAt_keep hr10 (hb.block b1 hbl1))
      have hT := Own.new wr 68 #[.int .u8 p0, .int .u8 p1, .int .u8 p2, .int .u8 p3, .int .u8 p4, .int .u8 p5, .int .u8 p6, .int .u8 p7, .int .i64 tf]
      have hba := below_alloc1 wr (.cells #[.int .u8 p0, .int .u8 p1, .int .u8 p2, .int .u8 p3, .int .u8 p4, .int .u8 p5, .int .u8 p6, .int .u8 p7, .int .i64 tf] 68)
      have hbl := hM.lt
      replace hG := hG.alloc (.cells #[.int .u8 p0, .int .u8 p1, .int .u8 p2, .int .u8 p3, .int .u8 p4, .int .u8 p5, .int .u8 p6, .int .u8 p7, .int .i64 tf] 68)
      replace hR := hR.alloc (.cells #[.int .u8 p0, .int .u8 p1, .int .u8 p2, .int .u8 p3, .int .u8 p4, .int .u8 p5, .int .u8 p6, .int .u8 p7, .int .i64 tf] 68)
      replace hM := hM.keep hba
      replace hb := below_trans' hb hba hb.size
      have cG := hG.cell 0
      have hi0 : (0 : Int) ≤ (i : Int) := by omega
      have hin : (i : Int) < (n1 : Int) := by omega
      go_wp2_with fail
      clear y0 y1 y2 y3 y4 y5 y6 y7 y8 cG hba
      generalize wr.alloc (.cells #[.int .u8 p0, .int .u8 p1, .int .u8 p2, .int .u8 p3, .int .u8 p4, .int .u8 p5, .int .u8 p6, .int .u8 p7, .int .i64 tf] 68) = wt at *
      generalize hgt : wr.heap.size = gT at *
      clear hgt
      go_loopw [37] (fun y wx => ∃ j : Nat, j ≤ n2 ∧ y = .int .i64 j ∧ Below w.heap.size w wx ∧ Own wx g1 29 #[.slice a2 n2 c2] ∧ Own wx g6 29 #[.slice none 0 0] ∧ Own wx gT 68 #[.int .u8 p0, .int .u8 p1, .int .u8 p2, .int .u8 p3, .int .u8 p4, .int .u8 p5, .int .u8 p6, .int .u8 p7, .int .i64 tf] ∧ MapIs wx b (i * 400 + j) (rowSum zs ⟨[p0, p1, p2, p3, p4, p5, p6, p7], tf⟩ (sumS zs gs zeroS (fs.take i)) (gs.take j))) (fun y _ => n2 - (intOf y).toNat)
      case atStart => exact ⟨0, Nat.zero_le _, rfl, hb, hG, hR, hT, hM⟩
      case round =>
        clear hb hG hR hT hM
        obtain ⟨j, hj, rfl, hb, hG, hR, hT, hM⟩ := hrel
        by_cases hj1 : j < n2
        · obtain ⟨b2, o2, u, rfl, hbl2, hr20, hu, hy⟩ := h2.at_ hj1
          obtain ⟨mu, uf⟩ := u
          have hmu : IsMono mu := hu.1
          have huf : 1 ≤ uf ∧ uf ≤ 10006 := HF2.out ⟨mu, uf⟩ (List.mem_of_getElem? hy.out)
          have hou : monoOk zs mu = true := HO2.out ⟨mu, uf⟩ (List.mem_of_getElem? hy.out)
          obtain ⟨q0, q1, q2, q3, q4, q5, q6, q7, rfl⟩ := mono8 hmu
          obtain ⟨y0, y1, y2, y3, y4, y5, y6, y7, y8⟩ := nine (rangeAt_keep hr20 (hb.block b2 hbl2))
          have F : Fit zs [p0, p1, p2, p3, p4, p5, p6, p7] [q0, q1, q2, q3, q4, q5, q6, q7] := ⟨hz8, hmt, hmu, hot, hou⟩
          have hRm : IsMono (joinM zs [p0, p1, p2, p3, p4, p5, p6, p7] [q0, q1, q2, q3, q4, q5, q6, q7]) := joinM_mono F
          obtain ⟨r0, r1, r2, r3, r4, r5, r6, r7, hRe⟩ := mono8 hRm
          obtain ⟨s, hse⟩ : ∃ s, joinS zs [p0, p1, p2, p3, p4, p5, p6, p7] [q0, q1, q2, q3, q4, q5, q6, q7] = s := ⟨_, rfl⟩
          have hsb := joinS_bd zs [p0, p1, p2, p3, p4, p5, p6, p7] [q0, q1, q2, q3, q4, q5, q6, q7]
          rw [hse] at hsb
          rw [hRe] at hRm
          have HRE := Lib.hid hRe
          have HSE := Lib.hid hse
          clear hRe hse
          have hU := Own.new wr 68 #[.int .u8 q0, .int .u8 q1, .int .u8 q2, .int .u8 q3, .int .u8 q4, .int .u8 q5, .int .u8 q6, .int .u8 q7, .int .i64 uf]
          have hba := below_alloc1 wr (.cells #[.int .u8 q0, .int .u8 q1, .int .u8 q2, .int .u8 q3, .int .u8 q4, .int .u8 q5, .int .u8 q6, .int .u8 q7, .int .i64 uf] 68)
          replace hG := hG.alloc (.cells #[.int .u8 q0, .int .u8 q1, .int .u8 q2, .int .u8 q3, .int .u8 q4, .int .u8 q5, .int .u8 q6, .int .u8 q7, .int .i64 uf] 68)
          replace hR := hR.alloc (.cells #[.int .u8 q0, .int .u8 q1, .int .u8 q2, .int .u8 q3, .int .u8 q4, .int .u8 q5, .int .u8 q6, .int .u8 q7, .int .i64 uf] 68)
          replace hT := hT.alloc (.cells #[.int .u8 q0, .int .u8 q1, .int .u8 q2, .int .u8 q3, .int .u8 q4, .int .u8 q5, .int .u8 q6, .int .u8 q7, .int .i64 uf] 68)
          replace hM := hM.keep hba
          replace hb := below_trans' hb hba hb.size
          have hj0 : (0 : Int) ≤ (j : Int) := by omega
          have hjn : (j : Int) < (n2 : Int) := by omega
          have cT0 := hT.cell 0
          have cT1 := hT.cell 1
          have cT2 := hT.cell 2
          have cT3 := hT.cell 3
          have cT4 := hT.cell 4
          have cT5 := hT.cell 5
          have cT6 := hT.cell 6
          have cT7 := hT.cell 7
          go_wp2_with fail
          clear y0 y1 y2 y3 y4 y5 y6 y7 y8 cT0 cT1 cT2 cT3 cT4 cT5 cT6 cT7 hba
          generalize wr.alloc (.cells #[.int .u8 q0, .int .u8 q1, .int .u8 q2, .int .u8 q3, .int .u8 q4, .int .u8 q5, .int .u8 q6, .int .u8 q7, .int .i64 uf] 68) = wu at *
          generalize hgu : wr.heap.size = gU at *
          clear hgu
          refine (productOf8 dc (hd.keep hb) F HRE.out HSE.out).mono ?_
          rintro e wq ⟨rfl, hbq⟩
          replace hb := below_trans' hb hbq hb.size
          replace hG := hG.keep hbq hG.lt
          replace hR := hR.keep hbq hR.lt
          replace hT := hT.keep hbq hT.lt
          replace hU := hU.keep hbq hU.lt
          replace hM := hM.keep hbq
          clear hbq
          have hba := below_alloc1 wq (.cells #[.int .u8 r0, .int .u8 r1, .int .u8 r2, .int .u8 r3, .int .u8 r4, .int .u8 r5, .int .u8 r6, .int .u8 r7] 66)
          have hV := Own.new wq 66 #[.int .u8 r0, .int .u8 r1, .int .u8 r2, .int .u8 r3, .int .u8 r4, .int .u8 r5, .int .u8 r6, .int .u8 r7]
          replace hG := hG.alloc (.cells #[.int .u8 r0, .int .u8 r1, .int .u8 r2, .int .u8 r3, .int .u8 r4, .int .u8 r5, .int .u8 r6, .int .u8 r7] 66)
          replace hR := hR.alloc (.cells #[.int .u8 r0, .int .u8 r1, .int .u8 r2, .int .u8 r3, .int .u8 r4, .int .u8 r5, .int .u8 r6, .int .u8 r7] 66)
          replace hT := hT.alloc (.cells #[.int .u8 r0, .int .u8 r1, .int .u8 r2, .int .u8 r3, .int .u8 r4, .int .u8 r5, .int .u8 r6, .int .u8 r7] 66)
          replace hU := hU.alloc (.cells #[.int .u8 r0, .int .u8 r1, .int .u8 r2, .int .u8 r3, .int .u8 r4, .int .u8 r5, .int .u8 r6, .int .u8 r7] 66)
          replace hM := hM.keep hba
          replace hb := below_trans' hb hba hb.size
          clear hba
          by_cases hs0 : s = 0
          · subst hs0
            go_wp2_with fail
            go_roundw
            case rel => exact ⟨j + 1, by omega, by go_num, hb, hG, hR, hT, by rw [rowSum_take hy.out, stepS_no HSE.out]; exact hM.mono (by omega)⟩
            case measure => simp [intOf] <;> omega
          · have hsb0 : (s == 0) = false := by simpa using hs0
            have e1 : -10006 ≤ s * tf ∧ s * tf ≤ 10006 := by
              have : s = 1 ∨ s = -1 := by omega
              rcases this with h | h <;> rw [h] <;> omega
            have e2 : -100120036 ≤ s * tf * uf ∧ s * tf * uf ≤ 100120036 := by
              have : s = 1 ∨ s = -1 := by omega
              have m1 := mul_b (a := tf) (b := uf) (by omega) (by omega) (by omega) (by omega)
              rcases this with h | h
              · rw [h, Int.one_mul]; omega
              · rw [h, Int.neg_one_mul, Int.neg_mul]; omega
            have s1 : IntKind.i64.wrap (s * tf) = s * tf := IntWalk.i64_in _ (by omega)
            have s2 : IntKind.i64.wrap (s * tf * uf) = s * tf * uf := IntWalk.i64_in _ (by omega)
            have hSb := rowSum_bd (zs := zs) (t := ⟨[p0, p1, p2, p3, p4, p5, p6, p7], tf⟩) (gs := gs.take j) (sumS_bd (zs := zs) (gs := gs) (fs := fs.take i) (S := zeroS) (fun _ => by simp [zeroS])) [r0, r1, r2, r3, r4, r5, r6, r7]
            have c8 := hT.cell 8
            have d8 := hU.cell 8
            have v0 := hV.cell 0
            have v1 := hV.cell 1
            have v2 := hV.cell 2
            have v3 := hV.cell 3
            have v4 := hV.cell 4
            have v5 := hV.cell 5
            have v6 := hV.cell 6
            have v7 := hV.cell 7
            go_wp2_with fail
            clear c8 d8 v0 v1 v2 v3 v4 v5 v6 v7 s1 s2
            generalize wq.alloc (.cells #[.int .u8 r0, .int .u8 r1, .int .u8 r2, .int .u8 r3, .int .u8 r4, .int .u8 r5, .int .u8 r6, .int .u8 r7] 66) = wv at *
            refine (mapAdd8 hM (by omega) hRm hSb (by omega)).mono ?_
            rintro e wz ⟨rfl, hM2, hgr⟩
            have hMl := hM.lt
            replace hG := hG.grown hgr (by simp; omega)
            replace hR := hR.grown hgr (by simp; omega)
            replace hT := hT.grown hgr (by simp; omega)
            replace hb := bel_map hb hgr (by omega)
            go_wp2_with fail
            go_roundw
            case rel => exact ⟨j + 1, by omega, by go_num, hb, hG, hR, hT, by rw [rowSum_take hy.out, stepS_yes HSE.out HRE.out hs0]; exact hM2⟩
            case measure => simp [intOf] <;> omega
        · have he : j = n2 := by omega
          subst he
          go_wp2_with fail
          go_roundw
          case rel => exact ⟨i + 1, by omega, by go_num, hb, hG, hR, by rw [sumS_take hx.out]; rw [List.take_of_length_le (Nat.le_of_eq hl2)] at hM; exact hM.mono (by omega)⟩
          case measure => simp [intOf] <;> omega
    · have he : i = n1 := by omega
      subst he
      rw [List.take_of_length_le (Nat.le_of_eq hl1)] at hM
      go_wp2_with fail
      refine (HFM.out wr b _ _ hM (by omega) (sumS_bd (fun _ => by simp [zeroS]))).mono ?_
      rintro e wf ⟨hfo, hbf⟩
      have hwr := hb.size
      have hlw := hR.lt
      replace hb := below_trans' hb hbf hb.size
      replace hR := hR.keep hbf hR.lt
      have cR := hR.cell 0
      have fR := hR.frozen 0
      rcases hfo with ⟨v, L, rfl, hO, hrest⟩ | ⟨rfl, hbad⟩
      · obtain ⟨va, vn, vc, rfl⟩ := hO.isSlice
        have HR := Lib.hid hrest
        clear hrest
        go_wp2_with fail
        have q := hR.set 0 (.slice va vn vc)
        exact bodyPost_ret (results_row2 rfl _ _ g6 29 #[.slice va vn vc] (0, 0) _ rfl q Try.underlying29 rfl Try.info_form) rfl ⟨Or.inl ⟨.slice va vn vc, L, rfl, (hO.set (p := ⟨g6, 0, none⟩) (by dsimp only; omega) _).weaken hwr, HR.out⟩, hb.setCell (p := ⟨g6, 0, none⟩) (by dsimp only; omega) _⟩
      · have HB := Lib.hid hbad
        clear hbad
        go_wp2_with fail
        have q := hR.set 0 (.slice none 0 0)
        exact bodyPost_ret (results_row2 rfl _ _ g6 29 #[.slice none 0 0] (0, 0) _ rfl q Try.underlying29 rfl Try.info_form) rfl ⟨Or.inr ⟨rfl, HB.out⟩, hb.setCell (p := ⟨g6, 0, none⟩) (by dsimp only; omega) _⟩
end Go.Proofs.Ytbokloflbldikaa
