
import Derived.Test.YtndnkeijddagiaaPairM
import Derived.Test.YtndnkeijddagiaaRanks
import Derived.WalkMore
import Derived.Deep.LoopGhost
namespace Go.Proofs.Ytndnkeijddagiaa
open Go.RowKit Go.Deep
set_option maxRecDepth 100000 in
theorem idx8 {p0 p1 p2 p3 p4 p5 p6 p7 y : Int} {k : Nat} (hk : k < 8) (hy : ([p0, p1, p2, p3, p4, p5, p6, p7] : List Int)[k]? = some y) (w : World) : (Instr.index 74 (.agg #[.int .u8 p0, .int .u8 p1, .int .u8 p2, .int .u8 p3, .int .u8 p4, .int .u8 p5, .int .u8 p6, .int .u8 p7]) (.int .i64 (k : Int))).run Try.prog w = .ok (.int .u8 y) w := by
  match k, hk, hy with
  | 0, _, hy => injection hy with hy; subst hy; rfl
  | 1, _, hy => injection hy with hy; subst hy; rfl
  | 2, _, hy => injection hy with hy; subst hy; rfl
  | 3, _, hy => injection hy with hy; subst hy; rfl
  | 4, _, hy => injection hy with hy; subst hy; rfl
  | 5, _, hy => injection hy with hy; subst hy; rfl
  | 6, _, hy => injection hy with hy; subst hy; rfl
  | 7, _, hy => injection hy with hy; subst hy; rfl
  | i + 8, hk, _ => omega
def Fnd (m : List Int) (j : Nat) (f : Int) : Prop := (f = -1 ∧ ∀ i, i < j → m.getD i 0 = 0) ∨ (∃ p : Nat, f = p ∧ p < j ∧ m.getD p 0 = 1 ∧ ∀ i, i < j → ¬ i = p → m.getD i 0 = 0)
theorem Fnd.start (m : List Int) : Fnd m 0 (-1) := Or.inl ⟨rfl, fun i hi => absurd hi (by omega)⟩
theorem Fnd.zero {m : List Int} {j : Nat} {f : Int} (h : Fnd m j f) (h0 : m.getD j 0 = 0) : Fnd m (j + 1) f := by
  rcases h with ⟨h1, h2⟩ | ⟨p, h1, h2, h3, h4⟩
  · exact Or.inl ⟨h1, fun i hi => by
      by_cases e : i = j
      · rw [e]; exact h0
      · exact h2 i (by omega)⟩
  · exact Or.inr ⟨p, h1, by omega, h3, fun i hi hne => by
      by_cases e : i = j
      · rw [e]; exact h0
      · exact h4 i (by omega) hne⟩
theorem Fnd.hit {m : List Int} {j : Nat} (h : Fnd m j (-1)) (h1 : m.getD j 0 = 1) : Fnd m (j + 1) (j : Int) := by
  rcases h with ⟨_, h2⟩ | ⟨p, h1, _⟩
  · exact Or.inr ⟨j, rfl, by omega, h1, fun i hi hne => h2 i (by omega)⟩
  · omega
theorem Fnd.big {m : List Int} {j : Nat} (hm : IsMono m) (hj : j < 8) (h1 : 1 < m.getD j 0) : ¬ wlen m = 1 := fun h => by
  obtain ⟨a1, a2, a3⟩ := oneAt_spec hm h
  by_cases e : j = oneAt m
  · rw [e, a2] at h1; omega
  · rw [a3 j hj e] at h1; omega
theorem Fnd.two {m : List Int} {j p : Nat} (h : Fnd m j (p : Int)) (hm : IsMono m) (hj : j < 8) (h1 : m.getD j 0 = 1) : ¬ wlen m = 1 := fun hw => by
  obtain ⟨a1, a2, a3⟩ := oneAt_spec hm hw
  rcases h with ⟨h2, _⟩ | ⟨q, h2, h3, h4, h5⟩
  · omega
  · have e1 : j = oneAt m := by
      by_cases e : j = oneAt m
      · exact e
      · have := a3 j hj e; omega
    have e2 : q = oneAt m := by
      by_cases e : q = oneAt m
      · exact e
      · have := a3 q (by omega) e; omega
    omega
theorem Fnd.wl {m : List Int} {p : Nat} (h1 : m.getD p 0 = 1) (h2 : ∀ i, i < 8 → ¬ i = p → m.getD i 0 = 0) : ∀ k, k ≤ 8 → wlTo m k = if p < k then 1 else 0
  | 0, _ => by rw [if_neg (by omega)]; rfl
  | k + 1, hk => by
    rw [wlTo, Fnd.wl h1 h2 k (by omega)]
    by_cases e : k = p
    · subst e; rw [if_neg (by omega), if_pos (by omega), h1]; rfl
    · rw [h2 k (by omega) e]
      by_cases h : p < k
      · rw [if_pos h, if_pos (by omega)]; rfl
      · rw [if_neg h, if_neg (by omega)]; rfl
theorem Fnd.done {m : List Int} {f : Int} (h : Fnd m 8 f) (hw : 1 ≤ wlen m) : wlen m = 1 ∧ f = (oneAt m : Nat) := by
  rcases h with ⟨_, h2⟩ | ⟨p, h1, h2, h3, h4⟩
  · have : ∀ k, k ≤ 8 → wlTo m k = 0 := by
      intro k
      induction k with
      | zero => intro _; rfl
      | succ k ih => intro hk; rw [wlTo, ih (by omega), h2 k (by omega)]; rfl
    have := this 8 (Nat.le_refl _)
    rw [wlen] at hw
    omega
  · have e := Fnd.wl h3 h4 8 (Nat.le_refl _)
    rw [if_pos h2] at e
    refine ⟨e, ?_⟩
    rw [h1, oneAt, oneFrom_eq h3 (fun j hj hj1 => by have := h4 j (by omega) (by omega); omega) 8 0 (by omega) (by omega)]
def FPR (ims : List (List Tm)) (i j : Int) (b : Bool) : Prop := (b = true ∧ ∃ p q : Nat, i = p ∧ j = q ∧ fpFrom ims 0 = some (p, q)) ∨ (b = false ∧ fpFrom ims 0 = none)
theorem Try.info_pair : (Try.prog.info? 110).map (·.size) = some 3 := by kernel_rfl
set_option maxHeartbeats 4000000 in
set_option maxRecDepth 100000 in
theorem firstPair_c {w : World} {da : Option Addr} {dn : Nat} {a : Option Addr} {n : Nat} {ims : List (List Tm)} (dc c : Nat) (hF : Frms w a n ims) (hn : n ≤ 1048576) (hL : ∀ im ∈ ims, (im.length : Int) ≤ 1048576) (hone : ∀ ts ∈ ims, ∀ t ∈ ts, 1 ≤ wlen t.m) :
    Calls Try.prog 92 #[.agg #[.slice da dn dc, .slice a n c]] w fun e w' => ∃ (i j f : Int) (b : Bool), e = .returned (.tuple #[.agg #[.int .i64 i, .int .i64 j, .int .i64 f], .bool b]) ∧ Hid (FPR ims i j b) ∧ Below w.heap.size w w' := by
  have HLL := Lib.hid hL
  have HLn := Lib.hid hF.len
  have HFF := Lib.hid hF
  have H1 := Lib.hid hone
  clear hL hone
  have hA := (Own.new w 29 #[.slice da dn dc, .slice a n c]).alloc (.cells #[.int .i64 0, .int .i64 0, .int .i64 0] 110)
  have hR := Own.new (w.alloc (.cells #[.slice da dn dc, .slice a n c] 29)) 110 #[.int .i64 0, .int .i64 0, .int .i64 0]
  have hb := below_then (below_alloc1 w (.cells #[.slice da dn dc, .slice a n c] 29)) (below_alloc1 _ (.cells #[.int .i64 0, .int .i64 0, .int .i64 0] 110))
  rw [size_alloc] at hR
  go_enter Try.func92, Try.ntmps92
  go_upto_region 1 with fail
  generalize (w.alloc (.cells #[.slice da dn dc, .slice a n c] 29)).alloc (.cells #[.int .i64 0, .int .i64 0, .int .i64 0] 110) = w0 at *
  generalize hgR : w.heap.size + 1 = gR at *
  have c1 := hA.cell 1
  go_upto_region 2 with fail
  clear c1
  go_loopw [14] (fun y wr => ∃ k : Nat, k ≤ n ∧ y = .int .i64 k ∧ Below w.heap.size w wr ∧ Own wr gR 110 #[.int .i64 0, .int .i64 0, .int .i64 0] ∧ Hid (∀ p, p < k → ∀ us, ims[p]? = some us → linOf us = none)) (fun y _ => n - (intOf y).toNat)
  case atStart => exact ⟨0, Nat.zero_le _, rfl, hb, hR, Lib.hid (fun p hp => absurd hp (by omega))⟩
  case round =>
    clear hb hR hA
    obtain ⟨k, hk, rfl, hb, hR, HN⟩ := hrel
    by_cases hin : k < n
    · obtain ⟨b, off, ts, ai, ni, ci, rfl, hbl, hc0, hT0, hni, hx⟩ := HFF.out.at_ hin
      have hc := (World.cell?_of_block (a := ⟨b, off + k, none⟩) (hb.block b hbl)).trans hc0
      have hTs := hT0.keep hb
      have hni2 : ni ≤ 1048576 := by have := HLL.out ts (List.mem_of_getElem? hx.out); have := hT0.len; omega
      have HW := Lib.hid (H1.out ts (List.mem_of_getElem? hx.out))
      have hi0 : (0 : Int) ≤ (k : Int) := by omega
      have hini : (k : Int) < (n : Int) := by omega
      have hE := Own.new wr 47 #[.slice ai ni ci]
      have hba := below_alloc1 wr (.cells #[.slice ai ni ci] 47)
      have hb4 := below_trans' hb hba hb.size
      have hR4 := hR.keep hba hR.lt
      have hTs4 := Lib.hid (hTs.keep hba)
      have hTL := Lib.hid hT0.len
      go_upto_region 4 with fail
      generalize wr.alloc (.cells #[.slice ai ni ci] 47) = w3 at *
      generalize wr.heap.size = gE at *
      clear hc hc0 hba hb hT0 hTs hR
      have cE := hE.cell 0
      go_wp2_with fail
      go_step3
      go_wp2_with fail
      go_step3
      go_upto_region 5 with fail
      clear cE
      go_loopw [22] (fun y wq => ∃ q : Nat, q ≤ ni ∧ y = .int .i64 q ∧ Below w.heap.size w wq ∧ Below w3.heap.size w3 wq ∧ Own wq gR 110 #[.int .i64 0, .int .i64 0, .int .i64 0] ∧ Hid (∀ p, p < q → ∀ u, ts[p]? = some u → ¬ wlen u.m = 1)) (fun y _ => ni - (intOf y).toNat)
      case atStart => exact ⟨0, Nat.zero_le _, rfl, hb4, Below.refl _ _, hR4, Lib.hid (fun p hp => absurd hp (by omega))⟩
      case round =>
        clear hb4 hR4 hE
        obtain ⟨q, hq, rfl, hb, hb3, hR, HQ⟩ := hrel
        by_cases hqn : q < ni
        · obtain ⟨b2, off2, t, rfl, hbl2, hro, ht, hx2⟩ := (hTs4.out.keep hb3).at_ hqn
          have hw1 := HW.out t (List.mem_of_getElem? hx2.out)
          obtain ⟨mt, ft⟩ := t
          have hmt : IsMono mt := ht.1
          have HM := Lib.hid hmt
          have HW1 := Lib.hid hw1
          obtain ⟨p0, p1, p2, p3, p4, p5, p6, p7, rfl⟩ := mono8 hmt
          obtain ⟨y0, y1, y2, y3, y4, y5, y6, y7, y8⟩ := nine hro
          have hT := Own.new wr 76 #[.int .u8 p0, .int .u8 p1, .int .u8 p2, .int .u8 p3, .int .u8 p4, .int .u8 p5, .int .u8 p6, .int .u8 p7, .int .i64 ft]
          have hba := below_alloc1 wr (.cells #[.int .u8 p0, .int .u8 p1, .int .u8 p2, .int .u8 p3, .int .u8 p4, .int .u8 p5, .int .u8 p6, .int .u8 p7, .int .i64 ft] 76)
          have hb5 := below_trans' hb hba hb.size
          have hb6 := below_trans' hb3 hba hb3.size
          have hR5 := hR.keep hba hR.lt
          have hRT : gR < wr.heap.size := hR.lt
          have hq0 : (0 : Int) ≤ (q : Int) := by omega
          have hqi : (q : Int) < (ni : Int) := by omega
          go_upto_region 7 with fail
          generalize wr.alloc (.cells #[.int .u8 p0, .int .u8 p1, .int .u8 p2, .int .u8 p3, .int .u8 p4, .int .u8 p5, .int .u8 p6, .int .u8 p7, .int .i64 ft] 76) = wt at *
          generalize wr.heap.size = gT at *
          clear hb hba hR y0 y1 y2 y3 y4 y5 y6 y7 y8 hro hb3 hw1
          obtain ⟨z0, z1, z2, z3, z4, z5, z6, z7, z8⟩ : wt.cell? ⟨gT, 0, none⟩ = some (.int .u8 p0) ∧ wt.cell? ⟨gT, 1, none⟩ = some (.int .u8 p1) ∧ wt.cell? ⟨gT, 2, none⟩ = some (.int .u8 p2) ∧ wt.cell? ⟨gT, 3, none⟩ = some (.int .u8 p3) ∧ wt.cell? ⟨gT, 4, none⟩ = some (.int .u8 p4) ∧ wt.cell? ⟨gT, 5, none⟩ = some (.int .u8 p5) ∧ wt.cell? ⟨gT, 6, none⟩ = some (.int .u8 p6) ∧ wt.cell? ⟨gT, 7, none⟩ = some (.int .u8 p7) ∧ wt.cell? ⟨gT, 8, none⟩ = some (.int .i64 ft) := ⟨hT.cell 0, hT.cell 1, hT.cell 2, hT.cell 3, hT.cell 4, hT.cell 5, hT.cell 6, hT.cell 7, hT.cell 8⟩
          go_upto_region 9 with fail
          clear z0 z1 z2 z3 z4 z5 z6 z7 z8
          go_loopw [28, 8] (fun y z wz => ∃ (j : Nat) (f : Int), j ≤ 8 ∧ y = .int .i64 j ∧ z = .int .i64 f ∧ wz = wt ∧ Hid (Fnd [p0, p1, p2, p3, p4, p5, p6, p7] j f)) (fun y _ _ => 8 - (intOf y).toNat)
          case atStart => exact ⟨0, -1, by omega, rfl, rfl, rfl, Lib.hid (Fnd.start _)⟩
          case round =>
            obtain ⟨j, f, hj, rfl, rfl, rfl, HF⟩ := hrel
            by_cases hj8 : j < 8
            · obtain ⟨y, hy⟩ : ∃ y, ([p0, p1, p2, p3, p4, p5, p6, p7] : List Int)[j]? = some y := ⟨_, List.getElem?_eq_getElem (by simpa using hj8)⟩
              have hix := fun w => idx8 hj8 hy w
              have hyd : ([p0, p1, p2, p3, p4, p5, p6, p7] : List Int).getD j 0 = y := by rw [List.getD_eq_getElem?_getD, hy]; rfl
              have hyb := getD_mono HM.out j
              rw [hyd] at hyb
              have HY := Lib.hid hyd
              clear hyd hy
              have hjj : (j : Int) < 8 := by omega
              have hj0 : (0 : Int) ≤ (j : Int) := by omega
              by_cases hy1 : 1 < y
              · have hno := Fnd.big HM.out hj8 (by rw [HY.out]; exact hy1)
                have HNO := Lib.hid hno
                clear hno
                go_wp2_with fail
                go_roundw
                case rel =>
                  refine ⟨q + 1, by omega, by go_num, hb5, hb6, hR5, Lib.hid (fun p hp u hu => ?_)⟩
                  by_cases e : p = q
                  · subst e
                    rw [hx2.out, Option.some.injEq] at hu
                    subst hu
                    exact HNO.out
                  · exact HQ.out p (by omega) u hu
                case measure => simp [intOf] <;> omega
              · by_cases hy2 : y = 1
                · subst hy2
                  rcases hfc : HF.out with ⟨rfl, _⟩ | ⟨p, rfl, _⟩
                  · clear hfc
                    go_wp2_with fail
                    go_roundw
                    case rel => exact ⟨j + 1, j, by omega, by go_num, by trivial, by trivial, Lib.hid (HF.out.hit HY.out)⟩
                    case measure => simp [intOf] <;> omega
                  · clear hfc
                    have hno := HF.out.two HM.out hj8 HY.out
                    have HNO := Lib.hid hno
                    clear hno
                    have hp0 : (0 : Int) ≤ (p : Int) := by omega
                    go_wp2_with fail
                    go_roundw
                    case rel =>
                      refine ⟨q + 1, by omega, by go_num, hb5, hb6, hR5, Lib.hid (fun p hp u hu => ?_)⟩
                      by_cases e : p = q
                      · subst e
                        rw [hx2.out, Option.some.injEq] at hu
                        subst hu
                        exact HNO.out
                      · exact HQ.out p (by omega) u hu
                    case measure => simp [intOf] <;> omega
                · obtain rfl : y = 0 := by omega
                  go_wp2_with fail
                  go_roundw
                  case rel => exact ⟨j + 1, f, by omega, by go_num, by trivial, by trivial, Lib.hid (HF.out.zero HY.out)⟩
                  case measure => simp [intOf] <;> omega
            · obtain rfl : j = 8 := by omega
              obtain ⟨h1, rfl⟩ := HF.out.done HW1.out
              have HL1 := Lib.hid (fp_hit (k := 0) (linOf_at hx2.out h1 HQ.out) HN.out hx.out)
              obtain ⟨o, ho⟩ : ∃ o, oneAt [p0, p1, p2, p3, p4, p5, p6, p7] = o := ⟨_, rfl⟩
              rw [ho]
              have HO := Lib.hid ho
              clear h1 ho
              have z8 := hT.cell 8
              have r0 := hR5.cell 0
              have r1 := hR5.cell 1
              have r2 := hR5.cell 2
              have f0 := hR5.frozen 0
              have f1 := hR5.frozen 1
              have f2 := hR5.frozen 2
              go_wp2_with fail
              have q := ((hR5.set 0 (.int .i64 (k : Int))).set 1 (.int .i64 (o : Int))).set 2 (.int .i64 ft)
              exact bodyPost_ret (results_row2 rfl _ _ gR 110 #[.int .i64 (k : Int), .int .i64 (o : Int), .int .i64 ft] (0, 0) _ rfl q Try.underlying110 rfl Try.info_pair) rfl ⟨(k : Int), (o : Int), ft, true, rfl, Lib.hid (Or.inl ⟨rfl, k, o, rfl, rfl, by rw [HL1.out, Nat.zero_add, HO.out]⟩), ((hb5.setCell (p := ⟨gR, 0, none⟩) (by dsimp only; omega) (.int .i64 (k : Int))).setCell (p := ⟨gR, 1, none⟩) (by dsimp only; omega) (.int .i64 (o : Int))).setCell (p := ⟨gR, 2, none⟩) (by dsimp only; omega) (.int .i64 ft)⟩
        · have he : q = ni := by omega
          subst he
          go_wp2_with fail
          apply_assumption
          go_wp2_with fail
          go_roundw
          case rel =>
            refine ⟨k + 1, by omega, by go_num, hb, hR, Lib.hid (fun p hp us hu => ?_)⟩
            by_cases e : p = k
            · subst e
              rw [hx.out, Option.some.injEq] at hu
              subst hu
              refine linOf_none (fun t ht => ?_)
              obtain ⟨i, hi, rfl⟩ := List.mem_iff_getElem.1 ht
              exact HQ.out i (by have := hTL.out; omega) _ (List.getElem?_eq_getElem hi)
            · exact HN.out p (by omega) us hu
          case measure => simp [intOf] <;> omega
    · have he : k = n := by omega
      subst he
      have r0 := hR.cell 0
      have r1 := hR.cell 1
      have r2 := hR.cell 2
      have f0 := hR.frozen 0
      have f1 := hR.frozen 1
      have f2 := hR.frozen 2
      go_wp2_with fail
      have q := ((hR.set 0 (.int .i64 0)).set 1 (.int .i64 0)).set 2 (.int .i64 0)
      exact bodyPost_ret (results_row2 rfl _ _ gR 110 #[.int .i64 0, .int .i64 0, .int .i64 0] (0, 0) _ rfl q Try.underlying110 rfl Try.info_pair) rfl ⟨0, 0, 0, false, rfl, Lib.hid (Or.inr ⟨rfl, fp_none (fun p us hu => HN.out p (by have := (List.getElem?_eq_some_iff.1 hu).1; have := HLn.out; omega) us hu)⟩), ((hb.setCell (p := ⟨gR, 0, none⟩) (by dsimp only; omega) (.int .i64 0)).setCell (p := ⟨gR, 1, none⟩) (by dsimp only; omega) (.int .i64 0)).setCell (p := ⟨gR, 2, none⟩) (by dsimp only; omega) (.int .i64 0)⟩
end Go.Proofs.Ytndnkeijddagiaa
