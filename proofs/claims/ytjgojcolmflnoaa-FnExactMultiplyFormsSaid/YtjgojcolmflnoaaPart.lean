/- The part of a form of a degree: the program's. -/
import Derived.Test.YtjgojcolmflnoaaDegForm
import Derived.Deep.DeepAppendWide
namespace Go.Proofs.Ytjgojcolmflnoaa
open Go.RowKit Go.Deep

def partOf (zs : List Int) (n : Int) (ts : List Tm) : List Tm := ts.filter fun t => decide (wt zs t.m = n)
theorem partOf_take_yes {zs : List Int} {ts : List Tm} {n : Int} {k : Nat} {t : Tm} (h : ts[k]? = some t) (hw : wt zs t.m = n) : partOf zs n (ts.take (k + 1)) = partOf zs n (ts.take k) ++ [t] := by
  rw [partOf, List.take_add_one, h, List.filter_append]
  simp [partOf, hw]
theorem partOf_take_no {zs : List Int} {ts : List Tm} {n : Int} {k : Nat} {t : Tm} (h : ts[k]? = some t) (hw : ¬ wt zs t.m = n) : partOf zs n (ts.take (k + 1)) = partOf zs n (ts.take k) := by
  rw [partOf, List.take_add_one, h, List.filter_append]
  simp [partOf, hw]
theorem partOf_len (zs : List Int) (n : Int) (ts : List Tm) : (partOf zs n ts).length ≤ ts.length := List.length_filter_le _ _

/-- A result that is a form: its terms lie in a block of its own behind base, or there is none. -/
def OwnForm (w : World) (base : Nat) (v : Value) (ts : List Tm) : Prop := w.ownsRow base 96 9 v ts.length (rcells ts) ∧ (v = .slice none 0 0 ↔ ts.length = 0)
def partE (zs : List Int) (ts : List Tm) (n : Int) : Int := if isForm zs ts = true then (if 0 ≤ n then 0 else 2) else 1
def partV (zs : List Int) (ts : List Tm) (n : Int) : List Tm := if isForm zs ts = true ∧ 0 ≤ n then partOf zs n ts else []

theorem grown_own {w w' : World} {row : Option Nat} {g : Nat} {t : TypeId} {cs : Array Value} (h : Own w g t cs) (hg : w.grownBy w' row) (hne : some g ≠ row) : Own w' g t cs := h.grown hg hne
theorem grown_below {B : Nat} {a w w' : World} {row : Option Nat} (h : Below B a w) (hg : w.grownBy w' row) (hr : ∀ k, row = some k → B ≤ k) (hB : B ≤ w.heap.size) : Below B a w' :=
  h.trans ⟨hg.os, hg.tape, hg.output, hg.size, fun k hk => hg.block k (by omega) (fun e => by have := hr k e.symm; omega)⟩

theorem Try.info_termA : ∃ i z, Try.prog.info? 96 = some i ∧ i.zero = some z ∧ i.size = 9 ∧ i.bytes = 16 ∧ z.cells.size = 9 := by
  obtain ⟨i, hi, hzz⟩ := Option.map_eq_some_iff.1 Try.info_term3
  simp only [Prod.mk.injEq] at hzz
  obtain ⟨hz, hs, hb⟩ := hzz
  exact ⟨i, _, hi, hz, hs, hb, rfl⟩

theorem OwnForm.set {w : World} {base : Nat} {v : Value} {ts : List Tm} (h : OwnForm w base v ts) {p : Addr} (hp : p.block < base) (u : Value) : OwnForm (w.setCell p u) base v ts := by
  have hb := (Below.refl p.block w).setCell (p := p) (Nat.le_refl _) u
  exact ⟨h.1.kept (row := some p.block) ⟨hb.os, hb.tape, hb.output, hb.size, fun k _ hk => Below.heap_setCell w p u k (fun e => hk (by rw [e]))⟩ (Or.inr (fun e => by have := (h.1.lt _ e).1; omega)), h.2⟩
theorem OwnForm.weaken {w : World} {B B' : Nat} {v : Value} {ts : List Tm} (h : OwnForm w B v ts) (hB : B' ≤ B) : OwnForm w B' v ts := by
  obtain ⟨⟨hl, h1⟩, h2⟩ := h
  refine ⟨⟨hl, ?_⟩, h2⟩
  rcases h1 with h0 | ⟨g, cap, cur, hv, hb, r⟩
  · exact Or.inl h0
  · exact Or.inr ⟨g, cap, cur, hv, by omega, r⟩
theorem OwnForm.keep {w w' : World} {B : Nat} {v : Value} {ts : List Tm} (h : OwnForm w B v ts) (hb : Below w.heap.size w w') : OwnForm w' B v ts :=
  ⟨h.1.kept (row := none) ⟨hb.os, hb.tape, hb.output, hb.size, fun k hk _ => hb.block k hk⟩ (by cases h0 : v.ownBlock <;> simp), h.2⟩
theorem OwnForm.isSlice {w : World} {B : Nat} {v : Value} {ts : List Tm} (h : OwnForm w B v ts) : ∃ a n c, v = .slice a n c := by
  rcases h.1.2 with ⟨h0, _⟩ | ⟨g, cap, cur, hv, _⟩
  · exact ⟨_, _, _, h0⟩
  · exact ⟨_, _, _, hv⟩
theorem OwnForm.of {w : World} {B : Nat} {v : Value} {n : Nat} {ts : List Tm} {xs : List Value} (h : w.ownsRow B 96 9 v n xs) (hn : ts.length = n) (hx : rcells ts = xs) (hv : v = .slice none 0 0 ↔ n = 0) : OwnForm w B v ts := by
  subst hn
  subst hx
  exact ⟨h, hv⟩

set_option maxHeartbeats 1000000 in
set_option maxRecDepth 100000 in
theorem PartOfForm_c {w : World} {da : Option Addr} {dn : Nat} {zs : List Int} {a : Option Addr} {n : Nat} {ts : List Tm} (dc c : Nat) (d : Int) (hd : Ints w da dn zs) (hdn : dn ≤ 1048576) (h : Terms w a n ts) (hn : n ≤ 1048576) :
    Calls Try.prog 53 #[.slice da dn dc, .agg #[.slice a n c], .int .i64 d] w fun e w' => ∃ v, e = .returned (.tuple #[.agg #[v], .int .i64 (partE zs ts d)]) ∧ OwnForm w' w.heap.size v (partV zs ts d) ∧ Below w.heap.size w w' := by
  have HL := Lib.hid hd.len
  have HLt := Lib.hid h.len
  have HT := Lib.hid h.2.1
  have hF0 := (Own.new w 56 #[.slice a n c]).alloc (.cells #[.slice none 0 0] 56)
  have hR0 := Own.new (w.alloc (.cells #[.slice a n c] 56)) 56 #[.slice none 0 0]
  rw [size_alloc] at hR0
  have hb0 := below_then (below_alloc1 w (.cells #[.slice a n c] 56)) (below_alloc1 _ (.cells #[.slice none 0 0] 56))
  have c0 := hF0.cell 0
  cases hif : isForm zs ts with
  | false =>
    have HIF := Lib.hid hif
    clear hif
    go_enter Try.func53, Try.ntmps53
    go_upto_region 1 with fail
    generalize (w.alloc (.cells #[.slice a n c] 56)).alloc (.cells #[.slice none 0 0] 56) = w0 at *
    go_wp2_with fail
    refine (IsForm_c dc c (hd.keep hb0) hdn (h.keep hb0) hn).mono ?_
    rintro e w1 ⟨rfl, hb1⟩
    rw [HIF.out]
    have hR1 := hR0.keep hb1 hR0.lt
    have cR := hR1.cell 0
    have fR := hR1.frozen 0
    go_wp2_with fail
    have q := hR1.set 0 (.slice none 0 0)
    refine bodyPost_ret (results_row2 rfl _ _ (w.heap.size + 1) 56 #[.slice none 0 0] (0, 0) _ rfl q Try.underlying56 rfl Try.info_form) rfl ⟨.slice none 0 0, by rw [partE, HIF.out]; rfl, ?_, (below_trans' hb0 hb1 hb0.size).setCell (p := ⟨w.heap.size + 1, 0, none⟩) (by dsimp only; omega) _⟩
    rw [partV, HIF.out, if_neg (by simp)]
    exact ⟨World.ownsRow_nil _ _ _ _, by simp⟩
  | true =>
    have HIF := Lib.hid hif
    have hd8 : dn ≤ 8 := by have := degsOk_len (isForm_degs hif); have := HL.out; omega
    have hz := degsOk_mild (isForm_degs hif)
    have h400 : n ≤ 400 := by
      simp only [isForm, Bool.and_eq_true, decide_eq_true_eq] at hif
      have := HLt.out
      omega
    have H400 := Lib.hid h400
    clear hif h400
    by_cases hneg : d < 0
    · go_enter Try.func53, Try.ntmps53
      go_upto_region 1 with fail
      generalize (w.alloc (.cells #[.slice a n c] 56)).alloc (.cells #[.slice none 0 0] 56) = w0 at *
      go_wp2_with fail
      refine (IsForm_c dc c (hd.keep hb0) hdn (h.keep hb0) hn).mono ?_
      rintro e w1 ⟨rfl, hb1⟩
      rw [HIF.out]
      have hR1 := hR0.keep hb1 hR0.lt
      have cR := hR1.cell 0
      have fR := hR1.frozen 0
      go_wp2_with fail
      have q := hR1.set 0 (.slice none 0 0)
      refine bodyPost_ret (results_row2 rfl _ _ (w.heap.size + 1) 56 #[.slice none 0 0] (0, 0) _ rfl q Try.underlying56 rfl Try.info_form) rfl ⟨.slice none 0 0, by rw [partE, HIF.out, if_neg (show ¬ 0 ≤ d by omega)]; rfl, ?_, (below_trans' hb0 hb1 hb0.size).setCell (p := ⟨w.heap.size + 1, 0, none⟩) (by dsimp only; omega) _⟩
      rw [partV, if_neg (by omega)]
      exact ⟨World.ownsRow_nil _ _ _ _, by simp⟩
    · have hd0 : 0 ≤ d := by omega
      go_enter Try.func53, Try.ntmps53
      go_upto_region 1 with fail
      generalize (w.alloc (.cells #[.slice a n c] 56)).alloc (.cells #[.slice none 0 0] 56) = w0 at *
      go_wp2_with fail
      refine (IsForm_c dc c (hd.keep hb0) hdn (h.keep hb0) hn).mono ?_
      rintro e w1 ⟨rfl, hb1⟩
      rw [HIF.out]
      have hR1 := hR0.keep hb1 hR0.lt
      have c1 := (hF0.keep hb1 hF0.lt).cell 0
      have hb01 := below_trans' hb0 hb1 hb0.size
      have hl1 := hR1.lt
      clear c0 hF0 hR0 hb0 hb1
      go_upto_region 6 with fail
      have hR2 := hR1.alloc (.cells #[.slice none 0 0] 56)
      have hG2 := Own.new w1 56 #[.slice none 0 0]
      have hb02 := below_trans' hb01 (below_alloc1 w1 (.cells #[.slice none 0 0] 56)) hb01.size
      have hs2 := size_alloc w1 (.cells #[.slice none 0 0] 56)
      have c2 : (w1.alloc (.cells #[.slice none 0 0] 56)).cell? ⟨w.heap.size, 0, none⟩ = some (.slice a n c) := by
        rw [World.cell?_alloc_lt _ _ _ (World.block_lt_of_cell? w1 ⟨w.heap.size, 0, none⟩ c1)]; exact c1
      generalize w1.alloc (.cells #[.slice none 0 0] 56) = w2 at *
      generalize hg8 : w1.heap.size = g8 at *
      clear c1 hb01 hR1 hg8
      go_wp2_with fail
      clear c2
      go_loopw [22] (fun i wr => ∃ (k : Nat) (v : Value), k ≤ n ∧ i = .int .i64 k ∧ Below w.heap.size w wr ∧ Own wr (w.heap.size + 1) 56 #[.slice none 0 0] ∧ Own wr g8 56 #[v] ∧ OwnForm wr (g8 + 1) v (partOf zs d (ts.take k))) (fun i _ => n - (intOf i).toNat)
      case atStart => exact ⟨0, .slice none 0 0, Nat.zero_le _, rfl, hb02, hR2, hG2, by simp only [List.take_zero]; exact ⟨World.ownsRow_nil _ _ _ _, by simp [partOf]⟩⟩
      case round =>
        clear hb02 hR2 hG2 hs2
        obtain ⟨k, v, hk, rfl, hb, hR, hG, hO⟩ := hrel
        obtain ⟨va, vn, vc, rfl⟩ := hO.isSlice
        by_cases hlt : k < n
        · obtain ⟨b, off, t, rfl, hbl, hr, ht, hx⟩ := (h.keep hb).at_ hlt
          obtain ⟨mt, ft⟩ := t
          have hmt : IsMono mt := ht.1
          obtain ⟨p0, p1, p2, p3, p4, p5, p6, p7, rfl⟩ := mono8 hmt
          obtain ⟨y0, y1, y2, y3, y4, y5, y6, y7, y8⟩ := nine hr
          have hba := below_alloc1 wr (.cells #[.int .u8 p0, .int .u8 p1, .int .u8 p2, .int .u8 p3, .int .u8 p4, .int .u8 p5, .int .u8 p6, .int .u8 p7, .int .i64 ft] 96)
          have hb3 := below_trans' hb hba hb.size
          have hT3 := Own.new wr 96 #[.int .u8 p0, .int .u8 p1, .int .u8 p2, .int .u8 p3, .int .u8 p4, .int .u8 p5, .int .u8 p6, .int .u8 p7, .int .i64 ft]
          have hR3 := hR.alloc (.cells #[.int .u8 p0, .int .u8 p1, .int .u8 p2, .int .u8 p3, .int .u8 p4, .int .u8 p5, .int .u8 p6, .int .u8 p7, .int .i64 ft] 96)
          have hG3 := hG.alloc (.cells #[.int .u8 p0, .int .u8 p1, .int .u8 p2, .int .u8 p3, .int .u8 p4, .int .u8 p5, .int .u8 p6, .int .u8 p7, .int .i64 ft] 96)
          have hO3 := hO.keep hba
          clear hba hO
          by_cases heq : wt zs [p0, p1, p2, p3, p4, p5, p6, p7] = d
          · go_wp2_with fail
            generalize hg10 : wr.heap.size = g10 at *
            generalize wr.alloc (.cells #[.int .u8 p0, .int .u8 p1, .int .u8 p2, .int .u8 p3, .int .u8 p4, .int .u8 p5, .int .u8 p6, .int .u8 p7, .int .i64 ft] 96) = w4 at *
            refine (degreeOf8 dc (hd.keep hb3) hd8 hz hmt heq).mono ?_
            rintro e w5 ⟨rfl, hb5⟩
            have hT5 := hT3.keep hb5 hT3.lt
            have hR5 := hR3.keep hb5 hR3.lt
            have hG5 := hG3.keep hb5 hG3.lt
            have hO5 := hO3.keep hb5
            have hb05 := below_trans' hb3 hb5 hb3.size
            clear y0 y1 y2 y3 y4 y5 y6 y7 y8 hT3 hR3 hG3 hO3 hb3 hr hR hG
            have c5 := hG5.cell 0
            obtain ⟨z0, z1, z2, z3, z4, z5, z6, z7, z8⟩ : w5.cell? ⟨g10, 0, none⟩ = some (.int .u8 p0) ∧ w5.cell? ⟨g10, 1, none⟩ = some (.int .u8 p1) ∧ w5.cell? ⟨g10, 2, none⟩ = some (.int .u8 p2) ∧ w5.cell? ⟨g10, 3, none⟩ = some (.int .u8 p3) ∧ w5.cell? ⟨g10, 4, none⟩ = some (.int .u8 p4) ∧ w5.cell? ⟨g10, 5, none⟩ = some (.int .u8 p5) ∧ w5.cell? ⟨g10, 6, none⟩ = some (.int .u8 p6) ∧ w5.cell? ⟨g10, 7, none⟩ = some (.int .u8 p7) ∧ w5.cell? ⟨g10, 8, none⟩ = some (.int .i64 ft) := ⟨hT5.cell 0, hT5.cell 1, hT5.cell 2, hT5.cell 3, hT5.cell 4, hT5.cell 5, hT5.cell 6, hT5.cell 7, hT5.cell 8⟩
            obtain ⟨ti, tz, hti, htz, hts, htb, htzs⟩ := Try.info_termA
            have hO6 := (hO5.keep (below_alloc1 w5 (.cells #[.int .u8 p0, .int .u8 p1, .int .u8 p2, .int .u8 p3, .int .u8 p4, .int .u8 p5, .int .u8 p6, .int .u8 p7, .int .i64 ft] 96))).1
            have hb06 := below_trans' hb05 (below_alloc1 w5 (.cells #[.int .u8 p0, .int .u8 p1, .int .u8 p2, .int .u8 p3, .int .u8 p4, .int .u8 p5, .int .u8 p6, .int .u8 p7, .int .i64 ft] 96)) hb05.size
            have hG6 := hG5.alloc (.cells #[.int .u8 p0, .int .u8 p1, .int .u8 p2, .int .u8 p3, .int .u8 p4, .int .u8 p5, .int .u8 p6, .int .u8 p7, .int .i64 ft] 96)
            have hR6 := hR5.alloc (.cells #[.int .u8 p0, .int .u8 p1, .int .u8 p2, .int .u8 p3, .int .u8 p4, .int .u8 p5, .int .u8 p6, .int .u8 p7, .int .i64 ft] 96)
            have hGl := hG6.lt
            have hnews : ∀ j u, ([Value.int .u8 p0, .int .u8 p1, .int .u8 p2, .int .u8 p3, .int .u8 p4, .int .u8 p5, .int .u8 p6, .int .u8 p7, .int .i64 ft] : List Value)[j]? = some u → (w5.alloc (.cells #[.int .u8 p0, .int .u8 p1, .int .u8 p2, .int .u8 p3, .int .u8 p4, .int .u8 p5, .int .u8 p6, .int .u8 p7, .int .i64 ft] 96)).cell? ((⟨w5.heap.size, 0, none⟩ : Addr).add j) = some u := fun j u hu => by
              rw [Addr.add_mid]
              exact (Own.new w5 96 #[.int .u8 p0, .int .u8 p1, .int .u8 p2, .int .u8 p3, .int .u8 p4, .int .u8 p5, .int .u8 p6, .int .u8 p7, .int .i64 ft]).range j u hu
            have hone : ∀ u ∈ ([Value.int .u8 p0, .int .u8 p1, .int .u8 p2, .int .u8 p3, .int .u8 p4, .int .u8 p5, .int .u8 p6, .int .u8 p7, .int .i64 ft] : List Value), u.oneCell' = true := by simp [Value.oneCell']
            have hpl : (partOf zs d (ts.take k)).length ≤ 400 := by
              have h1 := partOf_len zs d (ts.take k)
              have h2 := H400.out
              rw [List.length_take] at h1
              omega
            have HN := Lib.hid hnews
            have HO := Lib.hid hone
            have HP := Lib.hid hpl
            have HI := Lib.hid hti
            have HZ := Lib.hid htz
            have HS := Lib.hid hts
            have HBt := Lib.hid htb
            have HZs := Lib.hid htzs
            clear hnews hone hpl hti htz hts htb htzs
            go_wp2_with (first
              | (refine wpList_append_own_wide _ rfl (.tmp 33) (.tmp 35) 54 rfl (g8 + 1) 96 ti tz 9 16 Try.underlying54 HI.out HZ.out HS.out HBt.out HZs.out (by omega) (.slice va vn vc) _ _ rfl hO6 ⟨w5.heap.size, 0, none⟩ 1 1 [Value.int .u8 p0, .int .u8 p1, .int .u8 p2, .int .u8 p3, .int .u8 p4, .int .u8 p5, .int .u8 p6, .int .u8 p7, .int .i64 ft] rfl rfl HN.out HO.out (by have := HP.out; simp only [maxLen]; omega) (by have := HP.out; omega) (by omega) (fun v' w' h2 h3 h4 => ?_)
                 obtain ⟨gg, vk, cp, rfl⟩ : ∃ gg vk cp, v' = .slice gg vk cp := by
                   rcases h2.2 with ⟨h0, _⟩ | ⟨g, cap, cur, hv, _⟩
                   · exact ⟨_, _, _, h0⟩
                   · exact ⟨_, _, _, hv⟩
                 have hG7 := hG6.grown h3 (fun e => by have := (hO6.lt _ e.symm).1; omega)
                 have hR7 := hR6.grown h3 (fun e => by have := (hO6.lt _ e.symm).1; omega)
                 have hb07 := grown_below hb06 h3 (fun q e => by have := (hO6.lt q e).1; omega) hb06.size
                 have c7 := hG7.cell 0
                 have f7 := hG7.frozen 0
                 have H2 := Lib.hid h2
                 have H4 := Lib.hid h4
                 clear h2 h3 h4 hO6 hG6 hR6 hb06 HN HO c5 z0 z1 z2 z3 z4 z5 z6 z7 z8))
            go_roundw
            case rel =>
              refine ⟨k + 1, .slice gg vk cp, by omega, by go_num, hb07.setCell (p := ⟨g8, 0, none⟩) (by dsimp only; omega) _, hR7.far (p := ⟨g8, 0, none⟩) (by dsimp only; omega) _, hG7.set 0 _, ?_⟩
              rw [partOf_take_yes hx.out heq]
              refine OwnForm.set (p := ⟨g8, 0, none⟩) (OwnForm.of H2.out (by simp) (by rw [rcells_append]; rfl) ⟨fun e => absurd (H4.out.1 e).2 (by omega), fun e => by omega⟩) (by dsimp only; omega) _
            case measure => simp [intOf] <;> omega
          · have hne : (wt zs [p0, p1, p2, p3, p4, p5, p6, p7] == d) = false := by simpa using heq
            obtain ⟨v2, hv2⟩ : ∃ v2, wt zs [p0, p1, p2, p3, p4, p5, p6, p7] = v2 := ⟨_, rfl⟩
            have hne3 : ¬ v2 = d := by rw [← hv2]; exact heq
            have hne2 : (v2 == d) = false := by simpa using hne3
            have HV := Lib.hid hv2
            have HE := Lib.hid heq
            clear hv2 heq hne
            go_wp2_with fail
            generalize wr.alloc (.cells #[.int .u8 p0, .int .u8 p1, .int .u8 p2, .int .u8 p3, .int .u8 p4, .int .u8 p5, .int .u8 p6, .int .u8 p7, .int .i64 ft] 96) = w4 at *
            refine (degreeOf8 dc (hd.keep hb3) hd8 hz hmt HV.out).mono ?_
            rintro e w5 ⟨rfl, hb5⟩
            have hR5 := hR3.keep hb5 hR3.lt
            have hG5 := hG3.keep hb5 hG3.lt
            have hO5 := hO3.keep hb5
            have hb05 := below_trans' hb3 hb5 hb3.size
            clear y0 y1 y2 y3 y4 y5 y6 y7 y8 hT3 hR3 hG3 hO3 hb3 hr hR hG
            go_wp2_with fail
            go_roundw
            case rel => exact ⟨k + 1, .slice va vn vc, by omega, by go_num, hb05, hR5, hG5, by rw [partOf_take_no hx.out HE.out]; exact hO5⟩
            case measure => simp [intOf] <;> omega
        · have he : k = n := by omega
          subst he
          have c3 := hG.cell 0
          have cR := hR.cell 0
          have fR := hR.frozen 0
          go_wp2_with fail
          have q := hR.set 0 (.slice va vn vc)
          refine bodyPost_ret (results_row2 rfl _ _ (w.heap.size + 1) 56 #[.slice va vn vc] (0, 0) _ rfl q Try.underlying56 rfl Try.info_form) rfl ⟨.slice va vn vc, by rw [partE, HIF.out, if_pos hd0]; rfl, ?_, hb.setCell (p := ⟨w.heap.size + 1, 0, none⟩) (by dsimp only; omega) _⟩
          rw [partV, HIF.out, if_pos ⟨rfl, hd0⟩]
          rw [List.take_of_length_le (Nat.le_of_eq HLt.out)] at hO
          exact (hO.set (p := ⟨w.heap.size + 1, 0, none⟩) (by dsimp only; omega) _).weaken (by omega)

end Go.Proofs.Ytjgojcolmflnoaa
