
import Derived.Test.YtbokloflbldikaaGreatFill
namespace Go.Proofs.YtbokloflbldikaaGreat
open Go.RowKit Go.Deep
def moE (zs : List Int) (x : Int) : Int := if degsOk zs = false then 1 else if ¬ (0 ≤ x ∧ x ≤ 40) then 2 else if 400 < cnt zs x.toNat then 3 else 0
def moV (zs : List Int) (x : Int) : List (List Int) := if moE zs x = 0 then ext [] (mons zs x.toNat) else []
theorem mo_err {zs : List Int} {x e : Int} (h : moE zs x = e) (h0 : ¬ e = 0) : moE zs x = e ∧ moV zs x = [] := ⟨h, by rw [moV, if_neg (by rw [h]; exact h0)]⟩
theorem mo_1 {zs : List Int} {x : Int} (h : degsOk zs = false) : moE zs x = 1 := by simp [moE, h]
theorem mo_2 {zs : List Int} {x : Int} (h : degsOk zs = true) (h2 : ¬ (0 ≤ x ∧ x ≤ 40)) : moE zs x = 2 := by rw [moE, if_neg (by simp [h]), if_pos h2]
theorem mo_3 {zs : List Int} {r : Nat} (h : degsOk zs = true) (h2 : r ≤ 40) (h3 : 400 < cnt zs r) : moE zs r = 3 := by
  rw [moE, if_neg (by simp [h]), if_neg (by omega), if_pos (by simpa using h3)]
theorem mo_0 {zs : List Int} {r : Nat} (h : degsOk zs = true) (h2 : r ≤ 40) (h3 : ¬ 400 < cnt zs r) : moE zs r = 0 ∧ moV zs r = ext [] (mons zs r) := by
  have e : moE zs r = 0 := by rw [moE, if_neg (by simp [h]), if_neg (by omega), if_neg (by simpa using h3)]
  exact ⟨e, by rw [moV, if_pos e]; simp⟩
def OwnM (w : World) (lo hi : Nat) (a : Option Addr) (n : Nat) (V : List (List Int)) : Prop :=
  V.length = n ∧ (∀ m ∈ V, IsMono m) ∧ (0 < n → ∃ g cs, a = some ⟨g, 0, none⟩ ∧ lo ≤ g ∧ g < hi ∧ Own w g 70 cs ∧ n * 8 ≤ cs.size ∧ ∀ (j : Nat) (v : Value), (mrowsV V)[j]? = some v → cs[j]? = some v)
theorem OwnM.none_ {w : World} {lo hi : Nat} : OwnM w lo hi none 0 [] := ⟨rfl, by simp, fun h => absurd h (by omega)⟩
theorem OwnM.keep {w w' : World} {lo hi n : Nat} {a : Option Addr} {V : List (List Int)} (h : OwnM w lo hi a n V) (hb : Below w.heap.size w w') : OwnM w' lo hi a n V :=
  ⟨h.1, h.2.1, fun hn => by obtain ⟨g, cs, h1, h2, h3, h4, h5⟩ := h.2.2 hn; exact ⟨g, cs, h1, h2, h3, h4.keep hb h4.lt, h5⟩⟩
theorem OwnM.touch {w w' : World} {lo hi n : Nat} {a : Option Addr} {V : List (List Int)} {p : Nat → Prop} (h : OwnM w lo hi a n V) (ht : Touch p w w') (hp : ∀ g, lo ≤ g → g < hi → ¬ p g) : OwnM w' lo hi a n V :=
  ⟨h.1, h.2.1, fun hn => by obtain ⟨g, cs, h1, h2, h3, h4, h5⟩ := h.2.2 hn; exact ⟨g, cs, h1, h2, h3, ht.own h4 (hp g h2 h3), h5⟩⟩
theorem OwnM.weaken {w : World} {lo hi n : Nat} {a : Option Addr} {V : List (List Int)} {lo' hi' : Nat} (h : OwnM w lo hi a n V) (h1 : lo' ≤ lo) (h2 : hi ≤ hi') : OwnM w lo' hi' a n V :=
  ⟨h.1, h.2.1, fun hn => by obtain ⟨g, cs, e, h3, h4, h5⟩ := h.2.2 hn; exact ⟨g, cs, e, by omega, by omega, h5⟩⟩
theorem mrowsV_len {V : List (List Int)} (h : ∀ m ∈ V, IsMono m) : (mrowsV V).length = V.length * 8 := by
  induction V with
  | nil => rfl
  | cons m V ih =>
    have h1 := ih (fun x hx => h x (by simp [hx]))
    have h2 := (h m (by simp)).1
    rw [show m :: V = [m] ++ V from rfl, mrowsV_app, mrowsV_one, List.length_append, mcells_length, h1, h2, List.length_append, List.length_singleton]
    omega
theorem OwnM.of_row {w : World} {B n : Nat} {v : Value} {V : List (List Int)} (h : w.ownsRow B 70 8 v n (mrowsV V)) (hV : ∀ m ∈ V, IsMono m) : ∃ a c, v = .slice a n c ∧ OwnM w B w.heap.size a n V := by
  have hl : V.length = n := by have := mrowsV_len hV; have := h.1; omega
  rcases h.2 with ⟨hv, h0⟩ | ⟨g, cap, cur, hv, hb, hg, hn, _, hs, ht⟩
  · subst h0
    exact ⟨none, 0, hv, hl, hV, fun hp => absurd hp (by omega)⟩
  · have ho : Own w g 70 cur := hg
    refine ⟨some ⟨g, 0, none⟩, cap, hv, hl, hV, fun _ => ⟨g, cur, rfl, hb, ho.lt, ho, by rw [hs]; exact Nat.mul_le_mul_right _ hn, fun j u hu => ?_⟩⟩
    have hj := (List.getElem?_eq_some_iff.1 hu).1
    rw [← ht] at hu hj
    rw [List.getElem?_take] at hu
    split at hu
    · rw [Array.getElem?_toList] at hu
      exact hu
    · cases hu
theorem ext_mono {E : List Int} {L : List (List Int)} (hE : ∀ x ∈ E, 0 ≤ x ∧ x ≤ 255) (h : ∀ m ∈ L, (E ++ m).length ≤ 8 ∧ ∀ x ∈ m, 0 ≤ x ∧ x ≤ 255) : ∀ m ∈ ext E L, IsMono m := by
  intro m hm
  obtain ⟨x, hx, rfl⟩ := List.mem_map.1 hm
  obtain ⟨h1, h2⟩ := h x hx
  refine ⟨by rw [List.length_append, List.length_replicate]; omega, fun y hy => ?_⟩
  rcases List.mem_append.1 hy with hy | hy
  · rcases List.mem_append.1 hy with hy | hy
    · exact hE y hy
    · exact h2 y hy
  · have := List.eq_of_mem_replicate hy
    omega
theorem mons_mono {zs : List Int} {r : Nat} (h : zs.length ≤ 8) : ∀ m ∈ ext [] (mons zs r), IsMono m :=
  ext_mono (by simp) (fun m hm => by
    obtain ⟨h1, h2⟩ := mons_len hm
    exact ⟨by simp; omega, fun x hx => by have := h2 x hx; omega⟩)
theorem make_bytes8 (w : World) :
    (Instr.makeSlice 127 (.int .i64 8) (.int .i64 8)).run Tryz.prog w = .ok (.slice (some ⟨w.heap.size, 0, none⟩) 8 8) (w.alloc (.cells #[.int .u8 0, .int .u8 0, .int .u8 0, .int .u8 0, .int .u8 0, .int .u8 0, .int .u8 0, .int .u8 0] 5)) := by
  have h3 : (Tryz.prog.info? 5).map (fun i => (i.zero, i.size, i.bytes)) = some (some (.int .u8 0), 1, 1) := by kernel_rfl
  obtain ⟨i, hi, hzz⟩ := Option.map_eq_some_iff.1 h3
  simp only [Prod.mk.injEq] at hzz
  obtain ⟨hz, hs, hb⟩ := hzz
  have hr := run_make (P := Tryz.prog) w 127 5 i _ Tryz.underlying127 hi hz .i64 .i64 8 8 (by omega) (by omega) (by rw [hb]; omega) (by omega)
  simp only [hs, Value.cells] at hr
  rw [show Int.toNat 8 = 8 from rfl, madeCells_one] at hr
  exact hr
set_option maxHeartbeats 4000000 in
set_option maxRecDepth 100000 in
theorem MonomialsOf_c {w : World} {a : Option Addr} {n : Nat} {zs : List Int} (c : Nat) (x : Int) (h : Ints w a n zs) (hn : n ≤ 1048576) :
    Calls Tryz.prog 64 #[.slice a n c, .int .i64 x] w fun e w' => ∃ ra rn rc, e = .returned (.tuple #[.slice ra rn rc, .int .i64 (moE zs x)]) ∧ OwnM w' w.heap.size w'.heap.size ra rn (moV zs x) ∧ Below w.heap.size w w' := by
  have HH := Lib.hid h
  have HL := Lib.hid h.len
  clear h
  cases hdg : degsOk zs with
  | false =>
    have HE := Lib.hid (mo_err (mo_1 (x := x) hdg) (by omega))
    have HDG := Lib.hid hdg
    clear hdg
    rw [HE.out.1, HE.out.2]
    go_enter Tryz.func64, Tryz.ntmps64
    go_wp2_with fail
    refine (AreDegrees_c c HH.out hn).mono ?_
    rintro e w1 ⟨rfl, rfl⟩
    rw [HDG.out]
    go_wp2_with fail
    go_ret2
    exact ⟨none, 0, 0, rfl, OwnM.none_, Below.refl _ _⟩
  | true =>
    have HDG := Lib.hid hdg
    clear hdg
    by_cases hx : 0 ≤ x ∧ x ≤ 40
    case neg =>
      have HE := Lib.hid (mo_err (mo_2 HDG.out hx) (by omega))
      rw [HE.out.1, HE.out.2]
      by_cases hx0 : x < 0
      · go_enter Tryz.func64, Tryz.ntmps64
        go_wp2_with fail
        refine (AreDegrees_c c HH.out hn).mono ?_
        rintro e w1 ⟨rfl, rfl⟩
        rw [HDG.out]
        go_wp2_with fail
        go_ret2
        exact ⟨none, 0, 0, rfl, OwnM.none_, Below.refl _ _⟩
      · have hx1 : 40 < x := by omega
        clear hx
        go_enter Tryz.func64, Tryz.ntmps64
        go_wp2_with fail
        refine (AreDegrees_c c HH.out hn).mono ?_
        rintro e w1 ⟨rfl, rfl⟩
        rw [HDG.out]
        go_wp2_with fail
        go_ret2
        exact ⟨none, 0, 0, rfl, OwnM.none_, Below.refl _ _⟩
    obtain ⟨r, rfl⟩ : ∃ r : Nat, x = (r : Int) := ⟨x.toNat, by omega⟩
    have hr : r ≤ 40 := by omega
    have hx0 : ¬ (r : Int) < 0 := by omega
    have hx1 : ¬ (40 : Int) < (r : Int) := by omega
    have hr0 : (0 : Int) ≤ (r : Int) := by omega
    have hr1 : (r : Int) < (r : Int) + 1 := by omega
    have hn1 : (0 : Int) < (n : Int) + 1 := by omega
    clear hx
    obtain ⟨C0, hC0⟩ : ∃ C0, cnt zs r = C0 := ⟨_, rfl⟩
    have HC0 := Lib.hid hC0
    by_cases hbig : 400 < C0
    · have HE := Lib.hid (mo_err (mo_3 HDG.out hr (by rw [hC0]; exact hbig)) (by omega))
      have hbi : (400 : Int) < (C0 : Int) := by omega
      clear hC0
      rw [HE.out.1, HE.out.2]
      go_enter Tryz.func64, Tryz.ntmps64
      go_wp2_with fail
      refine (AreDegrees_c c HH.out hn).mono ?_
      rintro e w1 ⟨rfl, rfl⟩
      rw [HDG.out]
      go_wp2_with fail
      refine (countMonomials_c c HH.out HDG.out (by omega)).mono ?_
      rintro e w1 ⟨g, gf, rfl, hg, hgf, hC, hb⟩
      have k1 := hC.own.cell 0
      rw [tabC_get (Nat.le_refl _) (Nat.zero_le _)] at k1
      have k2 := (hC.row 0 (Nat.le_refl _) (Nat.zero_le _)).cell r
      rw [ofI_get (cntR_get (Nat.le_refl _)), List.drop_zero, HC0.out] at k2
      go_wp2_with fail
      go_ret2
      exact ⟨none, 0, 0, rfl, OwnM.none_, hb⟩
    · have HE := Lib.hid (mo_0 HDG.out hr (by rw [hC0]; exact hbig))
      have hbi : ¬ (400 : Int) < (C0 : Int) := by omega
      clear hC0
      rw [HE.out.1, HE.out.2]
      go_enter Tryz.func64, Tryz.ntmps64
      go_wp2_with fail
      refine (AreDegrees_c c HH.out hn).mono ?_
      rintro e w1 ⟨rfl, rfl⟩
      rw [HDG.out]
      go_wp2_with fail
      refine (countMonomials_c c HH.out HDG.out (by omega)).mono ?_
      rintro e w1 ⟨g, gf, rfl, hg, hgf, hC, hb⟩
      have k1 := hC.own.cell 0
      rw [tabC_get (Nat.le_refl _) (Nat.zero_le _)] at k1
      have k2 := (hC.row 0 (Nat.le_refl _) (Nat.zero_le _)).cell r
      rw [ofI_get (cntR_get (Nat.le_refl _)), List.drop_zero, HC0.out] at k2
      have hmk := make_bytes8 w1
      have hE := Own.new w1 5 #[.int .u8 0, .int .u8 0, .int .u8 0, .int .u8 0, .int .u8 0, .int .u8 0, .int .u8 0, .int .u8 0]
      have hba := below_alloc1 w1 (.cells #[.int .u8 0, .int .u8 0, .int .u8 0, .int .u8 0, .int .u8 0, .int .u8 0, .int .u8 0, .int .u8 0] 5)
      have hbs := hb.size
      replace hC := hC.keep hba
      replace hb := below_trans' hb hba hb.size
      have hS := Own.new (w1.alloc (.cells #[.int .u8 0, .int .u8 0, .int .u8 0, .int .u8 0, .int .u8 0, .int .u8 0, .int .u8 0, .int .u8 0] 5)) 129 #[.slice a n c, .slice (some ⟨g, 0, none⟩) (n + 1) (n + 1), .slice (some ⟨w1.heap.size, 0, none⟩) 8 8, .slice none 0 0]
      have hbc := below_alloc1 (w1.alloc (.cells #[.int .u8 0, .int .u8 0, .int .u8 0, .int .u8 0, .int .u8 0, .int .u8 0, .int .u8 0, .int .u8 0] 5)) (.cells #[.slice a n c, .slice (some ⟨g, 0, none⟩) (n + 1) (n + 1), .slice (some ⟨w1.heap.size, 0, none⟩) 8 8, .slice none 0 0] 129)
      rw [size_alloc] at hS
      replace hC := Lib.hid (hC.keep hbc)
      replace hE := Lib.hid (hE.keep hbc hE.lt)
      replace hS := Lib.hid hS
      replace hb := Lib.hid (below_trans' hb hbc hb.size)
      clear hba hbc
      go_upto_region 9 with fail
      generalize ((w1.alloc (.cells #[.int .u8 0, .int .u8 0, .int .u8 0, .int .u8 0, .int .u8 0, .int .u8 0, .int .u8 0, .int .u8 0] 5)).alloc (.cells #[.slice a n c, .slice (some ⟨g, 0, none⟩) (n + 1) (n + 1), .slice (some ⟨w1.heap.size, 0, none⟩) 8 8, .slice none 0 0] 129)) = w3 at *
      generalize w1.heap.size = gE at *
      clear k1 k2 hmk
      have hl8 : n ≤ 8 := by have := degsOk_len HDG.out; have := HL.out; omega
      have HVS : Hid (VS w.heap.size w3 (gE + 1) gE g gf a n c r zs nul8 [] (.slice none 0 0)) := Lib.hid ⟨hS.out, hE.out, hC.out, World.ownsRow_nil _ _ _ _, ⟨rfl, by decide⟩, by
        rw [show nul8 = List.replicate 8 (0 : Int) from rfl, List.drop_replicate]⟩
      have hcn : ([] : List (List Int)).length + cnt (zs.drop 0) r ≤ 400 := by
        have := HC0.out
        rw [List.drop_zero]
        simp only [List.length_nil]
        omega
      have HVC := Lib.hid (visit_c HH.out HDG.out (show r ≤ 900 by omega) (show w.heap.size ≤ gE + 1 by omega) (show w.heap.size ≤ gE by omega) n (i := 0) (rest := r) (by omega) (Nat.le_refl _) hcn HVS.out hb.out)
      clear hcn
      go_wp2_with fail
      refine HVC.out.mono ?_
      rintro e w4 ⟨rfl, E', fv', hV, -, hb4⟩
      rw [List.nil_append, List.take_zero, List.drop_zero] at hV
      have HV := Lib.hid hV
      have s3 := hV.s.cell 3
      have hb5 := Lib.hid hb4
      have HMM := Lib.hid (mons_mono (zs := zs) (r := r) (by rw [HL.out]; exact hl8))
      obtain ⟨ra, rc, hrr, hO⟩ := OwnM.of_row HV.out.f HMM.out
      have HOO := Lib.hid hO
      subst hrr
      clear hV HVC HVS hb4 hO
      go_wp2_with fail
      go_ret2
      exact ⟨ra, _, rc, rfl, HOO.out, hb5.out⟩
set_option maxHeartbeats 4000000 in
set_option maxRecDepth 100000 in
theorem l01Monomials_c {w : World} {a : Option Addr} {n r : Nat} {zs : List Int} (c : Nat) (h : Ints w a n zs) (hz : degsOk zs = true) (hr : r ≤ 900) :
    Calls Tryz.prog 36 #[.slice a n c, .int .i64 r] w fun e w' => ∃ ra rn rc, e = .returned (.slice ra rn rc) ∧ OwnM w' w.heap.size w'.heap.size ra rn ((ext [] (mons zs r)).take 401) ∧ Below w.heap.size w w' := by
  have hl8 : n ≤ 8 := by have := degsOk_len hz; have := h.len; omega
  have HMM := Lib.hid (mons_mono (zs := zs) (r := r) (by rw [h.len]; exact hl8))
  have hf := l01Fill_c (c := c) h hz n (w := w) (i := 0) (rest := r) (E := nul8) (X := []) (fa := none) (fc := 0) (by omega) hr ⟨rfl, by decide⟩ (by rw [show nul8 = List.replicate 8 (0 : Int) from rfl, List.drop_replicate]) (by simp) (World.ownsRow_nil _ _ _ _) (Below.refl _ _)
  rw [List.nil_append, List.take_zero, List.drop_zero] at hf
  have HF := Lib.hid hf
  clear hf h
  go_enter Tryz.func36, Tryz.ntmps36
  go_wp2_with fail
  refine HF.out.mono ?_
  rintro e w1 ⟨fv', rfl, hR, hG⟩
  obtain ⟨ra, rc, hrr, hO⟩ := OwnM.of_row hR (fun m hm => HMM.out m (List.mem_of_mem_take hm))
  subst hrr
  have HO := Lib.hid hO
  have HB := Lib.hid (hG.below (B := w.heap.size) (fun q hq => by simp [Value.ownBlock] at hq) (Nat.le_refl _))
  clear hO hR hG
  go_wp2_with fail
  go_ret
  exact ⟨ra, ((ext [] (mons zs r)).take 401).length, rc, by rw [List.length_take]; rfl, HO.out, HB.out⟩
end Go.Proofs.YtbokloflbldikaaGreat
