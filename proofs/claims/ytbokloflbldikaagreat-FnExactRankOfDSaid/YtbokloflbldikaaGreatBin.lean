
import Derived.Test.YtbokloflbldikaaGreatMonsOf
import Derived.Test.YtbokloflbldikaaGreatAlgS
import Derived.Test.YtbokloflbldikaaGreatAddM
namespace Go.Proofs.YtbokloflbldikaaGreat
open Go.RowKit Go.Deep
def Mos (w : World) (a : Option Addr) (n : Nat) (V : List (List Int)) : Prop :=
  V.length = n ∧ (∀ m ∈ V, IsMono m) ∧ (0 < n → ∃ b off, a = some ⟨b, off, none⟩ ∧ b < w.heap.size ∧ w.rangeAt b off (mrowsV V))
theorem OwnM.mos {w : World} {lo hi n : Nat} {a : Option Addr} {V : List (List Int)} (h : OwnM w lo hi a n V) : Mos w a n V :=
  ⟨h.1, h.2.1, fun hn => by
    obtain ⟨g, cs, rfl, h2, h3, h4, h5, h6⟩ := h.2.2 hn
    exact ⟨g, 0, rfl, h4.lt, fun j v hv => by rw [Nat.zero_add, h4.cell j]; exact h6 j v hv⟩⟩
theorem Mos.keep {w w' : World} {a : Option Addr} {n : Nat} {V : List (List Int)} (h : Mos w a n V) (hb : Below w.heap.size w w') : Mos w' a n V :=
  ⟨h.1, h.2.1, fun hn => by
    obtain ⟨b, off, ha, hlt, hc⟩ := h.2.2 hn
    exact ⟨b, off, ha, Nat.lt_of_lt_of_le hlt hb.size, rangeAt_keep hc (hb.block b hlt)⟩⟩
theorem mrowsV_get {V : List (List Int)} (h : ∀ m ∈ V, IsMono m) : ∀ {k j : Nat} {m : List Int} {v : Value}, V[k]? = some m → (mcells m)[j]? = some v → (mrowsV V)[k * 8 + j]? = some v := by
  induction V with
  | nil => intro k j m v hm _; simp at hm
  | cons x V ih =>
    intro k j m v hm hv
    have h8 := (h x (by simp)).1
    rw [show x :: V = [x] ++ V from rfl, mrowsV_app, mrowsV_one]
    cases k with
    | zero =>
      simp only [List.getElem?_cons_zero, Option.some.injEq] at hm
      subst hm
      rw [Nat.zero_mul, Nat.zero_add, List.getElem?_append_left (List.getElem?_eq_some_iff.1 hv).1]
      exact hv
    | succ k =>
      rw [List.getElem?_cons_succ] at hm
      rw [List.getElem?_append_right (by rw [mcells_length]; omega), mcells_length, h8, show (k + 1) * 8 + j - 8 = k * 8 + j by omega]
      exact ih (fun y hy => h y (by simp [hy])) hm hv
theorem Mos.at_ {w : World} {a : Option Addr} {n : Nat} {V : List (List Int)} (h : Mos w a n V) {k : Nat} (hk : k < n) : ∃ b off m, a = some ⟨b, off, none⟩ ∧ b < w.heap.size ∧ w.rangeAt b (off + k * 8) (mcells m) ∧ IsMono m ∧ Hid (V[k]? = some m) := by
  obtain ⟨b, off, ha, hb, hr⟩ := h.2.2 (by omega)
  have hx : V[k]? = some (V[k]'(by have := h.1; omega)) := List.getElem?_eq_getElem (by have := h.1; omega)
  refine ⟨b, off, _, ha, hb, fun j v hv => ?_, h.2.1 _ (List.mem_of_getElem? hx), hx⟩
  have := hr (k * 8 + j) v (mrowsV_get h.2.1 hx hv)
  rwa [← Nat.add_assoc] at this
theorem eight {w : World} {b o : Nat} {m0 m1 m2 m3 m4 m5 m6 m7 : Int} (h : w.rangeAt b o (mcells [m0, m1, m2, m3, m4, m5, m6, m7])) : w.cell? ⟨b, o, none⟩ = some (.int .u8 m0) ∧ w.cell? ⟨b, o + 1, none⟩ = some (.int .u8 m1) ∧ w.cell? ⟨b, o + 2, none⟩ = some (.int .u8 m2) ∧ w.cell? ⟨b, o + 3, none⟩ = some (.int .u8 m3) ∧ w.cell? ⟨b, o + 4, none⟩ = some (.int .u8 m4) ∧ w.cell? ⟨b, o + 5, none⟩ = some (.int .u8 m5) ∧ w.cell? ⟨b, o + 6, none⟩ = some (.int .u8 m6) ∧ w.cell? ⟨b, o + 7, none⟩ = some (.int .u8 m7) :=
  ⟨h 0 _ rfl, h 1 _ rfl, h 2 _ rfl, h 3 _ rfl, h 4 _ rfl, h 5 _ rfl, h 6 _ rfl, h 7 _ rfl⟩
theorem OwnM.block {w : World} {lo hi n : Nat} {a : Option Addr} {V : List (List Int)} {gx : Nat} {tx : TypeId} {csx : Array Value} (h : OwnM w lo hi a n V) (hx : Own w gx tx csx) :
    ∃ g t cs, Own w g t cs ∧ n * 8 ≤ cs.size ∧ (0 < n → a = some ⟨g, 0, none⟩) ∧ (g = gx ∨ (lo ≤ g ∧ g < hi)) := by
  by_cases hn : 0 < n
  · obtain ⟨g, cs, e, h1, h2, h3, h4, -⟩ := h.2.2 hn
    exact ⟨g, _, cs, h3, h4, fun _ => e, Or.inr ⟨h1, h2⟩⟩
  · exact ⟨gx, _, csx, hx, by omega, fun hh => absurd hh hn, Or.inl rfl⟩
end Go.Proofs.YtbokloflbldikaaGreat

namespace Go.Proofs.YtbokloflbldikaaGreat
open Go.RowKit Go.Deep
def Ord (V : List (List Int)) : Prop := V.Pairwise fun m k => before m k = true
theorem Ord.lt {V : List (List Int)} (h : Ord V) {i j : Nat} {m k : List Int} (hi : V[i]? = some m) (hj : V[j]? = some k) (hij : i < j) : cmpM m k = -1 := by
  obtain ⟨h1, e1⟩ := List.getElem?_eq_some_iff.1 hi
  obtain ⟨h2, e2⟩ := List.getElem?_eq_some_iff.1 hj
  have := List.pairwise_iff_getElem.1 h i j h1 h2 hij
  rw [e1, e2, before, decide_eq_true_eq] at this
  exact this
theorem Ord.cmp {V : List (List Int)} (h : Ord V) {i j : Nat} {m k : List Int} (hi : V[i]? = some m) (hj : V[j]? = some k) : cmpM k m = if j < i then -1 else if j = i then 0 else 1 := by
  by_cases h1 : j < i
  · rw [if_pos h1]
    exact h.lt hj hi h1
  · rw [if_neg h1]
    by_cases h2 : j = i
    · subst h2
      rw [hi, Option.some.injEq] at hj
      subst hj
      rw [if_pos rfl, cmpM_self]
    · rw [if_neg h2, cmpM_turn m k, h.lt hi hj (by omega)]
      decide
theorem pair16 {A0 A1 A2 A3 A4 A5 A6 A7 B0 B1 B2 B3 B4 B5 B6 B7 : Prop} (h : A0 ∧ A1 ∧ A2 ∧ A3 ∧ A4 ∧ A5 ∧ A6 ∧ A7) (h' : B0 ∧ B1 ∧ B2 ∧ B3 ∧ B4 ∧ B5 ∧ B6 ∧ B7) : A0 ∧ A1 ∧ A2 ∧ A3 ∧ A4 ∧ A5 ∧ A6 ∧ A7 ∧ B0 ∧ B1 ∧ B2 ∧ B3 ∧ B4 ∧ B5 ∧ B6 ∧ B7 := ⟨h.1, h.2.1, h.2.2.1, h.2.2.2.1, h.2.2.2.2.1, h.2.2.2.2.2.1, h.2.2.2.2.2.2.1, h.2.2.2.2.2.2.2, h'⟩
theorem cmp8 {w : World} {p0 p1 p2 p3 p4 p5 p6 p7 k0 k1 k2 k3 k4 k5 k6 k7 v : Int} (hm : IsMono [p0, p1, p2, p3, p4, p5, p6, p7]) (hk : IsMono [k0, k1, k2, k3, k4, k5, k6, k7]) (hv : cmpM [p0, p1, p2, p3, p4, p5, p6, p7] [k0, k1, k2, k3, k4, k5, k6, k7] = v) :
    Calls Tryz.prog 69 #[.agg #[.int .u8 p0, .int .u8 p1, .int .u8 p2, .int .u8 p3, .int .u8 p4, .int .u8 p5, .int .u8 p6, .int .u8 p7], .agg #[.int .u8 k0, .int .u8 k1, .int .u8 k2, .int .u8 k3, .int .u8 k4, .int .u8 k5, .int .u8 k6, .int .u8 k7]] w fun e w' => e = .returned (.int .i64 v) ∧ Below w.heap.size w w' := by
  subst hv
  exact compareMonomials_c hm hk
set_option maxHeartbeats 4000000 in
set_option maxRecDepth 100000 in
theorem bsearch_c {w : World} {a : Option Addr} {n i : Nat} {V : List (List Int)} {k : List Int} (c : Nat) (h : Mos w a n V) (ho : Ord V) (hn : n ≤ 1048576) (hk : IsMono k) (hi : V[i]? = some k) :
    Calls Tryz.prog 68 #[.slice a n c, monoV k, .func (.func 69) #[] #[]] w fun e w' => e = .returned (.tuple #[.int .i64 i, .bool true]) ∧ Below w.heap.size w w' := by
  have hin : i < n := by have := (List.getElem?_eq_some_iff.1 hi).1; have := h.1; omega
  obtain ⟨k0, k1, k2, k3, k4, k5, k6, k7, rfl⟩ := mono8 hk
  have HI := Lib.hid hi
  have HO := Lib.hid ho
  have HM := Lib.hid (h.keep (below_alloc1 w (.cells #[.int .u8 k0, .int .u8 k1, .int .u8 k2, .int .u8 k3, .int .u8 k4, .int .u8 k5, .int .u8 k6, .int .u8 k7] 70)))
  have hx : Own (w.alloc (.cells #[.int .u8 k0, .int .u8 k1, .int .u8 k2, .int .u8 k3, .int .u8 k4, .int .u8 k5, .int .u8 k6, .int .u8 k7] 70)) w.heap.size 70 (mcells [k0, k1, k2, k3, k4, k5, k6, k7]).toArray := Own.new w 70 #[.int .u8 k0, .int .u8 k1, .int .u8 k2, .int .u8 k3, .int .u8 k4, .int .u8 k5, .int .u8 k6, .int .u8 k7]
  have hb := below_alloc1 w (.cells #[.int .u8 k0, .int .u8 k1, .int .u8 k2, .int .u8 k3, .int .u8 k4, .int .u8 k5, .int .u8 k6, .int .u8 k7] 70)
  clear hi ho h
  unfold monoV
  go_enter Tryz.func68, Tryz.ntmps68
  go_upto_region 3 with fail
  change Own (w.alloc (.cells (mcells [k0, k1, k2, k3, k4, k5, k6, k7]).toArray 70)) _ _ _ at hx
  change Below _ _ (w.alloc (.cells (mcells [k0, k1, k2, k3, k4, k5, k6, k7]).toArray 70)) at hb
  replace HM : Hid (Mos (w.alloc (.cells (mcells [k0, k1, k2, k3, k4, k5, k6, k7]).toArray 70)) a n V) := HM
  generalize w.alloc (.cells (mcells [k0, k1, k2, k3, k4, k5, k6, k7]).toArray 70) = w1 at *
  have HG := Lib.hid hb.size
  generalize hge : w.heap.size = g at *
  have HGE := Lib.hid hge
  clear hge
  go_wp2_with fail
  go_loopw [9, 10] (fun p q wr => ∃ l h : Nat, l ≤ i ∧ i ≤ h ∧ h ≤ n ∧ p = .int .i64 l ∧ q = .int .i64 h ∧ Below w1.heap.size w1 wr) (fun p q _ => (intOf q).toNat - (intOf p).toNat)
  case atStart => exact ⟨0, n, Nat.zero_le _, by omega, Nat.le_refl _, rfl, rfl, Below.refl _ _⟩
  case round =>
    obtain ⟨l, h, hli, hih, hhn, rfl, rfl, hbr⟩ := hrel
    by_cases hlh : l < h
    · have hlhi : (l : Int) < (h : Int) := by omega
      have e1 : IntKind.i64.wrap ((l : Int) + (h : Int)) = (l : Int) + (h : Int) := IntWalk.i64_in _ (by omega)
      have e2 : IntKind.u64.wrap ((l : Int) + (h : Int)) = (l : Int) + (h : Int) := IntWalk.u64_in _ (by omega)
      obtain ⟨d, hd⟩ : ∃ d : Nat, ((l : Int) + (h : Int)) / 2 = (d : Int) := ⟨(l + h) / 2, by omega⟩
      have hd1 : l ≤ d := by omega
      have hd2 : d < h := by omega
      obtain ⟨b, off, p, rfl, hlb, hr, hp, hx'⟩ := (HM.out.keep hbr).at_ (show d < n by omega)
      have hxr : Own wr.drew g 70 (mcells [k0, k1, k2, k3, k4, k5, k6, k7]).toArray := (hx.keep hbr.drew hx.lt)
      have hcm := HO.out.cmp HI.out hx'.out
      obtain ⟨p0, p1, p2, p3, p4, p5, p6, p7, rfl⟩ := mono8 hp
      have hdi : (d : Int) < (n : Int) := by omega
      clear hx'
      go_upto_region 5 with fail
      clear e1 e2 hd
      by_cases hdl : d < i
      · rw [if_pos hdl] at hcm
        have HV := Lib.hid hcm
        clear hcm
        go_region_held3 (fun w' => w'.cell? ⟨b, off + d * 8, none⟩ = some (.int .u8 p0) ∧ w'.cell? ⟨b, off + d * 8 + 1, none⟩ = some (.int .u8 p1) ∧ w'.cell? ⟨b, off + d * 8 + 2, none⟩ = some (.int .u8 p2) ∧ w'.cell? ⟨b, off + d * 8 + 3, none⟩ = some (.int .u8 p3) ∧ w'.cell? ⟨b, off + d * 8 + 4, none⟩ = some (.int .u8 p4) ∧ w'.cell? ⟨b, off + d * 8 + 5, none⟩ = some (.int .u8 p5) ∧ w'.cell? ⟨b, off + d * 8 + 6, none⟩ = some (.int .u8 p6) ∧ w'.cell? ⟨b, off + d * 8 + 7, none⟩ = some (.int .u8 p7) ∧ w'.cell? ⟨g, 0, none⟩ = some (.int .u8 k0) ∧ w'.cell? ⟨g, 1, none⟩ = some (.int .u8 k1) ∧ w'.cell? ⟨g, 2, none⟩ = some (.int .u8 k2) ∧ w'.cell? ⟨g, 3, none⟩ = some (.int .u8 k3) ∧ w'.cell? ⟨g, 4, none⟩ = some (.int .u8 k4) ∧ w'.cell? ⟨g, 5, none⟩ = some (.int .u8 k5) ∧ w'.cell? ⟨g, 6, none⟩ = some (.int .u8 k6) ∧ w'.cell? ⟨g, 7, none⟩ = some (.int .u8 k7)) (exact pair16 (eight hr) (own8 hxr))
          ((go_at_call 69; refine (cmp8 hp hk HV.out).mono ?_; rintro e w2 ⟨rfl, hb2⟩; have hr := rangeAt_keep hr (hb2.block b hlb); have hxr := hxr.keep hb2 hxr.lt))
        all_goals go_wp2_with fail
        all_goals go_roundw
        all_goals first
          | (case measure => simp [intOf] <;> omega)
          | skip
        all_goals exact ⟨d + 1, h, by omega, by omega, hhn, by go_num, rfl, below_trans' hbr.drew hb2 hbr.size⟩
      · have hv : 0 ≤ cmpM [p0, p1, p2, p3, p4, p5, p6, p7] [k0, k1, k2, k3, k4, k5, k6, k7] := by
          rw [hcm, if_neg hdl]
          split <;> omega
        obtain ⟨v, hvv⟩ : ∃ v, cmpM [p0, p1, p2, p3, p4, p5, p6, p7] [k0, k1, k2, k3, k4, k5, k6, k7] = v := ⟨_, rfl⟩
        rw [hvv] at hv
        have HV := Lib.hid hvv
        have hvn : ¬ v < 0 := by omega
        clear hcm hvv
        go_region_held3 (fun w' => w'.cell? ⟨b, off + d * 8, none⟩ = some (.int .u8 p0) ∧ w'.cell? ⟨b, off + d * 8 + 1, none⟩ = some (.int .u8 p1) ∧ w'.cell? ⟨b, off + d * 8 + 2, none⟩ = some (.int .u8 p2) ∧ w'.cell? ⟨b, off + d * 8 + 3, none⟩ = some (.int .u8 p3) ∧ w'.cell? ⟨b, off + d * 8 + 4, none⟩ = some (.int .u8 p4) ∧ w'.cell? ⟨b, off + d * 8 + 5, none⟩ = some (.int .u8 p5) ∧ w'.cell? ⟨b, off + d * 8 + 6, none⟩ = some (.int .u8 p6) ∧ w'.cell? ⟨b, off + d * 8 + 7, none⟩ = some (.int .u8 p7) ∧ w'.cell? ⟨g, 0, none⟩ = some (.int .u8 k0) ∧ w'.cell? ⟨g, 1, none⟩ = some (.int .u8 k1) ∧ w'.cell? ⟨g, 2, none⟩ = some (.int .u8 k2) ∧ w'.cell? ⟨g, 3, none⟩ = some (.int .u8 k3) ∧ w'.cell? ⟨g, 4, none⟩ = some (.int .u8 k4) ∧ w'.cell? ⟨g, 5, none⟩ = some (.int .u8 k5) ∧ w'.cell? ⟨g, 6, none⟩ = some (.int .u8 k6) ∧ w'.cell? ⟨g, 7, none⟩ = some (.int .u8 k7)) (exact pair16 (eight hr) (own8 hxr))
          ((go_at_call 69; refine (cmp8 hp hk HV.out).mono ?_; rintro e w2 ⟨rfl, hb2⟩; have hr := rangeAt_keep hr (hb2.block b hlb); have hxr := hxr.keep hb2 hxr.lt))
        all_goals go_wp2_with fail
        all_goals go_roundw
        all_goals first
          | (case measure => simp [intOf] <;> omega)
          | skip
        all_goals exact ⟨l, d, hli, by omega, by omega, rfl, rfl, below_trans' hbr.drew hb2 hbr.size⟩
    · have hlhi : ¬ (l : Int) < (h : Int) := by omega
      obtain rfl : l = i := by omega
      have hli2 : (l : Int) < (n : Int) := by omega
      obtain ⟨b, off, p, rfl, hlb, hr, hp, hx'⟩ := (HM.out.keep hbr).at_ hin
      obtain rfl : [k0, k1, k2, k3, k4, k5, k6, k7] = p := by
        have := HI.out.symm.trans hx'.out
        injection this
      have hxr : Own wr.drew g 70 (mcells [k0, k1, k2, k3, k4, k5, k6, k7]).toArray := (hx.keep hbr.drew hx.lt)
      clear hx'
      go_upto_region 8 with fail
      go_region_held3 (fun w' => w'.cell? ⟨b, off + l * 8, none⟩ = some (.int .u8 k0) ∧ w'.cell? ⟨b, off + l * 8 + 1, none⟩ = some (.int .u8 k1) ∧ w'.cell? ⟨b, off + l * 8 + 2, none⟩ = some (.int .u8 k2) ∧ w'.cell? ⟨b, off + l * 8 + 3, none⟩ = some (.int .u8 k3) ∧ w'.cell? ⟨b, off + l * 8 + 4, none⟩ = some (.int .u8 k4) ∧ w'.cell? ⟨b, off + l * 8 + 5, none⟩ = some (.int .u8 k5) ∧ w'.cell? ⟨b, off + l * 8 + 6, none⟩ = some (.int .u8 k6) ∧ w'.cell? ⟨b, off + l * 8 + 7, none⟩ = some (.int .u8 k7) ∧ w'.cell? ⟨g, 0, none⟩ = some (.int .u8 k0) ∧ w'.cell? ⟨g, 1, none⟩ = some (.int .u8 k1) ∧ w'.cell? ⟨g, 2, none⟩ = some (.int .u8 k2) ∧ w'.cell? ⟨g, 3, none⟩ = some (.int .u8 k3) ∧ w'.cell? ⟨g, 4, none⟩ = some (.int .u8 k4) ∧ w'.cell? ⟨g, 5, none⟩ = some (.int .u8 k5) ∧ w'.cell? ⟨g, 6, none⟩ = some (.int .u8 k6) ∧ w'.cell? ⟨g, 7, none⟩ = some (.int .u8 k7)) (exact pair16 (eight hr) (own8 hxr))
        ((go_at_call 69; refine (cmp8 hk hk (cmpM_self _)).mono ?_; rintro e w2 ⟨rfl, hb2⟩; have hr := rangeAt_keep hr (hb2.block b hlb); have hxr := hxr.keep hb2 hxr.lt))
      all_goals go_wp2_with fail
      all_goals go_ret2
      all_goals exact ⟨rfl, by rw [HGE.out]; exact hb.trans ((below_trans' hbr.drew hb2 hbr.size).mono HG.out)⟩
end Go.Proofs.YtbokloflbldikaaGreat
