/- The walk of the law FnExactMonomialsOf: for every list of numbers and every number it returns true and leaves the argument as it was. -/
import Derived.Test.YteocfhflclnkhaaMonsOf
import Derived.Test.YteocfhflclnkhaaAlgS
namespace Go.Proofs.Yteocfhflclnkhaa
open Go.RowKit Go.Deep

/-- A list of monomials, read. -/
def Mos (w : World) (a : Option Addr) (n : Nat) (V : List (List Int)) : Prop :=
  V.length = n ∧ (∀ m ∈ V, IsMono m) ∧ (0 < n → ∃ b off, a = some ⟨b, off, none⟩ ∧ b < w.heap.size ∧ w.rangeAt b off (mrowsV V))
theorem OwnM.mos {w : World} {lo hi n : Nat} {a : Option Addr} {V : List (List Int)} (h : OwnM w lo hi a n V) : Mos w a n V :=
  ⟨h.1, h.2.1, fun hn => by
    obtain ⟨g, cs, rfl, h2, h3, h4, h5, h6⟩ := h.2.2 hn
    exact ⟨g, 0, rfl, h4.lt, fun j v hv => by rw [Nat.zero_add, h4.cell j]; exact h6 j v hv⟩⟩
theorem Mos.keep {w w' : World} {a : Option Addr} {n : Nat} {V : List (List Int)} (h : Mos w a n V) (hb : Below w.heap.size w w') : Mos w' a n V :=
  ⟨h.1, h.2.1, fun hn => by
    obtain ⟨b, off, ha, hlt, hc⟩ := h.2.2 hn
    exact ⟨b, off, ha, Nat.lt_of_lt_of_le hlt hb.size, rangeAt_keep hc (hb.block b hlt)⟩⟩
theorem mrowsV_get {V : List (List Int)} (h : ∀ m ∈ V, IsMono m) : ∀ {k j : Nat} {m : List Int} {v : Value}, V[k]? = some m → (mcells m)[j]? = some v → (mrowsV V)[k * 8 + j]? = some v := by
  induction V with
  | nil => intro k j m v hm _; simp at hm
  | cons x V ih =>
    intro k j m v hm hv
    have h8 := (h x (by simp)).1
    rw [show x :: V = [x] ++ V from rfl, mrowsV_app, mrowsV_one]
    cases k with
    | zero =>
      simp only [List.getElem?_cons_zero, Option.some.injEq] at hm
      subst hm
      rw [Nat.zero_mul, Nat.zero_add, List.getElem?_append_left (List.getElem?_eq_some_iff.1 hv).1]
      exact hv
    | succ k =>
      rw [List.getElem?_cons_succ] at hm
      rw [List.getElem?_append_right (by rw [mcells_length]; omega), mcells_length, h8, show (k + 1) * 8 + j - 8 = k * 8 + j by omega]
      exact ih (fun y hy => h y (by simp [hy])) hm hv
theorem Mos.at_ {w : World} {a : Option Addr} {n : Nat} {V : List (List Int)} (h : Mos w a n V) {k : Nat} (hk : k < n) : ∃ b off m, a = some ⟨b, off, none⟩ ∧ b < w.heap.size ∧ w.rangeAt b (off + k * 8) (mcells m) ∧ IsMono m ∧ Hid (V[k]? = some m) := by
  obtain ⟨b, off, ha, hb, hr⟩ := h.2.2 (by omega)
  have hx : V[k]? = some (V[k]'(by have := h.1; omega)) := List.getElem?_eq_getElem (by have := h.1; omega)
  refine ⟨b, off, _, ha, hb, fun j v hv => ?_, h.2.1 _ (List.mem_of_getElem? hx), hx⟩
  have := hr (k * 8 + j) v (mrowsV_get h.2.1 hx hv)
  rwa [← Nat.add_assoc] at this
theorem eight {w : World} {b o : Nat} {m0 m1 m2 m3 m4 m5 m6 m7 : Int} (h : w.rangeAt b o (mcells [m0, m1, m2, m3, m4, m5, m6, m7])) : w.cell? ⟨b, o, none⟩ = some (.int .u8 m0) ∧ w.cell? ⟨b, o + 1, none⟩ = some (.int .u8 m1) ∧ w.cell? ⟨b, o + 2, none⟩ = some (.int .u8 m2) ∧ w.cell? ⟨b, o + 3, none⟩ = some (.int .u8 m3) ∧ w.cell? ⟨b, o + 4, none⟩ = some (.int .u8 m4) ∧ w.cell? ⟨b, o + 5, none⟩ = some (.int .u8 m5) ∧ w.cell? ⟨b, o + 6, none⟩ = some (.int .u8 m6) ∧ w.cell? ⟨b, o + 7, none⟩ = some (.int .u8 m7) :=
  ⟨h 0 _ rfl, h 1 _ rfl, h 2 _ rfl, h 3 _ rfl, h 4 _ rfl, h 5 _ rfl, h 6 _ rfl, h 7 _ rfl⟩
theorem eqMono8M {w : World} {m0 m1 m2 m3 m4 m5 m6 m7 : Int} (hm : IsMono [m0, m1, m2, m3, m4, m5, m6, m7]) :
    Calls Try.prog 83 #[.agg #[.int .u8 m0, .int .u8 m1, .int .u8 m2, .int .u8 m3, .int .u8 m4, .int .u8 m5, .int .u8 m6, .int .u8 m7], .agg #[.int .u8 m0, .int .u8 m1, .int .u8 m2, .int .u8 m3, .int .u8 m4, .int .u8 m5, .int .u8 m6, .int .u8 m7]] w fun e w' => e = .returned (.bool true) ∧ Below w.heap.size w w' := by
  have := eqMonomial_c (w := w) hm hm
  rwa [show decide ([m0, m1, m2, m3, m4, m5, m6, m7] = [m0, m1, m2, m3, m4, m5, m6, m7]) = true from decide_eq_true rfl] at this

set_option maxHeartbeats 4000000 in
set_option maxRecDepth 100000 in
theorem eqMonomialS_c {w : World} {a a' : Option Addr} {n : Nat} {V : List (List Int)} (c c' : Nat) (h : Mos w a n V) (h' : Mos w a' n V) (hn : n ≤ 1048576) :
    Calls Try.prog 34 #[.slice a n c, .slice a' n c'] w fun e w' => e = .returned (.bool true) ∧ Below w.heap.size w w' := by
  go_enter Try.func34, Try.ntmps34
  go_wp2
  go_loopw [5] (fun i wr => ∃ k : Nat, k ≤ n ∧ i = .int .i64 k ∧ Below w.heap.size w wr) (fun i _ => n - (intOf i).toNat)
  case atStart => exact ⟨0, Nat.zero_le _, rfl, Below.refl _ _⟩
  case round =>
    obtain ⟨k, hk, rfl, hb⟩ := hrel
    by_cases hlt : k < n
    · obtain ⟨b, off, m, rfl, hbl, hr, hm, hx⟩ := (h.keep hb).at_ hlt
      obtain ⟨b', off', m', rfl, hbl', hr', hm', hx'⟩ := (h'.keep hb).at_ hlt
      obtain rfl : m = m' := by
        have := hx.out.symm.trans hx'.out
        injection this
      clear hm' hx hx'
      obtain ⟨m0, m1, m2, m3, m4, m5, m6, m7, rfl⟩ := mono8 hm
      go_upto_region 6 with fail
      go_cut [26] from 11 to 26 (fun v wr => v = .bool false ∧ Below w.heap.size w wr)
      case first =>
        go_region_held3 (fun w' => w'.cell? ⟨b, off + k * 8, none⟩ = some (.int .u8 m0) ∧ w'.cell? ⟨b, off + k * 8 + 1, none⟩ = some (.int .u8 m1) ∧ w'.cell? ⟨b, off + k * 8 + 2, none⟩ = some (.int .u8 m2) ∧ w'.cell? ⟨b, off + k * 8 + 3, none⟩ = some (.int .u8 m3) ∧ w'.cell? ⟨b, off + k * 8 + 4, none⟩ = some (.int .u8 m4) ∧ w'.cell? ⟨b, off + k * 8 + 5, none⟩ = some (.int .u8 m5) ∧ w'.cell? ⟨b, off + k * 8 + 6, none⟩ = some (.int .u8 m6) ∧ w'.cell? ⟨b, off + k * 8 + 7, none⟩ = some (.int .u8 m7) ∧ w'.cell? ⟨b', off' + k * 8, none⟩ = some (.int .u8 m0) ∧ w'.cell? ⟨b', off' + k * 8 + 1, none⟩ = some (.int .u8 m1) ∧ w'.cell? ⟨b', off' + k * 8 + 2, none⟩ = some (.int .u8 m2) ∧ w'.cell? ⟨b', off' + k * 8 + 3, none⟩ = some (.int .u8 m3) ∧ w'.cell? ⟨b', off' + k * 8 + 4, none⟩ = some (.int .u8 m4) ∧ w'.cell? ⟨b', off' + k * 8 + 5, none⟩ = some (.int .u8 m5) ∧ w'.cell? ⟨b', off' + k * 8 + 6, none⟩ = some (.int .u8 m6) ∧ w'.cell? ⟨b', off' + k * 8 + 7, none⟩ = some (.int .u8 m7)) (exact ⟨(eight hr).1, (eight hr).2.1, (eight hr).2.2.1, (eight hr).2.2.2.1, (eight hr).2.2.2.2.1, (eight hr).2.2.2.2.2.1, (eight hr).2.2.2.2.2.2.1, (eight hr).2.2.2.2.2.2.2, (eight hr').1, (eight hr').2.1, (eight hr').2.2.1, (eight hr').2.2.2.1, (eight hr').2.2.2.2.1, (eight hr').2.2.2.2.2.1, (eight hr').2.2.2.2.2.2.1, (eight hr').2.2.2.2.2.2.2⟩)
          (first | (go_at_call 83; refine (eqMono8M hm).mono ?_; rintro e w2 ⟨rfl, hb2⟩; have hr := rangeAt_keep hr (hb2.block b hbl); have hr' := rangeAt_keep hr' (hb2.block b' hbl')))
        all_goals go_wp2_with fail
        all_goals go_meet
        all_goals exact ⟨rfl, below_trans' hb.drew hb2 hb.size⟩
      case rest =>
        obtain ⟨rfl, hb2⟩ := hcut
        go_wp2_with fail
        go_roundw
        case rel => exact ⟨k + 1, by omega, by go_num, hb2⟩
        case measure => simp [intOf] <;> omega
    · go_wp2
      go_ret
      exact ⟨rfl, hb⟩

def mkB (K : Int) (i : Nat) : Value := .int .u8 ((K + i) % 256)
set_option maxRecDepth 100000 in
theorem markMonomialS_c {w : World} {g n : Nat} {t : TypeId} {cs : Array Value} {a : Option Addr} {K : Int} (c : Nat) (h : Own w g t cs) (hs : n * 8 ≤ cs.size) (ha : 0 < n → a = some ⟨g, 0, none⟩) (hn : n ≤ 1048576) (hK : 0 ≤ K) (hK2 : K ≤ 100000000) :
    Calls Try.prog 35 #[.slice a n c, .int .i64 K] w fun e w' => e = .returned (.int .i64 (K + (n * 8 : Nat))) ∧ Own w' g t (markA (mkB K) cs (n * 8)) ∧ Only g w w' := by
  go_enter Try.func35, Try.ntmps35
  go_wp2
  go_loopw [5, 1] (fun i v wr => ∃ k : Nat, k ≤ n ∧ i = .int .i64 k ∧ v = .int .i64 (K + (k * 8 : Nat)) ∧ Own wr g t (markA (mkB K) cs (k * 8)) ∧ Only g w wr) (fun i _ _ => n - (intOf i).toNat)
  case atStart => exact ⟨0, Nat.zero_le _, rfl, by simp, by rw [Nat.zero_mul, markA_zero]; exact h, Only.refl _ _⟩
  case round =>
    obtain ⟨k, hk, rfl, rfl, o, ho⟩ := hrel
    by_cases hlt : k < n
    · obtain rfl := ha (by omega)
      go_wp2
      go_loopw [6, 1] (fun i v wx => ∃ j : Nat, j ≤ 8 ∧ i = .int .i64 j ∧ v = .int .i64 (K + (k * 8 + j : Nat)) ∧ Own wx g t (markA (mkB K) cs (k * 8 + j)) ∧ Only g w wx) (fun i _ _ => 8 - (intOf i).toNat)
      case atStart => exact ⟨0, Nat.zero_le _, rfl, by simp, by simpa using o, ho⟩
      case round =>
        clear o ho
        obtain ⟨j, hj, rfl, rfl, o, ho⟩ := hrel
        by_cases hl8 : j < 8
        · have f0 := o.frozen (k * 8 + j)
          obtain ⟨u, hu⟩ := o.has (i := k * 8 + j) (by rw [markA_size]; omega)
          have s1 : IntKind.i64.wrap (K + (k * 8 + j : Nat) + 1) = K + (k * 8 + j : Nat) + 1 := IntWalk.i64_in _ (by omega)
          generalize hx : K + ((k * 8 + j : Nat) : Int) = x at *
          go_wp2
          go_roundw
          case rel => exact ⟨j + 1, by omega, by go_num, by rw [← hx]; congr 1; omega, by have := o.set (k * 8 + j) (mkB K (k * 8 + j)); rw [markA_step, mkB, hx] at this; exact this, ho.set _ _⟩
          case measure => simp [intOf] <;> omega
        · have he : j = 8 := by omega
          subst he
          go_wp2
          go_roundw
          case rel => exact ⟨k + 1, by omega, by go_num, by congr 1; omega, by rw [show (k + 1) * 8 = k * 8 + 8 by omega]; exact o, ho⟩
          case measure => simp [intOf] <;> omega
    · have he : k = n := by omega
      subst he
      go_wp2
      go_ret
      exact ⟨rfl, o, ho⟩
set_option maxRecDepth 100000 in
theorem heldMonomialS_c {w : World} {g n : Nat} {t : TypeId} {cs : Array Value} {a : Option Addr} {K : Int} (c : Nat) (h : Own w g t (markA (mkB K) cs (n * 8))) (hs : n * 8 ≤ cs.size) (ha : 0 < n → a = some ⟨g, 0, none⟩) (hn : n ≤ 1048576) (hK : 0 ≤ K) (hK2 : K ≤ 100000000) :
    Calls Try.prog 36 #[.slice a n c, .int .i64 K] w fun e w' => e = .returned (.int .i64 (K + (n * 8 : Nat))) ∧ Below w.heap.size w w' := by
  go_enter Try.func36, Try.ntmps36
  go_wp2
  go_loopw [5, 1] (fun i v wr => ∃ k q : Nat, k ≤ n ∧ i = .int .i64 k ∧ v = .int .i64 (K + (k * 8 : Nat)) ∧ wr = w.drewN q) (fun i _ _ => n - (intOf i).toNat)
  case atStart => exact ⟨0, 0, Nat.zero_le _, rfl, by simp, rfl⟩
  case round =>
    obtain ⟨k, q, hk, rfl, rfl, rfl⟩ := hrel
    by_cases hlt : k < n
    · obtain rfl := ha (by omega)
      go_wp2
      go_loopw [6, 1] (fun i v wx => ∃ j q : Nat, j ≤ 8 ∧ i = .int .i64 j ∧ v = .int .i64 (K + (k * 8 + j : Nat)) ∧ wx = w.drewN q) (fun i _ _ => 8 - (intOf i).toNat)
      case atStart => exact ⟨0, q, Nat.zero_le _, rfl, by simp, rfl⟩
      case round =>
        obtain ⟨j, q, hj, rfl, rfl, rfl⟩ := hrel
        by_cases hl8 : j < 8
        · have c0 := h.cell (k * 8 + j)
          rw [markA_get (by omega), if_pos (by omega), mkB] at c0
          have s1 : IntKind.i64.wrap (K + (k * 8 + j : Nat) + 1) = K + (k * 8 + j : Nat) + 1 := IntWalk.i64_in _ (by omega)
          generalize hx : K + ((k * 8 + j : Nat) : Int) = x at *
          have hq : (x % 256 != x % 256) = false := by simp
          go_wp2
          go_roundw
          case rel => exact ⟨j + 1, q, by omega, by go_num, by rw [← hx]; congr 1; omega, rfl⟩
          case measure => simp [intOf] <;> omega
        · have he : j = 8 := by omega
          subst he
          go_wp2
          go_roundw
          case rel => exact ⟨k + 1, q, by omega, by go_num, by congr 1; omega, rfl⟩
          case measure => simp [intOf] <;> omega
    · have he : k = n := by omega
      subst he
      go_wp2
      go_ret
      exact ⟨rfl, below_drewN (Below.refl _ _) _⟩
theorem OwnM.block {w : World} {lo hi n : Nat} {a : Option Addr} {V : List (List Int)} {gx : Nat} {tx : TypeId} {csx : Array Value} (h : OwnM w lo hi a n V) (hx : Own w gx tx csx) :
    ∃ g t cs, Own w g t cs ∧ n * 8 ≤ cs.size ∧ (0 < n → a = some ⟨g, 0, none⟩) ∧ (g = gx ∨ (lo ≤ g ∧ g < hi)) := by
  by_cases hn : 0 < n
  · obtain ⟨g, cs, e, h1, h2, h3, h4, -⟩ := h.2.2 hn
    exact ⟨g, _, cs, h3, h4, fun _ => e, Or.inr ⟨h1, h2⟩⟩
  · exact ⟨gx, _, csx, hx, by omega, fun hh => absurd hh hn, Or.inl rfl⟩

theorem moV_len (zs : List Int) (x : Int) : (moV zs x).length ≤ 400 := by
  by_cases h : moE zs x = 0
  · rw [moV, if_pos h, ext_len]
    unfold moE at h
    split at h
    · omega
    · split at h
      · omega
      · split at h
        · omega
        · rename_i h3
          have : (mons zs x.toNat).length = cnt zs x.toNat := rfl
          omega
  · rw [moV, if_neg h]
    simp

set_option maxHeartbeats 8000000 in
set_option maxRecDepth 100000 in
theorem monomialsOf_walk (a : Option Addr) (n c : Nat) (zs : List Int) (x : Int) (w : World) (h : Ints w a n zs) (_hx : (Lit.int .i64 x).wf = true) :
    Calls Try.prog 5 #[.slice a n c, .int .i64 x] w fun e w' => e = .returned (.bool true) ∧ Below w.heap.size w w' := by
  have HL := Lib.hid h.len
  have HH := Lib.hid h
  clear h
  by_cases hbig : 1048576 < n
  · have hbi : (1048576 : Int) < (n : Int) := by omega
    go_enter Try.func5, Try.ntmps5
    go_wp2_with fail
    go_ret
    exact ⟨rfl, Below.refl _ _⟩
  have hbi : ¬ (1048576 : Int) < (n : Int) := by omega
  have hn : n ≤ 1048576 := by omega
  obtain ⟨nV, hnV⟩ : ∃ k, (moV zs x).length = k := ⟨_, rfl⟩
  have hVl : nV ≤ 400 := by rw [← hnV]; exact moV_len zs x
  have HNV := Lib.hid hnV
  obtain ⟨E, hE⟩ : ∃ E, moE zs x = E := ⟨_, rfl⟩
  obtain ⟨V, hV⟩ : ∃ V, moV zs x = V := ⟨_, rfl⟩
  have CS : Hid (∀ (w' : World) (a' : Option Addr) (c' : Nat), Ints w' a' n zs → Calls Try.prog 20 #[.slice a' n c', .int .i64 x] w' fun e w'' => ∃ ra rc, e = .returned (.tuple #[.slice ra nV rc, .int .i64 E]) ∧ OwnM w'' w'.heap.size w''.heap.size ra nV V ∧ Below w'.heap.size w' w'') := Lib.hid (fun w' a' c' h => by
    refine (MonomialsOf_s c' x h hn).mono ?_
    rintro e w'' ⟨ra, rn, rc, h1, h2, h3⟩
    have e1 : rn = nV := by rw [← HNV.out, ← h2.1]
    subst e1
    exact ⟨ra, rc, by rw [h1, hE], by rw [← hV]; exact h2, h3⟩)
  have CC : Hid (∀ (w' : World) (a' : Option Addr) (c' : Nat), Ints w' a' n zs → Calls Try.prog 19 #[.slice a' n c', .int .i64 x] w' fun e w'' => ∃ ra rc, e = .returned (.tuple #[.slice ra nV rc, .int .i64 E]) ∧ OwnM w'' w'.heap.size w''.heap.size ra nV V ∧ Below w'.heap.size w' w'') := Lib.hid (fun w' a' c' h => by
    refine (MonomialsOf_c c' x h hn).mono ?_
    rintro e w'' ⟨ra, rn, rc, h1, h2, h3⟩
    have e1 : rn = nV := by rw [← HNV.out, ← h2.1]
    subst e1
    exact ⟨ra, rc, by rw [h1, hE], by rw [← hV]; exact h2, h3⟩)
  have CT : Hid (∀ (w' : World), Below w.heap.size w w' → Calls Try.prog 26 #[.slice a n c] w' fun e w'' => ∃ g, e = .returned (.slice (some ⟨g, 0, none⟩) n n) ∧ w'.heap.size = g ∧ IntBlk w'' g zs ∧ Below w'.heap.size w' w'') := Lib.hid (fun w' hb => by
    refine (toInt64S_c c (HH.out.keep hb) hn).mono ?_
    rintro e w'' ⟨rfl, rfl⟩
    exact ⟨_, rfl, rfl, Own.new _ _ _, below_alloc1 _ _⟩)
  clear hE hV hnV
  have hb : Below w.heap.size w w := Below.refl _ _
  have hne1 : (E != E) = false := by simp
  go_enter Try.func5, Try.ntmps5
  go_wp2_with fail
  refine (CT.out _ hb).mono ?_
  rintro e w1 ⟨g1, rfl, hg1, hi, hb1⟩
  replace hb := below_trans' hb hb1 hb.size
  clear hb1 hg1
  go_wp2_with fail
  refine (CS.out _ _ _ (IntBlk.ints' hi HL.out)).mono ?_
  rintro e w2 ⟨sa, sc, rfl, hvS, hb1⟩
  have hbs := hb.size
  replace hvS := hvS.weaken (lo' := w.heap.size) hbs (Nat.le_refl _)
  replace hb := below_trans' hb hb1 hb.size
  clear hi hb1 hbs
  go_wp2_with fail
  refine (CT.out _ hb).mono ?_
  rintro e w3 ⟨kd, rfl, hkd, hi, hb1⟩
  have hkw : w.heap.size ≤ kd := by rw [← hkd]; exact hb.size
  rw [hkd] at hvS
  replace hvS := hvS.keep hb1
  replace hb := below_trans' hb hb1 hb.size
  clear hb1 hkd
  have hkl := IntBlk.lt hi
  go_wp2_with fail
  refine (CC.out _ _ _ (IntBlk.ints' hi HL.out)).mono ?_
  rintro e w4 ⟨ra, rc, rfl, hvR, hb1⟩
  replace hvR := hvR.weaken (lo' := kd + 1) hkl (Nat.le_refl _)
  generalize w4.heap.size = gH at hvR
  replace hi := IntBlk.keep hi hb1 hkl
  replace hvS := hvS.keep hb1
  replace hb := below_trans' hb hb1 hb.size
  clear hb1 hkl
  go_wp2_with fail
  refine (eqMonomialS_c _ _ hvR.mos hvS.mos (by omega)).mono ?_
  rintro e w5 ⟨rfl, hb1⟩
  replace hi := IntBlk.keep hi hb1 (IntBlk.lt hi)
  replace hvS := hvS.keep hb1
  replace hvR := hvR.keep hb1
  replace hb := below_trans' hb hb1 hb.size
  clear hb1
  go_wp2_with fail
  refine (CT.out _ hb).mono ?_
  rintro e w6 ⟨g2, rfl, hg2, hi2, hb1⟩
  replace hi := IntBlk.keep hi hb1 (IntBlk.lt hi)
  replace hvS := hvS.keep hb1
  replace hvR := hvR.keep hb1
  replace hb := below_trans' hb hb1 hb.size
  clear hb1 hg2
  go_wp2_with fail
  refine (eqInts_c _ _ (IntBlk.ints' hi HL.out) (IntBlk.ints' hi2 HL.out) hn).mono ?_
  rintro e w7 ⟨rfl, hb1⟩
  replace hi := IntBlk.keep hi hb1 (IntBlk.lt hi)
  replace hvS := hvS.keep hb1
  replace hvR := hvR.keep hb1
  replace hb := below_trans' hb hb1 hb.size
  clear hb1 hi2
  go_wp2_with fail
  refine (markInt64S_c n (K := 1) hi (by simp [HL.out]) (fun _ => rfl) hn (by omega) (by omega)).mono ?_
  rintro e w8 ⟨rfl, hX, ho⟩
  have hTo := Touch.of_only ho
  replace hvS := hvS.touch hTo (fun q h1 h2 => by omega)
  replace hvR := hvR.touch hTo (fun q h1 h2 => by omega)
  replace hb := hb.trans (ho.below w.heap.size hkw)
  clear ho hTo hi
  generalize hK1 : (1 : Int) + (n : Nat) = K1 at *
  have hK1a : ¬ K1 < 0 := by omega
  clear hK1
  go_wp2_with fail
  refine (eqMonomialS_c _ _ hvR.mos hvS.mos (by omega)).mono ?_
  rintro e w9 ⟨rfl, hb1⟩
  replace hX := hX.keep hb1 hX.lt
  replace hvS := hvS.keep hb1
  replace hvR := hvR.keep hb1
  replace hb := below_trans' hb hb1 hb.size
  clear hb1
  obtain ⟨gv, tv, csv, hOv, hszv, hav, hgv⟩ := hvR.block hX
  go_wp2_with fail
  refine (markMonomialS_c rc (K := 1) hOv hszv hav (by omega) (by omega) (by omega)).mono ?_
  rintro e w10 ⟨rfl, hOw, ho⟩
  have hTo := Touch.of_only ho
  replace hb := hb.trans (ho.below w.heap.size (by omega))
  replace hvS := hvS.touch hTo (fun q h1 h2 => by omega)
  clear ho hTo hOv hvR hX
  generalize hM : (1 : Int) + (nV * 8 : Nat) = M at *
  have HM := Lib.hid hM
  have hmn : ¬ (M < 0) := by omega
  clear hM
  go_wp2_with fail
  refine (heldMonomialS_c rc (K := 1) hOw hszv hav (by omega) (by omega) (by omega)).mono ?_
  rintro e w11 ⟨rfl, hb1⟩
  rw [HM.out]
  replace hOw := hOw.keep hb1 hOw.lt
  replace hvS := hvS.keep hb1
  replace hb := below_trans' hb hb1 hb.size
  clear hb1
  go_wp2_with fail
  refine (CT.out _ hb).mono ?_
  rintro e w12 ⟨g3, rfl, hg3, hi, hb1⟩
  replace hOw := hOw.keep hb1 hOw.lt
  replace hvS := hvS.keep hb1
  replace hb := below_trans' hb hb1 hb.size
  clear hb1 hg3
  go_wp2_with fail
  refine (CC.out _ _ _ (IntBlk.ints' hi HL.out)).mono ?_
  rintro e w13 ⟨ta, tc, rfl, hvT, hb1⟩
  replace hOw := hOw.keep hb1 hOw.lt
  replace hvS := hvS.keep hb1
  replace hb := below_trans' hb hb1 hb.size
  clear hb1 hi
  go_wp2_with fail
  refine (eqMonomialS_c _ _ hvT.mos hvS.mos (by omega)).mono ?_
  rintro e w14 ⟨rfl, hb1⟩
  replace hOw := hOw.keep hb1 hOw.lt
  replace hb := below_trans' hb hb1 hb.size
  clear hb1 hvT hvS
  go_wp2_with fail
  refine (heldMonomialS_c rc (K := 1) hOw hszv hav (by omega) (by omega) (by omega)).mono ?_
  rintro e w15 ⟨rfl, hb1⟩
  rw [HM.out]
  replace hb := below_trans' hb hb1 hb.size
  clear hb1
  go_wp2_with fail
  go_ret
  exact ⟨rfl, hb⟩

end Go.Proofs.Yteocfhflclnkhaa
