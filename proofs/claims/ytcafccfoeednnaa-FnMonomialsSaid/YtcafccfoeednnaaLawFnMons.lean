/- The walk of the law FnMonomials: for every list of bytes it returns true and leaves it as it was. -/
import Derived.Test.YtcafccfoeednnaaDrwF
import Derived.Test.YtcafccfoeednnaaMInv
import Derived.Test.YtcafccfoeednnaaEqM
import Derived.Test.YtcafccfoeednnaaMonsOf
import Derived.Test.YtcafccfoeednnaaLawMons
import Derived.Test.YtcafccfoeednnaaMulM
import Derived.Test.YtcafccfoeednnaaLawMul
import Derived.Deep.CutRange
namespace Go.Proofs.Ytcafccfoeednnaa
open Go.RowKit Go.Deep

theorem big_c {w : World} (a : Option Addr) (n c : Nat) (hn : (n : Int) ≤ 9223372036854775807) : Calls Try.prog 6 #[.slice a n c] w fun e w' => e = .returned (.bool (decide (4096 < n))) ∧ w = w' := by
  by_cases h : 4096 < n
  · have hi : (4096 : Int) < (n : Int) := by omega
    go_enter Try.func6, Try.ntmps6
    go_wp2_with fail
    go_ret
    exact ⟨by simp [h], rfl⟩
  · have hi : ¬ (4096 : Int) < (n : Int) := by omega
    go_enter Try.func6, Try.ntmps6
    go_wp2_with fail
    go_ret
    exact ⟨by simp, rfl⟩
theorem mulS_b (zs m k : List Int) : -1 ≤ mulS zs m k ∧ mulS zs m k ≤ 1 := by
  unfold mulS joinS
  have := (sgn3_pm (trip zs m k)).1
  split
  · split <;> omega
  · omega
theorem mulE_b (zs m k : List Int) : 0 ≤ mulE zs m k ∧ mulE zs m k ≤ 3 := by
  unfold mulE
  split
  · split <;> omega
  · omega

theorem mul8c {w : World} {a : Option Addr} {n : Nat} {zs : List Int} {m0 m1 m2 m3 m4 m5 m6 m7 k0 k1 k2 k3 k4 k5 k6 k7 p0 p1 p2 p3 p4 p5 p6 p7 : Int} {S E : Int} (c : Nat) (h : Ints w a n zs) (hn : n ≤ 1048576) (hm : IsMono [m0, m1, m2, m3, m4, m5, m6, m7]) (hk : IsMono [k0, k1, k2, k3, k4, k5, k6, k7]) (hr : mulM zs [m0, m1, m2, m3, m4, m5, m6, m7] [k0, k1, k2, k3, k4, k5, k6, k7] = [p0, p1, p2, p3, p4, p5, p6, p7]) (hs : mulS zs [m0, m1, m2, m3, m4, m5, m6, m7] [k0, k1, k2, k3, k4, k5, k6, k7] = S) (he : mulE zs [m0, m1, m2, m3, m4, m5, m6, m7] [k0, k1, k2, k3, k4, k5, k6, k7] = E) :
    Calls Try.prog 8 #[.slice a n c, .agg #[.int .u8 m0, .int .u8 m1, .int .u8 m2, .int .u8 m3, .int .u8 m4, .int .u8 m5, .int .u8 m6, .int .u8 m7], .agg #[.int .u8 k0, .int .u8 k1, .int .u8 k2, .int .u8 k3, .int .u8 k4, .int .u8 k5, .int .u8 k6, .int .u8 k7]] w fun e w' => e = .returned (.tuple #[.agg #[.int .u8 p0, .int .u8 p1, .int .u8 p2, .int .u8 p3, .int .u8 p4, .int .u8 p5, .int .u8 p6, .int .u8 p7], .int .i64 S, .int .i64 E]) ∧ Below w.heap.size w w' := by
  subst hs he
  exact MulM8_c c h hn hm hk hr
theorem isM8c {w : World} {a : Option Addr} {n : Nat} {zs : List Int} {m0 m1 m2 m3 m4 m5 m6 m7 : Int} {b : Bool} (c : Nat) (h : Ints w a n zs) (hn : n ≤ 1048576) (hm : IsMono [m0, m1, m2, m3, m4, m5, m6, m7]) (hb : isMono zs [m0, m1, m2, m3, m4, m5, m6, m7] = b) :
    Calls Try.prog 10 #[.slice a n c, .agg #[.int .u8 m0, .int .u8 m1, .int .u8 m2, .int .u8 m3, .int .u8 m4, .int .u8 m5, .int .u8 m6, .int .u8 m7]] w fun e w' => e = .returned (.bool b) ∧ Below w.heap.size w w' := by
  subst hb
  exact IsMonomial_c c h hn hm
theorem areDc {w : World} {a : Option Addr} {n : Nat} {zs : List Int} {b : Bool} (c : Nat) (h : Ints w a n zs) (hn : n ≤ 1048576) (hb : degsOk zs = b) :
    Calls Try.prog 12 #[.slice a n c] w fun e w' => e = .returned (.bool b) ∧ Below w.heap.size w w' := by
  subst hb
  refine (AreDegrees_c c h hn).mono ?_
  rintro e w' ⟨rfl, rfl⟩
  exact ⟨rfl, Below.refl _ _⟩
theorem mul8s {w : World} {a : Option Addr} {n : Nat} {zs : List Int} {m0 m1 m2 m3 m4 m5 m6 m7 k0 k1 k2 k3 k4 k5 k6 k7 p0 p1 p2 p3 p4 p5 p6 p7 : Int} {S E : Int} (c : Nat) (h : Ints w a n zs) (hn : n ≤ 1048576) (hm : IsMono [m0, m1, m2, m3, m4, m5, m6, m7]) (hk : IsMono [k0, k1, k2, k3, k4, k5, k6, k7]) (hr : mulM zs [m0, m1, m2, m3, m4, m5, m6, m7] [k0, k1, k2, k3, k4, k5, k6, k7] = [p0, p1, p2, p3, p4, p5, p6, p7]) (hs : mulS zs [m0, m1, m2, m3, m4, m5, m6, m7] [k0, k1, k2, k3, k4, k5, k6, k7] = S) (he : mulE zs [m0, m1, m2, m3, m4, m5, m6, m7] [k0, k1, k2, k3, k4, k5, k6, k7] = E) :
    Calls Try.prog 9 #[.slice a n c, .agg #[.int .u8 m0, .int .u8 m1, .int .u8 m2, .int .u8 m3, .int .u8 m4, .int .u8 m5, .int .u8 m6, .int .u8 m7], .agg #[.int .u8 k0, .int .u8 k1, .int .u8 k2, .int .u8 k3, .int .u8 k4, .int .u8 k5, .int .u8 k6, .int .u8 k7]] w fun e w' => e = .returned (.tuple #[.agg #[.int .u8 p0, .int .u8 p1, .int .u8 p2, .int .u8 p3, .int .u8 p4, .int .u8 p5, .int .u8 p6, .int .u8 p7], .int .i64 S, .int .i64 E]) ∧ Below w.heap.size w w' := by
  subst hs he
  exact MulM8_s c h hn hm hk hr
theorem isM8s {w : World} {a : Option Addr} {n : Nat} {zs : List Int} {m0 m1 m2 m3 m4 m5 m6 m7 : Int} {b : Bool} (c : Nat) (h : Ints w a n zs) (hn : n ≤ 1048576) (hm : IsMono [m0, m1, m2, m3, m4, m5, m6, m7]) (hb : isMono zs [m0, m1, m2, m3, m4, m5, m6, m7] = b) :
    Calls Try.prog 11 #[.slice a n c, .agg #[.int .u8 m0, .int .u8 m1, .int .u8 m2, .int .u8 m3, .int .u8 m4, .int .u8 m5, .int .u8 m6, .int .u8 m7]] w fun e w' => e = .returned (.bool b) ∧ Below w.heap.size w w' := by
  subst hb
  exact IsMonomial_s c h hn hm
theorem areDs {w : World} {a : Option Addr} {n : Nat} {zs : List Int} {b : Bool} (c : Nat) (h : Ints w a n zs) (hn : n ≤ 1048576) (hb : degsOk zs = b) :
    Calls Try.prog 13 #[.slice a n c] w fun e w' => e = .returned (.bool b) ∧ Below w.heap.size w w' := by
  subst hb
  refine (AreDegrees_s c h hn).mono ?_
  rintro e w' ⟨rfl, rfl⟩
  exact ⟨rfl, Below.refl _ _⟩
theorem deg8c {w : World} {a : Option Addr} {n : Nat} {zs : List Int} {m0 m1 m2 m3 m4 m5 m6 m7 : Int} {D E : Int} (c : Nat) (h : Ints w a n zs) (hn : n ≤ 1048576) (hm : IsMono [m0, m1, m2, m3, m4, m5, m6, m7]) (hd : degM zs [m0, m1, m2, m3, m4, m5, m6, m7] = D) (he : codM zs [m0, m1, m2, m3, m4, m5, m6, m7] = E) :
    Calls Try.prog 14 #[.slice a n c, .agg #[.int .u8 m0, .int .u8 m1, .int .u8 m2, .int .u8 m3, .int .u8 m4, .int .u8 m5, .int .u8 m6, .int .u8 m7]] w fun e w' => e = .returned (.tuple #[.int .i64 D, .int .i64 E]) ∧ Below w.heap.size w w' := by
  subst hd he
  exact DegreeOfMonomial_c c h hn hm
theorem pwN_lt : ∀ (f out sq k : Nat), out < 10007 → pwN f out sq k < 10007
  | 0, out, _, _, h => h
  | f + 1, out, sq, k, h => by
    rw [pwN]
    split
    · refine pwN_lt f _ _ _ ?_
      split
      · omega
      · exact h
    · exact h
theorem invOf_bd (x : Int) : 0 ≤ invOf x ∧ invOf x ≤ 10006 := by
  rw [invOf]
  split
  · rename_i h
    obtain ⟨n, rfl⟩ : ∃ n : Nat, x = n := ⟨x.toNat, by omega⟩
    have e : pw 14 1 (n : Int) 10005 = ((pwN 14 1 n 10005 : Nat) : Int) := pw_nat 14 1 n 10005
    have := pwN_lt 14 1 n 10005 (by omega)
    omega
  · omega

theorem eq8 {w : World} {p0 p1 p2 p3 p4 p5 p6 p7 : Int} (hp : IsMono [p0, p1, p2, p3, p4, p5, p6, p7]) : (Op.equalIn 10000 26 (.agg #[.int .u8 p0, .int .u8 p1, .int .u8 p2, .int .u8 p3, .int .u8 p4, .int .u8 p5, .int .u8 p6, .int .u8 p7]) (.agg #[.int .u8 p0, .int .u8 p1, .int .u8 p2, .int .u8 p3, .int .u8 p4, .int .u8 p5, .int .u8 p6, .int .u8 p7])).run Try.prog w = .ok true w := by
  have := eqM_run (w := w) hp hp
  rwa [decide_eq_true (p := [p0, p1, p2, p3, p4, p5, p6, p7] = [p0, p1, p2, p3, p4, p5, p6, p7]) rfl] at this
/-- What the law asks of two monomials that multiply. -/
structure Asked (zs m k : List Int) : Prop where
  c1 : codM zs m = 0
  c2 : codM zs k = 0
  c3 : codM zs (mulM zs m k) = 0
  e : mulE zs k m = 0
  p : mulM zs k m = mulM zs m k
  z : mulS zs m k = 0 ↔ mulS zs k m = 0
  deg : mulS zs m k ≠ 0 → IntKind.i64.wrap (degM zs m + degM zs k) = degM zs (mulM zs m k)
  wr : IntKind.i64.wrap (degM zs m * degM zs k) = degM zs m * degM zs k
  sign : mulS zs m k ≠ 0 → (mulS zs m k = mulS zs k m ↔ (degM zs m * degM zs k) % 2 = 0)
theorem wt_bd {zs m : List Int} (hz : ∀ z ∈ zs, -1 ≤ z ∧ z ≤ 13) (hl : zs.length ≤ 9) (hm : IsMono m) : -229500 ≤ wt zs m ∧ wt zs m ≤ 229500 := by
  have h : Mild zs := fun x hx => by have := hz x hx; omega
  have := wtTo_bd h hm zs.length
  unfold wt
  omega
theorem asked {zs m k : List Int} (hz : ∀ z ∈ zs, -1 ≤ z ∧ z ≤ 13) (hl : zs.length ≤ 9) (hm : IsMono m) (hk : IsMono k) (h : mulE zs m k = 0) : Asked zs m k := by
  have F := mul_facts hm hk h
  have b1 := wt_bd hz hl hm
  have b2 := wt_bd hz hl hk
  have d1 : degM zs m = wt zs m := by rw [degM, if_pos F.im]
  have d2 : degM zs k = wt zs k := by rw [degM, if_pos F.ik]
  have d3 : degM zs (mulM zs m k) = wt zs (mulM zs m k) := by rw [degM, if_pos F.ip]
  have hw : -52670250000 ≤ wt zs m * wt zs k ∧ wt zs m * wt zs k ≤ 52670250000 := by
    generalize wt zs m = x at *
    generalize wt zs k = y at *
    have e1 : (x + 229500) * (y + 229500) ≥ 0 := Int.mul_nonneg (by omega) (by omega)
    have e2 : (229500 - x) * (229500 - y) ≥ 0 := Int.mul_nonneg (by omega) (by omega)
    have e3 : (x + 229500) * (229500 - y) ≥ 0 := Int.mul_nonneg (by omega) (by omega)
    have e4 : (229500 - x) * (y + 229500) ≥ 0 := Int.mul_nonneg (by omega) (by omega)
    rw [Int.add_mul, Int.mul_add, Int.mul_add] at e1
    rw [Int.sub_mul, Int.mul_sub, Int.mul_sub] at e2
    rw [Int.add_mul, Int.mul_sub, Int.mul_sub] at e3
    rw [Int.sub_mul, Int.mul_add, Int.mul_add] at e4
    generalize x * y = q at *
    omega
  refine ⟨by rw [codM, if_pos F.im], by rw [codM, if_pos F.ik], by rw [codM, if_pos F.ip], F.e, F.p, F.z, fun hs => ?_, ?_, ?_⟩
  · rw [d1, d2, d3, F.deg hs]
    exact IntWalk.i64_in _ (by omega)
  · rw [d1, d2]
    exact IntWalk.i64_in _ (by omega)
  · rw [d1, d2]
    exact F.sign

theorem own24 {w' : World} {g4 g6 g9 : Nat} {t u v : TypeId} {m0 m1 m2 m3 m4 m5 m6 m7 p0 p1 p2 p3 p4 p5 p6 p7 : Int} (h : Own w' g4 t (mcells [m0, m1, m2, m3, m4, m5, m6, m7]).toArray) (h' : Own w' g6 u (mcells [p0, p1, p2, p3, p4, p5, p6, p7]).toArray) (h'' : Own w' g9 v (mcells [p0, p1, p2, p3, p4, p5, p6, p7]).toArray) : w'.cell? ⟨g4, 0, none⟩ = some (.int .u8 m0) ∧ w'.cell? ⟨g4, 1, none⟩ = some (.int .u8 m1) ∧ w'.cell? ⟨g4, 2, none⟩ = some (.int .u8 m2) ∧ w'.cell? ⟨g4, 3, none⟩ = some (.int .u8 m3) ∧ w'.cell? ⟨g4, 4, none⟩ = some (.int .u8 m4) ∧ w'.cell? ⟨g4, 5, none⟩ = some (.int .u8 m5) ∧ w'.cell? ⟨g4, 6, none⟩ = some (.int .u8 m6) ∧ w'.cell? ⟨g4, 7, none⟩ = some (.int .u8 m7) ∧ w'.cell? ⟨g6, 0, none⟩ = some (.int .u8 p0) ∧ w'.cell? ⟨g6, 1, none⟩ = some (.int .u8 p1) ∧ w'.cell? ⟨g6, 2, none⟩ = some (.int .u8 p2) ∧ w'.cell? ⟨g6, 3, none⟩ = some (.int .u8 p3) ∧ w'.cell? ⟨g6, 4, none⟩ = some (.int .u8 p4) ∧ w'.cell? ⟨g6, 5, none⟩ = some (.int .u8 p5) ∧ w'.cell? ⟨g6, 6, none⟩ = some (.int .u8 p6) ∧ w'.cell? ⟨g6, 7, none⟩ = some (.int .u8 p7) ∧ w'.cell? ⟨g9, 0, none⟩ = some (.int .u8 p0) ∧ w'.cell? ⟨g9, 1, none⟩ = some (.int .u8 p1) ∧ w'.cell? ⟨g9, 2, none⟩ = some (.int .u8 p2) ∧ w'.cell? ⟨g9, 3, none⟩ = some (.int .u8 p3) ∧ w'.cell? ⟨g9, 4, none⟩ = some (.int .u8 p4) ∧ w'.cell? ⟨g9, 5, none⟩ = some (.int .u8 p5) ∧ w'.cell? ⟨g9, 6, none⟩ = some (.int .u8 p6) ∧ w'.cell? ⟨g9, 7, none⟩ = some (.int .u8 p7) :=
  ⟨h.cell 0, h.cell 1, h.cell 2, h.cell 3, h.cell 4, h.cell 5, h.cell 6, h.cell 7, h'.cell 0, h'.cell 1, h'.cell 2, h'.cell 3, h'.cell 4, h'.cell 5, h'.cell 6, h'.cell 7, h''.cell 0, h''.cell 1, h''.cell 2, h''.cell 3, h''.cell 4, h''.cell 5, h''.cell 6, h''.cell 7⟩

theorem own16b {w' : World} {g4 g6 : Nat} {t u : TypeId} {p0 p1 p2 p3 p4 p5 p6 p7 : Int} (h : Own w' g4 t (mcells [p0, p1, p2, p3, p4, p5, p6, p7]).toArray) (h' : Own w' g6 u (mcells [p0, p1, p2, p3, p4, p5, p6, p7]).toArray) : w'.cell? ⟨g4, 0, none⟩ = some (.int .u8 p0) ∧ w'.cell? ⟨g4, 1, none⟩ = some (.int .u8 p1) ∧ w'.cell? ⟨g4, 2, none⟩ = some (.int .u8 p2) ∧ w'.cell? ⟨g4, 3, none⟩ = some (.int .u8 p3) ∧ w'.cell? ⟨g4, 4, none⟩ = some (.int .u8 p4) ∧ w'.cell? ⟨g4, 5, none⟩ = some (.int .u8 p5) ∧ w'.cell? ⟨g4, 6, none⟩ = some (.int .u8 p6) ∧ w'.cell? ⟨g4, 7, none⟩ = some (.int .u8 p7) ∧ w'.cell? ⟨g6, 0, none⟩ = some (.int .u8 p0) ∧ w'.cell? ⟨g6, 1, none⟩ = some (.int .u8 p1) ∧ w'.cell? ⟨g6, 2, none⟩ = some (.int .u8 p2) ∧ w'.cell? ⟨g6, 3, none⟩ = some (.int .u8 p3) ∧ w'.cell? ⟨g6, 4, none⟩ = some (.int .u8 p4) ∧ w'.cell? ⟨g6, 5, none⟩ = some (.int .u8 p5) ∧ w'.cell? ⟨g6, 6, none⟩ = some (.int .u8 p6) ∧ w'.cell? ⟨g6, 7, none⟩ = some (.int .u8 p7) :=
  ⟨h.cell 0, h.cell 1, h.cell 2, h.cell 3, h.cell 4, h.cell 5, h.cell 6, h.cell 7, h'.cell 0, h'.cell 1, h'.cell 2, h'.cell 3, h'.cell 4, h'.cell 5, h'.cell 6, h'.cell 7⟩
theorem and16 {A0 A1 A2 A3 A4 A5 A6 A7 B0 B1 B2 B3 B4 B5 B6 B7 : Prop} (h : A0 ∧ A1 ∧ A2 ∧ A3 ∧ A4 ∧ A5 ∧ A6 ∧ A7) (h' : B0 ∧ B1 ∧ B2 ∧ B3 ∧ B4 ∧ B5 ∧ B6 ∧ B7) : A0 ∧ A1 ∧ A2 ∧ A3 ∧ A4 ∧ A5 ∧ A6 ∧ A7 ∧ B0 ∧ B1 ∧ B2 ∧ B3 ∧ B4 ∧ B5 ∧ B6 ∧ B7 := ⟨h.1, h.2.1, h.2.2.1, h.2.2.2.1, h.2.2.2.2.1, h.2.2.2.2.2.1, h.2.2.2.2.2.2.1, h.2.2.2.2.2.2.2, h'⟩

set_option maxHeartbeats 8000000 in
set_option maxRecDepth 100000 in
theorem fnMonomials_walk (a : Option Addr) (n c : Nat) (w : World) (hB : Bts w a n) (hmx : (n : Int) ≤ 9223372036854775807) :
    Calls Try.prog 3 #[.slice a n c] w fun e w' => e = .returned (.bool true) ∧ Below w.heap.size w w' := by
  by_cases hbig : 4096 < n
  · have hd : decide (4096 < n) = true := by simpa using hbig
    go_enter Try.func3, Try.ntmps3
    go_wp2_with (go_at_call 6; refine (big_c a n c hmx).mono ?_; rintro e w1 ⟨rfl, rfl⟩)
    go_ret
    exact ⟨rfl, Below.refl _ _⟩
  have hd : decide (4096 < n) = false := by simpa using hbig
  have hn : n ≤ 1048576 := by omega
  have HN := Lib.hid hn
  have HB := Lib.hid hB
  clear hbig hn hB
  go_enter Try.func3, Try.ntmps3
  go_wp2_with fail
  refine (big_c a n c hmx).mono ?_
  rintro e w1 ⟨rfl, rfl⟩
  rw [hd]
  clear hd hmx
  go_wp2_with fail
  refine (drawMul_c c HB.out HN.out).mono ?_
  rintro e w1 ⟨v, zs, m, k, he, hI, hl, hz, hm, hk, hb⟩
  obtain ⟨va, vn, vc, rfl⟩ := hI.isSlice
  have hvn := hI.len
  have hi := hI.ints
  have hIn : vn ≤ 1048576 := by omega
  have hP := mulM_mono (zs := zs) hm hk
  obtain ⟨m0, m1, m2, m3, m4, m5, m6, m7, rfl⟩ := mono8 hm
  obtain ⟨k0, k1, k2, k3, k4, k5, k6, k7, rfl⟩ := mono8 hk
  obtain ⟨p0, p1, p2, p3, p4, p5, p6, p7, hp⟩ := mono8 hP
  obtain ⟨S, hS⟩ : ∃ S, mulS zs [m0, m1, m2, m3, m4, m5, m6, m7] [k0, k1, k2, k3, k4, k5, k6, k7] = S := ⟨_, rfl⟩
  obtain ⟨E, hE⟩ : ∃ E, mulE zs [m0, m1, m2, m3, m4, m5, m6, m7] [k0, k1, k2, k3, k4, k5, k6, k7] = E := ⟨_, rfl⟩
  obtain ⟨bm, hbm⟩ : ∃ b, isMono zs [m0, m1, m2, m3, m4, m5, m6, m7] = b := ⟨_, rfl⟩
  obtain ⟨bd, hbd⟩ : ∃ b, degsOk zs = b := ⟨_, rfl⟩
  rw [hp] at hP
  have HP := Lib.hid hp
  have HS := Lib.hid hS
  have HE := Lib.hid hE
  have HBM := Lib.hid hbm
  have HBD := Lib.hid hbd
  have HIN := Lib.hid hIn
  have HVN := Lib.hid hvn
  have HL := Lib.hid hl
  have HZ := Lib.hid hz
  simp only [monoV, mcells, List.map_cons, List.map_nil] at he
  subst he
  clear hp hIn hI hl hz hvn hS hE hbm hbd
  have h4 : Own ((w1.alloc (.cells #[.int .u8 m0, .int .u8 m1, .int .u8 m2, .int .u8 m3, .int .u8 m4, .int .u8 m5, .int .u8 m6, .int .u8 m7] 26)).alloc (.cells #[.int .u8 k0, .int .u8 k1, .int .u8 k2, .int .u8 k3, .int .u8 k4, .int .u8 k5, .int .u8 k6, .int .u8 k7] 26)) w1.heap.size 26 (mcells [m0, m1, m2, m3, m4, m5, m6, m7]).toArray := (Own.new w1 26 #[.int .u8 m0, .int .u8 m1, .int .u8 m2, .int .u8 m3, .int .u8 m4, .int .u8 m5, .int .u8 m6, .int .u8 m7]).alloc (.cells #[.int .u8 k0, .int .u8 k1, .int .u8 k2, .int .u8 k3, .int .u8 k4, .int .u8 k5, .int .u8 k6, .int .u8 k7] 26)
  have h5 : Own ((w1.alloc (.cells #[.int .u8 m0, .int .u8 m1, .int .u8 m2, .int .u8 m3, .int .u8 m4, .int .u8 m5, .int .u8 m6, .int .u8 m7] 26)).alloc (.cells #[.int .u8 k0, .int .u8 k1, .int .u8 k2, .int .u8 k3, .int .u8 k4, .int .u8 k5, .int .u8 k6, .int .u8 k7] 26)) (w1.heap.size + 1) 26 (mcells [k0, k1, k2, k3, k4, k5, k6, k7]).toArray := by
    have := Own.new (w1.alloc (.cells #[.int .u8 m0, .int .u8 m1, .int .u8 m2, .int .u8 m3, .int .u8 m4, .int .u8 m5, .int .u8 m6, .int .u8 m7] 26)) 26 #[.int .u8 k0, .int .u8 k1, .int .u8 k2, .int .u8 k3, .int .u8 k4, .int .u8 k5, .int .u8 k6, .int .u8 k7]
    rwa [size_alloc] at this
  have hba := below_then (below_alloc1 w1 (.cells #[.int .u8 m0, .int .u8 m1, .int .u8 m2, .int .u8 m3, .int .u8 m4, .int .u8 m5, .int .u8 m6, .int .u8 m7] 26)) (below_alloc1 (w1.alloc (.cells #[.int .u8 m0, .int .u8 m1, .int .u8 m2, .int .u8 m3, .int .u8 m4, .int .u8 m5, .int .u8 m6, .int .u8 m7] 26)) (.cells #[.int .u8 k0, .int .u8 k1, .int .u8 k2, .int .u8 k3, .int .u8 k4, .int .u8 k5, .int .u8 k6, .int .u8 k7] 26))
  replace hi := hi.keep hba
  replace hb := hb.trans (hba.mono hb.size)
  clear hba
  go_upto_region 4 with fail
  generalize (w1.alloc (.cells #[.int .u8 m0, .int .u8 m1, .int .u8 m2, .int .u8 m3, .int .u8 m4, .int .u8 m5, .int .u8 m6, .int .u8 m7] 26)).alloc (.cells #[.int .u8 k0, .int .u8 k1, .int .u8 k2, .int .u8 k3, .int .u8 k4, .int .u8 k5, .int .u8 k6, .int .u8 k7] 26) = wA at *
  generalize w1.heap.size + 1 = g5 at *
  generalize w1.heap.size = g4 at *
  clear w1
  obtain ⟨x0, x1, x2, x3, x4, x5, x6, x7⟩ := own8 h4
  obtain ⟨y0, y1, y2, y3, y4, y5, y6, y7⟩ := own8 h5
  go_wp2_with fail
  clear x0 x1 x2 x3 x4 x5 x6 x7 y0 y1 y2 y3 y4 y5 y6 y7
  refine (mul8c vc hi HIN.out hm hk HP.out HS.out HE.out).mono ?_
  rintro e w3 ⟨rfl, hb3⟩
  have h6 : Own (w3.alloc (.cells #[.int .u8 p0, .int .u8 p1, .int .u8 p2, .int .u8 p3, .int .u8 p4, .int .u8 p5, .int .u8 p6, .int .u8 p7] 26)) w3.heap.size 26 (mcells [p0, p1, p2, p3, p4, p5, p6, p7]).toArray := Own.new w3 26 #[.int .u8 p0, .int .u8 p1, .int .u8 p2, .int .u8 p3, .int .u8 p4, .int .u8 p5, .int .u8 p6, .int .u8 p7]
  have hba := below_then hb3 (below_alloc1 w3 (.cells #[.int .u8 p0, .int .u8 p1, .int .u8 p2, .int .u8 p3, .int .u8 p4, .int .u8 p5, .int .u8 p6, .int .u8 p7] 26))
  replace hi := hi.keep hba
  replace h4 := h4.keep hba h4.lt
  replace h5 := h5.keep hba h5.lt
  replace hb := hb.trans (hba.mono hb.size)
  clear hba hb3
  go_upto_region 5 with fail
  generalize w3.alloc (.cells #[.int .u8 p0, .int .u8 p1, .int .u8 p2, .int .u8 p3, .int .u8 p4, .int .u8 p5, .int .u8 p6, .int .u8 p7] 26) = wB at *
  generalize w3.heap.size = g6 at *
  clear wA w3
  obtain ⟨x0, x1, x2, x3, x4, x5, x6, x7⟩ := own8 h4
  obtain ⟨y0, y1, y2, y3, y4, y5, y6, y7⟩ := own8 h5
  go_wp2_with fail
  clear x0 x1 x2 x3 x4 x5 x6 x7 y0 y1 y2 y3 y4 y5 y6 y7
  refine (mul8s vc hi HIN.out hm hk HP.out HS.out HE.out).mono ?_
  rintro e w3 ⟨rfl, hb3⟩
  have h9 : Own (w3.alloc (.cells #[.int .u8 p0, .int .u8 p1, .int .u8 p2, .int .u8 p3, .int .u8 p4, .int .u8 p5, .int .u8 p6, .int .u8 p7] 26)) w3.heap.size 26 (mcells [p0, p1, p2, p3, p4, p5, p6, p7]).toArray := Own.new w3 26 #[.int .u8 p0, .int .u8 p1, .int .u8 p2, .int .u8 p3, .int .u8 p4, .int .u8 p5, .int .u8 p6, .int .u8 p7]
  have hba := below_then hb3 (below_alloc1 w3 (.cells #[.int .u8 p0, .int .u8 p1, .int .u8 p2, .int .u8 p3, .int .u8 p4, .int .u8 p5, .int .u8 p6, .int .u8 p7] 26))
  replace hi := hi.keep hba
  replace h4 := h4.keep hba h4.lt
  replace h5 := h5.keep hba h5.lt
  replace h6 := h6.keep hba h6.lt
  replace hb := hb.trans (hba.mono hb.size)
  clear hba hb3
  go_upto_region 6 with fail
  generalize w3.alloc (.cells #[.int .u8 p0, .int .u8 p1, .int .u8 p2, .int .u8 p3, .int .u8 p4, .int .u8 p5, .int .u8 p6, .int .u8 p7] 26) = wD at *
  generalize w3.heap.size = g9 at *
  clear wB w3
  have HQ : ∀ w, (Op.equalIn 10000 26 (.agg #[.int .u8 p0, .int .u8 p1, .int .u8 p2, .int .u8 p3, .int .u8 p4, .int .u8 p5, .int .u8 p6, .int .u8 p7]) (.agg #[.int .u8 p0, .int .u8 p1, .int .u8 p2, .int .u8 p3, .int .u8 p4, .int .u8 p5, .int .u8 p6, .int .u8 p7])).run Try.prog w = .ok true w := fun w => eq8 hP
  go_cut [85] (fun v wr => v = .bool false ∧ Below wD.heap.size wD wr)
  case first =>
    have hbb : Below wD.heap.size wD wD.drew := (Below.refl _ _).drew
    have hgz : Hid (wD.heap.size ≤ wD.drew.heap.size) := Lib.hid (Nat.le_refl _)
    replace hi : Ints wD.drew va vn zs := hi
    replace h4 : Own wD.drew g4 26 (mcells [m0, m1, m2, m3, m4, m5, m6, m7]).toArray := h4
    replace h6 : Own wD.drew g6 26 (mcells [p0, p1, p2, p3, p4, p5, p6, p7]).toArray := h6
    replace h9 : Own wD.drew g9 26 (mcells [p0, p1, p2, p3, p4, p5, p6, p7]).toArray := h9
    go_region_held3 (fun w' => w'.cell? ⟨g4, 0, none⟩ = some (.int .u8 m0) ∧ w'.cell? ⟨g4, 1, none⟩ = some (.int .u8 m1) ∧ w'.cell? ⟨g4, 2, none⟩ = some (.int .u8 m2) ∧ w'.cell? ⟨g4, 3, none⟩ = some (.int .u8 m3) ∧ w'.cell? ⟨g4, 4, none⟩ = some (.int .u8 m4) ∧ w'.cell? ⟨g4, 5, none⟩ = some (.int .u8 m5) ∧ w'.cell? ⟨g4, 6, none⟩ = some (.int .u8 m6) ∧ w'.cell? ⟨g4, 7, none⟩ = some (.int .u8 m7) ∧ w'.cell? ⟨g6, 0, none⟩ = some (.int .u8 p0) ∧ w'.cell? ⟨g6, 1, none⟩ = some (.int .u8 p1) ∧ w'.cell? ⟨g6, 2, none⟩ = some (.int .u8 p2) ∧ w'.cell? ⟨g6, 3, none⟩ = some (.int .u8 p3) ∧ w'.cell? ⟨g6, 4, none⟩ = some (.int .u8 p4) ∧ w'.cell? ⟨g6, 5, none⟩ = some (.int .u8 p5) ∧ w'.cell? ⟨g6, 6, none⟩ = some (.int .u8 p6) ∧ w'.cell? ⟨g6, 7, none⟩ = some (.int .u8 p7) ∧ w'.cell? ⟨g9, 0, none⟩ = some (.int .u8 p0) ∧ w'.cell? ⟨g9, 1, none⟩ = some (.int .u8 p1) ∧ w'.cell? ⟨g9, 2, none⟩ = some (.int .u8 p2) ∧ w'.cell? ⟨g9, 3, none⟩ = some (.int .u8 p3) ∧ w'.cell? ⟨g9, 4, none⟩ = some (.int .u8 p4) ∧ w'.cell? ⟨g9, 5, none⟩ = some (.int .u8 p5) ∧ w'.cell? ⟨g9, 6, none⟩ = some (.int .u8 p6) ∧ w'.cell? ⟨g9, 7, none⟩ = some (.int .u8 p7)) (exact own24 h4 h6 h9)
      (first
        | (go_at_call 10; refine (isM8c vc hi HIN.out hm HBM.out).mono ?_; rintro e wI ⟨rfl, hbI⟩; have hbb := below_trans' hbb hbI hgz.out; have hi := hi.keep hbI; have h4 := h4.keep hbI h4.lt; have h6 := h6.keep hbI h6.lt; have h9 := h9.keep hbI h9.lt; have hgz := Lib.hid (Nat.le_trans hgz.out (hbI).size))
        | (go_at_call 11; refine (isM8s vc hi HIN.out hm HBM.out).mono ?_; rintro e wI ⟨rfl, hbI⟩; have hbb := below_trans' hbb hbI hgz.out; have hi := hi.keep hbI; have h4 := h4.keep hbI h4.lt; have h6 := h6.keep hbI h6.lt; have h9 := h9.keep hbI h9.lt; have hgz := Lib.hid (Nat.le_trans hgz.out (hbI).size))
        | (go_at_call 12; refine (areDc vc hi HIN.out HBD.out).mono ?_; rintro e wI ⟨rfl, hbI⟩; have hbb := below_trans' hbb hbI hgz.out; have hi := hi.keep hbI; have h4 := h4.keep hbI h4.lt; have h6 := h6.keep hbI h6.lt; have h9 := h9.keep hbI h9.lt; have hgz := Lib.hid (Nat.le_trans hgz.out (hbI).size))
        | (go_at_call 13; refine (areDs vc hi HIN.out HBD.out).mono ?_; rintro e wI ⟨rfl, hbI⟩; have hbb := below_trans' hbb hbI hgz.out; have hi := hi.keep hbI; have h4 := h4.keep hbI h4.lt; have h6 := h6.keep hbI h6.lt; have h9 := h9.keep hbI h9.lt; have hgz := Lib.hid (Nat.le_trans hgz.out (hbI).size)))
    all_goals go_wp2_with fail
    all_goals go_meet
    all_goals exact ⟨rfl, hbb⟩
  case rest =>
    obtain ⟨rfl, hbw⟩ := hcut
    replace hi := hi.keep hbw
    replace h4 := h4.keep hbw h4.lt
    replace h5 := h5.keep hbw h5.lt
    replace h6 := h6.keep hbw h6.lt
    replace hb := hb.trans (hbw.mono hb.size)
    clear hbw h9 HBM HBD
    clear wD
    generalize wc = wE at *
    clear wc
    go_upto_if 87 with fail
    go_cut [2] (fun v wr => v = .bool false ∧ Below wE.heap.size wE wr)
    case first =>
      by_cases hE0 : E = 0
      · subst hE0
        have hA := asked HZ.out HL.out hm hk HE.out
        obtain ⟨S', hS'⟩ : ∃ S, mulS zs [k0, k1, k2, k3, k4, k5, k6, k7] [m0, m1, m2, m3, m4, m5, m6, m7] = S := ⟨_, rfl⟩
        obtain ⟨D1, hD1⟩ : ∃ D, degM zs [m0, m1, m2, m3, m4, m5, m6, m7] = D := ⟨_, rfl⟩
        obtain ⟨D2, hD2⟩ : ∃ D, degM zs [k0, k1, k2, k3, k4, k5, k6, k7] = D := ⟨_, rfl⟩
        obtain ⟨D3, hD3⟩ : ∃ D, degM zs [p0, p1, p2, p3, p4, p5, p6, p7] = D := ⟨_, rfl⟩
        have HS' := Lib.hid hS'
        have HD1 := Lib.hid hD1
        have HD2 := Lib.hid hD2
        have HD3 := Lib.hid hD3
        have HP' : Hid (mulM zs [k0, k1, k2, k3, k4, k5, k6, k7] [m0, m1, m2, m3, m4, m5, m6, m7] = [p0, p1, p2, p3, p4, p5, p6, p7]) := Lib.hid (hA.p.trans HP.out)
        have HE' : Hid (mulE zs [k0, k1, k2, k3, k4, k5, k6, k7] [m0, m1, m2, m3, m4, m5, m6, m7] = 0) := Lib.hid hA.e
        have HC1 : Hid (codM zs [m0, m1, m2, m3, m4, m5, m6, m7] = 0) := Lib.hid hA.c1
        have HC2 : Hid (codM zs [k0, k1, k2, k3, k4, k5, k6, k7] = 0) := Lib.hid hA.c2
        have HC3 : Hid (codM zs [p0, p1, p2, p3, p4, p5, p6, p7] = 0) := Lib.hid (by rw [← HP.out]; exact hA.c3)
        have HZ1 : Hid (S = 0 ↔ S' = 0) := Lib.hid (by rw [← HS.out, ← hS']; exact hA.z)
        have HDG : Hid (S ≠ 0 → IntKind.i64.wrap (D1 + D2) = D3) := Lib.hid (by rw [← HS.out, ← hD1, ← hD2, ← hD3, ← HP.out]; exact hA.deg)
        have HWR : Hid (IntKind.i64.wrap (D1 * D2) = D1 * D2) := Lib.hid (by rw [← hD1, ← hD2]; exact hA.wr)
        have HSG : Hid (S ≠ 0 → (S = S' ↔ (D1 * D2) % 2 = 0)) := Lib.hid (by rw [← HS.out, ← hS', ← hD1, ← hD2]; exact hA.sign)
        clear hA hS' hD1 hD2 hD3 hb
        have hb : Below wE.heap.size wE wE := Below.refl _ _
        go_upto_region 9 with fail
        obtain ⟨x0, x1, x2, x3, x4, x5, x6, x7⟩ := own8 h4
        obtain ⟨y0, y1, y2, y3, y4, y5, y6, y7⟩ := own8 h5
        go_wp2_with fail
        clear x0 x1 x2 x3 x4 x5 x6 x7 y0 y1 y2 y3 y4 y5 y6 y7
        refine (mul8c vc hi HIN.out hk hm HP'.out HS'.out HE'.out).mono ?_
        rintro e w3 ⟨rfl, hb3⟩
        have h12 : Own (w3.alloc (.cells #[.int .u8 p0, .int .u8 p1, .int .u8 p2, .int .u8 p3, .int .u8 p4, .int .u8 p5, .int .u8 p6, .int .u8 p7] 26)) w3.heap.size 26 (mcells [p0, p1, p2, p3, p4, p5, p6, p7]).toArray := Own.new w3 26 #[.int .u8 p0, .int .u8 p1, .int .u8 p2, .int .u8 p3, .int .u8 p4, .int .u8 p5, .int .u8 p6, .int .u8 p7]
        have hba := below_then hb3 (below_alloc1 w3 (.cells #[.int .u8 p0, .int .u8 p1, .int .u8 p2, .int .u8 p3, .int .u8 p4, .int .u8 p5, .int .u8 p6, .int .u8 p7] 26))
        replace hi := hi.keep hba
        replace h4 := h4.keep hba h4.lt
        replace h5 := h5.keep hba h5.lt
        replace h6 := h6.keep hba h6.lt
        replace hb := hb.trans (hba.mono hb.size)
        clear hba hb3
        go_upto_region 10 with fail
        generalize w3.alloc (.cells #[.int .u8 p0, .int .u8 p1, .int .u8 p2, .int .u8 p3, .int .u8 p4, .int .u8 p5, .int .u8 p6, .int .u8 p7] 26) = wA at *
        generalize w3.heap.size = g12 at *
        clear w3
        obtain ⟨x0, x1, x2, x3, x4, x5, x6, x7⟩ := own8 h4
        go_wp2_with fail
        clear x0 x1 x2 x3 x4 x5 x6 x7
        refine (deg8c vc hi HIN.out hm HD1.out HC1.out).mono ?_
        rintro e w3 ⟨rfl, hba⟩
        replace hi := hi.keep hba
        replace h5 := h5.keep hba h5.lt
        replace h6 := h6.keep hba h6.lt
        replace h12 := h12.keep hba h12.lt
        replace hb := hb.trans (hba.mono hb.size)
        clear hba h4
        clear wA
        obtain ⟨x0, x1, x2, x3, x4, x5, x6, x7⟩ := own8 h5
        go_wp2_with fail
        clear x0 x1 x2 x3 x4 x5 x6 x7
        refine (deg8c vc hi HIN.out hk HD2.out HC2.out).mono ?_
        rintro e w4 ⟨rfl, hba⟩
        replace hi := hi.keep hba
        replace h6 := h6.keep hba h6.lt
        replace h12 := h12.keep hba h12.lt
        replace hb := hb.trans (hba.mono hb.size)
        clear hba h5
        clear w3
        obtain ⟨x0, x1, x2, x3, x4, x5, x6, x7⟩ := own8 h6
        go_wp2_with fail
        clear x0 x1 x2 x3 x4 x5 x6 x7
        refine (deg8c vc hi HIN.out hP HD3.out HC3.out).mono ?_
        rintro e w5 ⟨rfl, hba⟩
        replace h6 := h6.keep hba h6.lt
        replace h12 := h12.keep hba h12.lt
        replace hb := hb.trans (hba.mono hb.size)
        clear hba hi
        clear w4
        go_upto_region 13 with fail
        obtain ⟨x0, x1, x2, x3, x4, x5, x6, x7⟩ := own8 h6
        obtain ⟨y0, y1, y2, y3, y4, y5, y6, y7⟩ := own8 h12
        clear h6 h12
        by_cases hS0 : S = 0
        · have hS1 := HZ1.out.1 hS0
          clear HS HS' HZ1 HDG HWR HSG
          subst hS0 hS1
          all_goals go_wp2_with fail
          all_goals go_meet
          all_goals exact ⟨rfl, hb⟩
        · have hb1 : (S == 0) = false := by simpa using hS0
          have hS1 : ¬ S' = 0 := fun h => hS0 (HZ1.out.2 h)
          have hb2 : (S' == 0) = false := by simpa using hS1
          have hb3 : (S != 0) = true := by simpa using hS0
          have hwd := HDG.out hS0
          have hwm := HWR.out
          by_cases hev : (D1 * D2) % 2 = 0
          · have hSS := (HSG.out hS0).2 hev
            have htm : (D1 * D2).tmod 2 = 0 := (odd_tmod _).2 hev
            clear HS HS' HZ1 HDG HWR HSG hev
            subst hSS
            all_goals go_wp2_with fail
            all_goals go_meet
            all_goals exact ⟨rfl, hb⟩
          · have hSS : (S == S') = false := by
              have : ¬ S = S' := fun h => hev ((HSG.out hS0).1 h)
              simpa using this
            have htm : ¬ (D1 * D2).tmod 2 = 0 := fun h => hev ((odd_tmod _).1 h)
            have htb : ((D1 * D2).tmod 2 != 0) = true := by simpa using htm
            have htw : IntKind.i64.wrap ((D1 * D2).tmod 2) = (D1 * D2).tmod 2 := IntWalk.i64_in _ (by
              have e := Int.tmod_eq_emod (a := D1 * D2) (b := 2)
              split at e <;> omega)
            clear HS HS' HZ1 HDG HWR HSG hev
            all_goals go_wp2_with fail
            all_goals go_meet
            all_goals exact ⟨rfl, hb⟩
      · have hEb : (E == 0) = false := by simpa using hE0
        go_wp2_with fail
        go_meet
        exact ⟨rfl, Below.refl _ _⟩
    case rest =>
      obtain ⟨rfl, hbw⟩ := hcut
      replace hb := hb.trans (hbw.mono hb.size)
      clear hbw hi h4 h5 h6 HS HE HP HL HZ HIN HVN HQ hP hm hk
      have hB := HB.out.keep hb
      clear HB
      clear wE
      go_wp2_with fail
      refine (drawMonos_c c hB HN.out).mono ?_
      rintro e w5 ⟨v, zs, x, he, hI, hl, -, -, -, hb5⟩
      obtain ⟨va, vn, vc, rfl⟩ := hI.isSlice
      have hvn := hI.len
      have hi := hI.ints
      have hIn : vn ≤ 1048576 := by omega
      have hll := moV_len zs x
      have HIN := Lib.hid hIn
      subst he
      clear hIn hI hl hvn
      replace hB := hB.keep hb5
      replace hb := hb.trans (hb5.mono hb.size)
      clear hb5
      clear wc
      go_wp2_with fail
      refine (MonomialsOf_c vc x hi HIN.out).mono ?_
      rintro e w6 ⟨ra, rn, rc, rfl, hO, hb6⟩
      replace hB := hB.keep hb6
      replace hi := hi.keep hb6
      replace hb := hb.trans (hb6.mono hb.size)
      have hM := hO.mos
      have hrn : rn ≤ 400 := by have := hM.1; omega
      clear hb6 hO hll
      clear w5
      go_wp2_with fail
      refine (MonomialsOf_s vc x hi HIN.out).mono ?_
      rintro e w7 ⟨sa, sn, sc, rfl, hO, hb7⟩
      have hM2 := hO.mos
      obtain rfl : rn = sn := hM.1.symm.trans hM2.1
      replace hM := hM.keep hb7
      replace hB := hB.keep hb7
      replace hb := hb.trans (hb7.mono hb.size)
      clear hb7 hO hi HIN
      clear w6
      generalize moE zs x = E2 at *
      generalize moV zs x = V at *
      have HM := Lib.hid hM
      have HM2 := Lib.hid hM2
      have HB := Lib.hid hB
      clear hM hM2 hB
      go_wp2_with fail
      go_loopw [27] (fun i wr => ∃ k : Nat, k ≤ rn ∧ i = .int .i64 k ∧ Below w7.heap.size w7 wr) (fun i _ => rn - (intOf i).toNat)
      case atStart => exact ⟨0, Nat.zero_le _, rfl, Below.refl _ _⟩
      case round =>
        obtain ⟨j, hj, rfl, hbl⟩ := hrel
        by_cases hlt : j < rn
        · have hji : (j : Int) < (rn : Int) := by omega
          obtain ⟨b, off, m, rfl, hlb, hr, hm, hx⟩ := (HM.out.keep hbl).at_ hlt
          obtain ⟨b', off', m', rfl, hlb', hr', hm', hx'⟩ := (HM2.out.keep hbl).at_ hlt
          obtain rfl : m = m' := by
            have := hx.out.symm.trans hx'.out
            injection this
          clear hm' hx hx' hlb hlb'
          obtain ⟨m0, m1, m2, m3, m4, m5, m6, m7, rfl⟩ := mono8 hm
          have HQ : ∀ w, (Op.equalIn 10000 26 (.agg #[.int .u8 m0, .int .u8 m1, .int .u8 m2, .int .u8 m3, .int .u8 m4, .int .u8 m5, .int .u8 m6, .int .u8 m7]) (.agg #[.int .u8 m0, .int .u8 m1, .int .u8 m2, .int .u8 m3, .int .u8 m4, .int .u8 m5, .int .u8 m6, .int .u8 m7])).run Try.prog w = .ok true w := fun w => eq8 hm
          go_upto_region 27 with fail
          go_region_held3 (fun w' => w'.cell? ⟨b, off + j * 8, none⟩ = some (.int .u8 m0) ∧ w'.cell? ⟨b, off + j * 8 + 1, none⟩ = some (.int .u8 m1) ∧ w'.cell? ⟨b, off + j * 8 + 2, none⟩ = some (.int .u8 m2) ∧ w'.cell? ⟨b, off + j * 8 + 3, none⟩ = some (.int .u8 m3) ∧ w'.cell? ⟨b, off + j * 8 + 4, none⟩ = some (.int .u8 m4) ∧ w'.cell? ⟨b, off + j * 8 + 5, none⟩ = some (.int .u8 m5) ∧ w'.cell? ⟨b, off + j * 8 + 6, none⟩ = some (.int .u8 m6) ∧ w'.cell? ⟨b, off + j * 8 + 7, none⟩ = some (.int .u8 m7) ∧ w'.cell? ⟨b', off' + j * 8, none⟩ = some (.int .u8 m0) ∧ w'.cell? ⟨b', off' + j * 8 + 1, none⟩ = some (.int .u8 m1) ∧ w'.cell? ⟨b', off' + j * 8 + 2, none⟩ = some (.int .u8 m2) ∧ w'.cell? ⟨b', off' + j * 8 + 3, none⟩ = some (.int .u8 m3) ∧ w'.cell? ⟨b', off' + j * 8 + 4, none⟩ = some (.int .u8 m4) ∧ w'.cell? ⟨b', off' + j * 8 + 5, none⟩ = some (.int .u8 m5) ∧ w'.cell? ⟨b', off' + j * 8 + 6, none⟩ = some (.int .u8 m6) ∧ w'.cell? ⟨b', off' + j * 8 + 7, none⟩ = some (.int .u8 m7)) (exact and16 (eight hr) (eight hr')) (fail)
          all_goals go_wp2_with fail
          all_goals go_roundw
          all_goals first
            | (case measure => simp [intOf] <;> omega)
            | skip
          all_goals exact ⟨j + 1, by omega, by go_num, hbl.drew⟩
        · have hji : ¬ (j : Int) < (rn : Int) := by omega
          replace hb := hb.trans (hbl.mono hb.size)
          have hB := HB.out.keep hbl
          clear hbl HB HM HM2
          go_wp2_with fail
          refine (drawInverse_c c hB HN.out).mono ?_
          rintro e w8 ⟨y, rfl, hy0, hy1, hb8⟩
          replace hb := hb.trans (hb8.mono hb.size)
          clear hb8 hB
          have hiv := invOf_bd y
          by_cases hy : 1 ≤ y ∧ y ≤ 10006
          · have hone := inv_one hy.1 hy.2
            have hz0 : invErr y = 0 := by rw [invErr, if_pos hy]
            have HC := Lib.hid (InverseNumber_c (w := w8) y)
            have HS := Lib.hid (InverseNumber_s (w := w8) y)
            rw [hz0] at HC HS
            generalize invOf y = z at *
            have hw1 : IntKind.i64.wrap (y * z) = y * z := IntWalk.i64_in _ (by
              have e1 : y * z ≥ 0 := Int.mul_nonneg (by omega) (by omega)
              have e2 : y * z ≤ 10006 * 10006 := Int.mul_le_mul hy.2 hiv.2 hiv.1 (by omega)
              omega)
            have ht : (y * z).tmod 10007 = 1 := by rw [Int.tmod_eq_emod_of_nonneg (Int.mul_nonneg (by omega) hiv.1)]; exact hone
            clear hone hz0
            go_wp2_with fail
            refine HC.out.mono ?_
            rintro e w' ⟨rfl, rfl⟩
            go_wp2_with fail
            refine HS.out.mono ?_
            rintro e w' ⟨rfl, rfl⟩
            go_wp2_with fail
            go_ret
            exact ⟨rfl, hb⟩
          · have hz0 : invErr y = 2 := by rw [invErr, if_neg hy]
            have HC := Lib.hid (InverseNumber_c (w := w8) y)
            have HS := Lib.hid (InverseNumber_s (w := w8) y)
            rw [hz0] at HC HS
            generalize invOf y = z at *
            clear hz0
            go_wp2_with fail
            refine HC.out.mono ?_
            rintro e w' ⟨rfl, rfl⟩
            go_wp2_with fail
            refine HS.out.mono ?_
            rintro e w' ⟨rfl, rfl⟩
            go_wp2_with fail
            go_ret
            exact ⟨rfl, hb⟩

end Go.Proofs.Ytcafccfoeednnaa
