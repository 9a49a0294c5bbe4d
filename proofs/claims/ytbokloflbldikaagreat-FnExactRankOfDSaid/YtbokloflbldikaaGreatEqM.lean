
import Derived.Test.YtbokloflbldikaaGreatMonsOf
import Derived.Test.YtbokloflbldikaaGreatIsAlgS
import Derived.Test.YtbokloflbldikaaGreatMatQ
import Derived.Test.YtbokloflbldikaaGreatTabOf
import Derived.Test.YtbokloflbldikaaGreatTerm
import Derived.Stop.BytesEq
namespace Go.Proofs.YtbokloflbldikaaGreat
open Go.RowKit Go.Deep
def gmx (zs : List Int) (lo : Nat) : Nat → Int
  | 0 => (cnt zs lo : Int)
  | k + 1 => max (gmx zs lo k) (cnt zs (lo + k + 1) : Int)
theorem gmx_le {zs : List Int} {lo : Nat} {x : Int} : ∀ {k : Nat}, gmx zs lo k ≤ x ↔ ∀ i, i ≤ k → (cnt zs (lo + i) : Int) ≤ x
  | 0 => by
    constructor
    · intro h i hi
      obtain rfl : i = 0 := by omega
      exact h
    · intro h
      exact h 0 (by omega)
  | k + 1 => by
    rw [gmx]
    constructor
    · intro h i hi
      by_cases e : i = k + 1
      · subst e
        rw [← Nat.add_assoc]
        omega
      · exact (gmx_le (k := k)).1 (by omega) i (by omega)
    · intro h
      have h1 := gmx_le (zs := zs) (lo := lo) (x := x) (k := k) |>.2 (fun i hi => h i (by omega))
      have h2 := h (k + 1) (by omega)
      rw [← Nat.add_assoc] at h2
      omega
theorem gmx_succ {zs : List Int} {lo j : Nat} {y : Int} (hy : (cnt zs (lo + j + 1) : Int) = y) : gmx zs lo (j + 1) = max (gmx zs lo j) y := by rw [gmx, hy]
def many (zs : List Int) (lo k : Nat) : Bool := decide (120 < gmx zs lo k)
theorem MaxI_c {w : World} {g lo c N : Nat} {k : Nat} {zs : List Int} (hN : N = k + 1) (hc : ∀ i, i ≤ k → w.cell? ⟨g, lo + i, none⟩ = some (.int .i64 (cnt zs (lo + i) : Int))) (hk : k ≤ 900) :
    Calls Tryz.prog 81 #[.slice (some ⟨g, lo, none⟩) N c] w fun e w' => e = .returned (.int .i64 (gmx zs lo k)) ∧ w = w' := by
  subst hN
  have HC := Lib.hid hc
  have c0 := hc 0 (by omega)
  rw [Nat.add_zero] at c0
  clear hc
  go_enter Tryz.func81, Tryz.ntmps81
  go_wp2
  go_loop [3, 4] (fun v i => ∃ j : Nat, j ≤ k ∧ i = .int .i64 ((j : Int) + 1) ∧ v = .int .i64 (gmx zs lo j)) (fun _ i => (k + 1) - (intOf i).toNat)
  case atStart => exact ⟨0, by omega, rfl, rfl⟩
  case round =>
    obtain ⟨j, hj, rfl, rfl⟩ := hrel
    by_cases hlt : j < k
    · obtain ⟨y, hy⟩ : ∃ y, (cnt zs (lo + j + 1) : Int) = y := ⟨_, rfl⟩
      have cj : w.cell? ⟨g, lo + (j + 1), none⟩ = some (.int .i64 y) := by
        rw [HC.out (j + 1) (by omega), ← hy]
        rfl
      have HY := Lib.hid hy
      clear hy c0
      have hji : (j : Int) + 1 < (k : Int) + 1 := by omega
      go_wp2
      go_round
      case rel => exact ⟨j + 1, by omega, by go_num, by rw [gmx_succ HY.out]; congr 1; split <;> omega⟩
      case measure => simp [intOf] <;> omega
    · have : j = k := by omega
      subst this
      go_wp2
      go_ret
      exact ⟨rfl, rfl⟩
set_option maxRecDepth 100000 in
theorem hasMany_c {w : World} {da : Option Addr} {dn : Nat} {zs : List Int} {a : Option Addr} {n L H : Nat} {lo : Int} (dc c : Nat) (hd : Ints w da dn zs) (hz : degsOk zs = true) (hlo : (¬ lo < 0 ∧ lo = L) ∨ (lo < 0 ∧ L = 0)) (hLH : L ≤ H) (hH : H ≤ 900) :
    Calls Tryz.prog 63 #[.agg #[.slice da dn dc, .slice a n c], .int .i64 lo, .int .i64 H] w fun e w' => e = .returned (.bool (many zs L (H - L))) ∧ Below w.heap.size w w' := by
  obtain ⟨k, hk⟩ : ∃ k, L + k = H := ⟨H - L, by omega⟩
  have e1 : H - L = k := by omega
  rw [e1]
  have HK := Lib.hid hk
  have HD := Lib.hid (hd.keep (below_alloc1 w (.cells #[.slice da dn dc, .slice a n c] 32)))
  have hO := Own.new w 32 #[.slice da dn dc, .slice a n c]
  have hb := below_alloc1 w (.cells #[.slice da dn dc, .slice a n c] 32)
  clear hk e1 hd
  go_enter Tryz.func63, Tryz.ntmps63
  go_wp2_with fail
  refine (countMonomials_c dc HD.out hz hH).mono ?_
  rintro e w1 ⟨g, gf, rfl, hg, hgf, hT, hb1⟩
  have c0 := hT.own.cell 0
  rw [tabC_get (by omega) (by omega)] at c0
  have r0 := hT.row 0 (by omega) (by omega)
  rw [List.drop_zero] at r0
  generalize gf 0 = g0 at *
  have HC : Hid (∀ i, i ≤ k → w1.cell? ⟨g0, L + i, none⟩ = some (.int .i64 (cnt zs (L + i) : Int))) := Lib.hid (fun i hi => by
    have := HK.out
    rw [r0.cell (L + i)]
    exact ofI_get (cntR_get (by omega)))
  have hb2 := below_then hb hb1
  clear hT r0 hg hgf hO hb hb1 HD
  rcases hlo with ⟨hl, rfl⟩ | ⟨hl, rfl⟩
  all_goals
    go_wp2_with fail
    refine (MaxI_c (by have := HK.out; omega) HC.out (by have := HK.out; omega)).mono ?_
    rintro e w' ⟨rfl, rfl⟩
    go_wp2_with fail
    go_ret
    exact ⟨rfl, hb2⟩
def Few (zs : List Int) (L m : Nat) : Prop := ∀ i, L ≤ i → i < m → cnt zs i ≤ 120
theorem Few.start {zs : List Int} {L : Nat} : Few zs L L := fun i h1 h2 => absurd h2 (by omega)
theorem Few.step {zs : List Int} {L m : Nat} (h : Few zs L m) (hc : ¬ 120 < cnt zs m) : Few zs L (m + 1) := fun i h1 h2 => by
  by_cases e : i = m
  · subst e; omega
  · exact h i h1 (by omega)
theorem Few.not_many {zs : List Int} {L k : Nat} (h : Few zs L (L + k + 1)) : many zs L k = false := by
  rw [many, decide_eq_false_iff_not]
  have : gmx zs L k ≤ 120 := gmx_le.2 fun i hi => by have := h (L + i) (by omega) (by omega); omega
  omega
theorem many_at {zs : List Int} {L k m : Nat} (h1 : L ≤ m) (h2 : m ≤ L + k) (h : 120 < cnt zs m) : many zs L k = true := by
  rw [many, decide_eq_true_eq]
  by_cases hh : 120 < gmx zs L k
  · exact hh
  · have := gmx_le.1 (show gmx zs L k ≤ 120 by omega) (m - L) (by omega)
    rw [show L + (m - L) = m by omega] at this
    omega
set_option maxRecDepth 100000 in
theorem within3_c {w : World} {da : Option Addr} {dn : Nat} {zs : List Int} {a : Option Addr} {n L H : Nat} {lo : Int} (dc c : Nat) (hd : Ints w da dn zs) (hz : degsOk zs = true) (hlo : (¬ lo < 0 ∧ lo = L) ∨ (lo < 0 ∧ L = 0)) (hLH : L ≤ H) (hH : H ≤ 900) :
    Calls Tryz.prog 35 #[.agg #[.slice da dn dc, .slice a n c], .int .i64 lo, .int .i64 H] w fun e w' => e = .returned (.bool (!many zs L (H - L))) ∧ Below w.heap.size w w' := by
  obtain ⟨k, hk⟩ : ∃ k, L + k = H := ⟨H - L, by omega⟩
  have e1 : H - L = k := by omega
  rw [e1]
  have HK := Lib.hid hk
  have HD := Lib.hid (hd.keep (below_alloc1 w (.cells #[.slice da dn dc, .slice a n c] 32)))
  have hO := Own.new w 32 #[.slice da dn dc, .slice a n c]
  have hb := below_alloc1 w (.cells #[.slice da dn dc, .slice a n c] 32)
  have HZ := Lib.hid hz
  clear hk e1 hd hz
  go_enter Tryz.func35, Tryz.ntmps35
  rcases hlo with ⟨hl, rfl⟩ | ⟨hl, h0⟩
  · go_wp2_with fail
    generalize w.alloc (.cells #[.slice da dn dc, .slice a n c] 32) = w1 at *
    have hgs := Lib.hid hb.size
    generalize hge : w.heap.size = g at *
    have HGE := Lib.hid hge
    clear hge
    go_loopw [7] (fun v wr => ∃ m : Nat, L ≤ m ∧ m ≤ H + 1 ∧ v = .int .i64 m ∧ Few zs L m ∧ Below w1.heap.size w1 wr) (fun v _ => H + 1 - (intOf v).toNat)
    case atStart => exact ⟨L, Nat.le_refl _, by omega, rfl, Few.start, Below.refl _ _⟩
    case round =>
      obtain ⟨m, hLm, hmH, rfl, hFew, hbr⟩ := hrel
      have HF := Lib.hid hFew
      clear hFew
      by_cases hm : m ≤ H
      · have hmi : (m : Int) ≤ (H : Int) := by omega
        have c0 := (hO.keep hbr hO.lt).cell 0
        go_wp2_with fail
        clear c0
        refine (l01Monomials_c dc (HD.out.keep hbr) HZ.out (by omega)).mono ?_
        rintro e w2 ⟨ra, rn, rc, rfl, hM, hb2⟩
        have hrn : rn = min 401 (cnt zs m) := by rw [← hM.1, List.length_take, ext_len, cnt]
        have HR := Lib.hid hrn
        have hbs := hbr.trans (hb2.mono hbr.size)
        clear hM hb2 hrn
        by_cases h120 : 120 < rn
        · have hi : (120 : Int) < (rn : Int) := by omega
          go_wp2_with fail
          go_ret
          exact ⟨by rw [many_at (m := m) hLm (by have := HK.out; omega) (by have := HR.out; omega)]; rfl, by rw [HGE.out]; exact hb.trans (hbs.mono hgs.out)⟩
        · have hi : ¬ (120 : Int) < (rn : Int) := by omega
          go_wp2_with fail
          go_roundw
          case rel => exact ⟨m + 1, by omega, by omega, by go_num, HF.out.step (by have := HR.out; omega), hbs⟩
          case measure => simp [intOf] <;> omega
      · have hmi : ¬ (m : Int) ≤ (H : Int) := by omega
        go_wp2_with fail
        go_ret
        have hmk : m = L + k + 1 := by have := HK.out; omega
        exact ⟨by rw [(hmk ▸ HF.out : Few zs L (L + k + 1)).not_many]; rfl, by rw [HGE.out]; exact hb.trans (hbr.mono hgs.out)⟩
  · have H0 := Lib.hid h0
    clear h0
    go_wp2_with fail
    generalize w.alloc (.cells #[.slice da dn dc, .slice a n c] 32) = w1 at *
    have hgs := Lib.hid hb.size
    generalize hge : w.heap.size = g at *
    have HGE := Lib.hid hge
    clear hge
    go_loopw [7] (fun v wr => ∃ m : Nat, L ≤ m ∧ m ≤ H + 1 ∧ v = .int .i64 m ∧ Few zs L m ∧ Below w1.heap.size w1 wr) (fun v _ => H + 1 - (intOf v).toNat)
    case atStart => exact ⟨L, Nat.le_refl _, by omega, by rw [H0.out]; rfl, Few.start, Below.refl _ _⟩
    case round =>
      obtain ⟨m, hLm, hmH, rfl, hFew, hbr⟩ := hrel
      have HF := Lib.hid hFew
      clear hFew
      by_cases hm : m ≤ H
      · have hmi : (m : Int) ≤ (H : Int) := by omega
        have c0 := (hO.keep hbr hO.lt).cell 0
        go_wp2_with fail
        clear c0
        refine (l01Monomials_c dc (HD.out.keep hbr) HZ.out (by omega)).mono ?_
        rintro e w2 ⟨ra, rn, rc, rfl, hM, hb2⟩
        have hrn : rn = min 401 (cnt zs m) := by rw [← hM.1, List.length_take, ext_len, cnt]
        have HR := Lib.hid hrn
        have hbs := hbr.trans (hb2.mono hbr.size)
        clear hM hb2 hrn
        by_cases h120 : 120 < rn
        · have hi : (120 : Int) < (rn : Int) := by omega
          go_wp2_with fail
          go_ret
          exact ⟨by rw [many_at (m := m) hLm (by have := HK.out; omega) (by have := HR.out; omega)]; rfl, by rw [HGE.out]; exact hb.trans (hbs.mono hgs.out)⟩
        · have hi : ¬ (120 : Int) < (rn : Int) := by omega
          go_wp2_with fail
          go_roundw
          case rel => exact ⟨m + 1, by omega, by omega, by go_num, HF.out.step (by have := HR.out; omega), hbs⟩
          case measure => simp [intOf] <;> omega
      · have hmi : ¬ (m : Int) ≤ (H : Int) := by omega
        go_wp2_with fail
        go_ret
        have hmk : m = L + k + 1 := by have := HK.out; omega
        exact ⟨by rw [(hmk ▸ HF.out : Few zs L (L + k + 1)).not_many]; rfl, by rw [HGE.out]; exact hb.trans (hbr.mono hgs.out)⟩
end Go.Proofs.YtbokloflbldikaaGreat

namespace Go.Proofs.YtbokloflbldikaaGreat
open Go.RowKit Go.Deep
def code3 (zs : List Int) (ims : List (List Tm)) (L : Nat) (n : Int) : Int := if isAlg zs ims = false then 1 else if ¬ (0 ≤ n ∧ n ≤ 20) then 2 else if many zs L (n.toNat + 1 - L) = true then 3 else 0
theorem isAlg_dg {zs : List Int} {ims : List (List Tm)} (h : isAlg zs ims = true) : degsOk zs = true := by
  simp only [isAlg, Bool.and_eq_true] at h
  exact h.1
structure From3 (lo n : Int) (L : Nat) : Prop where
  lo : (¬ lo < 0 ∧ lo = L) ∨ (lo < 0 ∧ L = 0)
  le : L ≤ n.toNat + 1
set_option maxHeartbeats 4000000 in
set_option maxRecDepth 100000 in
theorem checkDegrees_c {w : World} {da : Option Addr} {dn : Nat} {zs : List Int} {a : Option Addr} {k : Nat} {ims : List (List Tm)} {lo n : Int} {L : Nat} (dc c : Nat) (hd : Ints w da dn zs) (hdn : dn ≤ 1048576) (hF : Frms w a k ims) (hk : k ≤ 1048576) (hL : ∀ im ∈ ims, (im.length : Int) ≤ 1048576) (h3 : 0 ≤ n → n ≤ 20 → From3 lo n L) :
    Calls Tryz.prog 41 #[.agg #[.slice da dn dc, .slice a k c], .int .i64 lo, .int .i64 n] w fun e w' => e = .returned (.int .i64 (code3 zs ims L n)) ∧ Below w.heap.size w w' := by
  have HD := Lib.hid hd
  have HF := Lib.hid hF
  have HLL := Lib.hid hL
  have H3 := Lib.hid h3
  have hO := Own.new w 32 #[.slice da dn dc, .slice a k c]
  have hb := below_alloc1 w (.cells #[.slice da dn dc, .slice a k c] 32)
  clear hd hF hL h3
  go_enter Tryz.func41, Tryz.ntmps41
  go_wp2_with fail
  refine (IsAlgebra_c dc c (HD.out.keep hb) hdn (HF.out.keep hb) hk HLL.out).mono ?_
  rintro e w1 ⟨rfl, hb1⟩
  have hO1 := hO.keep hb1 hO.lt
  have hb2 := below_then hb hb1
  clear hO hb hb1
  cases hA : isAlg zs ims with
  | false =>
    have hC : code3 zs ims L n = 1 := by rw [code3, if_pos hA]
    clear hA
    go_wp2_with fail
    go_ret
    exact ⟨by rw [hC]; rfl, hb2⟩
  | true =>
    have HA := Lib.hid hA
    clear hA
    by_cases h0 : 0 ≤ n
    · by_cases h20 : n ≤ 20
      · obtain ⟨m, rfl⟩ : ∃ m : Nat, n = m := ⟨n.toNat, by omega⟩
        have hF3 := H3.out h0 h20
        have hC : code3 zs ims L (m : Int) = if many zs L (m + 1 - L) = true then 3 else 0 := by
          rw [code3, if_neg (by rw [HA.out]; simp), if_neg (by omega)]
          rfl
        have HC := Lib.hid hC
        clear hC
        have hle := hF3.le
        have hlo := Lib.hid hF3.lo
        have e1 : IntKind.i64.wrap ((m : Int) + 1) = ((m + 1 : Nat) : Int) := IntWalk.i64_in _ (by omega)
        have hn1 : ¬ (m : Int) < 0 := by omega
        have hn2 : ¬ (20 : Int) < (m : Int) := by omega
        have c0 := hO1.cell 0
        have c1 := hO1.cell 1
        have hHM := hasMany_c (w := w1) (a := a) (n := k) (lo := lo) (L := L) (H := m + 1) dc c (HD.out.keep hb2) (isAlg_dg HA.out) (by have := hlo.out; omega) (by omega) (by omega)
        obtain ⟨bq, hbq⟩ : ∃ b, many zs L (m + 1 - L) = b := ⟨_, rfl⟩
        have hC := HC.out
        rw [hbq] at hHM hC
        rw [Int.natCast_add, Int.natCast_one] at hHM
        rw [Int.natCast_add, Int.natCast_one] at e1
        have HM := Lib.hid hHM
        clear hF3 hbq hHM HC
        cases bq with
        | true =>
          rw [if_pos rfl] at hC
          have HC := Lib.hid hC
          clear hC
          go_wp2_with fail
          clear c0 c1
          refine HM.out.mono ?_
          rintro e w2 ⟨rfl, hb3⟩
          have hb4 := hb2.trans (hb3.mono hb2.size)
          clear hO1 hb2 hb3
          go_wp2_with fail
          go_ret
          exact ⟨by rw [HC.out]; rfl, hb4⟩
        | false =>
          rw [if_neg (by simp)] at hC
          have HC := Lib.hid hC
          clear hC
          go_wp2_with fail
          clear c0 c1
          refine HM.out.mono ?_
          rintro e w2 ⟨rfl, hb3⟩
          have hb4 := hb2.trans (hb3.mono hb2.size)
          clear hO1 hb2 hb3
          go_wp2_with fail
          go_ret
          exact ⟨by rw [HC.out]; rfl, hb4⟩
      · have hC : code3 zs ims L n = 2 := by rw [code3, if_neg (by rw [HA.out]; simp), if_pos (by omega)]
        have HC := Lib.hid hC
        have hn1 : ¬ n < 0 := by omega
        have hn2 : (20 : Int) < n := by omega
        clear hC
        go_wp2_with fail
        go_ret
        exact ⟨by rw [HC.out]; rfl, hb2⟩
    · have hC : code3 zs ims L n = 2 := by rw [code3, if_neg (by rw [HA.out]; simp), if_pos (by omega)]
      have HC := Lib.hid hC
      have hn1 : n < 0 := by omega
      clear hC
      go_wp2_with fail
      go_ret
      exact ⟨by rw [HC.out]; rfl, hb2⟩
def low1 (n : Int) : Nat := (n - 1).toNat
theorem from3 {n : Int} (h0 : 0 ≤ n) : From3 (n - 1) n (low1 n) := ⟨by unfold low1; omega, by unfold low1; omega⟩
set_option maxHeartbeats 4000000 in
set_option maxRecDepth 100000 in
theorem checkDegree_c {w : World} {da : Option Addr} {dn : Nat} {zs : List Int} {a : Option Addr} {k : Nat} {ims : List (List Tm)} {n : Int} (dc c : Nat) (hd : Ints w da dn zs) (hdn : dn ≤ 1048576) (hF : Frms w a k ims) (hk : k ≤ 1048576) (hL : ∀ im ∈ ims, (im.length : Int) ≤ 1048576) :
    Calls Tryz.prog 22 #[.agg #[.slice da dn dc, .slice a k c], .int .i64 n] w fun e w' => e = .returned (.int .i64 (code3 zs ims (low1 n) n)) ∧ Below w.heap.size w w' := by
  have HD := Lib.hid hd
  have HF := Lib.hid hF
  have HLL := Lib.hid hL
  have hO := Own.new w 32 #[.slice da dn dc, .slice a k c]
  have hb := below_alloc1 w (.cells #[.slice da dn dc, .slice a k c] 32)
  obtain ⟨lo, hlo⟩ : ∃ lo, IntKind.i64.wrap (n - 1) = lo := ⟨_, rfl⟩
  have H3 : Hid (0 ≤ n → n ≤ 20 → From3 lo n (low1 n)) := Lib.hid (fun h0 h20 => by
    have : IntKind.i64.wrap (n - 1) = n - 1 := IntWalk.i64_in _ (by omega)
    rw [← hlo, this]
    exact from3 h0)
  clear hd hF hL
  go_enter Tryz.func22, Tryz.ntmps22
  go_wp2_with fail
  refine (checkDegrees_c dc c (HD.out.keep hb) hdn (HF.out.keep hb) hk HLL.out H3.out).mono ?_
  rintro e w1 ⟨rfl, hb1⟩
  go_wp2_with fail
  go_ret
  exact ⟨rfl, below_then hb hb1⟩
set_option maxHeartbeats 4000000 in
set_option maxRecDepth 100000 in
theorem l03Code_c {w : World} {da : Option Addr} {dn : Nat} {zs : List Int} {a : Option Addr} {k : Nat} {ims : List (List Tm)} {n : Int} (dc c : Nat) (hd : Ints w da dn zs) (hdn : dn ≤ 1048576) (hF : Frms w a k ims) (hk : k ≤ 1048576) (hL : ∀ im ∈ ims, (im.length : Int) ≤ 1048576) :
    Calls Tryz.prog 18 #[.agg #[.slice da dn dc, .slice a k c], .int .i64 n] w fun e w' => e = .returned (.int .i64 (code3 zs ims (low1 n) n)) ∧ Below w.heap.size w w' := by
  have HD := Lib.hid hd
  have HF := Lib.hid hF
  have HLL := Lib.hid hL
  have hO := Own.new w 32 #[.slice da dn dc, .slice a k c]
  have hb := below_alloc1 w (.cells #[.slice da dn dc, .slice a k c] 32)
  clear hd hF hL
  go_enter Tryz.func18, Tryz.ntmps18
  go_wp2_with fail
  refine (l02Is_c dc c (HD.out.keep hb) hdn (HF.out.keep hb) hk HLL.out).mono ?_
  rintro e w1 ⟨rfl, hb1⟩
  have hO1 := hO.keep hb1 hO.lt
  have hb2 := below_then hb hb1
  clear hO hb hb1
  cases hA : isAlg zs ims with
  | false =>
    have hC : code3 zs ims (low1 n) n = 1 := by rw [code3, if_pos hA]
    have HC := Lib.hid hC
    clear hA hC
    go_wp2_with fail
    go_ret
    exact ⟨by rw [HC.out]; rfl, hb2⟩
  | true =>
    have HA := Lib.hid hA
    clear hA
    by_cases h0 : 0 ≤ n ∧ n ≤ 20
    · obtain ⟨m, rfl⟩ : ∃ m : Nat, n = m := ⟨n.toNat, by omega⟩
      have hF3 := from3 h0.1
      have hC : code3 zs ims (low1 m) (m : Int) = if many zs (low1 m) (m + 1 - low1 m) = true then 3 else 0 := by
        rw [code3, if_neg (by rw [HA.out]; simp), if_neg (by omega)]
        rfl
      have HC := Lib.hid hC
      clear hC
      have hle := hF3.le
      have hlo := Lib.hid hF3.lo
      have e1 : IntKind.i64.wrap ((m : Int) + 1) = ((m + 1 : Nat) : Int) := IntWalk.i64_in _ (by omega)
      have e2 : IntKind.i64.wrap ((m : Int) - 1) = (m : Int) - 1 := IntWalk.i64_in _ (by omega)
      have hdt : decide (0 ≤ (m : Int) ∧ (m : Int) ≤ 20) = true := decide_eq_true h0
      generalize hlq : low1 (m : Int) = L at *
      have HLQ := Lib.hid hlq
      clear hlq
      have hHM := within3_c (w := w1) (a := a) (n := k) (lo := (m : Int) - 1) (L := L) (H := m + 1) dc c (HD.out.keep hb2) (isAlg_dg HA.out) (by have := hlo.out; omega) (by omega) (by omega)
      obtain ⟨bq, hbq⟩ : ∃ b, many zs L (m + 1 - L) = b := ⟨_, rfl⟩
      have hC := HC.out
      rw [hbq] at hHM hC
      rw [Int.natCast_add, Int.natCast_one] at hHM
      rw [Int.natCast_add, Int.natCast_one] at e1
      have HM := Lib.hid hHM
      clear hF3 hbq hHM HC
      go_wp2_with fail
      refine (l01In_c _ _ _ _).mono ?_
      rintro e w3 ⟨rfl, rfl⟩
      rw [hdt]
      clear hdt
      have c0 := hO1.cell 0
      have c1 := hO1.cell 1
      cases bq with
      | true =>
        rw [if_pos rfl] at hC
        have HC := Lib.hid hC
        clear hC
        go_wp2_with fail
        clear c0 c1
        refine HM.out.mono ?_
        rintro e w2 ⟨rfl, hb3⟩
        have hb4 := hb2.trans (hb3.mono hb2.size)
        clear hO1 hb2 hb3
        go_wp2_with fail
        go_ret
        exact ⟨by rw [HLQ.out, HC.out]; rfl, hb4⟩
      | false =>
        rw [if_neg (by simp)] at hC
        have HC := Lib.hid hC
        clear hC
        go_wp2_with fail
        clear c0 c1
        refine HM.out.mono ?_
        rintro e w2 ⟨rfl, hb3⟩
        have hb4 := hb2.trans (hb3.mono hb2.size)
        clear hO1 hb2 hb3
        go_wp2_with fail
        go_ret
        exact ⟨by rw [HLQ.out, HC.out]; rfl, hb4⟩
    · have hC : code3 zs ims (low1 n) n = 2 := by rw [code3, if_neg (by rw [HA.out]; simp), if_pos h0]
      have HC := Lib.hid hC
      have hdt : decide (0 ≤ n ∧ n ≤ 20) = false := decide_eq_false h0
      clear hC
      go_wp2_with fail
      refine (l01In_c _ _ _ _).mono ?_
      rintro e w3 ⟨rfl, rfl⟩
      rw [hdt]
      clear hdt
      go_wp2_with fail
      go_ret
      exact ⟨by rw [HC.out]; rfl, hb2⟩
end Go.Proofs.YtbokloflbldikaaGreat

namespace Go.Proofs.YtbokloflbldikaaGreat
open Go.RowKit Go.Deep
def mtE (zs : List Int) (ims : List (List Tm)) (n : Int) : Int := code3 zs ims (low1 n) n
def mtV (zs : List Int) (ims : List (List Tm)) (n : Int) : List (List Int) := if mtE zs ims n = 0 then (side zs n.toNat).map (dRow zs ims (side zs (n.toNat + 1))) else []
theorem flat3_get {zs : List Int} {ims : List (List Tm)} {V : List (List Int)} : ∀ {U : List (List Int)} {i : Nat} {u : List Int}, U[i]? = some u → ∀ (j : Nat) x, (dRow zs ims V u)[j]? = some x → (flat3 zs ims V U)[i * V.length + j]? = some x
  | [], i, u, h, _, _, _ => by simp at h
  | v :: U, 0, u, h, j, x, hx => by
    simp only [List.getElem?_cons_zero, Option.some.injEq] at h
    subst h
    rw [flat3, List.flatMap_cons, Nat.zero_mul, Nat.zero_add, List.getElem?_append_left (List.getElem?_eq_some_iff.1 hx).1]
    exact hx
  | v :: U, i + 1, u, h, j, x, hx => by
    rw [List.getElem?_cons_succ] at h
    have ih := flat3_get h j x hx
    have hl : (dRow zs ims V v).length = V.length := by rw [dRow, rowT_len]
    rw [flat3, List.flatMap_cons, List.getElem?_append_right (by rw [hl, Nat.succ_mul]; omega), hl, show (i + 1) * V.length + j - V.length = i * V.length + j by rw [Nat.succ_mul]; omega]
    exact ih
theorem degs_one {zs : List Int} (h : degsOk zs = true) : ∀ z ∈ zs, 1 ≤ z := by
  intro z hz
  obtain ⟨i, hi, rfl⟩ := List.mem_iff_getElem.1 hz
  exact (degs_at h (List.getElem?_eq_getElem hi)).1
theorem code3_zero {zs : List Int} {ims : List (List Tm)} {n : Int} (h : code3 zs ims (low1 n) n = 0) : isAlg zs ims = true ∧ 0 ≤ n ∧ n ≤ 20 ∧ cnt zs n.toNat ≤ 120 ∧ cnt zs (n.toNat + 1) ≤ 120 := by
  unfold code3 at h
  split at h
  · omega
  · rename_i h1
    split at h
    · omega
    · rename_i h2
      split at h
      · omega
      · rename_i h3
        have h2' : 0 ≤ n ∧ n ≤ 20 := by
          by_cases hh : 0 ≤ n ∧ n ≤ 20
          · exact hh
          · exact absurd hh h2
        have hg : gmx zs (low1 n) (n.toNat + 1 - low1 n) ≤ 120 := by
          by_cases hh : 120 < gmx zs (low1 n) (n.toNat + 1 - low1 n)
          · exact absurd (by rw [many]; exact decide_eq_true hh) h3
          · omega
        have hle := gmx_le.1 hg
        have hl : low1 n ≤ n.toNat := by unfold low1; omega
        have q1 := hle (n.toNat - low1 n) (by omega)
        have q2 := hle (n.toNat + 1 - low1 n) (by omega)
        rw [show low1 n + (n.toNat - low1 n) = n.toNat by omega] at q1
        rw [show low1 n + (n.toNat + 1 - low1 n) = n.toNat + 1 by omega] at q2
        exact ⟨by simpa using h1, h2'.1, h2'.2, by omega, by omega⟩
end Go.Proofs.YtbokloflbldikaaGreat

namespace Go.Proofs.YtbokloflbldikaaGreat
open Go.RowKit Go.Deep
theorem u8s_beq {m k : List Int} (hm : ∀ x ∈ m, 0 ≤ x ∧ x ≤ 255) (hk : ∀ x ∈ k, 0 ≤ x ∧ x ≤ 255) : (m.map (fun x => UInt8.ofNat x.toNat) == k.map (fun x => UInt8.ofNat x.toNat)) = decide (m = k) := by
  have back : ∀ l : List Int, (∀ x ∈ l, 0 ≤ x ∧ x ≤ 255) → (l.map (fun x => UInt8.ofNat x.toNat)).map (fun u => ((u.toNat : Nat) : Int)) = l := by
    intro l
    induction l with
    | nil => intro _; rfl
    | cons a l ih =>
      intro h
      have ha := h a (by simp)
      rw [List.map_cons, List.map_cons, ih (fun x hx => h x (by simp [hx]))]
      congr 1
      rw [UInt8.toNat_ofNat', Nat.mod_eq_of_lt (by omega)]
      omega
  rw [Bool.eq_iff_iff, beq_iff_eq, decide_eq_true_eq]
  constructor
  · intro h
    rw [← back m hm, ← back k hk, h]
  · intro h
    rw [h]
theorem mcells_u8 {m : List Int} (hm : ∀ x ∈ m, 0 ≤ x ∧ x ≤ 255) : mcells m = (m.map (fun x => UInt8.ofNat x.toNat)).map Extern.Stop.cell := by
  rw [mcells, List.map_map]
  apply List.map_congr_left
  intro x hx
  have ha := hm x hx
  simp only [Function.comp_def, Extern.Stop.cell, UInt8.toNat_ofNat']
  rw [Nat.mod_eq_of_lt (by omega)]
  congr 1
  exact (Int.toNat_of_nonneg ha.1).symm
theorem eqM_run {w : World} {m k : List Int} (hm : IsMono m) (hk : IsMono k) : (Op.equalIn 10000 70 (.agg (mcells m).toArray) (.agg (mcells k).toArray)).run Tryz.prog w = .ok (decide (m = k)) w := by
  rw [mcells_u8 hm.2, mcells_u8 hk.2, ← u8s_beq hm.2 hk.2]
  exact run_equalIn_bytes w 9998 70 5 8 Tryz.underlying70 Tryz.underlying5 (fun w => by kernel_rfl) _ _ (by rw [List.length_map, hm.1]) (by rw [List.length_map, hk.1])
end Go.Proofs.YtbokloflbldikaaGreat
