
import Derived.Test.YtbokloflbldikaaGreatSide
import Derived.Test.YtbokloflbldikaaGreatIsAlgS
import Derived.Test.YtbokloflbldikaaGreatMatQ
import Derived.Test.YtbokloflbldikaaGreatTabOf
import Derived.Test.YtbokloflbldikaaGreatTerm
import Derived.Stop.BytesEq
namespace Go.Proofs.YtbokloflbldikaaGreat
open Go.RowKit Go.Deep
def code3 (zs : List Int) (ims : List (List Tm)) (L : Nat) (n : Int) : Int := if isAlg zs ims = false then 1 else if ¬ (0 ≤ n ∧ n ≤ 20) then 2 else if many zs L (n.toNat + 1 - L) = true then 3 else 0
theorem isAlg_dg {zs : List Int} {ims : List (List Tm)} (h : isAlg zs ims = true) : degsOk zs = true := by
  simp only [isAlg, Bool.and_eq_true] at h
  exact h.1
structure From3 (lo n : Int) (L : Nat) : Prop where
  lo : (¬ lo < 0 ∧ lo = L) ∨ (lo < 0 ∧ L = 0)
  le : L ≤ n.toNat + 1
set_option maxHeartbeats 4000000 in
set_option maxRecDepth 100000 in
theorem checkDegrees_c {w : World} {da : Option Addr} {dn : Nat} {zs : List Int} {a : Option Addr} {k : Nat} {ims : List (List Tm)} {lo n : Int} {L : Nat} (dc c : Nat) (hd : Ints w da dn zs) (hdn : dn ≤ 1048576) (hF : Frms w a k ims) (hk : k ≤ 1048576) (hL : ∀ im ∈ ims, (im.length : Int) ≤ 1048576) (h3 : 0 ≤ n → n ≤ 20 → From3 lo n L) :
    Calls Tryz.prog 41 #[.agg #[.slice da dn dc, .slice a k c], .int .i64 lo, .int .i64 n] w fun e w' => e = .returned (.int .i64 (code3 zs ims L n)) ∧ Below w.heap.size w w' := by
  have HD := Lib.hid hd
  have HF := Lib.hid hF
  have HLL := Lib.hid hL
  have H3 := Lib.hid h3
  have hO := Own.new w 32 #[.slice da dn dc, .slice a k c]
  have hb := below_alloc1 w (.cells #[.slice da dn dc, .slice a k c] 32)
  clear hd hF hL h3
  go_enter Tryz.func41, Tryz.ntmps41
  go_wp2_with fail
  refine (IsAlgebra_c dc c (HD.out.keep hb) hdn (HF.out.keep hb) hk HLL.out).mono ?_
  rintro e w1 ⟨rfl, hb1⟩
  have hO1 := hO.keep hb1 hO.lt
  have hb2 := below_then hb hb1
  clear hO hb hb1
  cases hA : isAlg zs ims with
  | false =>
    have hC : code3 zs ims L n = 1 := by rw [code3, if_pos hA]
    clear hA
    go_wp2_with fail
    go_ret
    exact ⟨by rw [hC]; rfl, hb2⟩
  | true =>
    have HA := Lib.hid hA
    clear hA
    by_cases h0 : 0 ≤ n
    · by_cases h20 : n ≤ 20
      · obtain ⟨m, rfl⟩ : ∃ m : Nat, n = m := ⟨n.toNat, by omega⟩
        have hF3 := H3.out h0 h20
        have hC : code3 zs ims L (m : Int) = if many zs L (m + 1 - L) = true then 3 else 0 := by
          rw [code3, if_neg (by rw [HA.out]; simp), if_neg (by omega)]
          rfl
        have HC := Lib.hid hC
        clear hC
        have hle := hF3.le
        have hlo := Lib.hid hF3.lo
        have e1 : IntKind.i64.wrap ((m : Int) + 1) = ((m + 1 : Nat) : Int) := IntWalk.i64_in _ (by omega)
        have hn1 : ¬ (m : Int) < 0 := by omega
        have hn2 : ¬ (20 : Int) < (m : Int) := by omega
        have c0 := hO1.cell 0
        have c1 := hO1.cell 1
        have hHM := hasMany_c (w := w1) (a := a) (n := k) (lo := lo) (L := L) (H := m + 1) dc c (HD.out.keep hb2) (isAlg_dg HA.out) (by have := hlo.out; omega) (by omega) (by omega)
        obtain ⟨bq, hbq⟩ : ∃ b, many zs L (m + 1 - L) = b := ⟨_, rfl⟩
        have hC := HC.out
        rw [hbq] at hHM hC
        rw [Int.natCast_add, Int.natCast_one] at hHM
        rw [Int.natCast_add, Int.natCast_one] at e1
        have HM := Lib.hid hHM
        clear hF3 hbq hHM HC
        cases bq with
        | true =>
          rw [if_pos rfl] at hC
          have HC := Lib.hid hC
          clear hC
          go_wp2_with fail
          clear c0 c1
          refine HM.out.mono ?_
          rintro e w2 ⟨rfl, hb3⟩
          have hb4 := hb2.trans (hb3.mono hb2.size)
          clear hO1 hb2 hb3
          go_wp2_with fail
          go_ret
          exact ⟨by rw [HC.out]; rfl, hb4⟩
        | false =>
          rw [if_neg (by simp)] at hC
          have HC := Lib.hid hC
          clear hC
          go_wp2_with fail
          clear c0 c1
          refine HM.out.mono ?_
          rintro e w2 ⟨rfl, hb3⟩
          have hb4 := hb2.trans (hb3.mono hb2.size)
          clear hO1 hb2 hb3
          go_wp2_with fail
          go_ret
          exact ⟨by rw [HC.out]; rfl, hb4⟩
      · have hC : code3 zs ims L n = 2 := by rw [code3, if_neg (by rw [HA.out]; simp), if_pos (by omega)]
        have HC := Lib.hid hC
        have hn1 : ¬ n < 0 := by omega
        have hn2 : (20 : Int) < n := by omega
        clear hC
        go_wp2_with fail
        go_ret
        exact ⟨by rw [HC.out]; rfl, hb2⟩
    · have hC : code3 zs ims L n = 2 := by rw [code3, if_neg (by rw [HA.out]; simp), if_pos (by omega)]
      have HC := Lib.hid hC
      have hn1 : n < 0 := by omega
      clear hC
      go_wp2_with fail
      go_ret
      exact ⟨by rw [HC.out]; rfl, hb2⟩
def low1 (n : Int) : Nat := (n - 1).toNat
theorem from3 {n : Int} (h0 : 0 ≤ n) : From3 (n - 1) n (low1 n) := ⟨by unfold low1; omega, by unfold low1; omega⟩
set_option maxHeartbeats 4000000 in
set_option maxRecDepth 100000 in
theorem checkDegree_c {w : World} {da : Option Addr} {dn : Nat} {zs : List Int} {a : Option Addr} {k : Nat} {ims : List (List Tm)} {n : Int} (dc c : Nat) (hd : Ints w da dn zs) (hdn : dn ≤ 1048576) (hF : Frms w a k ims) (hk : k ≤ 1048576) (hL : ∀ im ∈ ims, (im.length : Int) ≤ 1048576) :
    Calls Tryz.prog 22 #[.agg #[.slice da dn dc, .slice a k c], .int .i64 n] w fun e w' => e = .returned (.int .i64 (code3 zs ims (low1 n) n)) ∧ Below w.heap.size w w' := by
  have HD := Lib.hid hd
  have HF := Lib.hid hF
  have HLL := Lib.hid hL
  have hO := Own.new w 32 #[.slice da dn dc, .slice a k c]
  have hb := below_alloc1 w (.cells #[.slice da dn dc, .slice a k c] 32)
  obtain ⟨lo, hlo⟩ : ∃ lo, IntKind.i64.wrap (n - 1) = lo := ⟨_, rfl⟩
  have H3 : Hid (0 ≤ n → n ≤ 20 → From3 lo n (low1 n)) := Lib.hid (fun h0 h20 => by
    have : IntKind.i64.wrap (n - 1) = n - 1 := IntWalk.i64_in _ (by omega)
    rw [← hlo, this]
    exact from3 h0)
  clear hd hF hL
  go_enter Tryz.func22, Tryz.ntmps22
  go_wp2_with fail
  refine (checkDegrees_c dc c (HD.out.keep hb) hdn (HF.out.keep hb) hk HLL.out H3.out).mono ?_
  rintro e w1 ⟨rfl, hb1⟩
  go_wp2_with fail
  go_ret
  exact ⟨rfl, below_then hb hb1⟩
set_option maxHeartbeats 4000000 in
set_option maxRecDepth 100000 in
theorem l03Code_c {w : World} {da : Option Addr} {dn : Nat} {zs : List Int} {a : Option Addr} {k : Nat} {ims : List (List Tm)} {n : Int} (dc c : Nat) (hd : Ints w da dn zs) (hdn : dn ≤ 1048576) (hF : Frms w a k ims) (hk : k ≤ 1048576) (hL : ∀ im ∈ ims, (im.length : Int) ≤ 1048576) :
    Calls Tryz.prog 18 #[.agg #[.slice da dn dc, .slice a k c], .int .i64 n] w fun e w' => e = .returned (.int .i64 (code3 zs ims (low1 n) n)) ∧ Below w.heap.size w w' := by
  have HD := Lib.hid hd
  have HF := Lib.hid hF
  have HLL := Lib.hid hL
  have hO := Own.new w 32 #[.slice da dn dc, .slice a k c]
  have hb := below_alloc1 w (.cells #[.slice da dn dc, .slice a k c] 32)
  clear hd hF hL
  go_enter Tryz.func18, Tryz.ntmps18
  go_wp2_with fail
  refine (l02Is_c dc c (HD.out.keep hb) hdn (HF.out.keep hb) hk HLL.out).mono ?_
  rintro e w1 ⟨rfl, hb1⟩
  have hO1 := hO.keep hb1 hO.lt
  have hb2 := below_then hb hb1
  clear hO hb hb1
  cases hA : isAlg zs ims with
  | false =>
    have hC : code3 zs ims (low1 n) n = 1 := by rw [code3, if_pos hA]
    have HC := Lib.hid hC
    clear hA hC
    go_wp2_with fail
    go_ret
    exact ⟨by rw [HC.out]; rfl, hb2⟩
  | true =>
    have HA := Lib.hid hA
    clear hA
    by_cases h0 : 0 ≤ n ∧ n ≤ 20
    · obtain ⟨m, rfl⟩ : ∃ m : Nat, n = m := ⟨n.toNat, by omega⟩
      have hF3 := from3 h0.1
      have hC : code3 zs ims (low1 m) (m : Int) = if many zs (low1 m) (m + 1 - low1 m) = true then 3 else 0 := by
        rw [code3, if_neg (by rw [HA.out]; simp), if_neg (by omega)]
        rfl
      have HC := Lib.hid hC
      clear hC
      have hle := hF3.le
      have hlo := Lib.hid hF3.lo
      have e1 : IntKind.i64.wrap ((m : Int) + 1) = ((m + 1 : Nat) : Int) := IntWalk.i64_in _ (by omega)
      have e2 : IntKind.i64.wrap ((m : Int) - 1) = (m : Int) - 1 := IntWalk.i64_in _ (by omega)
      have hdt : decide (0 ≤ (m : Int) ∧ (m : Int) ≤ 20) = true := decide_eq_true h0
      generalize hlq : low1 (m : Int) = L at *
      have HLQ := Lib.hid hlq
      clear hlq
      have hHM := within3_c (w := w1) (a := a) (n := k) (lo := (m : Int) - 1) (L := L) (H := m + 1) dc c (HD.out.keep hb2) (isAlg_dg HA.out) (by have := hlo.out; omega) (by omega) (by omega)
      obtain ⟨bq, hbq⟩ : ∃ b, many zs L (m + 1 - L) = b := ⟨_, rfl⟩
      have hC := HC.out
      rw [hbq] at hHM hC
      rw [Int.natCast_add, Int.natCast_one] at hHM
      rw [Int.natCast_add, Int.natCast_one] at e1
      have HM := Lib.hid hHM
      clear hF3 hbq hHM HC
      go_wp2_with fail
      refine (l01In_c _ _ _ _).mono ?_
      rintro e w3 ⟨rfl, rfl⟩
      rw [hdt]
      clear hdt
      have c0 := hO1.cell 0
      have c1 := hO1.cell 1
      cases bq with
      | true =>
        rw [if_pos rfl] at hC
        have HC := Lib.hid hC
        clear hC
        go_wp2_with fail
        clear c0 c1
        refine HM.out.mono ?_
        rintro e w2 ⟨rfl, hb3⟩
        have hb4 := hb2.trans (hb3.mono hb2.size)
        clear hO1 hb2 hb3
        go_wp2_with fail
        go_ret
        exact ⟨by rw [HLQ.out, HC.out]; rfl, hb4⟩
      | false =>
        rw [if_neg (by simp)] at hC
        have HC := Lib.hid hC
        clear hC
        go_wp2_with fail
        clear c0 c1
        refine HM.out.mono ?_
        rintro e w2 ⟨rfl, hb3⟩
        have hb4 := hb2.trans (hb3.mono hb2.size)
        clear hO1 hb2 hb3
        go_wp2_with fail
        go_ret
        exact ⟨by rw [HLQ.out, HC.out]; rfl, hb4⟩
    · have hC : code3 zs ims (low1 n) n = 2 := by rw [code3, if_neg (by rw [HA.out]; simp), if_pos h0]
      have HC := Lib.hid hC
      have hdt : decide (0 ≤ n ∧ n ≤ 20) = false := decide_eq_false h0
      clear hC
      go_wp2_with fail
      refine (l01In_c _ _ _ _).mono ?_
      rintro e w3 ⟨rfl, rfl⟩
      rw [hdt]
      clear hdt
      go_wp2_with fail
      go_ret
      exact ⟨by rw [HC.out]; rfl, hb2⟩
end Go.Proofs.YtbokloflbldikaaGreat

namespace Go.Proofs.YtbokloflbldikaaGreat
open Go.RowKit Go.Deep
def mtE (zs : List Int) (ims : List (List Tm)) (n : Int) : Int := code3 zs ims (low1 n) n
def mtV (zs : List Int) (ims : List (List Tm)) (n : Int) : List (List Int) := if mtE zs ims n = 0 then (side zs n.toNat).map (dRow zs ims (side zs (n.toNat + 1))) else []
theorem flat3_get {zs : List Int} {ims : List (List Tm)} {V : List (List Int)} : ∀ {U : List (List Int)} {i : Nat} {u : List Int}, U[i]? = some u → ∀ (j : Nat) x, (dRow zs ims V u)[j]? = some x → (flat3 zs ims V U)[i * V.length + j]? = some x
  | [], i, u, h, _, _, _ => by simp at h
  | v :: U, 0, u, h, j, x, hx => by
    simp only [List.getElem?_cons_zero, Option.some.injEq] at h
    subst h
    rw [flat3, List.flatMap_cons, Nat.zero_mul, Nat.zero_add, List.getElem?_append_left (List.getElem?_eq_some_iff.1 hx).1]
    exact hx
  | v :: U, i + 1, u, h, j, x, hx => by
    rw [List.getElem?_cons_succ] at h
    have ih := flat3_get h j x hx
    have hl : (dRow zs ims V v).length = V.length := by rw [dRow, rowT_len]
    rw [flat3, List.flatMap_cons, List.getElem?_append_right (by rw [hl, Nat.succ_mul]; omega), hl, show (i + 1) * V.length + j - V.length = i * V.length + j by rw [Nat.succ_mul]; omega]
    exact ih
theorem degs_one {zs : List Int} (h : degsOk zs = true) : ∀ z ∈ zs, 1 ≤ z := by
  intro z hz
  obtain ⟨i, hi, rfl⟩ := List.mem_iff_getElem.1 hz
  exact (degs_at h (List.getElem?_eq_getElem hi)).1
theorem code3_zero {zs : List Int} {ims : List (List Tm)} {n : Int} (h : code3 zs ims (low1 n) n = 0) : isAlg zs ims = true ∧ 0 ≤ n ∧ n ≤ 20 ∧ cnt zs n.toNat ≤ 120 ∧ cnt zs (n.toNat + 1) ≤ 120 := by
  unfold code3 at h
  split at h
  · omega
  · rename_i h1
    split at h
    · omega
    · rename_i h2
      split at h
      · omega
      · rename_i h3
        have h2' : 0 ≤ n ∧ n ≤ 20 := by
          by_cases hh : 0 ≤ n ∧ n ≤ 20
          · exact hh
          · exact absurd hh h2
        have hg : gmx zs (low1 n) (n.toNat + 1 - low1 n) ≤ 120 := by
          by_cases hh : 120 < gmx zs (low1 n) (n.toNat + 1 - low1 n)
          · exact absurd (by rw [many]; exact decide_eq_true hh) h3
          · omega
        have hle := gmx_le.1 hg
        have hl : low1 n ≤ n.toNat := by unfold low1; omega
        have q1 := hle (n.toNat - low1 n) (by omega)
        have q2 := hle (n.toNat + 1 - low1 n) (by omega)
        rw [show low1 n + (n.toNat - low1 n) = n.toNat by omega] at q1
        rw [show low1 n + (n.toNat + 1 - low1 n) = n.toNat + 1 by omega] at q2
        exact ⟨by simpa using h1, h2'.1, h2'.2, by omega, by omega⟩
set_option maxHeartbeats 4000000 in
set_option maxRecDepth 100000 in
theorem MatrixOfD_c {w : World} {da : Option Addr} {dn : Nat} {zs : List Int} {a : Option Addr} {k : Nat} {ims : List (List Tm)} (n : Int) (dc c : Nat) (hd : Ints w da dn zs) (hdn : dn ≤ 1048576) (hF : Frms w a k ims) (hk : k ≤ 1048576) (hL : ∀ im ∈ ims, (im.length : Int) ≤ 1048576) :
    Calls Tryz.prog 8 #[.agg #[.slice da dn dc, .slice a k c], .int .i64 n] w fun e w' => ∃ ra rn rc, e = .returned (.tuple #[.slice ra rn rc, .int .i64 (mtE zs ims n)]) ∧ OwnT w' w.heap.size w'.heap.size ra rn (mtV zs ims n) ∧ Below w.heap.size w w' := by
  have HD := Lib.hid hd
  have HF := Lib.hid hF
  have HLL := Lib.hid hL
  have HT := Lib.hid hF.tm
  have hO := Own.new w 32 #[.slice da dn dc, .slice a k c]
  have hb := below_alloc1 w (.cells #[.slice da dn dc, .slice a k c] 32)
  clear hd hF hL
  go_enter Tryz.func8, Tryz.ntmps8
  go_wp2_with fail
  refine (checkDegree_c dc c (HD.out.keep hb) hdn (HF.out.keep hb) hk HLL.out).mono ?_
  rintro e w1 ⟨rfl, hb1⟩
  have hO1 := hO.keep hb1 hO.lt
  have hb2 := below_then hb hb1
  clear hO hb hb1
  generalize hE : code3 zs ims (low1 n) n = E at *
  have HE := Lib.hid hE
  clear hE
  by_cases hE0 : E = 0
  · subst hE0
    have HZ := Lib.hid (code3_zero HE.out)
    obtain ⟨m, rfl⟩ : ∃ m : Nat, n = m := ⟨n.toNat, by have := HZ.out.2.1; omega⟩
    have c0 := hO1.cell 0
    have c1 := hO1.cell 1
    go_wp2_with fail
    clear c0 c1
    have hz := isAlg_dg HZ.out.1
    have q := HZ.out.2.2
    simp only [Int.toNat_natCast] at q
    refine (matrixOf_c dc c (HD.out.keep hb2) hdn (HF.out.keep hb2) (isAlg_ok HZ.out.1 HT.out) HZ.out.1 hz (degs_one hz) (by omega) q.2.1 q.2.2).mono ?_
    rintro e w2 ⟨g, rfl, hg, hN, hR, hb3⟩
    have hs1 := Lib.hid hb2.size
    have hb4 := hb2.trans (hb3.mono hb2.size)
    clear hb2 hb3 hO1 hz
    go_wp2_with fail
    refine (tableOf_c (V := (side zs m).map (dRow zs ims (side zs (m + 1)))) (cnt zs m) (by rw [List.length_map, side_len]) (fun row hrow => by
      obtain ⟨u, -, rfl⟩ := List.mem_map.1 hrow
      rw [dRow, rowT_len, side_len]) (fun i row hi j x hx => by
      rw [List.getElem?_map] at hi
      cases hu : (side zs m)[i]? with
      | none => rw [hu] at hi; simp at hi
      | some u =>
        rw [hu, Option.map_some, Option.some.injEq] at hi
        subst hi
        have := flat3_get (zs := zs) (ims := ims) (V := side zs (m + 1)) hu j x hx
        rwa [side_len] at this) (by omega) (by omega) hN hR).mono ?_
    rintro e w3 ⟨ra, rc, rfl, hT, hb5⟩
    have hb6 := hb4.trans (hb5.mono hb4.size)
    have hT2 := hT.weaken hb4.size (Nat.le_refl _)
    clear hT hb4 hb5 hN hR
    go_wp2_with fail
    go_ret2
    refine ⟨ra, _, rc, by rw [mtE, HE.out]; rfl, ?_, hb6⟩
    rw [mtV, mtE, HE.out, if_pos rfl]
    exact hT2
  · have hEb : (E != 0) = true := by simpa using hE0
    go_wp2_with fail
    go_ret2
    refine ⟨none, 0, 0, by rw [mtE, HE.out]; rfl, ?_, hb2⟩
    rw [mtV, mtE, HE.out, if_neg hE0]
    exact OwnT.none_
end Go.Proofs.YtbokloflbldikaaGreat

namespace Go.Proofs.YtbokloflbldikaaGreat
open Go.RowKit Go.Deep
theorem u8s_beq {m k : List Int} (hm : ∀ x ∈ m, 0 ≤ x ∧ x ≤ 255) (hk : ∀ x ∈ k, 0 ≤ x ∧ x ≤ 255) : (m.map (fun x => UInt8.ofNat x.toNat) == k.map (fun x => UInt8.ofNat x.toNat)) = decide (m = k) := by
  have back : ∀ l : List Int, (∀ x ∈ l, 0 ≤ x ∧ x ≤ 255) → (l.map (fun x => UInt8.ofNat x.toNat)).map (fun u => ((u.toNat : Nat) : Int)) = l := by
    intro l
    induction l with
    | nil => intro _; rfl
    | cons a l ih =>
      intro h
      have ha := h a (by simp)
      rw [List.map_cons, List.map_cons, ih (fun x hx => h x (by simp [hx]))]
      congr 1
      rw [UInt8.toNat_ofNat', Nat.mod_eq_of_lt (by omega)]
      omega
  rw [Bool.eq_iff_iff, beq_iff_eq, decide_eq_true_eq]
  constructor
  · intro h
    rw [← back m hm, ← back k hk, h]
  · intro h
    rw [h]
theorem mcells_u8 {m : List Int} (hm : ∀ x ∈ m, 0 ≤ x ∧ x ≤ 255) : mcells m = (m.map (fun x => UInt8.ofNat x.toNat)).map Extern.Stop.cell := by
  rw [mcells, List.map_map]
  apply List.map_congr_left
  intro x hx
  have ha := hm x hx
  simp only [Function.comp_def, Extern.Stop.cell, UInt8.toNat_ofNat']
  rw [Nat.mod_eq_of_lt (by omega)]
  congr 1
  exact (Int.toNat_of_nonneg ha.1).symm
theorem eqM_run {w : World} {m k : List Int} (hm : IsMono m) (hk : IsMono k) : (Op.equalIn 10000 70 (.agg (mcells m).toArray) (.agg (mcells k).toArray)).run Tryz.prog w = .ok (decide (m = k)) w := by
  rw [mcells_u8 hm.2, mcells_u8 hk.2, ← u8s_beq hm.2 hk.2]
  exact run_equalIn_bytes w 9998 70 5 8 Tryz.underlying70 Tryz.underlying5 (fun w => by kernel_rfl) _ _ (by rw [List.length_map, hm.1]) (by rw [List.length_map, hk.1])
end Go.Proofs.YtbokloflbldikaaGreat
