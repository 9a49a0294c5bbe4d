/- The program's isZeroOrOfDegree. -/
import Derived.Test.YtchonljgpdekjaaDegForm
namespace Go.Proofs.Ytchonljgpdekjaa
open Go.RowKit Go.Deep

/-- 0, or homogeneous of a degree. -/
def zeroOr (zs : List Int) (ts : List Tm) (x : Int) : Bool := codF zs ts == 0 && (degF zs ts == x || ts.length == 0)

set_option maxRecDepth 100000 in
theorem isZeroOrOfDegree_c {w : World} {da : Option Addr} {dn : Nat} {zs : List Int} {a : Option Addr} {n : Nat} {ts : List Tm} {x : Int} (dc c : Nat) (hd : Ints w da dn zs) (hdn : dn ≤ 1048576) (h : Terms w a n ts) (hn : n ≤ 1048576) :
    Calls Try.prog 129 #[.slice da dn dc, .agg #[.slice a n c], .int .i64 x] w fun e w' => e = .returned (.bool (zeroOr zs ts x)) ∧ Below w.heap.size w w' := by
  have hl := h.len
  obtain ⟨D, hD⟩ : ∃ D, degF zs ts = D := ⟨_, rfl⟩
  obtain ⟨K, hK⟩ : ∃ K, codF zs ts = K := ⟨_, rfl⟩
  have hZ : zeroOr zs ts x = (K == 0 && (D == x || n == 0)) := by rw [zeroOr, hD, hK, hl]
  rw [hZ]
  have HD := Lib.hid hD
  have HK := Lib.hid hK
  clear hZ hD hK hl
  have hb := below_alloc1 w (.cells #[.slice a n c] 48)
  have hF := Own.new w 48 #[.slice a n c]
  have cF := hF.cell 0
  go_enter Try.func129, Try.ntmps129
  go_upto_region 1 with fail
  generalize hw0 : w.alloc (.cells #[.slice a n c] 48) = w0 at *
  clear hw0
  go_wp2_with fail
  refine (DegreeOfForm_c dc c (hd.keep hb) hdn (h.keep hb) hn).mono ?_
  rintro e w1 ⟨rfl, hb1⟩
  rw [HD.out, HK.out]
  replace hF := hF.keep hb1 hF.lt
  replace hb := below_then hb hb1
  clear hb1 cF
  have cF := hF.cell 0
  by_cases hk : K = 0
  · subst hk
    by_cases hx : D = x
    · subst hx
      go_wp2_with fail
      go_ret
      exact ⟨by simp, hb⟩
    · have hxb : (D == x) = false := by simpa using hx
      by_cases h0 : n = 0
      · subst h0
        go_wp2_with fail
        go_ret
        exact ⟨by simp, hb⟩
      · have h0b : ((n : Int) == 0) = false := by simp; omega
        have h0c : (n == 0) = false := by simpa using h0
        go_wp2_with fail
        go_ret
        exact ⟨by simp [hxb, h0c], hb⟩
  · have hkb : (K == 0) = false := by simpa using hk
    go_wp2_with fail
    go_ret
    exact ⟨by simp [hkb], hb⟩

end Go.Proofs.Ytchonljgpdekjaa
