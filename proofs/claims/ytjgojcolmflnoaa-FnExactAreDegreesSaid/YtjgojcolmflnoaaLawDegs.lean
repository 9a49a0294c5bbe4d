/- For every list of 64-bit integers the law FnExactAreDegrees returns true and leaves its argument as it was: the program's AreDegrees answers as its model and writes nothing. No condition. -/
import Derived.Test.YtjgojcolmflnoaaDegs
namespace Go.Proofs.Ytjgojcolmflnoaa
open Go.RowKit

theorem areDegrees_walk (a : Option Addr) (n c : Nat) (zs : List Int) (w : World) (h : Ints w a n zs) :
    Calls Try.prog 5 #[.slice a n c] w fun e w' => e = .returned (.bool true) ∧ Below w.heap.size w w' := by
  have hl := h.len
  have HL := Lib.hid hl
  clear hl
  by_cases hn : n ≤ 1048576
  · go_enter Try.func5, Try.ntmps5
    go_wp2_with fail
    refine (toInt64S_b c h hn).mono ?_
    rintro e w1 ⟨g1, rfl, hg1, hi1, hb1⟩
    go_wp2_with fail
    refine (AreDegrees_s n (hi1.ints' HL.out) hn).mono ?_
    rintro e w' ⟨rfl, rfl⟩
    go_wp2_with fail
    refine (toInt64S_b c (h.keep hb1) hn).mono ?_
    rintro e w2 ⟨g2, rfl, hg2, hi2, hb2⟩
    go_wp2_with fail
    refine (AreDegrees_c n (hi2.ints' HL.out) hn).mono ?_
    rintro e w' ⟨rfl, rfl⟩
    go_wp2_with fail
    have hb12 := hb1.trans (hb2.mono hb1.size)
    refine (toInt64S_b c (h.keep hb12) hn).mono ?_
    rintro e w3 ⟨g3, rfl, hg3, hi3, hb3⟩
    go_wp2_with fail
    have hb123 := hb12.trans (hb3.mono hb12.size)
    refine (eqInt64S_c n n ((hi2.keep hb3 hi2.lt).ints' HL.out) (hi3.ints' HL.out) hn hn).mono ?_
    rintro e w' ⟨rfl, m, rfl⟩
    go_wp2_with fail
    go_ret
    exact ⟨rfl, below_drewN hb123 m⟩
  · go_enter Try.func5, Try.ntmps5
    go_wp2_with fail
    go_ret
    exact ⟨rfl, Below.refl _ _⟩

end Go.Proofs.Ytjgojcolmflnoaa
