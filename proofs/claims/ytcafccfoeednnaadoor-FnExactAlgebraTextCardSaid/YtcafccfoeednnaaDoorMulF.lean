/- Products of forms: the program's sum, a map from monomials to numbers. -/
import Derived.Test.YtcafccfoeednnaaDoorTimesM
import Derived.Test.YtcafccfoeednnaaDoorMap
import Derived.Test.YtcafccfoeednnaaDoorMulM
import Derived.Test.YtcafccfoeednnaaDoorScaleS
import Derived.Test.YtcafccfoeednnaaDoorResult
namespace Go.Proofs.YtcafccfoeednnaaDoor
open Go.RowKit Go.Deep Go.Maps

theorem productOf8 {w : World} {a : Option Addr} {n : Nat} {zs : List Int} {p0 p1 p2 p3 p4 p5 p6 p7 q0 q1 q2 q3 q4 q5 q6 q7 r0 r1 r2 r3 r4 r5 r6 r7 s : Int} (c : Nat) (h : Ints w a n zs) (F : Fit zs [p0, p1, p2, p3, p4, p5, p6, p7] [q0, q1, q2, q3, q4, q5, q6, q7]) (hr : joinM zs [p0, p1, p2, p3, p4, p5, p6, p7] [q0, q1, q2, q3, q4, q5, q6, q7] = [r0, r1, r2, r3, r4, r5, r6, r7]) (hs : joinS zs [p0, p1, p2, p3, p4, p5, p6, p7] [q0, q1, q2, q3, q4, q5, q6, q7] = s) :
    Calls Tryd.prog 88 #[.slice a n c, .agg #[.int .u8 p0, .int .u8 p1, .int .u8 p2, .int .u8 p3, .int .u8 p4, .int .u8 p5, .int .u8 p6, .int .u8 p7], .agg #[.int .u8 q0, .int .u8 q1, .int .u8 q2, .int .u8 q3, .int .u8 q4, .int .u8 q5, .int .u8 q6, .int .u8 q7]] w fun e w' => e = .returned (.tuple #[.agg #[.int .u8 r0, .int .u8 r1, .int .u8 r2, .int .u8 r3, .int .u8 r4, .int .u8 r5, .int .u8 r6, .int .u8 r7], .int .i64 s]) ∧ Below w.heap.size w w' := by
  have := productOf_c c h F
  rw [hr, hs] at this
  exact this
theorem rowSum_take {zs : List Int} {t u : Tm} {S : List Int → Int} {gs : List Tm} {j : Nat} (h : gs[j]? = some u) : rowSum zs t S (gs.take (j + 1)) = stepS zs t (rowSum zs t S (gs.take j)) u := by
  rw [rowSum, rowSum, List.take_add_one, h, List.foldl_append]; rfl
theorem sumS_take {zs : List Int} {t : Tm} {S : List Int → Int} {fs gs : List Tm} {i : Nat} (h : fs[i]? = some t) : sumS zs gs S (fs.take (i + 1)) = rowSum zs t (sumS zs gs S (fs.take i)) gs := by
  rw [sumS, sumS, List.take_add_one, h, List.foldl_append]; rfl
theorem sumS_bd {zs : List Int} {gs : List Tm} : ∀ {fs : List Tm} {S : List Int → Int}, (∀ m, 0 ≤ S m ∧ S m ≤ 10006) → ∀ m, 0 ≤ sumS zs gs S fs m ∧ sumS zs gs S fs m ≤ 10006
  | [], _, h => h
  | t :: fs, S, h => sumS_bd (fs := fs) (S := rowSum zs t S gs) (rowSum_bd h)
theorem stepS_no {zs : List Int} {t u : Tm} {S : List Int → Int} (h : joinS zs t.m u.m = 0) : stepS zs t S u = S := by rw [stepS, if_pos h]
theorem stepS_yes {zs : List Int} {t u : Tm} {S : List Int → Int} {r : List Int} {s : Int} (hs : joinS zs t.m u.m = s) (hr : joinM zs t.m u.m = r) (h : ¬ s = 0) : stepS zs t S u = updS S r (num (S r + s * t.f * u.f)) := by
  rw [stepS, if_neg (by rw [hs]; exact h), hr, hs]
theorem isForm_fit {zs : List Int} {fs : List Tm} (h : isForm zs fs = true) : ∀ t ∈ fs, monoOk zs t.m = true := by
  intro t ht
  simp only [isForm, Bool.and_eq_true] at h
  have := listOk_all h.2.1 t ht
  simp only [okTm, Bool.and_eq_true] at this
  exact this.1
theorem bel_map {w w0 w1 : World} {b : Nat} (hb : Below w.heap.size w w0) (hg : w0.grownBy w1 (some b)) (h : w.heap.size ≤ b) : Below w.heap.size w w1 :=
  grown_below hb hg (fun k e => by cases e; exact h) hb.size
def zeroS : List Int → Int := fun _ => 0
/-- What the map's form is: the terms in order, or the error. -/
def FormOf (w : World) (S : List Int → Int) (e : Ending) (w' : World) : Prop :=
  (∃ v L, e = .returned (.tuple #[.agg #[v], .int .i64 0]) ∧ OwnR w' w.heap.size v L ∧ Srt L ∧ (∀ t ∈ L, IsTm t) ∧ (∀ t ∈ L, 1 ≤ t.f ∧ t.f ≤ 10006) ∧ (∀ t ∈ L, within t.m = true) ∧ L.length ≤ 400 ∧ ∀ m, IsMono m → coef L m = S m) ∨
  (e = .returned (.tuple #[.agg #[.slice none 0 0], .int .i64 3]) ∧ ((∃ m, IsMono m ∧ ¬ S m = 0 ∧ within m = false) ∨ ∃ K : List (List Int), K.Nodup ∧ 400 < K.length ∧ ∀ m ∈ K, IsMono m ∧ ¬ S m = 0))

end Go.Proofs.YtcafccfoeednnaaDoor
