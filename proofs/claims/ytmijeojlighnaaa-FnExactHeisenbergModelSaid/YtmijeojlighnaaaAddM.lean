
import Derived.Test.YtmijeojlighnaaaIsForm
import Derived.Test.YtmijeojlighnaaaNum
namespace Go.Proofs.Ytmijeojlighnaaa
open Go.RowKit Go.Deep
theorem cmpM_turn : ∀ m k : List Int, cmpM k m = - cmpM m k
  | [], [] => rfl
  | [], _ :: _ => rfl
  | _ :: _, [] => rfl
  | a :: l1, b :: l2 => by
    have ih := cmpM_turn l1 l2
    rw [cmpM, cmpM]
    rcases Int.lt_trichotomy a b with h | h | h
    · rw [if_pos h, if_neg (by omega), if_pos h]
    · rw [if_neg (by omega), if_neg (by omega), if_neg (by omega), if_neg (by omega), ih]
    · rw [if_neg (by omega), if_pos h, if_pos h]; rfl
theorem before_asymm {m k : List Int} (h : before m k = true) : before k m = false := by
  simp only [before, decide_eq_true_eq, decide_eq_false_iff_not] at *
  rw [cmpM_turn m k, h]; decide
def Srt (ts : List Tm) : Prop := ts.Pairwise fun s t => before s.m t.m = true
def own1 (m : List Int) (x : Int) : List Tm := if x = 0 then [] else [⟨m, x⟩]
theorem own1_no {m : List Int} {x : Int} (h : x = 0) : own1 m x = [] := by rw [own1, if_pos h]
theorem own1_yes {m : List Int} {x : Int} (h : ¬ x = 0) : own1 m x = [⟨m, x⟩] := by rw [own1, if_neg h]
def addT (k : Int) : List Tm → List Tm → List Tm
  | f :: fs, g :: gs =>
    if before f.m g.m = true then f :: addT k fs (g :: gs)
    else if before g.m f.m = true then own1 g.m (num (k * g.f)) ++ addT k (f :: fs) gs
    else own1 f.m (num (f.f + num (k * g.f))) ++ addT k fs gs
  | f :: fs, [] => f :: fs
  | [], g :: gs => own1 g.m (num (k * g.f)) ++ addT k [] gs
  | [], [] => []
termination_by fs gs => fs.length + gs.length
theorem addT_right (k : Int) (fs : List Tm) : addT k fs [] = fs := by cases fs <;> rw [addT]
theorem addT_left (k : Int) (g : Tm) (gs : List Tm) : addT k [] (g :: gs) = own1 g.m (num (k * g.f)) ++ addT k [] gs := by rw [addT]
theorem addT_lt {k : Int} {f g : Tm} {fs gs : List Tm} (h : before f.m g.m = true) : addT k (f :: fs) (g :: gs) = f :: addT k fs (g :: gs) := by rw [addT, if_pos h]
theorem addT_gt {k : Int} {f g : Tm} {fs gs : List Tm} (h : before g.m f.m = true) : addT k (f :: fs) (g :: gs) = own1 g.m (num (k * g.f)) ++ addT k (f :: fs) gs := by
  rw [addT, if_neg (by rw [before_asymm h]; simp), if_pos h]
theorem addT_eq {k : Int} {f g : Tm} {fs gs : List Tm} (h1 : before f.m g.m = false) (h2 : before g.m f.m = false) : addT k (f :: fs) (g :: gs) = own1 f.m (num (f.f + num (k * g.f))) ++ addT k fs gs := by
  rw [addT, if_neg (by rw [h1]; simp), if_neg (by rw [h2]; simp)]
theorem own1_len (m : List Int) (x : Int) : (own1 m x).length ≤ 1 := by
  unfold own1
  split <;> simp
theorem addT_len {k : Int} (fs gs : List Tm) : (addT k fs gs).length ≤ fs.length + gs.length := by
  induction fs, gs using addT.induct with
  | case1 f fs g gs hb ih => rw [addT_lt hb]; simp only [List.length_cons] at *; omega
  | case2 f fs g gs hb hb2 ih => rw [addT_gt hb2]; have := own1_len g.m (num (k * g.f)); simp only [List.length_cons, List.length_append] at *; omega
  | case3 f fs g gs hb hb2 ih => rw [addT_eq (by simpa using hb) (by simpa using hb2)]; have := own1_len f.m (num (f.f + num (k * g.f))); simp only [List.length_cons, List.length_append] at *; omega
  | case4 f fs => rw [addT]; simp
  | case5 g gs ih => rw [addT_left]; have := own1_len g.m (num (k * g.f)); simp only [List.length_cons, List.length_append] at *; omega
  | case6 => rw [addT]; simp
end Go.Proofs.Ytmijeojlighnaaa
