/- Lists of numbers and of forms copied by append, and algebras made out of them: the program's newAlgebra, the model's l01Own. Copies of forms with the generators moved by some places: the model's. -/
import Derived.Test.YtcafccfoeednnaaHeld
import Derived.Test.YtcafccfoeednnaaResult
import Derived.Test.YtcafccfoeednnaaKeep
import Derived.Test.YtcafccfoeednnaaFree
namespace Go.Proofs.Ytcafccfoeednnaa
open Go.RowKit Go.Deep

/-- The monomial with its generators moved by s places. -/
def shM (s : Nat) (m : List Int) : List Int := List.replicate s 0 ++ m.take (8 - s)
def shT (s : Nat) (t : Tm) : Tm := ⟨shM s t.m, t.f⟩
theorem shM_mono {s : Nat} {m : List Int} (h : IsMono m) (hs : s ≤ 8) : IsMono (shM s m) := by
  refine ⟨by simp [shM, h.1]; omega, fun x hx => ?_⟩
  rcases List.mem_append.1 hx with hx | hx
  · have := List.eq_of_mem_replicate hx
    omega
  · exact h.2 x (List.mem_of_mem_take hx)
theorem shT_tm {s : Nat} {t : Tm} (h : IsTm t) (hs : s ≤ 8) : IsTm (shT s t) := ⟨shM_mono h.1 hs, h.2⟩
theorem shT_zero {t : Tm} (h : IsTm t) : shT 0 t = t := by
  obtain ⟨m, f⟩ := t
  have : m.take 8 = m := List.take_of_length_le (Nat.le_of_eq h.1.1)
  simp [shT, shM, this]
theorem map_shT_zero {ts : List Tm} (h : ∀ t ∈ ts, IsTm t) : ts.map (shT 0) = ts := by
  induction ts with
  | nil => rfl
  | cons t ts ih => rw [List.map_cons, shT_zero (h t (by simp)), ih (fun u hu => h u (by simp [hu]))]
theorem sh_take {s k : Nat} {ts : List Tm} {t : Tm} (h : ts[k]? = some t) : (ts.take (k + 1)).map (shT s) = (ts.take k).map (shT s) ++ [shT s t] := by
  rw [List.take_add_one, h, List.map_append]
  rfl
/-- The cells of a moved monomial behind its first i. -/
def shL (s : Nat) (m : List Int) (i : Nat) : List Int := List.replicate s 0 ++ (m.take i ++ List.replicate (8 - s - i) 0)
theorem shL_zero (s : Nat) (m : List Int) (hs : s ≤ 8) : shL s m 0 = nul8 := by
  rw [shL, List.take_zero, List.nil_append, List.replicate_append_replicate]
  have : s + (8 - s - 0) = 8 := by omega
  rw [this]
  rfl
theorem shL_step {s i : Nat} {m : List Int} {y : Int} (h : m[i]? = some y) (hi : i + s < 8) : (shL s m i).set (i + s) y = shL s m (i + 1) := by
  have hl := (List.getElem?_eq_some_iff.1 h).1
  rw [shL, shL, List.set_append_right _ _ (by simp), List.length_replicate, Nat.add_sub_cancel, List.set_append_right _ _ (by rw [List.length_take]; omega), List.length_take, Nat.min_eq_left (by omega), Nat.sub_self,
    show 8 - s - i = (8 - s - (i + 1)) + 1 by omega, List.replicate_succ, List.set_cons_zero, List.take_add_one, h, List.append_assoc]
  rfl
theorem shL_end {s i : Nat} {m : List Int} (hi : i + s = 8) : shL s m i = shM s m := by
  rw [shL, shM, show 8 - s - i = 0 by omega, List.replicate_zero, List.append_nil, show 8 - s = i by omega]
theorem set_u8 {l : List Int} {i : Nat} {y : Int} : ((l.map (Value.int .u8)).toArray).setIfInBounds i (.int .u8 y) = ((l.set i y).map (Value.int .u8)).toArray := by simp [List.map_set]
theorem row_keep {w w' : World} {B sz n : Nat} {t : TypeId} {v : Value} {xs : List Value} (h : w.ownsRow B t sz v n xs) (hb : Below w.heap.size w w') : w'.ownsRow B t sz v n xs :=
  World.ownsRow.kept h (row := none) ⟨hb.os, hb.tape, hb.output, hb.size, fun k hk _ => hb.block k hk⟩ (by cases h0 : v.ownBlock <;> simp)
/-- A row of one type while a row of another grows. -/
theorem row_grown {w w' : World} {B B' sz sz' n n' : Nat} {t t' : TypeId} {v v' : Value} {xs xs' : List Value} (h : w.ownsRow B t sz v n xs) (h' : w.ownsRow B' t' sz' v' n' xs') (ht : t ≠ t') (hg : w.grownBy w' v'.ownBlock) : w'.ownsRow B t sz v n xs :=
  World.ownsRow.kept h hg (by
    cases hv : v.ownBlock with
    | none => exact Or.inl rfl
    | some q =>
      obtain ⟨os, ho⟩ := row_own h hv
      exact Or.inr (own_ne_row ho h' ht))

end Go.Proofs.Ytcafccfoeednnaa

namespace Go.Proofs.Ytcafccfoeednnaa
open Go.RowKit Go.Deep

end Go.Proofs.Ytcafccfoeednnaa
