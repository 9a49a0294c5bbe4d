/- Marks: the laws write numbers over what they hold, and look whether a result still holds its own. -/
import Derived.Test.YtcafccfoeednnaaDoorForm
namespace Go.Proofs.YtcafccfoeednnaaDoor
open Go.RowKit Go.Deep

/-- Nothing but block g may have changed, and nothing was made. -/
structure Only (g : Nat) (w w' : World) : Prop where
  below : ∀ B, B ≤ g → Below B w w'
  size : w'.heap.size = w.heap.size
  other : ∀ b, b ≠ g → w'.heap[b]? = w.heap[b]?
theorem Only.refl (g : Nat) (w : World) : Only g w w := ⟨fun B _ => Below.refl B w, rfl, fun _ _ => rfl⟩
theorem Only.set {g : Nat} {w w' : World} (h : Only g w w') (i : Nat) (v : Value) : Only g w (w'.setCell ⟨g, i, none⟩ v) :=
  ⟨fun B hB => (h.below B hB).setCell (p := ⟨g, i, none⟩) hB v, by rw [← h.size]; simp, fun b hb => (Below.heap_setCell w' ⟨g, i, none⟩ v b hb).trans (h.other b hb)⟩
theorem Only.own {g g' : Nat} {w w' : World} {t : TypeId} {cs : Array Value} (h : Only g w w') (o : Own w g' t cs) (hg : g' ≠ g) : Own w' g' t cs := (h.other g' hg).trans o

/-- The cells cs, the first p of which are marked. -/
def markA (mk : Nat → Value) (cs : Array Value) (p : Nat) : Array Value := (Array.range cs.size).map fun i => if i < p then mk i else cs.getD i undef
theorem markA_size (mk : Nat → Value) (cs : Array Value) (p : Nat) : (markA mk cs p).size = cs.size := by simp [markA]
theorem markA_get {mk : Nat → Value} {cs : Array Value} {p i : Nat} (hi : i < cs.size) : (markA mk cs p)[i]? = some (if i < p then mk i else cs.getD i undef) := by
  simp [markA, hi]
theorem markA_zero (mk : Nat → Value) (cs : Array Value) : markA mk cs 0 = cs := by
  apply Array.ext_getElem?
  intro i
  by_cases hi : i < cs.size
  · rw [markA_get hi]; simp [hi]
  · rw [Array.getElem?_eq_none (by rw [markA_size]; omega), Array.getElem?_eq_none (by omega)]
theorem markA_step (mk : Nat → Value) (cs : Array Value) (p : Nat) : (markA mk cs p).setIfInBounds p (mk p) = markA mk cs (p + 1) := by
  apply Array.ext_getElem?
  intro i
  by_cases hi : i < cs.size
  · rw [markA_get hi]
    by_cases hp : i = p
    · subst hp
      rw [Array.getElem?_setIfInBounds_self_of_lt (by rw [markA_size]; exact hi), if_pos (by omega)]
    · rw [Array.getElem?_setIfInBounds_ne (by omega), markA_get hi]
      by_cases h1 : i < p
      · rw [if_pos h1, if_pos (by omega)]
      · rw [if_neg h1, if_neg (by omega)]
  · rw [Array.getElem?_eq_none (by simp [markA_size]; omega), Array.getElem?_eq_none (by rw [markA_size]; omega)]

def mkI (K : Int) (i : Nat) : Value := .int .i64 (K + i)
def mkT (K : Int) (i : Nat) : Value := if i % 9 = 8 then .int .i64 (K + i) else .int .u8 ((K + i) % 256)

theorem mkT_byte (K : Int) (k j : Nat) (hj : j < 8) : mkT K (k * 9 + j) = .int .u8 ((K + (k * 9 + j : Nat)) % 256) := by
  rw [mkT, if_neg (by omega)]
theorem mkT_last (K : Int) (k : Nat) : mkT K (k * 9 + 8) = .int .i64 (K + (k * 9 + 8 : Nat)) := by
  rw [mkT, if_pos (by omega)]

end Go.Proofs.YtcafccfoeednnaaDoor
