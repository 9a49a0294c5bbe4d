
import Derived.Test.YtndnkeijddagiaaFree
import Derived.Test.YtndnkeijddagiaaKeep
namespace Go.Proofs.Ytndnkeijddagiaa
open Go.RowKit Go.Deep
theorem own_neR {w : World} {g g' : Nat} {t t' : TypeId} {cs cs' : Array Value} (h : Own w g t cs) (h' : Own w g' t' cs') (hne : t ≠ t') : g ≠ g' :=
  fun e => hne (by
    have k : some (Obj.cells cs t (0, 0)) = some (Obj.cells cs' t' (0, 0)) := (show w.heap[g]? = _ from h).symm.trans (show w.heap[g]? = _ by rw [e]; exact h')
    cases k
    rfl)
def MarkedV (w : World) (a : Option Addr) (n : Nat) (K : Int) : Prop := n = 0 ∨ ∃ g cs, a = some ⟨g, 0, none⟩ ∧ Own w g 2 (markA (mkI K) cs n) ∧ n ≤ cs.size
theorem MarkedV.keep {w w' : World} {a : Option Addr} {n : Nat} {K : Int} (h : MarkedV w a n K) (hb : Below w.heap.size w w') : MarkedV w' a n K := by
  rcases h with h | ⟨g, cs, h1, h2, h3⟩
  · exact Or.inl h
  · exact Or.inr ⟨g, cs, h1, h2.keep hb h2.lt, h3⟩
end Go.Proofs.Ytndnkeijddagiaa
