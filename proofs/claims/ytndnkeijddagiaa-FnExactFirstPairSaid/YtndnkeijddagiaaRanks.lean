
import Derived.Test.YtndnkeijddagiaaIsFormB
import Derived.Test.YtndnkeijddagiaaTbl
namespace Go.Proofs.Ytndnkeijddagiaa
open Go.RowKit Go.Deep
def OwnI (w : World) (lo hi : Nat) (a : Option Addr) (n : Nat) (V : List Int) : Prop := V.length = n ∧ (0 < n → ∃ g, a = some ⟨g, 0, none⟩ ∧ lo ≤ g ∧ g < hi ∧ Own w g 2 ((V.map (Value.int .i64)).toArray))
section
variable {w w' : World} {lo hi n : Nat} {a : Option Addr} {V : List Int}
theorem OwnI.none_ : OwnI w lo hi none 0 [] := ⟨rfl, fun h => absurd h (by omega)⟩
theorem OwnI.keep (h : OwnI w lo hi a n V) (hb : Below w.heap.size w w') : OwnI w' lo hi a n V :=
  ⟨h.1, fun hn => by obtain ⟨g, h1, h2, h3, h4⟩ := h.2 hn; exact ⟨g, h1, h2, h3, h4.keep hb h4.lt⟩⟩
theorem OwnI.ints (h : OwnI w lo hi a n V) : Ints w a n V :=
  ⟨h.1, fun hn => by
    obtain ⟨g, rfl, h2, h3, h4⟩ := h.2 hn
    exact (IntBlk.ints' (n := n) h4 h.1).2 hn⟩
theorem OwnI.weaken {lo' hi' : Nat} (h : OwnI w lo hi a n V) (h1 : lo' ≤ lo) (h2 : hi ≤ hi') : OwnI w lo' hi' a n V :=
  ⟨h.1, fun hn => by obtain ⟨g, e, h3, h4, h5⟩ := h.2 hn; exact ⟨g, e, by omega, by omega, h5⟩⟩
theorem OwnI.block {gx : Nat} {tx : TypeId} {csx : Array Value} (h : OwnI w lo hi a n V) (hx : Own w gx tx csx) :
    ∃ g t cs, Own w g t cs ∧ n ≤ cs.size ∧ (0 < n → a = some ⟨g, 0, none⟩) ∧ (g = gx ∨ (lo ≤ g ∧ g < hi)) := by
  by_cases hn : 0 < n
  · obtain ⟨g, e, h1, h2, h3⟩ := h.2 hn
    exact ⟨g, _, _, h3, by have := h.1; simp; omega, fun _ => e, Or.inr ⟨h1, h2⟩⟩
  · exact ⟨gx, tx, csx, hx, by omega, fun hh => absurd hh hn, Or.inl rfl⟩
end
theorem IntBlk.set {w : World} {g i : Nat} {v : Int} {zs : List Int} (h : Own w g 2 ((zs.map (Value.int .i64)).toArray)) : Own (w.setCell ⟨g, i, none⟩ (.int .i64 v)) g 2 (((zs.set i v).map (Value.int .i64)).toArray) := by
  have := h.set i (.int .i64 v)
  rwa [show ((zs.map (Value.int .i64)).toArray).setIfInBounds i (.int .i64 v) = (((zs.set i v).map (Value.int .i64)).toArray) by simp [List.map_set]] at this
end Go.Proofs.Ytndnkeijddagiaa
