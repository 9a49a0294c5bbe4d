
import Derived.Test.YtikldofmpkidbaaForm
namespace Go.Proofs.Ytikldofmpkidbaa
open Go.RowKit Go.Deep
structure Only (g : Nat) (w w' : World) : Prop where
  below : ∀ B, B ≤ g → Below B w w'
  size : w'.heap.size = w.heap.size
  other : ∀ b, b ≠ g → w'.heap[b]? = w.heap[b]?
theorem Only.refl (g : Nat) (w : World) : Only g w w := ⟨fun B _ => Below.refl B w, rfl, fun _ _ => rfl⟩
theorem Only.set {g : Nat} {w w' : World} (h : Only g w w') (i : Nat) (v : Value) : Only g w (w'.setCell ⟨g, i, none⟩ v) :=
  ⟨fun B hB => (h.below B hB).setCell (p := ⟨g, i, none⟩) hB v, by rw [← h.size]; simp, fun b hb => (Below.heap_setCell w' ⟨g, i, none⟩ v b hb).trans (h.other b hb)⟩
theorem Only.own {g g' : Nat} {w w' : World} {t : TypeId} {cs : Array Value} (h : Only g w w') (o : Own w g' t cs) (hg : g' ≠ g) : Own w' g' t cs := (h.other g' hg).trans o
end Go.Proofs.Ytikldofmpkidbaa
