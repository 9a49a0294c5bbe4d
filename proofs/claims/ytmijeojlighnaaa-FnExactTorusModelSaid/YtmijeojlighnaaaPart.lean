
import Derived.Test.YtmijeojlighnaaaForm
import Derived.Deep.RegionHeld3
import Derived.WalkKit
import Derived.Deep.DeepAppendWide
namespace Go.Proofs.Ytmijeojlighnaaa
open Go.RowKit Go.Deep
def OwnForm (w : World) (base : Nat) (v : Value) (ts : List Tm) : Prop := w.ownsRow base 75 9 v ts.length (rcells ts) ∧ (v = .slice none 0 0 ↔ ts.length = 0)
theorem grown_below {B : Nat} {a w w' : World} {row : Option Nat} (h : Below B a w) (hg : w.grownBy w' row) (hr : ∀ k, row = some k → B ≤ k) (hB : B ≤ w.heap.size) : Below B a w' :=
  h.trans ⟨hg.os, hg.tape, hg.output, hg.size, fun k hk => hg.block k (by omega) (fun e => by have := hr k e.symm; omega)⟩
theorem OwnForm.set {w : World} {base : Nat} {v : Value} {ts : List Tm} (h : OwnForm w base v ts) {p : Addr} (hp : p.block < base) (u : Value) : OwnForm (w.setCell p u) base v ts := by
  have hb := (Below.refl p.block w).setCell (p := p) (Nat.le_refl _) u
  exact ⟨h.1.kept (row := some p.block) ⟨hb.os, hb.tape, hb.output, hb.size, fun k _ hk => Below.heap_setCell w p u k (fun e => hk (by rw [e]))⟩ (Or.inr (fun e => by have := (h.1.lt _ e).1; omega)), h.2⟩
theorem OwnForm.weaken {w : World} {B B' : Nat} {v : Value} {ts : List Tm} (h : OwnForm w B v ts) (hB : B' ≤ B) : OwnForm w B' v ts := by
  obtain ⟨⟨hl, h1⟩, h2⟩ := h
  refine ⟨⟨hl, ?_⟩, h2⟩
  rcases h1 with h0 | ⟨g, cap, cur, hv, hb, r⟩
  · exact Or.inl h0
  · exact Or.inr ⟨g, cap, cur, hv, by omega, r⟩
theorem OwnForm.keep {w w' : World} {B : Nat} {v : Value} {ts : List Tm} (h : OwnForm w B v ts) (hb : Below w.heap.size w w') : OwnForm w' B v ts :=
  ⟨h.1.kept (row := none) ⟨hb.os, hb.tape, hb.output, hb.size, fun k hk _ => hb.block k hk⟩ (by cases h0 : v.ownBlock <;> simp), h.2⟩
end Go.Proofs.Ytmijeojlighnaaa
