
import Derived.Test.YtmijeojlighnaaaAddM
import Derived.Test.YtmijeojlighnaaaHeld
import Derived.Maps.RangeWalk
import Derived.Maps.OwnOps
import Derived.Maps.Views
import Derived.DeepKeys4
namespace Go.Proofs.Ytmijeojlighnaaa
open Go.RowKit Go.Deep Go.Maps
def kM (m : List Int) : Lit := .string (keyBytes (m.map (Lit.int .u8)))
def MapIs (w : World) (b n : Nat) (S : List Int → Int) : Prop :=
  ∃ D : DataW Unit, w.ownsMap Try.prog 56 (plainElem Try.prog 2) b n D ∧ IsMap D ∧ ∀ m, IsMono m → D.atKey (kM m) (.lit (.int .i64 0)) = .lit (.int .i64 (S m))
theorem MapIs.lt {w : World} {b n : Nat} {S : List Int → Int} (h : MapIs w b n S) : b < w.heap.size := by obtain ⟨D, h1, _⟩ := h; exact h1.lt
theorem MapIs.keep {w w' : World} {b n : Nat} {S : List Int → Int} (h : MapIs w b n S) (hb : Below w.heap.size w w') : MapIs w' b n S := by
  obtain ⟨D, h1, h2⟩ := h
  exact ⟨D, h1.kept (row := none) ⟨hb.os, hb.tape, hb.output, hb.size, fun k hk _ => hb.block k hk⟩ (by simp), h2⟩
theorem MapIs.far {w : World} {b n : Nat} {S : List Int → Int} (h : MapIs w b n S) {p : Addr} (hp : b ≠ p.block) (u : Value) : MapIs (w.setCell p u) b n S := by
  obtain ⟨D, h1, h2⟩ := h
  have hb := (Below.refl p.block w).setCell (p := p) (Nat.le_refl _) u
  exact ⟨D, h1.kept (row := some p.block) ⟨hb.os, hb.tape, hb.output, hb.size, fun k _ hk => Below.heap_setCell w p u k (fun e => hk (by rw [e]))⟩ (by simpa using hp), h2⟩
theorem MapIs.mono {w : World} {b n n' : Nat} {S : List Int → Int} (h : MapIs w b n S) (hn : n ≤ n') : MapIs w b n' S := by
  obtain ⟨D, h1, h2⟩ := h
  exact ⟨D, h1.mono hn, h2⟩
end Go.Proofs.Ytmijeojlighnaaa
namespace Go.Proofs.Ytmijeojlighnaaa
open Go.RowKit Go.Deep Go.Maps
end Go.Proofs.Ytmijeojlighnaaa
