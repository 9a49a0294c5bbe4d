
import Derived.Test.YtmijeojlighnaaaOpen
import Derived.Test.YtmijeojlighnaaaForm
namespace Go.Proofs.Ytmijeojlighnaaa
open Go.RowKit Go.ChangeShapes Go.WideShapes Go.Deep
def Frms (w : World) (a : Option Addr) (n : Nat) (fss : List (List Tm)) : Prop :=
  fss.length = n ∧ (0 < n → ∃ b off, a = some ⟨b, off, none⟩ ∧ b < w.heap.size ∧ ∀ i ts, fss[i]? = some ts → ∃ ai ni ci, w.cell? ⟨b, off + i, none⟩ = some (.slice ai ni ci) ∧ Terms w ai ni ts ∧ (ni : Int) ≤ 9223372036854775807)
theorem Frms.len {w : World} {a : Option Addr} {n : Nat} {fss : List (List Tm)} (h : Frms w a n fss) : fss.length = n := h.1
theorem Frms.keep {w w' : World} {a : Option Addr} {n : Nat} {fss : List (List Tm)} (h : Frms w a n fss) (hb : Below w.heap.size w w') : Frms w' a n fss :=
  ⟨h.1, fun hn => by
    obtain ⟨b, off, ha, hlt, hc⟩ := h.2 hn
    refine ⟨b, off, ha, Nat.lt_of_lt_of_le hlt hb.size, fun i ts hi => ?_⟩
    obtain ⟨ai, ni, ci, h1, h2, h3⟩ := hc i ts hi
    exact ⟨ai, ni, ci, (World.cell?_of_block (a := ⟨b, off + i, none⟩) (hb.block b hlt)).trans h1, h2.keep hb, h3⟩⟩
theorem Frms.at_ {w : World} {a : Option Addr} {n : Nat} {fss : List (List Tm)} (h : Frms w a n fss) {i : Nat} (hi : i < n) :
    ∃ b off ts ai ni ci, a = some ⟨b, off, none⟩ ∧ b < w.heap.size ∧ w.cell? ⟨b, off + i, none⟩ = some (.slice ai ni ci) ∧ Terms w ai ni ts ∧ (ni : Int) ≤ 9223372036854775807 ∧ Hid (fss[i]? = some ts) := by
  obtain ⟨b, off, ha, hlt, hc⟩ := h.2 (by omega)
  have hl := h.1
  have hx : fss[i]? = some fss[i] := List.getElem?_eq_getElem (by omega)
  obtain ⟨ai, ni, ci, h1, h2, h3⟩ := hc i _ hx
  exact ⟨b, off, _, ai, ni, ci, ha, hlt, h1, h2, h3, hx⟩
section
variable {H : Type} {enc : TypeId × Value → H} {w : World} {spare : Nat → Bool} {held : Bool}
end
end Go.Proofs.Ytmijeojlighnaaa
