
import Derived.Test.YtmijeojlighnaaaDegs
import Derived.ProofKit
import Derived.OpenShut
import Derived.Deep.Slices
import Derived.Deep.MidRow
namespace Go.Proofs.Ytmijeojlighnaaa
open Go.RowKit Go.ChangeShapes Go.WideShapes Go.Deep
def mcells (m : List Int) : List Value := m.map (Value.int .u8)
def monoV (m : List Int) : Value := .agg (mcells m).toArray
def IsMono (m : List Int) : Prop := m.length = 8 ∧ ∀ x ∈ m, 0 ≤ x ∧ x ≤ 255
structure Tm where
  m : List Int
  f : Int
def tcells (t : Tm) : List Value := mcells t.m ++ [.int .i64 t.f]
def IsTm (t : Tm) : Prop := IsMono t.m ∧ -9223372036854775808 ≤ t.f ∧ t.f ≤ 9223372036854775807
def rcells (ts : List Tm) : List Value := ts.flatMap tcells
theorem mcells_length (m : List Int) : (mcells m).length = m.length := by simp [mcells]
theorem tcells_length {t : Tm} (h : IsTm t) : (tcells t).length = 9 := by simp [tcells, mcells_length, h.1.1]
theorem rcells_length {ts : List Tm} (h : ∀ t ∈ ts, IsTm t) : (rcells ts).length = ts.length * 9 := by
  induction ts with
  | nil => rfl
  | cons t ts ih =>
    have h1 := tcells_length (h t (by simp))
    have h2 := ih (fun u hu => h u (by simp [hu]))
    simp only [rcells, List.flatMap_cons, List.length_append, List.length_cons] at h2 ⊢
    omega
def Terms (w : World) (a : Option Addr) (n : Nat) (ts : List Tm) : Prop :=
  ts.length = n ∧ (∀ t ∈ ts, IsTm t) ∧ (0 < n → ∃ b off, a = some ⟨b, off, none⟩ ∧ b < w.heap.size ∧ w.rangeAt b off (rcells ts))
theorem Terms.keep {w w' : World} {a : Option Addr} {n : Nat} {ts : List Tm} (h : Terms w a n ts) (hb : Below w.heap.size w w') : Terms w' a n ts :=
  ⟨h.1, h.2.1, fun hn => by
    obtain ⟨b, off, ha, hlt, hc⟩ := h.2.2 hn
    exact ⟨b, off, ha, Nat.lt_of_lt_of_le hlt hb.size, rangeAt_keep hc (hb.block b hlt)⟩⟩
section
variable {H : Type} {enc : TypeId × Value → H} {w : World} {base : Nat} {spare : Nat → Bool} {held : Bool}
end
end Go.Proofs.Ytmijeojlighnaaa
