
import Derived.Test.YtihpfphgmdblaaaGreatDoorDegs
import Derived.ProofKit
import Derived.OpenShut
import Derived.Deep.Slices
import Derived.Deep.MidRow
namespace Go.Proofs.YtihpfphgmdblaaaGreatDoor
open Go.RowKit Go.ChangeShapes Go.WideShapes Go.Deep
def mcells (m : List Int) : List Value := m.map (Value.int .u8)
def monoV (m : List Int) : Value := .agg (mcells m).toArray
def IsMono (m : List Int) : Prop := m.length = 8 ∧ ∀ x ∈ m, 0 ≤ x ∧ x ≤ 255
structure Tm where
  m : List Int
  f : Int
def tcells (t : Tm) : List Value := mcells t.m ++ [.int .i64 t.f]
def IsTm (t : Tm) : Prop := IsMono t.m ∧ -9223372036854775808 ≤ t.f ∧ t.f ≤ 9223372036854775807
def rcells (ts : List Tm) : List Value := ts.flatMap tcells
theorem mcells_length (m : List Int) : (mcells m).length = m.length := by simp [mcells]
theorem tcells_length {t : Tm} (h : IsTm t) : (tcells t).length = 9 := by simp [tcells, mcells_length, h.1.1]
theorem rcells_length {ts : List Tm} (h : ∀ t ∈ ts, IsTm t) : (rcells ts).length = ts.length * 9 := by
  induction ts with
  | nil => rfl
  | cons t ts ih =>
    have h1 := tcells_length (h t (by simp))
    have h2 := ih (fun u hu => h u (by simp [hu]))
    simp only [rcells, List.flatMap_cons, List.length_append, List.length_cons] at h2 ⊢
    omega
def Terms (w : World) (a : Option Addr) (n : Nat) (ts : List Tm) : Prop :=
  ts.length = n ∧ (∀ t ∈ ts, IsTm t) ∧ (0 < n → ∃ b off, a = some ⟨b, off, none⟩ ∧ b < w.heap.size ∧ w.rangeAt b off (rcells ts))
theorem Terms.keep {w w' : World} {a : Option Addr} {n : Nat} {ts : List Tm} (h : Terms w a n ts) (hb : Below w.heap.size w w') : Terms w' a n ts :=
  ⟨h.1, h.2.1, fun hn => by
    obtain ⟨b, off, ha, hlt, hc⟩ := h.2.2 hn
    exact ⟨b, off, ha, Nat.lt_of_lt_of_le hlt hb.size, rangeAt_keep hc (hb.block b hlt)⟩⟩
section
variable {H : Type} {enc : TypeId × Value → H} {w : World} {base : Nat} {spare : Nat → Bool} {held : Bool}
set_option maxRecDepth 100000 in
theorem ints_open {t : TypeId} {r : Reach} {b0 : Nat} {v : Value} {d : DataW H} {p : List MemPlace} (ht : Tryz.prog.underlying t = some (.slice 2))
    (hv : Value.okWide Tryz.prog w r b0 t v) (h : DataW.Trod enc Tryz.prog w 0 spare held t v d p) : ∃ a n c zs, v = .slice a n c ∧ Ints w a n zs := by
  obtain ⟨a, n, c, rfl⟩ := okWide_slice ht hv
  obtain ⟨fuel, hf⟩ := h
  rcases open_ints ht Tryz.underlying2 (by kernel_rfl) hf with ⟨hcs, _⟩ | ⟨x, l, c', zs, hcs, _, hl, hm, hz, _, hcell, hwz⟩
  · simp [Value.cells] at hcs
    obtain ⟨rfl, rfl, rfl⟩ := hcs
    exact ⟨_, _, _, [], rfl, rfl, fun h => absurd h (by omega)⟩
  · simp [Value.cells] at hcs
    obtain ⟨rfl, rfl, rfl⟩ := hcs
    have hle : n ≤ zs.length := by rw [hz]; split <;> omega
    refine ⟨_, _, _, zs.take n, rfl, by simp; omega, fun hn => ?_⟩
    obtain ⟨b, off, spot⟩ := x
    have h0 := hcell 0 (by omega)
    have hs : spot = none := by simpa [Addr.add] using World.cell?_spot h0
    subst hs
    refine ⟨b, off, rfl, ?_, fun i hi => ?_⟩
    · have := World.block_lt_of_cell? w _ h0
      simpa [Addr.add] using this
    · have := hcell i (by omega)
      rw [Addr.add_mid] at this
      rw [this]
      simp [List.getD, hi]
end
end Go.Proofs.YtihpfphgmdblaaaGreatDoor
