/- The walks of the laws on monomials: for every list of numbers and every array of eight bytes they return true and leave the arguments as they were. -/
import Derived.Test.YtcafccfoeednnaaMonoB
import Derived.Deep.RegionHeld3
import Derived.Deep.DeepCutAuto
namespace Go.Proofs.Ytcafccfoeednnaa
open Go.RowKit Go.Deep

theorem Try.info_mono8 : (Try.prog.info? 25).map (·.size) = some 8 := by kernel_rfl
theorem mono8 {m : List Int} (h : IsMono m) : ∃ m0 m1 m2 m3 m4 m5 m6 m7, m = [m0, m1, m2, m3, m4, m5, m6, m7] := by
  match m, h.1 with
  | [m0, m1, m2, m3, m4, m5, m6, m7], _ => exact ⟨_, _, _, _, _, _, _, _, rfl⟩
/-- Eight cells of a block. -/
def Eight (w' : World) (G : Nat) (m0 m1 m2 m3 m4 m5 m6 m7 : Int) : Prop := w'.cell? ⟨G, 0, none⟩ = some (.int .u8 m0) ∧ w'.cell? ⟨G, 1, none⟩ = some (.int .u8 m1) ∧ w'.cell? ⟨G, 2, none⟩ = some (.int .u8 m2) ∧ w'.cell? ⟨G, 3, none⟩ = some (.int .u8 m3) ∧ w'.cell? ⟨G, 4, none⟩ = some (.int .u8 m4) ∧ w'.cell? ⟨G, 5, none⟩ = some (.int .u8 m5) ∧ w'.cell? ⟨G, 6, none⟩ = some (.int .u8 m6) ∧ w'.cell? ⟨G, 7, none⟩ = some (.int .u8 m7)
theorem own8 {w' : World} {G : Nat} {t : TypeId} {m0 m1 m2 m3 m4 m5 m6 m7 : Int} (h : Own w' G t (mcells [m0, m1, m2, m3, m4, m5, m6, m7]).toArray) : w'.cell? ⟨G, 0, none⟩ = some (.int .u8 m0) ∧ w'.cell? ⟨G, 1, none⟩ = some (.int .u8 m1) ∧ w'.cell? ⟨G, 2, none⟩ = some (.int .u8 m2) ∧ w'.cell? ⟨G, 3, none⟩ = some (.int .u8 m3) ∧ w'.cell? ⟨G, 4, none⟩ = some (.int .u8 m4) ∧ w'.cell? ⟨G, 5, none⟩ = some (.int .u8 m5) ∧ w'.cell? ⟨G, 6, none⟩ = some (.int .u8 m6) ∧ w'.cell? ⟨G, 7, none⟩ = some (.int .u8 m7) :=
  ⟨h.cell 0, h.cell 1, h.cell 2, h.cell 3, h.cell 4, h.cell 5, h.cell 6, h.cell 7⟩

theorem hG' {w w0 : World} {G : Nat} (h : w.heap.size = G) (hb : Below G w w0) : Below w.heap.size w w0 := by rw [h]; exact hb

end Go.Proofs.Ytcafccfoeednnaa
