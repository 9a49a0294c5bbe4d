
import Derived.Test.YtihpfphgmdblaaaGreatDoorPrsM
import Derived.Lib.AtoiErrMem
namespace Go.Proofs.YtihpfphgmdblaaaGreatDoor
open Go.RowKit Go.Deep
theorem cell_below {w w' : World} {p : Addr} {v : Value} (h : w.cell? p = some v) (hb : Below w.heap.size w w') : w'.cell? p = some v := by
  have hl : p.block < w.heap.size := by
    rcases Nat.lt_or_ge p.block w.heap.size with h1 | h1
    · exact h1
    · unfold World.cell? at h
      rw [Array.getElem?_eq_none h1] at h
      cases h
  exact (World.cell?_of_block (a := p) (hb.block p.block hl)).trans h
def Errs (w : World) : Prop :=
  (∃ ev, w.cell? ⟨2, 0, none⟩ = some ev ∧ (ev = .nilIface ∨ ∃ te pe, ev = .iface te pe)) ∧ (∃ ev, w.cell? ⟨3, 0, none⟩ = some ev ∧ (ev = .nilIface ∨ ∃ te pe, ev = .iface te pe)) ∧ (∃ m, w.cell? ⟨0, 0, none⟩ = some (.int .i64 m))
theorem Errs.keep {w w' : World} (h : Errs w) (hb : Below w.heap.size w w') : Errs w' := by
  obtain ⟨⟨e1, h1, k1⟩, ⟨e2, h2, k2⟩, ⟨m, h3⟩⟩ := h
  exact ⟨⟨e1, cell_below h1 hb, k1⟩, ⟨e2, cell_below h2 hb, k2⟩, ⟨m, cell_below h3 hb⟩⟩
theorem parseU8_c (l : List UInt8) (w : World) (hl : l.length ≤ 1048576) (hE : Errs w) :
    Calls Tryz.prog 119 #[str l, .int .i64 10, .int .i64 8] w fun e w' => ∃ (x : Int) (ev : Value) (b : Bool), e = .returned (.tuple #[.int .u64 x, ev]) ∧ 0 ≤ x ∧ x ≤ 255 ∧ ((b = true ∧ ev = .nilIface ∧ Lib.parseUintB 8 l = .ok x.toNat) ∨ (b = false ∧ (∃ te pe, ev = .iface te pe) ∧ ∀ u, Lib.parseUintB 8 l ≠ .ok u)) ∧ Below w.heap.size w w' := by
  have hsz : (⟨l.toArray⟩ : ByteArray).size = l.length := by simp [ByteArray.size]
  obtain ⟨⟨e1, h1, k1⟩, ⟨e2, h2, k2⟩, -⟩ := hE
  cases hp : Lib.parseUintB 8 l with
  | ok u =>
    refine (Tryz.strconv_ParseUint_10_at8_ok ⟨l.toArray⟩ (by omega) u (by simpa using hp) w).mono ?_
    rintro e w' ⟨rfl, hw⟩
    have hu := parseU8_le hp
    refine ⟨u, _, true, rfl, by omega, by omega, Or.inl ⟨rfl, rfl, by simp⟩, ?_⟩
    rcases hw with rfl | rfl
    · exact Below.refl _ _
    · exact Lib.bytesWorld_below _ _ _
  | range =>
    refine (Tryz.strconv_ParseUint_10_at8_range ⟨l.toArray⟩ (by omega) (by simpa using hp) e2 w h2 k2).mono ?_
    rintro e w' ⟨n, rfl, -, -, hb⟩
    exact ⟨_, _, false, rfl, by omega, by omega, Or.inr ⟨rfl, ⟨_, _, rfl⟩, fun u h => by cases h⟩, hb⟩
  | _ =>
    refine (Tryz.strconv_ParseUint_10_at8_syntax ⟨l.toArray⟩ (by omega) (by simpa using hp) e1 w h1 k1).mono ?_
    rintro e w' ⟨n, rfl, -, -, hb⟩
    exact ⟨0, _, false, rfl, by omega, by omega, Or.inr ⟨rfl, ⟨_, _, rfl⟩, fun u h => by cases h⟩, hb⟩
set_option maxHeartbeats 4000000 in
set_option maxRecDepth 100000 in
theorem readExponent_c (l : List UInt8) (w : World) (hl : l.length ≤ 1048576) (hE : Errs w) :
    Calls Tryz.prog 88 #[str l] w fun e w' => ∃ (x : Int) (b : Bool), e = .returned (.tuple #[.int .u8 x, .bool b]) ∧ 0 ≤ x ∧ x ≤ 255 ∧ (b = true → rdE l = some x.toNat) ∧ (b = false → rdE l = none) ∧ Below w.heap.size w w' := by
  have HE := Lib.hid hE
  clear hE
  by_cases h0 : l = []
  · subst h0
    go_enter Tryz.func88, Tryz.ntmps88
    go_wp2_with fail
    go_ret2
    exact ⟨1, true, rfl, by omega, by omega, fun _ => rfl, fun h => (by cases h), Below.refl _ _⟩
  · have hr : ∀ u, Lib.parseUintB 8 l = .ok u → rdE l = some u := fun u h => by rw [rdE, if_neg h0, h]
    have hr2 : (∀ u, Lib.parseUintB 8 l ≠ .ok u) → rdE l = none := fun h => by
      rw [rdE, if_neg h0]
      split
      · rename_i v hv
        exact absurd hv (h v)
      · rfl
    have HR := Lib.hid hr
    have HR2 := Lib.hid hr2
    clear hr hr2
    have hie : l.isEmpty = false := by simpa using h0
    go_enter Tryz.func88, Tryz.ntmps88
    go_wp2_with fail
    refine (parseU8_c l w hl HE.out).mono ?_
    rintro e w' ⟨x, ev, b, rfl, hx0, hx1, hcase, hb⟩
    have hw8 : IntKind.u8.wrap x = x := IntWalk.u8_in _ (by omega)
    rcases hcase with ⟨rfl, rfl, hp⟩ | ⟨rfl, ⟨te, pe, rfl⟩, hp⟩
    · have HP := Lib.hid (HR.out _ hp)
      clear hp
      go_wp2_with fail
      go_region
      go_wp2_with fail
      go_ret2
      exact ⟨x, true, rfl, hx0, hx1, fun _ => HP.out, fun h => (by cases h), hb.drew⟩
    · have HP := Lib.hid (HR2.out hp)
      clear hp
      go_wp2_with fail
      go_region
      go_wp2_with fail
      go_ret2
      exact ⟨x, false, rfl, hx0, hx1, fun h => (by cases h), fun _ => HP.out, hb.drew⟩
end Go.Proofs.YtihpfphgmdblaaaGreatDoor
