/- The program's differential: sums that grow in a map of the caller's, and whether they are 0. -/
import Derived.Test.YthcaiagnmmjooaaDiffN
import Derived.Test.YthcaiagnmmjooaaSumF
namespace Go.Proofs.Ythcaiagnmmjooaa
open Go.RowKit Go.Deep Go.Maps

/-! What lies in cells stays while a map is written. -/
theorem MapIs.nocell {w : World} {b n : Nat} {S : List Int → Int} (h : MapIs w b n S) {o : Nat} : w.cell? ⟨b, o, none⟩ = none := by
  obtain ⟨D, ⟨es, clock, hb, _⟩, _⟩ := h
  simp [World.cell?, hb]
theorem Terms.grown {w w' : World} {a : Option Addr} {n b k : Nat} {ts : List Tm} {S : List Int → Int} (h : Terms w a n ts) (hM : MapIs w b k S) (hg : w.grownBy w' (some b)) : Terms w' a n ts := by
  obtain ⟨hl, hT, hr⟩ := h
  refine ⟨hl, hT, fun hn => ?_⟩
  obtain ⟨b', off, ha, hlt, hc⟩ := hr hn
  have hne : b' ≠ b := by
    intro e
    subst e
    have hlen := rcells_length hT
    have h0 : (rcells ts)[0]? = some (rcells ts)[0] := List.getElem?_eq_getElem (by omega)
    have h1 := hc 0 _ h0
    rw [hM.nocell] at h1
    cases h1
  exact ⟨b', off, ha, Nat.lt_of_lt_of_le hlt hg.size, rangeAt_keep hc (hg.block b' hlt (by simpa using hne))⟩
theorem Ints.grown {w w' : World} {a : Option Addr} {n b k : Nat} {zs : List Int} {S : List Int → Int} (h : Ints w a n zs) (hM : MapIs w b k S) (hg : w.grownBy w' (some b)) : Ints w' a n zs := by
  obtain ⟨hl, hr⟩ := h
  refine ⟨hl, fun hn => ?_⟩
  obtain ⟨b', off, ha, hlt, hc⟩ := hr hn
  have hne : b' ≠ b := by
    intro e
    subst e
    have h1 := hc 0 hn
    rw [hM.nocell] at h1
    cases h1
  exact ⟨b', off, ha, Nat.lt_of_lt_of_le hlt hg.size, fun i hi => (World.cell?_of_block (a := ⟨b', off + i, none⟩) (hg.block b' hlt (by simpa using hne))).trans (hc i hi)⟩
theorem Own.grownM {w w' : World} {g b k : Nat} {t : TypeId} {cs : Array Value} {S : List Int → Int} (h : Own w g t cs) (hM : MapIs w b k S) (hg : w.grownBy w' (some b)) : Own w' g t cs := by
  refine h.grown hg ?_
  intro e
  simp only [Option.some.injEq] at e
  subst e
  obtain ⟨D, ⟨es, clock, hb, _⟩, _⟩ := hM
  have h0 : w.heap[g]? = some (.cells cs t (0, 0)) := h
  rw [h0] at hb
  cases hb
theorem grown_trans {a b c : World} {k : Nat} (h : a.grownBy b (some k)) (g : b.grownBy c (some k)) : a.grownBy c (some k) :=
  h.andThen g (fun _j hj => Or.inr hj)
theorem grown_bel {a b c : World} {k : Nat} (h : a.grownBy b (some k)) (g : Below b.heap.size b c) : a.grownBy c (some k) :=
  h.andThen (row := some k) (row' := none) ⟨g.os, g.tape, g.output, g.size, fun i hi _ => g.block i hi⟩ (fun j hj => by cases hj)

set_option maxHeartbeats 4000000 in
set_option maxRecDepth 100000 in
theorem isZero_c {w : World} {b n : Nat} {S : List Int → Int} {Z : Bool} (h : MapIs w b n S) (hZ : Z = true ↔ ∀ m, IsMono m → S m = 0) :
    Calls Try.prog 124 #[.map (some b)] w fun e w' => e = .returned (.bool Z) ∧ Below w.heap.size w w' := by
  have hbw := h.lt
  have HZ := Lib.hid hZ
  clear hZ
  obtain ⟨D, hown, hD, hat⟩ := h
  have HAT := Lib.hid hat
  clear hat
  go_enter Try.func124, Try.ntmps124
  go_wp2_with (first
    | (at_range; refine wpList_range_own _ rfl _ 133 rfl 26 2 Try.keyM Try.underlying133 _ b n D rfl hown ?_; intro w0 hrg0 hg0 hs1)
    | go_in)
  go_frame
  have hP0 : ∀ m, IsMono m → Maps.has D (kM m) = false → S m = 0 := fun m hm hh => by
    have := HAT.out m hm
    rw [atKey_of_not_has hh] at this
    simp only [DataW.lit.injEq, Lit.int.injEq, true_and] at this
    exact this.symm
  have hb0 : Below w.heap.size w w0 := grown_below (Below.refl _ _) hg0 (fun k e => by cases e) (Nat.le_refl _)
  go_loopw [4] (fun _ wr => ∃ (left : Lit → Bool) (cnt : Nat), wr.ranges Try.prog 26 (plainElem Try.prog 2) b w.heap.size n D left cnt ∧ Below w.heap.size w wr ∧ Hid (∀ m, IsMono m → left (kM m) = false → S m = 0)) (fun _ wr => wr.rangeLeft b w.heap.size)
  case atStart => exact ⟨_, _, hrg0, hb0, hP0⟩
  case round =>
    clear hrg0 hb0 hP0 hg0 hs1 hown
    obtain ⟨left, cnt, hrg, hb, hP⟩ := hrel
    go_wp2_with (first
      | (at_next; refine wpList_next_ranges (α := {m : List Int // IsMono m}) (β := Int) _ rfl _ rfl 26 Try.keyM (plainElem Try.prog 2) (fun m => .agg (mcells m.1).toArray) (Value.int .i64) (fun key kl hk => by obtain ⟨m, hm, e, _⟩ := keyOf_M_inv hk; exact ⟨⟨m, hm⟩, e⟩) (fun v y hy => by obtain ⟨c, e, _⟩ := plainElem_int_inv Try.underlying2 hy; exact ⟨c, e⟩) b w.heap.size n D _ _ rfl hrg ?_ ?_)
      | go_in)
    · intro _ hl0
      have hz : Z = true := HZ.out.2 (fun m hm => hP.out m hm (hl0 _))
      go_wp2_with fail
      go_ret
      exact ⟨by rw [hz]; rfl, hb⟩
    · intro m hm c kl y yp w1 cnt1 hkey hlk hRv hat hrg1 hlt hg1 hs1 hen
      obtain rfl : kl = kM m := by
        have := keyOf_M hm
        rw [hkey] at this
        exact Option.some.inj this
      have hc : c = S m := by
        obtain ⟨c', e1, e2, _⟩ := plainElem_int_inv Try.underlying2 hRv
        have h1 := hat (.lit (.int .i64 0))
        simp only [Prod.mk.injEq] at e2
        rw [e2.1, HAT.out m hm] at h1
        simp only [DataW.lit.injEq, Lit.int.injEq, true_and] at h1
        simp only [Value.int.injEq, true_and] at e1
        omega
      have hb1 := grown_below hb hg1 (fun k e => by cases e; exact Nat.le_refl _) hb.size
      have HC := Lib.hid hc
      have HM := Lib.hid hrg.left_eq
      clear hkey hRv hat hc hrg hg1 hs1 hb
      by_cases hc0 : c = 0
      · subst hc0
        go_wp2_with fail
        go_roundw
        case rel => exact ⟨_, cnt1, hrg1, hb1, Lib.hid (fun k hk hl => by
          by_cases e : k = m
          · rw [e, ← HC.out]
          · rw [strike_other hm hk e] at hl
            exact hP.out k hk hl)⟩
        case measure => rw [hrg1.left_eq, HM.out]; exact hlt
      · have hcb : (c == 0) = false := by simpa using hc0
        have hz : Z = false := by
          cases hZv : Z with
          | false => rfl
          | true => exact absurd (HC.out.trans (HZ.out.1 hZv m hm)) hc0
        go_wp2_with fail
        go_ret
        exact ⟨by rw [hz]; rfl, hb1⟩

end Go.Proofs.Ythcaiagnmmjooaa
