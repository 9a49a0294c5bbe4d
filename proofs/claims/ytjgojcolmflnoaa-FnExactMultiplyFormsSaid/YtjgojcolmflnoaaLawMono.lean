/- The walks of the laws on monomials: for every list of numbers and every array of eight bytes they return true and leave the arguments as they were. -/
import Derived.Test.YtjgojcolmflnoaaMonoB
import Derived.Deep.RegionHeld3
import Derived.Deep.DeepCutAuto
namespace Go.Proofs.Ytjgojcolmflnoaa
open Go.RowKit Go.Deep

theorem Try.info_mono8 : (Try.prog.info? 25).map (·.size) = some 8 := by kernel_rfl
theorem mono8 {m : List Int} (h : IsMono m) : ∃ m0 m1 m2 m3 m4 m5 m6 m7, m = [m0, m1, m2, m3, m4, m5, m6, m7] := by
  match m, h.1 with
  | [m0, m1, m2, m3, m4, m5, m6, m7], _ => exact ⟨_, _, _, _, _, _, _, _, rfl⟩
/-- Eight cells of a block. -/
def Eight (w' : World) (G : Nat) (m0 m1 m2 m3 m4 m5 m6 m7 : Int) : Prop := w'.cell? ⟨G, 0, none⟩ = some (.int .u8 m0) ∧ w'.cell? ⟨G, 1, none⟩ = some (.int .u8 m1) ∧ w'.cell? ⟨G, 2, none⟩ = some (.int .u8 m2) ∧ w'.cell? ⟨G, 3, none⟩ = some (.int .u8 m3) ∧ w'.cell? ⟨G, 4, none⟩ = some (.int .u8 m4) ∧ w'.cell? ⟨G, 5, none⟩ = some (.int .u8 m5) ∧ w'.cell? ⟨G, 6, none⟩ = some (.int .u8 m6) ∧ w'.cell? ⟨G, 7, none⟩ = some (.int .u8 m7)
theorem own8 {w' : World} {G : Nat} {t : TypeId} {m0 m1 m2 m3 m4 m5 m6 m7 : Int} (h : Own w' G t (mcells [m0, m1, m2, m3, m4, m5, m6, m7]).toArray) : w'.cell? ⟨G, 0, none⟩ = some (.int .u8 m0) ∧ w'.cell? ⟨G, 1, none⟩ = some (.int .u8 m1) ∧ w'.cell? ⟨G, 2, none⟩ = some (.int .u8 m2) ∧ w'.cell? ⟨G, 3, none⟩ = some (.int .u8 m3) ∧ w'.cell? ⟨G, 4, none⟩ = some (.int .u8 m4) ∧ w'.cell? ⟨G, 5, none⟩ = some (.int .u8 m5) ∧ w'.cell? ⟨G, 6, none⟩ = some (.int .u8 m6) ∧ w'.cell? ⟨G, 7, none⟩ = some (.int .u8 m7) :=
  ⟨h.cell 0, h.cell 1, h.cell 2, h.cell 3, h.cell 4, h.cell 5, h.cell 6, h.cell 7⟩

theorem hG' {w w0 : World} {G : Nat} (h : w.heap.size = G) (hb : Below G w w0) : Below w.heap.size w w0 := by rw [h]; exact hb

set_option maxRecDepth 100000 in
theorem isMonomial_walk (a : Option Addr) (n c : Nat) (zs : List Int) (m : List Int) (w : World) (h : Ints w a n zs) (hm : IsMono m) :
    Calls Try.prog 6 #[.slice a n c, monoV m] w fun e w' => e = .returned (.bool true) ∧ Below w.heap.size w w' := by
  have hl := h.len
  have HL := Lib.hid hl
  clear hl
  have hO := Own.new w 25 (mcells m).toArray
  have hb0 := below_alloc1 w (.cells (mcells m).toArray 25)
  obtain ⟨m0, m1, m2, m3, m4, m5, m6, m7, rfl⟩ := mono8 hm
  by_cases hn : n ≤ 1048576
  · unfold monoV
    go_enter Try.func6, Try.ntmps6
    go_wp2_with fail
    generalize hG : w.heap.size = G at *
    have HG := Lib.hid hG
    clear hG
    generalize w.alloc (.cells (mcells [m0, m1, m2, m3, m4, m5, m6, m7]).toArray 25) = w0 at *
    have hGw : G ≤ w0.heap.size := Nat.le_of_lt hO.lt
    go_cut [5] (fun v wr => v = .bool (isMono zs [m0, m1, m2, m3, m4, m5, m6, m7]) ∧ Below G w wr ∧ Own wr G 25 (mcells [m0, m1, m2, m3, m4, m5, m6, m7]).toArray)
    case first =>
      have h0 : Ints w0.drew a n zs := (h.keep (hG' HG.out hb0)).drewN 1
      have hOd : Own w0.drew G 25 (mcells [m0, m1, m2, m3, m4, m5, m6, m7]).toArray := hO
      have hbb : Below G w w0.drew := hb0.drew
      go_region_held3 (fun w' => w'.cell? ⟨G, 0, none⟩ = some (.int .u8 m0) ∧ w'.cell? ⟨G, 1, none⟩ = some (.int .u8 m1) ∧ w'.cell? ⟨G, 2, none⟩ = some (.int .u8 m2) ∧ w'.cell? ⟨G, 3, none⟩ = some (.int .u8 m3) ∧ w'.cell? ⟨G, 4, none⟩ = some (.int .u8 m4) ∧ w'.cell? ⟨G, 5, none⟩ = some (.int .u8 m5) ∧ w'.cell? ⟨G, 6, none⟩ = some (.int .u8 m6) ∧ w'.cell? ⟨G, 7, none⟩ = some (.int .u8 m7)) (exact own8 hOd)
        (first
          | (go_at_call 31; refine (toInt64S_b c h0 hn).mono ?_; rintro e wI ⟨g1, rfl, hg1, hi1, hbI⟩; have hbb := below_trans' hbb hbI (Nat.le_of_lt hOd.lt); have h0 := h0.keep hbI; have hOd := hOd.keep hbI hOd.lt)
          | (go_at_call 33; refine (toMonomial_c hm).mono ?_; rintro e wM ⟨rfl, hbM⟩; have hbb := below_trans' hbb hbM (Nat.le_of_lt hOd.lt); have h0 := h0.keep hbM; have hOd := hOd.keep hbM hOd.lt; try (have hi1 := hi1.keep hbM hi1.lt))
          | (go_at_call 21; refine (IsMonomial_s n (hi1.ints' HL.out) hn hm).mono ?_; rintro e wS ⟨rfl, hbS⟩; have hbb := below_trans' hbb hbS (Nat.le_of_lt hOd.lt); have hOd := hOd.keep hbS hOd.lt))
      all_goals (go_wp2_with fail; go_meet; exact ⟨rfl, hbb, hOd⟩)
    case rest =>
      obtain ⟨rfl, hb1, hO1⟩ := hcut
      have h1 := h.keep (hG' HG.out hb1)
      go_wp2_with fail
      refine (toInt64S_b c h1 hn).mono ?_
      rintro e w2 ⟨g2, rfl, hg2, hi2, hb2⟩
      have hO2 := hO1.keep hb2 hO1.lt
      have hb12 := below_trans' hb1 hb2 (Nat.le_of_lt hO1.lt)
      obtain ⟨x0, x1, x2, x3, x4, x5, x6, x7⟩ := own8 hO2
      go_wp2_with fail
      clear x0 x1 x2 x3 x4 x5 x6 x7
      refine (toMonomial_c hm).mono ?_
      rintro e w3 ⟨rfl, hb3⟩
      have hb13 := below_trans' hb12 hb3 (Nat.le_of_lt hO2.lt)
      have hO3 := hO2.keep hb3 hO2.lt
      have hi3 := hi2.keep hb3 hi2.lt
      go_wp2_with fail
      refine (IsMonomial_c n (hi3.ints' HL.out) hn hm).mono ?_
      rintro e w4 ⟨rfl, hb4⟩
      have hb14 := below_trans' hb13 hb4 (Nat.le_of_lt hO3.lt)
      have hO4 := hO3.keep hb4 hO3.lt
      have hi4 := hi3.keep hb4 hi3.lt
      go_wp2_with fail
      refine (toInt64S_b c (h.keep (hG' HG.out hb14)) hn).mono ?_
      rintro e w5 ⟨g5, rfl, hg5, hi5, hb5⟩
      have hb15 := below_trans' hb14 hb5 (Nat.le_of_lt hO4.lt)
      go_wp2_with fail
      refine (eqInt64S_c n n ((hi4.keep hb5 hi4.lt).ints' HL.out) (hi5.ints' HL.out) hn hn).mono ?_
      rintro e w' ⟨rfl, q, rfl⟩
      go_wp2_with fail
      go_ret
      exact ⟨rfl, by rw [HG.out]; exact below_drewN hb15 q⟩
  · unfold monoV
    go_enter Try.func6, Try.ntmps6
    go_wp2_with fail
    go_ret
    exact ⟨rfl, hb0⟩

set_option maxRecDepth 100000 in
theorem degreeOfMonomial_walk (a : Option Addr) (n c : Nat) (zs : List Int) (m : List Int) (w : World) (h : Ints w a n zs) (hm : IsMono m) :
    Calls Try.prog 7 #[.slice a n c, monoV m] w fun e w' => e = .returned (.bool true) ∧ Below w.heap.size w w' := by
  have hl := h.len
  have HL := Lib.hid hl
  clear hl
  have hO := Own.new w 25 (mcells m).toArray
  have hb0 := below_alloc1 w (.cells (mcells m).toArray 25)
  obtain ⟨m0, m1, m2, m3, m4, m5, m6, m7, rfl⟩ := mono8 hm
  by_cases hn : n ≤ 1048576
  · unfold monoV
    go_enter Try.func7, Try.ntmps7
    go_wp2_with fail
    generalize hG : w.heap.size = G at *
    have HG := Lib.hid hG
    clear hG
    generalize w.alloc (.cells (mcells [m0, m1, m2, m3, m4, m5, m6, m7]).toArray 25) = w0 at *
    have hGw : G ≤ w0.heap.size := Nat.le_of_lt hO.lt
    go_cut [5, 6] (fun v u wr => v = .int .i64 (degM zs [m0, m1, m2, m3, m4, m5, m6, m7]) ∧ u = .int .i64 (codM zs [m0, m1, m2, m3, m4, m5, m6, m7]) ∧ Below G w wr ∧ Own wr G 25 (mcells [m0, m1, m2, m3, m4, m5, m6, m7]).toArray)
    case first =>
      have h0 : Ints w0.drew a n zs := (h.keep (hG' HG.out hb0)).drewN 1
      have hOd : Own w0.drew G 25 (mcells [m0, m1, m2, m3, m4, m5, m6, m7]).toArray := hO
      have hbb : Below G w w0.drew := hb0.drew
      go_region_held3 (fun w' => w'.cell? ⟨G, 0, none⟩ = some (.int .u8 m0) ∧ w'.cell? ⟨G, 1, none⟩ = some (.int .u8 m1) ∧ w'.cell? ⟨G, 2, none⟩ = some (.int .u8 m2) ∧ w'.cell? ⟨G, 3, none⟩ = some (.int .u8 m3) ∧ w'.cell? ⟨G, 4, none⟩ = some (.int .u8 m4) ∧ w'.cell? ⟨G, 5, none⟩ = some (.int .u8 m5) ∧ w'.cell? ⟨G, 6, none⟩ = some (.int .u8 m6) ∧ w'.cell? ⟨G, 7, none⟩ = some (.int .u8 m7)) (exact own8 hOd)
        (first
          | (go_at_call 31; refine (toInt64S_b c h0 hn).mono ?_; rintro e wI ⟨g1, rfl, hg1, hi1, hbI⟩; have hbb := below_trans' hbb hbI (Nat.le_of_lt hOd.lt); have h0 := h0.keep hbI; have hOd := hOd.keep hbI hOd.lt)
          | (go_at_call 33; refine (toMonomial_c hm).mono ?_; rintro e wM ⟨rfl, hbM⟩; have hbb := below_trans' hbb hbM (Nat.le_of_lt hOd.lt); have h0 := h0.keep hbM; have hOd := hOd.keep hbM hOd.lt; try (have hi1 := hi1.keep hbM hi1.lt))
          | (go_at_call 34; refine (DegreeOfMonomial_s n (hi1.ints' HL.out) hn hm).mono ?_; rintro e wS ⟨rfl, hbS⟩; have hbb := below_trans' hbb hbS (Nat.le_of_lt hOd.lt); have hOd := hOd.keep hbS hOd.lt))
      all_goals (go_wp2_with fail; go_meet; exact ⟨rfl, rfl, hbb, hOd⟩)
    case rest =>
      obtain ⟨rfl, rfl, hb1, hO1⟩ := hcut
      have h1 := h.keep (hG' HG.out hb1)
      go_wp2_with fail
      refine (toInt64S_b c h1 hn).mono ?_
      rintro e w2 ⟨g2, rfl, hg2, hi2, hb2⟩
      have hO2 := hO1.keep hb2 hO1.lt
      have hb12 := below_trans' hb1 hb2 (Nat.le_of_lt hO1.lt)
      obtain ⟨x0, x1, x2, x3, x4, x5, x6, x7⟩ := own8 hO2
      go_wp2_with fail
      clear x0 x1 x2 x3 x4 x5 x6 x7
      refine (toMonomial_c hm).mono ?_
      rintro e w3 ⟨rfl, hb3⟩
      have hb13 := below_trans' hb12 hb3 (Nat.le_of_lt hO2.lt)
      have hO3 := hO2.keep hb3 hO2.lt
      have hi3 := hi2.keep hb3 hi2.lt
      go_wp2_with fail
      refine (DegreeOfMonomial_c n (hi3.ints' HL.out) hn hm).mono ?_
      rintro e w4 ⟨rfl, hb4⟩
      have hb14 := below_trans' hb13 hb4 (Nat.le_of_lt hO3.lt)
      have hO4 := hO3.keep hb4 hO3.lt
      have hi4 := hi3.keep hb4 hi3.lt
      go_wp2_with fail
      refine (toInt64S_b c (h.keep (hG' HG.out hb14)) hn).mono ?_
      rintro e w5 ⟨g5, rfl, hg5, hi5, hb5⟩
      have hb15 := below_trans' hb14 hb5 (Nat.le_of_lt hO4.lt)
      go_wp2_with fail
      refine (eqInt64S_c n n ((hi4.keep hb5 hi4.lt).ints' HL.out) (hi5.ints' HL.out) hn hn).mono ?_
      rintro e w' ⟨rfl, q, rfl⟩
      go_wp2_with fail
      go_ret
      exact ⟨rfl, by rw [HG.out]; exact below_drewN hb15 q⟩
  · unfold monoV
    go_enter Try.func7, Try.ntmps7
    go_wp2_with fail
    go_ret
    exact ⟨rfl, hb0⟩

end Go.Proofs.Ytjgojcolmflnoaa
