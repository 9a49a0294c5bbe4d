/- The walk of the law on products of monomials: for every list of numbers and two arrays of eight bytes it returns true and leaves the arguments as they were. -/
import Derived.Test.YtjgojcolmflnoaaMulM
import Derived.Test.YtjgojcolmflnoaaLawMono
namespace Go.Proofs.Ytjgojcolmflnoaa
open Go.RowKit Go.Deep

theorem ints_of_own {w : World} {g n : Nat} {zs : List Int} (h : Own w g 2 ((zs.map (Value.int .i64)).toArray)) (hn : zs.length = n) : Ints w (some ⟨g, 0, none⟩) n zs := IntBlk.ints' h hn
theorem Ints.drew {w : World} {a : Option Addr} {n : Nat} {zs : List Int} (h : Ints w a n zs) : Ints w.drew a n zs := h
theorem own16 {w' : World} {G : Nat} {t u : TypeId} {m0 m1 m2 m3 m4 m5 m6 m7 k0 k1 k2 k3 k4 k5 k6 k7 : Int} (h : Own w' G t (mcells [m0, m1, m2, m3, m4, m5, m6, m7]).toArray) (h' : Own w' (G + 1) u (mcells [k0, k1, k2, k3, k4, k5, k6, k7]).toArray) : w'.cell? ⟨G, 0, none⟩ = some (.int .u8 m0) ∧ w'.cell? ⟨G, 1, none⟩ = some (.int .u8 m1) ∧ w'.cell? ⟨G, 2, none⟩ = some (.int .u8 m2) ∧ w'.cell? ⟨G, 3, none⟩ = some (.int .u8 m3) ∧ w'.cell? ⟨G, 4, none⟩ = some (.int .u8 m4) ∧ w'.cell? ⟨G, 5, none⟩ = some (.int .u8 m5) ∧ w'.cell? ⟨G, 6, none⟩ = some (.int .u8 m6) ∧ w'.cell? ⟨G, 7, none⟩ = some (.int .u8 m7) ∧ w'.cell? ⟨G + 1, 0, none⟩ = some (.int .u8 k0) ∧ w'.cell? ⟨G + 1, 1, none⟩ = some (.int .u8 k1) ∧ w'.cell? ⟨G + 1, 2, none⟩ = some (.int .u8 k2) ∧ w'.cell? ⟨G + 1, 3, none⟩ = some (.int .u8 k3) ∧ w'.cell? ⟨G + 1, 4, none⟩ = some (.int .u8 k4) ∧ w'.cell? ⟨G + 1, 5, none⟩ = some (.int .u8 k5) ∧ w'.cell? ⟨G + 1, 6, none⟩ = some (.int .u8 k6) ∧ w'.cell? ⟨G + 1, 7, none⟩ = some (.int .u8 k7) :=
  ⟨h.cell 0, h.cell 1, h.cell 2, h.cell 3, h.cell 4, h.cell 5, h.cell 6, h.cell 7, h'.cell 0, h'.cell 1, h'.cell 2, h'.cell 3, h'.cell 4, h'.cell 5, h'.cell 6, h'.cell 7⟩

theorem MulM8_s {w : World} {a : Option Addr} {n : Nat} {zs R : List Int} {m0 m1 m2 m3 m4 m5 m6 m7 k0 k1 k2 k3 k4 k5 k6 k7 : Int} (c : Nat) (h : Ints w a n zs) (hn : n ≤ 1048576) (hm : IsMono [m0, m1, m2, m3, m4, m5, m6, m7]) (hk : IsMono [k0, k1, k2, k3, k4, k5, k6, k7]) (hr : mulM zs [m0, m1, m2, m3, m4, m5, m6, m7] [k0, k1, k2, k3, k4, k5, k6, k7] = R) :
    Calls Try.prog 19 #[.slice a n c, .agg #[.int .u8 m0, .int .u8 m1, .int .u8 m2, .int .u8 m3, .int .u8 m4, .int .u8 m5, .int .u8 m6, .int .u8 m7], .agg #[.int .u8 k0, .int .u8 k1, .int .u8 k2, .int .u8 k3, .int .u8 k4, .int .u8 k5, .int .u8 k6, .int .u8 k7]] w fun e w' => e = .returned (.tuple #[.agg (mcells R).toArray, .int .i64 (mulS zs [m0, m1, m2, m3, m4, m5, m6, m7] [k0, k1, k2, k3, k4, k5, k6, k7]), .int .i64 (mulE zs [m0, m1, m2, m3, m4, m5, m6, m7] [k0, k1, k2, k3, k4, k5, k6, k7])]) ∧ Below w.heap.size w w' := by
  have h1 := MultiplyMonomials_s c h hn hm hk
  rw [hr] at h1
  exact h1

theorem MulM8_c {w : World} {a : Option Addr} {n : Nat} {zs R : List Int} {m0 m1 m2 m3 m4 m5 m6 m7 k0 k1 k2 k3 k4 k5 k6 k7 : Int} (c : Nat) (h : Ints w a n zs) (hn : n ≤ 1048576) (hm : IsMono [m0, m1, m2, m3, m4, m5, m6, m7]) (hk : IsMono [k0, k1, k2, k3, k4, k5, k6, k7]) (hr : mulM zs [m0, m1, m2, m3, m4, m5, m6, m7] [k0, k1, k2, k3, k4, k5, k6, k7] = R) :
    Calls Try.prog 18 #[.slice a n c, .agg #[.int .u8 m0, .int .u8 m1, .int .u8 m2, .int .u8 m3, .int .u8 m4, .int .u8 m5, .int .u8 m6, .int .u8 m7], .agg #[.int .u8 k0, .int .u8 k1, .int .u8 k2, .int .u8 k3, .int .u8 k4, .int .u8 k5, .int .u8 k6, .int .u8 k7]] w fun e w' => e = .returned (.tuple #[.agg (mcells R).toArray, .int .i64 (mulS zs [m0, m1, m2, m3, m4, m5, m6, m7] [k0, k1, k2, k3, k4, k5, k6, k7]), .int .i64 (mulE zs [m0, m1, m2, m3, m4, m5, m6, m7] [k0, k1, k2, k3, k4, k5, k6, k7])]) ∧ Below w.heap.size w w' := by
  have h1 := MultiplyMonomials_c c h hn hm hk
  rw [hr] at h1
  exact h1

theorem storeCells_own {w : World} {g : Nat} {t : TypeId} {old : Array Value} {R : List Int} (h : Own w g t old) (hs : old.size = 8) (hR : IsMono R) :
    (storeCells ⟨g, 0, none⟩ (mcells R) 0).run Try.prog w = .ok () (w.setRow g (mcells R).toArray) := by
  have := run_storeCells_from (P := Try.prog) g t (mcells R) 0 old w h (by simp [mcells_length, hR.1, hs]) (fun v hv => by simp only [mcells, List.mem_map] at hv; obtain ⟨x, _, rfl⟩ := hv; rfl)
  simpa using this

theorem toMonomial8 {w : World} {m0 m1 m2 m3 m4 m5 m6 m7 : Int} (hm : IsMono [m0, m1, m2, m3, m4, m5, m6, m7]) :
    Calls Try.prog 33 #[.agg #[.int .u8 m0, .int .u8 m1, .int .u8 m2, .int .u8 m3, .int .u8 m4, .int .u8 m5, .int .u8 m6, .int .u8 m7]] w fun e w' => e = .returned (.agg #[.int .u8 m0, .int .u8 m1, .int .u8 m2, .int .u8 m3, .int .u8 m4, .int .u8 m5, .int .u8 m6, .int .u8 m7]) ∧ Below w.heap.size w w' := toMonomial_c hm

set_option maxRecDepth 100000 in
set_option maxHeartbeats 4000000 in
theorem multiplyMonomials_walk (a : Option Addr) (n c : Nat) (zs : List Int) (m k : List Int) (w : World) (h : Ints w a n zs) (hm : IsMono m) (hk : IsMono k) :
    Calls Try.prog 8 #[.slice a n c, monoV m, monoV k] w fun e w' => e = .returned (.bool true) ∧ Below w.heap.size w w' := by
  have hl := h.len
  have HL := Lib.hid hl
  clear hl
  have hOm := (Own.new w 25 (mcells m).toArray).alloc (.cells (mcells k).toArray 25)
  have hOk := Own.new (w.alloc (.cells (mcells m).toArray 25)) 25 (mcells k).toArray
  rw [size_alloc] at hOk
  have hb0 := below_then (below_alloc1 w (.cells (mcells m).toArray 25)) (below_alloc1 _ (.cells (mcells k).toArray 25))
  have hrm := mulM_mono (zs := zs) hm hk
  obtain ⟨m0, m1, m2, m3, m4, m5, m6, m7, rfl⟩ := mono8 hm
  obtain ⟨k0, k1, k2, k3, k4, k5, k6, k7, rfl⟩ := mono8 hk
  have HRm := Lib.hid hrm
  clear hrm
  generalize hr : mulM zs [m0, m1, m2, m3, m4, m5, m6, m7] [k0, k1, k2, k3, k4, k5, k6, k7] = R at *
  have HR := Lib.hid hr
  clear hr
  by_cases hn : n ≤ 1048576
  · unfold monoV
    go_enter Try.func8, Try.ntmps8
    go_wp2_with fail
    generalize hG : w.heap.size = G at *
    have HG := Lib.hid hG
    clear hG
    generalize (w.alloc (.cells (mcells [m0, m1, m2, m3, m4, m5, m6, m7]).toArray 25)).alloc (.cells (mcells [k0, k1, k2, k3, k4, k5, k6, k7]).toArray 25) = w0 at *
    go_cut [7, 8, 9] (fun p s u wr => ∃ g, p = .pointer (some ⟨g, 0, none⟩) ∧ s = .int .i64 (mulS zs [m0, m1, m2, m3, m4, m5, m6, m7] [k0, k1, k2, k3, k4, k5, k6, k7]) ∧ u = .int .i64 (mulE zs [m0, m1, m2, m3, m4, m5, m6, m7] [k0, k1, k2, k3, k4, k5, k6, k7]) ∧ Below G w wr ∧ Own wr G 25 (mcells [m0, m1, m2, m3, m4, m5, m6, m7]).toArray ∧ Own wr (G + 1) 25 (mcells [k0, k1, k2, k3, k4, k5, k6, k7]).toArray ∧ G + 1 < g ∧ Own wr g 26 (mcells R).toArray)
    case first =>
      have h0 : Ints w0.drew a n zs := (h.keep (hG' HG.out hb0)).drewN 1
      have hOm0 : Own w0.drew G 25 (mcells [m0, m1, m2, m3, m4, m5, m6, m7]).toArray := hOm
      have hOk0 : Own w0.drew (G + 1) 25 (mcells [k0, k1, k2, k3, k4, k5, k6, k7]).toArray := hOk
      have hbb : Below G w w0.drew := hb0.drew
      have h0B := h.keep (hG' HG.out hb0)
      have hOmB := hOm
      have hOkB := hOk
      have hbB := hb0
      clear hOm hOk hb0
      have hOm := hOm0
      have hOk := hOk0
      clear hOm0 hOk0
      go_region_held3 (fun w' => w'.cell? ⟨G, 0, none⟩ = some (.int .u8 m0) ∧ w'.cell? ⟨G, 1, none⟩ = some (.int .u8 m1) ∧ w'.cell? ⟨G, 2, none⟩ = some (.int .u8 m2) ∧ w'.cell? ⟨G, 3, none⟩ = some (.int .u8 m3) ∧ w'.cell? ⟨G, 4, none⟩ = some (.int .u8 m4) ∧ w'.cell? ⟨G, 5, none⟩ = some (.int .u8 m5) ∧ w'.cell? ⟨G, 6, none⟩ = some (.int .u8 m6) ∧ w'.cell? ⟨G, 7, none⟩ = some (.int .u8 m7) ∧ w'.cell? ⟨G + 1, 0, none⟩ = some (.int .u8 k0) ∧ w'.cell? ⟨G + 1, 1, none⟩ = some (.int .u8 k1) ∧ w'.cell? ⟨G + 1, 2, none⟩ = some (.int .u8 k2) ∧ w'.cell? ⟨G + 1, 3, none⟩ = some (.int .u8 k3) ∧ w'.cell? ⟨G + 1, 4, none⟩ = some (.int .u8 k4) ∧ w'.cell? ⟨G + 1, 5, none⟩ = some (.int .u8 k5) ∧ w'.cell? ⟨G + 1, 6, none⟩ = some (.int .u8 k6) ∧ w'.cell? ⟨G + 1, 7, none⟩ = some (.int .u8 k7)) ((first | with_reducible exact own16 hOm hOk | with_reducible exact own16 (hOmB.alloc _).drew (hOkB.alloc _).drew | with_reducible exact own16 (hOm.alloc _) (hOk.alloc _) | exact own16 (hOm.farRow (by omega) _) (hOk.farRow (by omega) _) | exact own16 ((hOm.alloc _).farRow (by have := hOk.lt; omega) _) ((hOk.alloc _).farRow (by have := hOk.lt; omega) _)))
        (first
          | (go_at_call 31; (first | (with_reducible refine (toInt64S_b c h0 hn).mono ?_) | (with_reducible refine (toInt64S_b c ((h0B.keep (below_alloc1 _ _)).drew) hn).mono ?_)); rintro e wI ⟨g1, rfl, hg1, hi1, hbI⟩; (first | (first | (have hbb' := below_trans' hbb hbI (Nat.le_of_lt hOm.lt); have h0' := h0.keep hbI; have hOm' := hOm.keep hbI hOm.lt; have hOk' := hOk.keep hbI hOk.lt; (try (have oN := oN.keep hbI oN.lt)); clear hbb h0 hOm hOk; have hbb := hbb'; have h0 := h0'; have hOm := hOm'; have hOk := hOk') | (have oN := (Own.new _ 26 #[Value.int .u8 0, .int .u8 0, .int .u8 0, .int .u8 0, .int .u8 0, .int .u8 0, .int .u8 0, .int .u8 0]).keep hbI (Own.new _ 26 #[Value.int .u8 0, .int .u8 0, .int .u8 0, .int .u8 0, .int .u8 0, .int .u8 0, .int .u8 0, .int .u8 0]).lt; have hbb' := below_trans' (below_trans' hbb (below_alloc1 _ _) (Nat.le_of_lt hOm.lt)) hbI (Nat.le_of_lt (hOm.alloc _).lt); have hGN := hOk.lt; have h0' := (h0.keep (below_alloc1 _ _)).keep hbI; have hOm' := (hOm.alloc _).keep hbI (hOm.alloc _).lt; have hOk' := (hOk.alloc _).keep hbI (hOk.alloc _).lt; clear hbb h0 hOm hOk; have hbb := hbb'; have h0 := h0'; have hOm := hOm'; have hOk := hOk')) | (have oN := ((Own.new _ 26 #[Value.int .u8 0, .int .u8 0, .int .u8 0, .int .u8 0, .int .u8 0, .int .u8 0, .int .u8 0, .int .u8 0]).drew).keep hbI (Own.new _ 26 #[Value.int .u8 0, .int .u8 0, .int .u8 0, .int .u8 0, .int .u8 0, .int .u8 0, .int .u8 0, .int .u8 0]).lt; have hbb' := below_trans' ((hbB.alloc (Nat.le_of_lt hOmB.lt) _).drew) hbI (Nat.le_of_lt (hOmB.alloc _).lt); have hGN := hOkB.lt; have h0' := ((h0B.keep (below_alloc1 _ _)).drew).keep hbI; have hOm' := ((hOmB.alloc _).drew).keep hbI (hOmB.alloc _).lt; have hOk' := ((hOkB.alloc _).drew).keep hbI (hOkB.alloc _).lt; clear hbb h0 hOm hOk; have hbb := hbb'; have h0 := h0'; have hOm := hOm'; have hOk := hOk')))
          | (go_at_call 33; have _t := tM; (with_reducible refine (toMonomial8 hk).mono ?_); rintro e wK ⟨rfl, hbK⟩; (first | (have hbb' := below_trans' hbb hbK (Nat.le_of_lt hOm.lt); have h0' := h0.keep hbK; have hOm' := hOm.keep hbK hOm.lt; have hOk' := hOk.keep hbK hOk.lt; (try (have hi1 := hi1.keep hbK hi1.lt)); (try (have oN := oN.keep hbK oN.lt)); clear hbb h0 hOm hOk; have hbb := hbb'; have h0 := h0'; have hOm := hOm'; have hOk := hOk') | (have oN := (Own.new _ 26 #[Value.int .u8 0, .int .u8 0, .int .u8 0, .int .u8 0, .int .u8 0, .int .u8 0, .int .u8 0, .int .u8 0]).keep hbK (Own.new _ 26 #[Value.int .u8 0, .int .u8 0, .int .u8 0, .int .u8 0, .int .u8 0, .int .u8 0, .int .u8 0, .int .u8 0]).lt; have hbb' := below_trans' (below_trans' hbb (below_alloc1 _ _) (Nat.le_of_lt hOm.lt)) hbK (Nat.le_of_lt (hOm.alloc _).lt); have hGN := hOk.lt; have h0' := (h0.keep (below_alloc1 _ _)).keep hbK; have hOm' := (hOm.alloc _).keep hbK (hOm.alloc _).lt; have hOk' := (hOk.alloc _).keep hbK (hOk.alloc _).lt; (try (have hi1 := (hi1.keep (below_alloc1 _ _) hi1.lt).keep hbK (hi1.keep (below_alloc1 _ _) hi1.lt).lt)); clear hbb h0 hOm hOk; have hbb := hbb'; have h0 := h0'; have hOm := hOm'; have hOk := hOk')))
          | (go_at_call 33; (with_reducible refine (toMonomial8 hm).mono ?_); rintro e wM ⟨rfl, hbM⟩; have tM : True := trivial; (first | (have hbb' := below_trans' hbb hbM (Nat.le_of_lt hOm.lt); have h0' := h0.keep hbM; have hOm' := hOm.keep hbM hOm.lt; have hOk' := hOk.keep hbM hOk.lt; (try (have hi1 := hi1.keep hbM hi1.lt)); (try (have oN := oN.keep hbM oN.lt)); clear hbb h0 hOm hOk; have hbb := hbb'; have h0 := h0'; have hOm := hOm'; have hOk := hOk') | (have oN := (Own.new _ 26 #[Value.int .u8 0, .int .u8 0, .int .u8 0, .int .u8 0, .int .u8 0, .int .u8 0, .int .u8 0, .int .u8 0]).keep hbM (Own.new _ 26 #[Value.int .u8 0, .int .u8 0, .int .u8 0, .int .u8 0, .int .u8 0, .int .u8 0, .int .u8 0, .int .u8 0]).lt; have hbb' := below_trans' (below_trans' hbb (below_alloc1 _ _) (Nat.le_of_lt hOm.lt)) hbM (Nat.le_of_lt (hOm.alloc _).lt); have hGN := hOk.lt; have h0' := (h0.keep (below_alloc1 _ _)).keep hbM; have hOm' := (hOm.alloc _).keep hbM (hOm.alloc _).lt; have hOk' := (hOk.alloc _).keep hbM (hOk.alloc _).lt; (try (have hi1 := (hi1.keep (below_alloc1 _ _) hi1.lt).keep hbM (hi1.keep (below_alloc1 _ _) hi1.lt).lt)); clear hbb h0 hOm hOk; have hbb := hbb'; have h0 := h0'; have hOm := hOm'; have hOk := hOk')))
          | (go_at_call 19; (first | (with_reducible refine (MulM8_s n (hi1.ints' HL.out) hn hm hk HR.out).mono ?_) | (with_reducible refine (MulM8_s n ((hi1.keep (below_alloc1 _ _) hi1.lt).ints' HL.out) hn hm hk HR.out).mono ?_)); rintro e wS ⟨rfl, hbS⟩; (first | (have hbb' := below_trans' hbb hbS (Nat.le_of_lt hOm.lt); have h0' := h0.keep hbS; have hOm' := hOm.keep hbS hOm.lt; have hOk' := hOk.keep hbS hOk.lt; (try (have hi1 := hi1.keep hbS hi1.lt)); (try (have oN := oN.keep hbS oN.lt)); clear hbb h0 hOm hOk; have hbb := hbb'; have h0 := h0'; have hOm := hOm'; have hOk := hOk') | (have oN := (Own.new _ 26 #[Value.int .u8 0, .int .u8 0, .int .u8 0, .int .u8 0, .int .u8 0, .int .u8 0, .int .u8 0, .int .u8 0]).keep hbS (Own.new _ 26 #[Value.int .u8 0, .int .u8 0, .int .u8 0, .int .u8 0, .int .u8 0, .int .u8 0, .int .u8 0, .int .u8 0]).lt; have hbb' := below_trans' (below_trans' hbb (below_alloc1 _ _) (Nat.le_of_lt hOm.lt)) hbS (Nat.le_of_lt (hOm.alloc _).lt); have hGN := hOk.lt; have h0' := (h0.keep (below_alloc1 _ _)).keep hbS; have hOm' := (hOm.alloc _).keep hbS (hOm.alloc _).lt; have hOk' := (hOk.alloc _).keep hbS (hOk.alloc _).lt; (try (have hi1 := (hi1.keep (below_alloc1 _ _) hi1.lt).keep hbS (hi1.keep (below_alloc1 _ _) hi1.lt).lt)); clear hbb h0 hOm hOk; have hbb := hbb'; have h0 := h0'; have hOm := hOm'; have hOk := hOk')); (have hRl : (mcells R).length = 8 := by rw [mcells_length]; exact HRm.out.1); (first | (have hst := storeCells_own oN rfl HRm.out) | (have hst := storeCells_own (Own.new wS 26 #[Value.int .u8 0, .int .u8 0, .int .u8 0, .int .u8 0, .int .u8 0, .int .u8 0, .int .u8 0, .int .u8 0]) rfl HRm.out))))
      all_goals go_wp2_with fail
      all_goals go_meet
      all_goals (first
        | exact ⟨_, rfl, rfl, rfl, below_setRow hbb (by omega) _, hOm.farRow (by omega) _, hOk.farRow (by omega) _, hGN, oN.setRow _⟩
        | exact ⟨_, rfl, rfl, rfl, below_setRow (hbb.alloc (Nat.le_of_lt hOm.lt) _) (Nat.le_of_lt hOm.lt) _, (hOm.alloc _).farRow (Nat.ne_of_lt hOm.lt) _, (hOk.alloc _).farRow (Nat.ne_of_lt hOk.lt) _, hOk.lt, (Own.new _ _ _).setRow _⟩)
    case rest =>
      obtain ⟨g, rfl, rfl, rfl, hb1, hOm1, hOk1, hgg, hO71⟩ := hcut
      have h1 := h.keep (hG' HG.out hb1)
      go_wp2_with fail
      refine (toInt64S_b c h1 hn).mono ?_
      rintro e w2 ⟨g2, rfl, hg2, hi20, hb2⟩
      have hbc := below_trans' hb1 hb2 (Nat.le_of_lt hOm1.lt)
      have hOmB := hOm1.keep hb2 hOm1.lt
      have hOkB := hOk1.keep hb2 hOk1.lt
      have hO7B := hO71.keep hb2 hO71.lt
      have hi2B : Own w2 g2 2 ((zs.map (Value.int .i64)).toArray) := hi20
      have hg7 := hO71.lt
      clear h1 hi20 hb1 hOm1 hOk1 hO71
      go_wp2_with fail
      go_cut [11, 12, 13] (fun p s u wr => ∃ g', p = .pointer (some ⟨g', 0, none⟩) ∧ s = .int .i64 (mulS zs [m0, m1, m2, m3, m4, m5, m6, m7] [k0, k1, k2, k3, k4, k5, k6, k7]) ∧ u = .int .i64 (mulE zs [m0, m1, m2, m3, m4, m5, m6, m7] [k0, k1, k2, k3, k4, k5, k6, k7]) ∧ Below G w wr ∧ G + 1 < g' ∧ Own wr g 26 (mcells R).toArray ∧ Own wr g2 2 ((zs.map (Value.int .i64)).toArray) ∧ Own wr g' 26 (mcells R).toArray)
      case first =>
        have hOm : Own w2.drew G 25 (mcells [m0, m1, m2, m3, m4, m5, m6, m7]).toArray := hOmB
        have hOk : Own w2.drew (G + 1) 25 (mcells [k0, k1, k2, k3, k4, k5, k6, k7]).toArray := hOkB
        have hO7 : Own w2.drew g 26 (mcells R).toArray := hO7B
        have hi2 : Own w2.drew g2 2 ((zs.map (Value.int .i64)).toArray) := hi2B
        have hbb : Below G w w2.drew := hbc.drew
        have hbB := hbc
        go_region_held3 (fun w' => w'.cell? ⟨G, 0, none⟩ = some (.int .u8 m0) ∧ w'.cell? ⟨G, 1, none⟩ = some (.int .u8 m1) ∧ w'.cell? ⟨G, 2, none⟩ = some (.int .u8 m2) ∧ w'.cell? ⟨G, 3, none⟩ = some (.int .u8 m3) ∧ w'.cell? ⟨G, 4, none⟩ = some (.int .u8 m4) ∧ w'.cell? ⟨G, 5, none⟩ = some (.int .u8 m5) ∧ w'.cell? ⟨G, 6, none⟩ = some (.int .u8 m6) ∧ w'.cell? ⟨G, 7, none⟩ = some (.int .u8 m7) ∧ w'.cell? ⟨G + 1, 0, none⟩ = some (.int .u8 k0) ∧ w'.cell? ⟨G + 1, 1, none⟩ = some (.int .u8 k1) ∧ w'.cell? ⟨G + 1, 2, none⟩ = some (.int .u8 k2) ∧ w'.cell? ⟨G + 1, 3, none⟩ = some (.int .u8 k3) ∧ w'.cell? ⟨G + 1, 4, none⟩ = some (.int .u8 k4) ∧ w'.cell? ⟨G + 1, 5, none⟩ = some (.int .u8 k5) ∧ w'.cell? ⟨G + 1, 6, none⟩ = some (.int .u8 k6) ∧ w'.cell? ⟨G + 1, 7, none⟩ = some (.int .u8 k7)) ((first | with_reducible exact own16 hOm hOk | with_reducible exact own16 (hOmB.alloc _).drew (hOkB.alloc _).drew | with_reducible exact own16 (hOm.alloc _) (hOk.alloc _) | exact own16 (hOm.farRow (by omega) _) (hOk.farRow (by omega) _) | exact own16 ((hOm.alloc _).farRow (by have := hOk.lt; omega) _) ((hOk.alloc _).farRow (by have := hOk.lt; omega) _)))
          (first
            | (go_at_call 33; have _t := tM; (with_reducible refine (toMonomial8 hk).mono ?_); rintro e wK ⟨rfl, hbK⟩; (first | ((try (have oN := oN.keep hbK oN.lt)); have hbb' := below_trans' hbb hbK (Nat.le_of_lt hOm.lt); have hOm' := hOm.keep hbK hOm.lt; have hOk' := hOk.keep hbK hOk.lt; have hO7' := hO7.keep hbK hO7.lt; have hi2' := hi2.keep hbK hi2.lt; clear hbb hOm hOk hO7 hi2; have hbb := hbb'; have hOm := hOm'; have hOk := hOk'; have hO7 := hO7'; have hi2 := hi2') | (have oN := (Own.new _ 26 #[Value.int .u8 0, .int .u8 0, .int .u8 0, .int .u8 0, .int .u8 0, .int .u8 0, .int .u8 0, .int .u8 0]).keep hbK (Own.new _ 26 #[Value.int .u8 0, .int .u8 0, .int .u8 0, .int .u8 0, .int .u8 0, .int .u8 0, .int .u8 0, .int .u8 0]).lt; have hGN := hOk.lt; have hN7 := hO7.lt; have hN2 := hi2.lt; have hbb' := below_trans' (below_trans' hbb (below_alloc1 _ _) (Nat.le_of_lt hOm.lt)) hbK (Nat.le_of_lt (hOm.alloc _).lt); have hOm' := (hOm.alloc _).keep hbK (hOm.alloc _).lt; have hOk' := (hOk.alloc _).keep hbK (hOk.alloc _).lt; have hO7' := (hO7.alloc _).keep hbK (hO7.alloc _).lt; have hi2' := (hi2.alloc _).keep hbK (hi2.alloc _).lt; clear hbb hOm hOk hO7 hi2; have hbb := hbb'; have hOm := hOm'; have hOk := hOk'; have hO7 := hO7'; have hi2 := hi2')))
            | (go_at_call 33; (with_reducible refine (toMonomial8 hm).mono ?_); rintro e wM ⟨rfl, hbM⟩; have tM : True := trivial; (first | ((try (have oN := oN.keep hbM oN.lt)); have hbb' := below_trans' hbb hbM (Nat.le_of_lt hOm.lt); have hOm' := hOm.keep hbM hOm.lt; have hOk' := hOk.keep hbM hOk.lt; have hO7' := hO7.keep hbM hO7.lt; have hi2' := hi2.keep hbM hi2.lt; clear hbb hOm hOk hO7 hi2; have hbb := hbb'; have hOm := hOm'; have hOk := hOk'; have hO7 := hO7'; have hi2 := hi2') | (have oN := (Own.new _ 26 #[Value.int .u8 0, .int .u8 0, .int .u8 0, .int .u8 0, .int .u8 0, .int .u8 0, .int .u8 0, .int .u8 0]).keep hbM (Own.new _ 26 #[Value.int .u8 0, .int .u8 0, .int .u8 0, .int .u8 0, .int .u8 0, .int .u8 0, .int .u8 0, .int .u8 0]).lt; have hGN := hOk.lt; have hN7 := hO7.lt; have hN2 := hi2.lt; have hbb' := below_trans' (below_trans' hbb (below_alloc1 _ _) (Nat.le_of_lt hOm.lt)) hbM (Nat.le_of_lt (hOm.alloc _).lt); have hOm' := (hOm.alloc _).keep hbM (hOm.alloc _).lt; have hOk' := (hOk.alloc _).keep hbM (hOk.alloc _).lt; have hO7' := (hO7.alloc _).keep hbM (hO7.alloc _).lt; have hi2' := (hi2.alloc _).keep hbM (hi2.alloc _).lt; clear hbb hOm hOk hO7 hi2; have hbb := hbb'; have hOm := hOm'; have hOk := hOk'; have hO7 := hO7'; have hi2 := hi2') | (have oN := ((Own.new _ 26 #[Value.int .u8 0, .int .u8 0, .int .u8 0, .int .u8 0, .int .u8 0, .int .u8 0, .int .u8 0, .int .u8 0]).drew).keep hbM (Own.new _ 26 #[Value.int .u8 0, .int .u8 0, .int .u8 0, .int .u8 0, .int .u8 0, .int .u8 0, .int .u8 0, .int .u8 0]).lt; have hGN := hOkB.lt; have hN7 := hO7B.lt; have hN2 := hi2B.lt; have hbb' := below_trans' ((hbB.alloc (Nat.le_of_lt hOmB.lt) _).drew) hbM (Nat.le_of_lt (hOmB.alloc _).lt); have hOm' := ((hOmB.alloc _).drew).keep hbM (hOmB.alloc _).lt; have hOk' := ((hOkB.alloc _).drew).keep hbM (hOkB.alloc _).lt; have hO7' := ((hO7B.alloc _).drew).keep hbM (hO7B.alloc _).lt; have hi2' := ((hi2B.alloc _).drew).keep hbM (hi2B.alloc _).lt; clear hbb hOm hOk hO7 hi2; have hbb := hbb'; have hOm := hOm'; have hOk := hOk'; have hO7 := hO7'; have hi2 := hi2')))
            | (go_at_call 18; (first | (with_reducible refine (MulM8_c n (ints_of_own hi2 HL.out) hn hm hk HR.out).mono ?_) | (with_reducible refine (MulM8_c n (ints_of_own (hi2.alloc _) HL.out) hn hm hk HR.out).mono ?_)); rintro e wS ⟨rfl, hbS⟩; (first | ((try (have oN := oN.keep hbS oN.lt)); have hbb' := below_trans' hbb hbS (Nat.le_of_lt hOm.lt); have hOm' := hOm.keep hbS hOm.lt; have hOk' := hOk.keep hbS hOk.lt; have hO7' := hO7.keep hbS hO7.lt; have hi2' := hi2.keep hbS hi2.lt; clear hbb hOm hOk hO7 hi2; have hbb := hbb'; have hOm := hOm'; have hOk := hOk'; have hO7 := hO7'; have hi2 := hi2') | (have oN := (Own.new _ 26 #[Value.int .u8 0, .int .u8 0, .int .u8 0, .int .u8 0, .int .u8 0, .int .u8 0, .int .u8 0, .int .u8 0]).keep hbS (Own.new _ 26 #[Value.int .u8 0, .int .u8 0, .int .u8 0, .int .u8 0, .int .u8 0, .int .u8 0, .int .u8 0, .int .u8 0]).lt; have hGN := hOk.lt; have hN7 := hO7.lt; have hN2 := hi2.lt; have hbb' := below_trans' (below_trans' hbb (below_alloc1 _ _) (Nat.le_of_lt hOm.lt)) hbS (Nat.le_of_lt (hOm.alloc _).lt); have hOm' := (hOm.alloc _).keep hbS (hOm.alloc _).lt; have hOk' := (hOk.alloc _).keep hbS (hOk.alloc _).lt; have hO7' := (hO7.alloc _).keep hbS (hO7.alloc _).lt; have hi2' := (hi2.alloc _).keep hbS (hi2.alloc _).lt; clear hbb hOm hOk hO7 hi2; have hbb := hbb'; have hOm := hOm'; have hOk := hOk'; have hO7 := hO7'; have hi2 := hi2')); (have hRl : (mcells R).length = 8 := by rw [mcells_length]; exact HRm.out.1); (first | (have hst := storeCells_own oN rfl HRm.out) | (have hst := storeCells_own (Own.new wS 26 #[Value.int .u8 0, .int .u8 0, .int .u8 0, .int .u8 0, .int .u8 0, .int .u8 0, .int .u8 0, .int .u8 0]) rfl HRm.out))))
        all_goals go_wp2_with fail
        all_goals go_meet
        all_goals (first
          | exact ⟨_, rfl, rfl, rfl, below_setRow hbb (by omega) _, hGN, hO7.farRow (Nat.ne_of_lt hN7) _, hi2.farRow (Nat.ne_of_lt hN2) _, oN.setRow _⟩
          | exact ⟨_, rfl, rfl, rfl, below_setRow (hbb.alloc (Nat.le_of_lt hOm.lt) _) (Nat.le_of_lt hOm.lt) _, hOk.lt, (hO7.alloc _).farRow (Nat.ne_of_lt hO7.lt) _, (hi2.alloc _).farRow (Nat.ne_of_lt hi2.lt) _, (Own.new _ _ _).setRow _⟩)
      case rest =>
        clear hOmB hOkB hO7B hi2B hbc
        obtain ⟨g', rfl, rfl, rfl, hb3, hgg', hO7, hi2, hO11⟩ := hcut
        have hGl : G ≤ wc.heap.size := by have := hO11.lt; omega
        go_wp2_with (first
          | (refine wpList_load_row rfl 26 (.tmp 40) rfl _ rfl 26 (mcells R).toArray (0, 0) _ hO11 Try.underlying26 rfl (by rw [msize HRm.out]; exact Try.info_mono) ?_)
          | (refine wpList_load_row rfl 26 (.tmp 11) rfl _ rfl 26 (mcells R).toArray (0, 0) _ hO11 Try.underlying26 rfl (by rw [msize HRm.out]; exact Try.info_mono) ?_)
          | (refine wpList_load_row rfl 26 (.tmp 7) rfl _ rfl 26 (mcells R).toArray (0, 0) _ hO7 Try.underlying26 rfl (by rw [msize HRm.out]; exact Try.info_mono) ?_))
        refine (eqMonomial_c HRm.out HRm.out).mono ?_
        rintro e w4 ⟨rfl, hb4⟩
        have hi4 := hi2.keep hb4 hi2.lt
        have hb5 := below_trans' hb3 hb4 hGl
        have hG4 := hb4.size
        go_wp2_with fail
        refine (toInt64S_b c (h.keep (hG' HG.out hb5)) hn).mono ?_
        rintro e w5 ⟨g5, rfl, hg5, hi5, hb6⟩
        have hb7 := below_trans' hb5 hb6 (by omega)
        go_wp2_with fail
        refine (eqInt64S_c n n (ints_of_own (hi4.keep hb6 hi4.lt) HL.out) (hi5.ints' HL.out) hn hn).mono ?_
        rintro e w' ⟨rfl, q, rfl⟩
        go_wp2_with fail
        go_ret
        exact ⟨rfl, by rw [HG.out]; exact below_drewN hb7 q⟩
  · unfold monoV
    go_enter Try.func8, Try.ntmps8
    go_wp2_with fail
    go_ret
    exact ⟨rfl, hb0⟩

end Go.Proofs.Ytjgojcolmflnoaa
