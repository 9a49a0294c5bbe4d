/- The draws of the laws: monomials. -/
import Derived.Test.YtcafccfoeednnaaDrwL
import Derived.Test.YtcafccfoeednnaaMonoB
import Derived.Test.YtcafccfoeednnaaLawMono
namespace Go.Proofs.Ytcafccfoeednnaa
open Go.RowKit Go.Deep

theorem IL.ints {w : World} {B : Nat} {va : Option Addr} {vn vc : Nat} {zs : List Int} (h : IL w B (.slice va vn vc) zs) : Ints w va vn zs := by
  rcases h.2 with ⟨h0, h1⟩ | ⟨g, cap, cur, hv, hB, hg, h3, h4, h5, h6⟩
  · simp only [Value.slice.injEq] at h0
    obtain ⟨rfl, rfl, rfl⟩ := h0
    exact ⟨h1, fun h => absurd h (by omega)⟩
  · simp only [Value.slice.injEq] at hv
    obtain ⟨rfl, rfl, rfl⟩ := hv
    refine ⟨rfl, fun hn => ⟨g, 0, rfl, (Array.getElem?_eq_some_iff.1 hg).1, fun i hi => ?_⟩⟩
    rw [Nat.zero_add, cell_of_row w g i cur 2 (0, 0) hg]
    have h7 : cur.toList[i]? = (zs.map (Value.int .i64))[i]? := by
      rw [← h6, List.getElem?_take_of_lt (by omega)]
    rw [Array.getElem?_toList] at h7
    rw [h7, List.getElem?_map, List.getElem?_eq_getElem hi]
    simp [List.getD, List.getElem?_eq_getElem hi]
theorem IL.len {w : World} {B : Nat} {va : Option Addr} {vn vc : Nat} {zs : List Int} (h : IL w B (.slice va vn vc) zs) : vn = zs.length := h.ints.len.symm

theorem mset {m : List Int} (hm : IsMono m) {i : Nat} {y : Int} (h0 : 0 ≤ y) (h1 : y ≤ 255) : IsMono (m.set i y) := by
  refine ⟨by rw [List.length_set]; exact hm.1, fun x hx => ?_⟩
  rcases List.mem_or_eq_of_mem_set hx with h | h
  · exact hm.2 x h
  · rw [h]; exact ⟨h0, h1⟩
theorem mset_cells (m : List Int) (i : Nat) (y : Int) : ((mcells m).toArray).setIfInBounds i (.int .u8 y) = (mcells (m.set i y)).toArray := by
  simp [mcells, List.map_set]
theorem Own.mset {w : World} {g i : Nat} {y : Int} {m : List Int} (h : Own w g 26 (mcells m).toArray) : Own (w.setCell ⟨g, i, none⟩ (.int .u8 y)) g 26 (mcells (m.set i y)).toArray := by
  have := h.set i (.int .u8 y)
  rwa [mset_cells] at this
theorem nul_mono : IsMono nul8 := ⟨rfl, by simp [nul8]⟩
theorem Fr.setNew {s g : Nat} {w w' : World} (h : Fr s w w') (hg : w.heap.size ≤ g) (i : Nat) (v : Value) : Fr s w (w'.setCell ⟨g, i, none⟩ v) :=
  ⟨h.os, h.tape, h.output, by simpa [World.setCell] using h.size, fun k hk hs => (Below.heap_setCell _ _ _ _ (by simp; omega)).trans (h.block k hk hs)⟩
theorem Fr.setRowNew {s g : Nat} {w w' : World} (h : Fr s w w') (hg : w.heap.size ≤ g) (cs : Array Value) : Fr s w (w'.setRow g cs) :=
  ⟨h.os, h.tape, h.output, by simpa using h.size, fun k hk hs => (setRow_other w' g k cs (by omega)).trans (h.block k hk hs)⟩
theorem Src.set {w : World} {s n c g : Nat} {a : Option Addr} (h : Src w s a n c) (hg : s ≠ g) (i : Nat) (v : Value) : Src (w.setCell ⟨g, i, none⟩ v) s a n c := by
  obtain ⟨j, h, hO, h1, h2, h3, h4⟩ := h
  exact ⟨j, h, hO.far (by simpa using hg) _, h1, h2, h3, h4⟩
theorem Src.setRow {w : World} {s n c g : Nat} {a : Option Addr} (h : Src w s a n c) (hg : s ≠ g) (cs : Array Value) : Src (w.setRow g cs) s a n c := by
  obtain ⟨j, h, hO, h1, h2, h3, h4⟩ := h
  exact ⟨j, h, hO.farRow hg _, h1, h2, h3, h4⟩

set_option maxHeartbeats 4000000 in
set_option maxRecDepth 100000 in
theorem drawMono_c {w : World} {s n c B : Nat} {a : Option Addr} {va : Option Addr} {vn vc : Nat} {zs : List Int} (hI : IL w B (.slice va vn vc) zs) (hlen : zs.length ≤ 9) (hz : ∀ z ∈ zs, -1 ≤ z ∧ z ≤ 13) (hsB : s < B) (hS : Src w s a n c) (hC : Code w s a n) (hn : n ≤ 1048576) :
    Calls Try.prog 34 #[.pointer (some ⟨s, 0, none⟩), .slice va vn vc] w fun e w' => ∃ m, e = .returned (monoV m) ∧ IsMono m ∧ Src w' s a n c ∧ Fr s w w' := by
  have hvn := hI.len
  have hsw := hS.lt
  have HVN := Lib.hid hvn
  have HSW := Lib.hid hsw
  have HI := Lib.hid hI
  have HC := Lib.hid hC
  have h4 : Own ((w.alloc (.cells #[.int .u8 0, .int .u8 0, .int .u8 0, .int .u8 0, .int .u8 0, .int .u8 0, .int .u8 0, .int .u8 0] 26)).alloc (.cells #[.int .u8 0, .int .u8 0, .int .u8 0, .int .u8 0, .int .u8 0, .int .u8 0, .int .u8 0, .int .u8 0] 26)) w.heap.size 26 (mcells nul8).toArray := (Own.new w 26 (mcells nul8).toArray).alloc (.cells #[.int .u8 0, .int .u8 0, .int .u8 0, .int .u8 0, .int .u8 0, .int .u8 0, .int .u8 0, .int .u8 0] 26)
  have h5 : Own ((w.alloc (.cells #[.int .u8 0, .int .u8 0, .int .u8 0, .int .u8 0, .int .u8 0, .int .u8 0, .int .u8 0, .int .u8 0] 26)).alloc (.cells #[.int .u8 0, .int .u8 0, .int .u8 0, .int .u8 0, .int .u8 0, .int .u8 0, .int .u8 0, .int .u8 0] 26)) (w.heap.size + 1) 26 (mcells nul8).toArray := by
    have := Own.new (w.alloc (.cells #[.int .u8 0, .int .u8 0, .int .u8 0, .int .u8 0, .int .u8 0, .int .u8 0, .int .u8 0, .int .u8 0] 26)) 26 (mcells nul8).toArray
    rwa [size_alloc] at this
  have hSa := (hS.alloc (.cells #[.int .u8 0, .int .u8 0, .int .u8 0, .int .u8 0, .int .u8 0, .int .u8 0, .int .u8 0, .int .u8 0] 26)).alloc (.cells #[.int .u8 0, .int .u8 0, .int .u8 0, .int .u8 0, .int .u8 0, .int .u8 0, .int .u8 0, .int .u8 0] 26)
  have hFa := ((Fr.refl s w).alloc (.cells #[.int .u8 0, .int .u8 0, .int .u8 0, .int .u8 0, .int .u8 0, .int .u8 0, .int .u8 0, .int .u8 0] 26)).alloc (.cells #[.int .u8 0, .int .u8 0, .int .u8 0, .int .u8 0, .int .u8 0, .int .u8 0, .int .u8 0, .int .u8 0] 26)
  clear hvn hsw hI hC hS
  go_enter Try.func34, Try.ntmps34
  go_upto_region 2 with fail
  generalize (w.alloc (.cells #[.int .u8 0, .int .u8 0, .int .u8 0, .int .u8 0, .int .u8 0, .int .u8 0, .int .u8 0, .int .u8 0] 26)).alloc (.cells #[.int .u8 0, .int .u8 0, .int .u8 0, .int .u8 0, .int .u8 0, .int .u8 0, .int .u8 0, .int .u8 0] 26) = w1 at *
  generalize hg4 : w.heap.size = g4 at *
  have HG4 := Lib.hid hg4
  clear hg4
  go_wp2_with fail
  go_loopw [6] (fun y wr => ∃ (k : Nat) (m : List Int), k ≤ zs.length ∧ k ≤ 8 ∧ y = .int .i64 k ∧ IsMono m ∧ Own wr g4 26 (mcells nul8).toArray ∧ Own wr (g4 + 1) 26 (mcells m).toArray ∧ Src wr s a n c ∧ Fr s w wr) (fun y _ => 8 - (intOf y).toNat)
  case atStart => exact ⟨0, nul8, Nat.zero_le _, Nat.zero_le _, rfl, nul_mono, h4, h5, hSa, hFa⟩
  case round =>
    clear h4 h5 hSa hFa
    obtain ⟨k, m, hk, hk8, rfl, hm, h4, h5, hS, hF⟩ := hrel
    have hC := HC.out.keep hF
    by_cases hkn : k < zs.length
    · by_cases hk9 : k < 8
      · have hIk := (HI.out.keep hF hsB).ints
        obtain ⟨b, off, x, rfl, hbl, hcx, hx⟩ := hIk.at_ (show k < vn by rw [HVN.out]; exact hkn)
        have hkv : (k : Int) < (vn : Int) := by rw [HVN.out]; omega
        have hk9i : (k : Int) < 8 := by omega
        have HCN := Lib.hid hn
        clear hIk hbl
        cases ho : odd x with
        | true =>
          have hq : (x.tmod 2 != 0) = true := by rw [odd_bne]; exact ho
          clear ho
          go_wp2_with fail
          refine (next_c 2 (by omega) hS hC hn).mono ?_
          rintro e w3 ⟨r, rfl, hr, hS3, hF3⟩
          have hrb : 0 ≤ r ∧ r < 2 := ⟨hr.1, hr.2.1 (by omega)⟩
          have hrw : IntKind.u8.wrap r = r := IntWalk.u8_in _ (by omega)
          have hne4 : g4 ≠ s := by have := HSW.out; omega
          have hne5 : g4 + 1 ≠ s := by have := HSW.out; omega
          have h43 := hF3.own h4 hne4
          have h53 := hF3.own h5 hne5
          have hFF := hF.trans hF3
          have hf := h53.frozen k
          obtain ⟨ov, hov⟩ := h53.has (i := k) (by simp [mcells_length, hm.1]; omega)
          have h44 := h43.far (p := ⟨g4 + 1, k, none⟩) (by simp) (.int .u8 r)
          have h54 := h53.mset (i := k) (y := r)
          have hS4 := hS3.set (g := g4 + 1) (by omega) k (.int .u8 r)
          have hF4 := hFF.setNew (g := g4 + 1) (by rw [HG4.out]; omega) k (.int .u8 r)
          clear hr hS hC hF hF3 hcx h4 h5 hFF h43 h53 hS3
          go_wp2_with fail
          go_roundw
          case rel => exact ⟨k + 1, m.set k r, by omega, by omega, by go_num, mset hm hrb.1 (by omega), h44, h54, hS4, hF4⟩
          case measure => simp [intOf]; omega
        | false =>
          have hq : (x.tmod 2 != 0) = false := by rw [odd_bne]; exact ho
          clear ho
          go_wp2_with fail
          refine (next_c 5 (by omega) hS hC hn).mono ?_
          rintro e w2 ⟨r, rfl, hr, hS2, hF2⟩
          have hrb : 0 ≤ r ∧ r < 5 := ⟨hr.1, hr.2.1 (by omega)⟩
          have hne4 : g4 ≠ s := by have := HSW.out; omega
          have hne5 : g4 + 1 ≠ s := by have := HSW.out; omega
          have h42 := (hF2.own h4 hne4).alloc (.cells #[.int .i64 0, .int .i64 0, .int .i64 1, .int .i64 2, .int .i64 r] 2)
          have h52 := (hF2.own h5 hne5).alloc (.cells #[.int .i64 0, .int .i64 0, .int .i64 1, .int .i64 2, .int .i64 r] 2)
          have hFa := (hF.trans hF2).alloc (.cells #[.int .i64 0, .int .i64 0, .int .i64 1, .int .i64 2, .int .i64 r] 2)
          have hCa := (hC.keep hF2).alloc (.cells #[.int .i64 0, .int .i64 0, .int .i64 1, .int .i64 2, .int .i64 r] 2)
          have hSa := hS2.alloc (.cells #[.int .i64 0, .int .i64 0, .int .i64 1, .int .i64 2, .int .i64 r] 2)
          have hG := Own.new w2 2 #[.int .i64 0, .int .i64 0, .int .i64 1, .int .i64 2, .int .i64 r]
          have hne : w2.heap.size ≠ s := by have := hS2.lt; omega
          have HNE := Lib.hid hne
          clear hr hS hC hF hF2 hcx h4 h5 hS2 hne
          go_wp2_with fail
          generalize w2.alloc (.cells #[.int .i64 0, .int .i64 0, .int .i64 1, .int .i64 2, .int .i64 r] 2) = wa at *
          refine (pick_c (m := 5) (zs := [0, 0, 1, 2, r]) rfl (by omega) (by omega) hG HNE.out hSa hCa hn).mono ?_
          rintro e w3 ⟨y, rfl, hy, hS3, hF3⟩
          have hyb : 0 ≤ y ∧ y ≤ 20 := by
            simp only [List.mem_cons, List.not_mem_nil, or_false] at hy
            omega
          have hrw : IntKind.u8.wrap y = y := IntWalk.u8_in _ (by omega)
          have h43 := hF3.own h42 hne4
          have h53 := hF3.own h52 hne5
          have hFF := hFa.trans hF3
          have hf := h53.frozen k
          obtain ⟨ov, hov⟩ := h53.has (i := k) (by simp [mcells_length, hm.1]; omega)
          have h44 := h43.far (p := ⟨g4 + 1, k, none⟩) (by simp) (.int .u8 y)
          have h54 := h53.mset (i := k) (y := y)
          have hS4 := hS3.set (g := g4 + 1) (by omega) k (.int .u8 y)
          have hF4 := hFF.setNew (g := g4 + 1) (by rw [HG4.out]; omega) k (.int .u8 y)
          clear hy hSa hCa hFa hF3 h42 h52 hG hFF h43 h53 hS3
          go_wp2_with fail
          go_roundw
          case rel => exact ⟨k + 1, m.set k y, by omega, by omega, by go_num, mset hm hyb.1 (by omega), h44, h54, hS4, hF4⟩
          case measure => simp [intOf]; omega
      · have hkv : (k : Int) < (vn : Int) := by rw [HVN.out]; omega
        have hk9i : ¬ (k : Int) < 8 := by omega
        clear hkn hk9
        have hlt : (0 : Int) < 8 := by omega
        clear hlt
        by_cases hl0 : 0 < zs.length
        · have hlv : (0 : Int) < (vn : Int) := by rw [HVN.out]; omega
          go_wp2_with fail
          refine (next_c 24 (by omega) hS hC hn).mono ?_
          rintro e w3 ⟨r, rfl, hr, hS3, hF3⟩
          clear hr
          have hne4 : g4 ≠ s := by have := HSW.out; omega
          have hne5 : g4 + 1 ≠ s := by have := HSW.out; omega
          have h43 := hF3.own h4 hne4
          have h53 := hF3.own h5 hne5
          have hFF := hF.trans hF3
          have hC3 := hC.keep hF3
          clear h4 h5 hS hF hC hF3
          by_cases hr0 : r = 0
          · subst hr0
            go_wp2_with fail
            all_goals (
              refine (next_c _ (by omega) hS3 hC3 hn).mono ?_
              rintro e w4 ⟨r2, rfl, hr2, hS4, hF4⟩
              have hrb : 0 ≤ r2 ∧ r2 < 8 := ⟨hr2.1, by have := hr2.2.1 (by omega); omega⟩
              clear hr2
              obtain ⟨j, rfl⟩ : ∃ j : Nat, r2 = j := ⟨r2.toNat, by omega⟩
              have hj8 : j < 8 := by omega
              have hjl : (j : Int) < 8 := by omega
              have hC4 := (hC3.keep hF4).alloc (.cells #[.int .i64 11, .int .i64 20, .int .i64 21, .int .i64 2] 2)
              have h44 := (hF4.own h43 hne4).alloc (.cells #[.int .i64 11, .int .i64 20, .int .i64 21, .int .i64 2] 2)
              have h54 := (hF4.own h53 hne5).alloc (.cells #[.int .i64 11, .int .i64 20, .int .i64 21, .int .i64 2] 2)
              have hF4' := (hFF.trans hF4).alloc (.cells #[.int .i64 11, .int .i64 20, .int .i64 21, .int .i64 2] 2)
              have hS4' := hS4.alloc (.cells #[.int .i64 11, .int .i64 20, .int .i64 21, .int .i64 2] 2)
              have hG := Own.new w4 2 #[.int .i64 11, .int .i64 20, .int .i64 21, .int .i64 2]
              have hne : w4.heap.size ≠ s := by have := hS4.lt; omega
              have HNE := Lib.hid hne
              clear h43 h53 hFF hC3 hS3 hF4 hS4 hne
              go_wp2_with fail
              generalize w4.alloc (.cells #[.int .i64 11, .int .i64 20, .int .i64 21, .int .i64 2] 2) = wa at *
              refine (pick_c (m := 4) (zs := [11, 20, 21, 2]) rfl (by omega) (by omega) hG HNE.out hS4' hC4 hn).mono ?_
              rintro e w5 ⟨y, rfl, hy, hS5, hF5⟩
              have hyb : 0 ≤ y ∧ y ≤ 21 := by
                simp only [List.mem_cons, List.not_mem_nil, or_false] at hy
                omega
              have hyw : IntKind.u8.wrap y = y := IntWalk.u8_in _ (by omega)
              have h45 := hF5.own h44 hne4
              have h55 := hF5.own h54 hne5
              have hFF := hF4'.trans hF5
              have hf := h55.frozen j
              obtain ⟨ov, hov⟩ := h55.has (i := j) (by simp [mcells_length, hm.1]; omega)
              have h46 := h45.far (p := ⟨g4 + 1, j, none⟩) (by simp) (.int .u8 y)
              have h56 := h55.mset (i := j) (y := y)
              have hS6 := hS5.set (g := g4 + 1) (by omega) j (.int .u8 y)
              have hF6 := hFF.setNew (g := g4 + 1) (by rw [HG4.out]; omega) j (.int .u8 y)
              have hm6 := mset (i := j) hm hyb.1 (show y ≤ 255 by omega)
              clear hy hS4' hC4 hF4' hF5 h44 h54 hG hFF h45 h55 hS5
              go_upto_region 10 with fail
              clear hf hov
              generalize m.set j y = m6 at *
              generalize w5.setCell ⟨g4 + 1, j, none⟩ (.int .u8 y) = w6 at *
              go_wp2_with (first
                | (refine wpList_load_row rfl 26 (.tmp 5) rfl _ rfl 26 (mcells m6).toArray (0, 0) _ h56 Try.underlying26 rfl (by rw [msize hm6]; exact Try.info_mono) ?_)
                | (refine wpList_store_row rfl 26 (.tmp 4) (.tmp 56) rfl _ (mcells m6).toArray rfl rfl 26 _ h46 (by rw [msize hm6]; exact Try.info_mono) (by rw [msize hm6, msize nul_mono]) (by simp [mcells, Value.oneCell']) ?_))
              exact bodyPost_ret (results_cell_row rfl _ _ g4 26 (mcells m6).toArray (0, 0) _ rfl (h46.setRow _) Try.underlying26 rfl (by rw [msize hm6]; exact Try.info_mono)) rfl ⟨m6, rfl, hm6, hS6.setRow (by have := HSW.out; omega) _, hF6.setRowNew (by have := HG4.out; omega) _⟩)
          · have hrb : (r == 0) = false := by simpa using hr0
            go_wp2_with (first
              | (refine wpList_load_row rfl 26 (.tmp 5) rfl _ rfl 26 (mcells m).toArray (0, 0) _ h53 Try.underlying26 rfl (by rw [msize hm]; exact Try.info_mono) ?_)
              | (refine wpList_store_row rfl 26 (.tmp 4) (.tmp 56) rfl _ (mcells m).toArray rfl rfl 26 _ h43 (by rw [msize hm]; exact Try.info_mono) (by rw [msize hm, msize nul_mono]) (by simp [mcells, Value.oneCell']) ?_))
            exact bodyPost_ret (results_cell_row rfl _ _ g4 26 (mcells m).toArray (0, 0) _ rfl (h43.setRow _) Try.underlying26 rfl (by rw [msize hm]; exact Try.info_mono)) rfl ⟨m, rfl, hm, hS3.setRow (by have := HSW.out; omega) _, hFF.setRowNew (by have := HG4.out; omega) _⟩
        · exfalso
          omega
    · have hkv : ¬ (k : Int) < (vn : Int) := by rw [HVN.out]; omega
      clear hkn
      have hlt : (0 : Int) < 8 := by omega
      clear hlt
      by_cases hl0 : 0 < zs.length
      · have hlv : (0 : Int) < (vn : Int) := by rw [HVN.out]; omega
        go_wp2_with fail
        refine (next_c 24 (by omega) hS hC hn).mono ?_
        rintro e w3 ⟨r, rfl, hr, hS3, hF3⟩
        clear hr
        have hne4 : g4 ≠ s := by have := HSW.out; omega
        have hne5 : g4 + 1 ≠ s := by have := HSW.out; omega
        have h43 := hF3.own h4 hne4
        have h53 := hF3.own h5 hne5
        have hFF := hF.trans hF3
        have hC3 := hC.keep hF3
        clear h4 h5 hS hF hC hF3
        by_cases hr0 : r = 0
        · subst hr0
          go_wp2_with fail
          all_goals (
            refine (next_c _ (by omega) hS3 hC3 hn).mono ?_
            rintro e w4 ⟨r2, rfl, hr2, hS4, hF4⟩
            have hrb : 0 ≤ r2 ∧ r2 < 8 := ⟨hr2.1, by have := hr2.2.1 (by omega); omega⟩
            clear hr2
            obtain ⟨j, rfl⟩ : ∃ j : Nat, r2 = j := ⟨r2.toNat, by omega⟩
            have hj8 : j < 8 := by omega
            have hjl : (j : Int) < 8 := by omega
            have hC4 := (hC3.keep hF4).alloc (.cells #[.int .i64 11, .int .i64 20, .int .i64 21, .int .i64 2] 2)
            have h44 := (hF4.own h43 hne4).alloc (.cells #[.int .i64 11, .int .i64 20, .int .i64 21, .int .i64 2] 2)
            have h54 := (hF4.own h53 hne5).alloc (.cells #[.int .i64 11, .int .i64 20, .int .i64 21, .int .i64 2] 2)
            have hF4' := (hFF.trans hF4).alloc (.cells #[.int .i64 11, .int .i64 20, .int .i64 21, .int .i64 2] 2)
            have hS4' := hS4.alloc (.cells #[.int .i64 11, .int .i64 20, .int .i64 21, .int .i64 2] 2)
            have hG := Own.new w4 2 #[.int .i64 11, .int .i64 20, .int .i64 21, .int .i64 2]
            have hne : w4.heap.size ≠ s := by have := hS4.lt; omega
            have HNE := Lib.hid hne
            clear h43 h53 hFF hC3 hS3 hF4 hS4 hne
            go_wp2_with fail
            generalize w4.alloc (.cells #[.int .i64 11, .int .i64 20, .int .i64 21, .int .i64 2] 2) = wa at *
            refine (pick_c (m := 4) (zs := [11, 20, 21, 2]) rfl (by omega) (by omega) hG HNE.out hS4' hC4 hn).mono ?_
            rintro e w5 ⟨y, rfl, hy, hS5, hF5⟩
            have hyb : 0 ≤ y ∧ y ≤ 21 := by
              simp only [List.mem_cons, List.not_mem_nil, or_false] at hy
              omega
            have hyw : IntKind.u8.wrap y = y := IntWalk.u8_in _ (by omega)
            have h45 := hF5.own h44 hne4
            have h55 := hF5.own h54 hne5
            have hFF := hF4'.trans hF5
            have hf := h55.frozen j
            obtain ⟨ov, hov⟩ := h55.has (i := j) (by simp [mcells_length, hm.1]; omega)
            have h46 := h45.far (p := ⟨g4 + 1, j, none⟩) (by simp) (.int .u8 y)
            have h56 := h55.mset (i := j) (y := y)
            have hS6 := hS5.set (g := g4 + 1) (by omega) j (.int .u8 y)
            have hF6 := hFF.setNew (g := g4 + 1) (by rw [HG4.out]; omega) j (.int .u8 y)
            have hm6 := mset (i := j) hm hyb.1 (show y ≤ 255 by omega)
            clear hy hS4' hC4 hF4' hF5 h44 h54 hG hFF h45 h55 hS5
            go_upto_region 10 with fail
            clear hf hov
            generalize m.set j y = m6 at *
            generalize w5.setCell ⟨g4 + 1, j, none⟩ (.int .u8 y) = w6 at *
            go_wp2_with (first
              | (refine wpList_load_row rfl 26 (.tmp 5) rfl _ rfl 26 (mcells m6).toArray (0, 0) _ h56 Try.underlying26 rfl (by rw [msize hm6]; exact Try.info_mono) ?_)
              | (refine wpList_store_row rfl 26 (.tmp 4) (.tmp 56) rfl _ (mcells m6).toArray rfl rfl 26 _ h46 (by rw [msize hm6]; exact Try.info_mono) (by rw [msize hm6, msize nul_mono]) (by simp [mcells, Value.oneCell']) ?_))
            exact bodyPost_ret (results_cell_row rfl _ _ g4 26 (mcells m6).toArray (0, 0) _ rfl (h46.setRow _) Try.underlying26 rfl (by rw [msize hm6]; exact Try.info_mono)) rfl ⟨m6, rfl, hm6, hS6.setRow (by have := HSW.out; omega) _, hF6.setRowNew (by have := HG4.out; omega) _⟩)
        · have hrb : (r == 0) = false := by simpa using hr0
          go_wp2_with (first
            | (refine wpList_load_row rfl 26 (.tmp 5) rfl _ rfl 26 (mcells m).toArray (0, 0) _ h53 Try.underlying26 rfl (by rw [msize hm]; exact Try.info_mono) ?_)
            | (refine wpList_store_row rfl 26 (.tmp 4) (.tmp 56) rfl _ (mcells m).toArray rfl rfl 26 _ h43 (by rw [msize hm]; exact Try.info_mono) (by rw [msize hm, msize nul_mono]) (by simp [mcells, Value.oneCell']) ?_))
          exact bodyPost_ret (results_cell_row rfl _ _ g4 26 (mcells m).toArray (0, 0) _ rfl (h43.setRow _) Try.underlying26 rfl (by rw [msize hm]; exact Try.info_mono)) rfl ⟨m, rfl, hm, hS3.setRow (by have := HSW.out; omega) _, hFF.setRowNew (by have := HG4.out; omega) _⟩
      · have hlv : ¬ (0 : Int) < (vn : Int) := by rw [HVN.out]; omega
        go_wp2_with (first
          | (refine wpList_load_row rfl 26 (.tmp 5) rfl _ rfl 26 (mcells m).toArray (0, 0) _ h5 Try.underlying26 rfl (by rw [msize hm]; exact Try.info_mono) ?_)
          | (refine wpList_store_row rfl 26 (.tmp 4) (.tmp 56) rfl _ (mcells m).toArray rfl rfl 26 _ h4 (by rw [msize hm]; exact Try.info_mono) (by rw [msize hm, msize nul_mono]) (by simp [mcells, Value.oneCell']) ?_))
        exact bodyPost_ret (results_cell_row rfl _ _ g4 26 (mcells m).toArray (0, 0) _ rfl (h4.setRow _) Try.underlying26 rfl (by rw [msize hm]; exact Try.info_mono)) rfl ⟨m, rfl, hm, hS.setRow (by have := HSW.out; omega) _, hF.setRowNew (by have := HG4.out; omega) _⟩

end Go.Proofs.Ytcafccfoeednnaa
