/- MultiplyMonomials of the program and of its model: the same monomial, sign and code for every list of numbers and two arrays of eight bytes. -/
import Derived.Test.YtcafccfoeednnaaProd
import Derived.Deep.DeepCutAuto
namespace Go.Proofs.Ytcafccfoeednnaa
open Go.RowKit Go.Deep

def mxTo (m : List Int) : Nat → Int
  | 0 => m.getD 0 0
  | j + 1 => max (mxTo m j) (m.getD (j + 1) 0)
def within (m : List Int) : Bool := m.all fun x => decide (x ≤ 20)

theorem mxTo_le (m : List Int) (j : Nat) (B : Int) : mxTo m j ≤ B ↔ ∀ i, i ≤ j → m.getD i 0 ≤ B := by
  induction j with
  | zero => simp [mxTo]
  | succ j ih =>
    simp only [mxTo]
    rw [Int.max_le, ih]
    constructor
    · rintro ⟨h1, h2⟩ i hi
      by_cases h : i = j + 1
      · subst h; exact h2
      · exact h1 i (by omega)
    · intro h
      exact ⟨fun i hi => h i (by omega), h (j + 1) (Nat.le_refl _)⟩
theorem within_mx {m : List Int} (h : m.length = 8) : decide (mxTo m 7 ≤ 20) = within m := by
  rw [Bool.eq_iff_iff, decide_eq_true_eq, mxTo_le, within, List.all_eq_true]
  constructor
  · intro hh x hx
    obtain ⟨i, hi, rfl⟩ := List.mem_iff_getElem.1 hx
    have := hh i (by omega)
    simpa [List.getD, hi] using this
  · intro hh i hi
    have hl : i < m.length := by omega
    have := hh m[i] (List.getElem_mem hl)
    simpa [List.getD, hl] using this
theorem mxTo_bd {m : List Int} (h : IsMono m) (j : Nat) : 0 ≤ mxTo m j ∧ mxTo m j ≤ 255 := by
  induction j with
  | zero => exact getD_mono h 0
  | succ j ih =>
    have := getD_mono h (j + 1)
    simp only [mxTo]
    omega
theorem mxTo_succ {m : List Int} {j : Nat} {y : Int} (hy : m[j + 1]? = some y) : mxTo m (j + 1) = max (mxTo m j) y := by
  simp [mxTo, List.getD, hy]

theorem Max_c {w : World} {g c : Nat} {m : List Int} (hm : IsMono m) (hO : Own w g 26 (mcells m).toArray) :
    Calls Try.prog 62 #[.slice (some ⟨g, 0, none⟩) 8 c] w fun e w' => e = .returned (.int .u8 (mxTo m 7)) ∧ w = w' := by
  obtain ⟨y0, -, -, hy0, HY0⟩ := mono_at hm (show 0 < 8 by omega)
  have c0 := hO.cell 0
  rw [List.getElem?_toArray, hy0] at c0
  go_enter Try.func62, Try.ntmps62
  go_wp2
  go_loop [3, 4] (fun v i => ∃ j : Nat, j ≤ 7 ∧ i = .int .i64 ((j : Int) + 1) ∧ v = .int .u8 (mxTo m j)) (fun _ i => 8 - (intOf i).toNat)
  case atStart => exact ⟨0, by omega, rfl, by simp [mxTo, List.getD, HY0.out]⟩
  case round =>
    obtain ⟨j, hj, rfl, rfl⟩ := hrel
    by_cases hlt : j < 7
    · obtain ⟨y, h0, h1, hy, HY⟩ := mono_at hm (show j + 1 < 8 by omega)
      have cj := hO.cell (j + 1)
      rw [List.getElem?_toArray, hy] at cj
      go_wp2
      go_round
      case rel => exact ⟨j + 1, by omega, by go_num, by rw [mxTo_succ HY.out]; congr 1; split <;> omega⟩
      case measure => simp [intOf] <;> omega
    · have : j = 7 := by omega
      subst this
      go_wp2
      go_ret
      exact ⟨rfl, rfl⟩

theorem withinPowers_c {w : World} {m : List Int} (hm : IsMono m) :
    Calls Try.prog 36 #[monoV m] w fun e w' => e = .returned (.bool (within m)) ∧ Below w.heap.size w w' := by
  have hW := Lib.hid (within_mx hm.1)
  unfold monoV
  go_enter Try.func36, Try.ntmps36
  go_wp2_with (go_at_call 62; refine (Max_c hm (Own.new w 26 (mcells m).toArray)).mono ?_; rintro e w' ⟨rfl, rfl⟩)
  go_ret
  exact ⟨ret_b (by rw [← hW.out]), below_alloc1 w _⟩

/-- The product is a monomial for the degrees just if no exponent is too great. -/
theorem sum_ok {zs m k : List Int} (F : Fit zs m k) (hn : isNul zs m k = false) : monoOk zs (addM m k) = within (addM m k) := by
  rw [Bool.eq_iff_iff]
  have hl := addM_len F.hm.1 F.hk.1
  constructor
  · intro h
    rw [within, List.all_eq_true]
    intro x hx
    obtain ⟨i, hi, rfl⟩ := List.mem_iff_getElem.1 hx
    have := mono20 h (i := i) (by omega) (List.getElem?_eq_getElem hi)
    simpa using this
  · intro h
    rw [monoOk, List.all_eq_true]
    intro i hi
    have hi8 : i < 8 := by simpa using hi
    obtain ⟨y, hy0, -, -, HY⟩ := mono_at F.hm hi8
    obtain ⟨z, hz0, -, -, HZ⟩ := mono_at F.hk hi8
    have hA := addM_get HY.out HZ.out
    rw [fits_eq hA]
    simp only [decide_eq_true_eq]
    cases hz : zs[i]? with
    | none =>
      have t1 := tail0 F.hm F.om i (List.getElem?_eq_none_iff.1 hz) hi8
      have t2 := tail0 F.hk F.ok i (List.getElem?_eq_none_iff.1 hz) hi8
      rw [HY.out] at t1
      rw [HZ.out] at t2
      injection t1 with t1
      injection t2 with t2
      rw [capAt, hz, t1, t2]
      decide
    | some d =>
      rw [capAt, hz]
      cases ho : odd d with
      | true =>
        have hb : bad3 (d, y, z) = false := by
          have := hn
          rw [isNul, List.any_eq_false] at this
          have := this (d, y, z) (List.mem_of_getElem? (trip_get hz HY.out HZ.out))
          simpa using this
        simp only [bad3, ho, Bool.true_and, decide_eq_false_iff_not] at hb
        simp; omega
      | false =>
        rw [within, List.all_eq_true] at h
        have := h _ (List.mem_of_getElem? hA)
        simpa [ho] using this

/-- What both answer. -/
def okM (zs m k : List Int) : Bool := degsOk zs && monoOk zs m && monoOk zs k
def mulM (zs m k : List Int) : List Int := if okM zs m k && (isNul zs m k || within (addM m k)) then joinM zs m k else nul8
def mulS (zs m k : List Int) : Int := if okM zs m k && (isNul zs m k || within (addM m k)) then joinS zs m k else 0
def mulE (zs m k : List Int) : Int := if okM zs m k then (if isNul zs m k || within (addM m k) then 0 else 3) else 1

theorem okM_fit {zs m k : List Int} (hm : IsMono m) (hk : IsMono k) (h : okM zs m k = true) : Fit zs m k := by
  simp only [okM, Bool.and_eq_true] at h
  exact ⟨degsOk_len h.1.1, hm, hk, h.1.2, h.2⟩

theorem own3 (w : World) (t : TypeId) (A B C : Array Value) :
    Own (((w.alloc (.cells A t)).alloc (.cells B t)).alloc (.cells C t)) w.heap.size t A ∧
    Own (((w.alloc (.cells A t)).alloc (.cells B t)).alloc (.cells C t)) (w.heap.size + 1) t B ∧
    Own (((w.alloc (.cells A t)).alloc (.cells B t)).alloc (.cells C t)) (w.heap.size + 1 + 1) t C ∧
    Below w.heap.size w (((w.alloc (.cells A t)).alloc (.cells B t)).alloc (.cells C t)) := by
  have o1 := ((Own.new w t A).alloc (.cells B t)).alloc (.cells C t)
  have o2 := (Own.new (w.alloc (.cells A t)) t B).alloc (.cells C t)
  have o3 := Own.new ((w.alloc (.cells A t)).alloc (.cells B t)) t C
  rw [size_alloc] at o2
  rw [size_alloc, size_alloc] at o3
  exact ⟨o1, o2, o3, below_then (below_then (below_alloc1 w _) (below_alloc1 _ _)) (below_alloc1 _ _)⟩

theorem okM_no1 {zs m k : List Int} (h : degsOk zs = false) : okM zs m k = false := by simp [okM, h]
theorem okM_no2 {zs m k : List Int} (h : monoOk zs m = false) : okM zs m k = false := by simp [okM, h]
theorem okM_no3 {zs m k : List Int} (h : monoOk zs k = false) : okM zs m k = false := by simp [okM, h]
theorem okM_yes {zs m k : List Int} (h : degsOk zs = true) (h1 : monoOk zs m = true) (h2 : monoOk zs k = true) : okM zs m k = true := by simp [okM, h, h1, h2]
theorem joinM_mono {zs m k : List Int} (F : Fit zs m k) : IsMono (joinM zs m k) := by
  unfold joinM
  split
  · exact ⟨rfl, by decide⟩
  · refine ⟨addM_len F.hm.1 F.hk.1, fun x hx => ?_⟩
    obtain ⟨i, hi, rfl⟩ := List.mem_iff_getElem.1 hx
    have hi8 : i < 8 := by rw [addM_len F.hm.1 F.hk.1] at hi; exact hi
    obtain ⟨y, hy0, -, -, HY⟩ := mono_at F.hm hi8
    obtain ⟨z, hz0, -, -, HZ⟩ := mono_at F.hk hi8
    have hA := addM_get HY.out HZ.out
    rw [List.getElem?_eq_getElem hi] at hA
    injection hA with hA
    have := mono20 F.om hi8 HY.out
    have := mono20 F.ok hi8 HZ.out
    omega
theorem joinS_bd (zs m k : List Int) : -1 ≤ joinS zs m k ∧ joinS zs m k ≤ 1 := by
  unfold joinS
  split
  · decide
  · rcases (sgn3_pm (trip zs m k)).1 with h | h <;> rw [h] <;> decide
theorem joinS_ne {zs m k : List Int} (h : isNul zs m k = false) : joinS zs m k ≠ 0 := by
  unfold joinS
  rw [h]
  rcases (sgn3_pm (trip zs m k)).1 with h | h <;> simp [h]
theorem nul_within : within nul8 = true := by decide

set_option maxRecDepth 100000 in
theorem MulS1 {w : World} {a : Option Addr} {n : Nat} {zs m k : List Int} (c : Nat) (h : Ints w a n zs) (hn : n ≤ 1048576) (hm : IsMono m) (hk : IsMono k) (hd : degsOk zs = false) :
    Calls Try.prog 9 #[.slice a n c, monoV m, monoV k] w fun e w' => e = .returned (.tuple #[monoV (mulM zs m k), .int .i64 (mulS zs m k), .int .i64 (mulE zs m k)]) ∧ Below w.heap.size w w' := by
  have HIm := Lib.hid (show (Try.prog.info? 26).map (·.size) = some (mcells m).toArray.size by rw [msize hm]; exact Try.info_mono)
  have HIk := Lib.hid (show (Try.prog.info? 26).map (·.size) = some (mcells k).toArray.size by rw [msize hk]; exact Try.info_mono)
  unfold monoV
  go_enter Try.func9, Try.ntmps9
  go_wp2_with fail
  rw [← nul8_cells]
  obtain ⟨o4, o5, o6, hb⟩ := own3 w 26 (mcells m).toArray (mcells k).toArray (mcells nul8).toArray
  have hI := h.keep hb
  generalize ((w.alloc (.cells (mcells m).toArray 26)).alloc (.cells (mcells k).toArray 26)).alloc (.cells (mcells nul8).toArray 26) = w0 at *
  have HX := Lib.hid (okM_no1 (m := m) (k := k) hd)
  go_wp2_with (first | (go_at_call 37; refine (l01Degrees_c c hI hn).mono ?_; rintro e w' ⟨rfl, rfl⟩) | (refine wpList_store_row rfl 26 (.tmp 6) (.tmp 26) rfl _ (mcells nul8).toArray rfl rfl 26 _ o6 Try.info_mono rfl (mcells_one _) ?_))
  refine bodyPost_ret (results_row3 rfl _ _ (w.heap.size + 1 + 1) 26 (mcells nul8).toArray (0, 0) _ rfl (o6.setRow _) Try.underlying26 rfl Try.info_mono) rfl ⟨?_, below_setRow hb (by omega) _⟩
  rw [mulM, mulS, mulE, HX.out]; rfl

set_option maxRecDepth 100000 in
theorem MulS2 {w : World} {a : Option Addr} {n : Nat} {zs m k : List Int} (c : Nat) (h : Ints w a n zs) (hn : n ≤ 1048576) (hm : IsMono m) (hk : IsMono k) (hd : degsOk zs = true) (h1 : monoOk zs m = false) :
    Calls Try.prog 9 #[.slice a n c, monoV m, monoV k] w fun e w' => e = .returned (.tuple #[monoV (mulM zs m k), .int .i64 (mulS zs m k), .int .i64 (mulE zs m k)]) ∧ Below w.heap.size w w' := by
  have HIm := Lib.hid (show (Try.prog.info? 26).map (·.size) = some (mcells m).toArray.size by rw [msize hm]; exact Try.info_mono)
  have HIk := Lib.hid (show (Try.prog.info? 26).map (·.size) = some (mcells k).toArray.size by rw [msize hk]; exact Try.info_mono)
  unfold monoV
  go_enter Try.func9, Try.ntmps9
  go_wp2_with fail
  rw [← nul8_cells]
  obtain ⟨o4, o5, o6, hb⟩ := own3 w 26 (mcells m).toArray (mcells k).toArray (mcells nul8).toArray
  have hI := h.keep hb
  generalize ((w.alloc (.cells (mcells m).toArray 26)).alloc (.cells (mcells k).toArray 26)).alloc (.cells (mcells nul8).toArray 26) = w0 at *
  have HX := Lib.hid (okM_no2 (k := k) h1)
  go_wp2_with (first | (go_at_call 37; refine (l01Degrees_c c hI hn).mono ?_; rintro e w' ⟨rfl, rfl⟩) | (refine wpList_load_g rfl 26 (.tmp 4) rfl _ rfl 26 (mcells m).toArray (0, 0) _ o4 Try.underlying26 rfl HIm.out ?_) | (go_at_call 38; refine (l01Mono_c c hI hn hm).mono ?_; rintro e w1 ⟨rfl, hb1⟩) | (refine wpList_store_row rfl 26 (.tmp 6) (.tmp 26) rfl _ (mcells nul8).toArray rfl rfl 26 _ (o6.keep hb1 o6.lt) Try.info_mono rfl (mcells_one _) ?_))
  refine bodyPost_ret (results_row3 rfl _ _ (w.heap.size + 1 + 1) 26 (mcells nul8).toArray (0, 0) _ rfl ((o6.keep hb1 o6.lt).setRow _) Try.underlying26 rfl Try.info_mono) rfl ⟨?_, below_setRow (below_trans' hb hb1 hb.size) (by omega) _⟩
  rw [mulM, mulS, mulE, HX.out]; rfl

set_option maxRecDepth 100000 in
theorem MulS3 {w : World} {a : Option Addr} {n : Nat} {zs m k : List Int} (c : Nat) (h : Ints w a n zs) (hn : n ≤ 1048576) (hm : IsMono m) (hk : IsMono k) (hd : degsOk zs = true) (h1 : monoOk zs m = true) (h2 : monoOk zs k = false) :
    Calls Try.prog 9 #[.slice a n c, monoV m, monoV k] w fun e w' => e = .returned (.tuple #[monoV (mulM zs m k), .int .i64 (mulS zs m k), .int .i64 (mulE zs m k)]) ∧ Below w.heap.size w w' := by
  have HIm := Lib.hid (show (Try.prog.info? 26).map (·.size) = some (mcells m).toArray.size by rw [msize hm]; exact Try.info_mono)
  have HIk := Lib.hid (show (Try.prog.info? 26).map (·.size) = some (mcells k).toArray.size by rw [msize hk]; exact Try.info_mono)
  unfold monoV
  go_enter Try.func9, Try.ntmps9
  go_wp2_with fail
  rw [← nul8_cells]
  obtain ⟨o4, o5, o6, hb⟩ := own3 w 26 (mcells m).toArray (mcells k).toArray (mcells nul8).toArray
  have hI := h.keep hb
  generalize ((w.alloc (.cells (mcells m).toArray 26)).alloc (.cells (mcells k).toArray 26)).alloc (.cells (mcells nul8).toArray 26) = w0 at *
  have HX := Lib.hid (okM_no3 (m := m) h2)
  go_wp2_with (first | (go_at_call 37; refine (l01Degrees_c c hI hn).mono ?_; rintro e w' ⟨rfl, rfl⟩) | (refine wpList_load_g rfl 26 (.tmp 4) rfl _ rfl 26 (mcells m).toArray (0, 0) _ o4 Try.underlying26 rfl HIm.out ?_) | (go_at_call 38; have _t := hb1; refine (l01Mono_c c (hI.keep hb1) hn hk).mono ?_; rintro e w2 ⟨rfl, hb2⟩) | (go_at_call 38; refine (l01Mono_c c hI hn hm).mono ?_; rintro e w1 ⟨rfl, hb1⟩) | (refine wpList_load_g rfl 26 (.tmp 5) rfl _ rfl 26 (mcells k).toArray (0, 0) _ (o5.keep hb1 o5.lt) Try.underlying26 rfl HIk.out ?_) | (refine wpList_store_row rfl 26 (.tmp 6) (.tmp 26) rfl _ (mcells nul8).toArray rfl rfl 26 _ ((o6.keep hb1 o6.lt).keep hb2 (o6.keep hb1 o6.lt).lt) Try.info_mono rfl (mcells_one _) ?_))
  refine bodyPost_ret (results_row3 rfl _ _ (w.heap.size + 1 + 1) 26 (mcells nul8).toArray (0, 0) _ rfl (((o6.keep hb1 o6.lt).keep hb2 (o6.keep hb1 o6.lt).lt).setRow _) Try.underlying26 rfl Try.info_mono) rfl ⟨?_, below_setRow (below_trans' (below_trans' hb hb1 hb.size) hb2 (below_trans' hb hb1 hb.size).size) (by omega) _⟩
  rw [mulM, mulS, mulE, HX.out]; rfl

set_option maxHeartbeats 1000000 in
set_option maxRecDepth 100000 in
theorem MulS4 {w : World} {a : Option Addr} {n : Nat} {zs m k : List Int} (c : Nat) (h : Ints w a n zs) (hn : n ≤ 1048576) (hm : IsMono m) (hk : IsMono k) (hd : degsOk zs = true) (h1 : monoOk zs m = true) (h2 : monoOk zs k = true) :
    Calls Try.prog 9 #[.slice a n c, monoV m, monoV k] w fun e w' => e = .returned (.tuple #[monoV (mulM zs m k), .int .i64 (mulS zs m k), .int .i64 (mulE zs m k)]) ∧ Below w.heap.size w w' := by
  have HIm := Lib.hid (show (Try.prog.info? 26).map (·.size) = some (mcells m).toArray.size by rw [msize hm]; exact Try.info_mono)
  have HIk := Lib.hid (show (Try.prog.info? 26).map (·.size) = some (mcells k).toArray.size by rw [msize hk]; exact Try.info_mono)
  unfold monoV
  go_enter Try.func9, Try.ntmps9
  go_wp2_with fail
  rw [← nul8_cells]
  obtain ⟨o4, o5, o6, hb⟩ := own3 w 26 (mcells m).toArray (mcells k).toArray (mcells nul8).toArray
  have hI := h.keep hb
  generalize ((w.alloc (.cells (mcells m).toArray 26)).alloc (.cells (mcells k).toArray 26)).alloc (.cells (mcells nul8).toArray 26) = w0 at *
  have HX := Lib.hid (okM_yes hd h1 h2)
  have Fi := okM_fit hm hk HX.out
  have HJm := Lib.hid (joinM_mono Fi)
  have hjb := joinS_bd zs m k
  obtain ⟨jb1, jb2⟩ := hjb
  cases hnul : isNul zs m k with
  | true =>
    have hz : joinS zs m k = 0 := by rw [joinS, hnul]; rfl
    have HZ := Lib.hid hz
    have hq : (joinS zs m k != 0) = false := by simp [hz]
    clear hz
    have HNul := Lib.hid hnul
    clear hnul
    go_wp2_with (first | (refine wpList_load_row rfl 26 (.tmp 4) rfl _ rfl 26 (mcells m).toArray (0, 0) _ ((o4.keep hb1 o4.lt).keep hb2 (o4.keep hb1 o4.lt).lt) Try.underlying26 rfl HIm.out ?_) | (refine wpList_load_row rfl 26 (.tmp 5) rfl _ rfl 26 (mcells k).toArray (0, 0) _ ((o5.keep hb1 o5.lt).keep hb2 (o5.keep hb1 o5.lt).lt) Try.underlying26 rfl HIk.out ?_) | (go_at_call 39; refine (l01Joined_c c ((hI.keep hb1).keep hb2) Fi).mono ?_; rintro e w3 ⟨rfl, hb3⟩) | (refine wpList_store_row rfl 26 (.tmp 9) (.tmp 32) rfl _ (mcells (joinM zs m k)).toArray rfl rfl 26 _ (Own.new w3 26 _) (by rw [msize HJm.out]; exact Try.info_mono) (by rw [msize HJm.out]; rfl) (mcells_one _) ?_; have o9 := (Own.new w3 26 #[Value.int .u8 0, .int .u8 0, .int .u8 0, .int .u8 0, .int .u8 0, .int .u8 0, .int .u8 0, .int .u8 0]).setRow (mcells (joinM zs m k)).toArray; have hb4 := below_setRow (below_alloc1 w3 (.cells #[Value.int .u8 0, .int .u8 0, .int .u8 0, .int .u8 0, .int .u8 0, .int .u8 0, .int .u8 0, .int .u8 0] 26)) (Nat.le_refl _) (mcells (joinM zs m k)).toArray; generalize (w3.alloc (.cells #[Value.int .u8 0, .int .u8 0, .int .u8 0, .int .u8 0, .int .u8 0, .int .u8 0, .int .u8 0, .int .u8 0] 26)).setRow w3.heap.size (mcells (joinM zs m k)).toArray = w4 at *) | (go_at_call 37; refine (l01Degrees_c c hI hn).mono ?_; rintro e w' ⟨rfl, rfl⟩) | (refine wpList_load_g rfl 26 (.tmp 4) rfl _ rfl 26 (mcells m).toArray (0, 0) _ o4 Try.underlying26 rfl HIm.out ?_) | (go_at_call 38; have _t := hb1; refine (l01Mono_c c (hI.keep hb1) hn hk).mono ?_; rintro e w2 ⟨rfl, hb2⟩) | (go_at_call 38; refine (l01Mono_c c hI hn hm).mono ?_; rintro e w1 ⟨rfl, hb1⟩) | (refine wpList_load_g rfl 26 (.tmp 5) rfl _ rfl 26 (mcells k).toArray (0, 0) _ (o5.keep hb1 o5.lt) Try.underlying26 rfl HIk.out ?_) | (refine wpList_load_row rfl 26 (.tmp 9) rfl _ rfl 26 (mcells (joinM zs m k)).toArray (0, 0) _ o9 Try.underlying26 rfl (by rw [msize HJm.out]; exact Try.info_mono) ?_) | (refine wpList_store_row rfl 26 (.tmp 6) (.tmp 43) rfl _ (mcells (joinM zs m k)).toArray rfl rfl 26 _ ((((o6.keep hb1 o6.lt).keep hb2 (o6.keep hb1 o6.lt).lt).keep hb3 ((o6.keep hb1 o6.lt).keep hb2 (o6.keep hb1 o6.lt).lt).lt).keep hb4 (((o6.keep hb1 o6.lt).keep hb2 (o6.keep hb1 o6.lt).lt).keep hb3 ((o6.keep hb1 o6.lt).keep hb2 (o6.keep hb1 o6.lt).lt).lt).lt) (by rw [msize HJm.out]; exact Try.info_mono) (by rw [msize HJm.out]; rfl) (mcells_one _) ?_))
    refine bodyPost_ret (results_row3 rfl _ _ (w.heap.size + 1 + 1) 26 (mcells (joinM zs m k)).toArray (0, 0) _ rfl (((((o6.keep hb1 o6.lt).keep hb2 (o6.keep hb1 o6.lt).lt).keep hb3 ((o6.keep hb1 o6.lt).keep hb2 (o6.keep hb1 o6.lt).lt).lt).keep hb4 (((o6.keep hb1 o6.lt).keep hb2 (o6.keep hb1 o6.lt).lt).keep hb3 ((o6.keep hb1 o6.lt).keep hb2 (o6.keep hb1 o6.lt).lt).lt).lt).setRow _) Try.underlying26 rfl (by rw [msize HJm.out]; exact Try.info_mono)) rfl ⟨?_, below_setRow (below_trans' (below_trans' (below_trans' (below_trans' hb hb1 hb.size) hb2 (below_trans' hb hb1 hb.size).size) hb3 (below_trans' (below_trans' hb hb1 hb.size) hb2 (below_trans' hb hb1 hb.size).size).size) hb4 (below_trans' (below_trans' (below_trans' hb hb1 hb.size) hb2 (below_trans' hb hb1 hb.size).size) hb3 (below_trans' (below_trans' hb hb1 hb.size) hb2 (below_trans' hb hb1 hb.size).size).size).size) (by omega) _⟩
    rw [mulM, mulS, mulE, HX.out, HNul.out]; rfl
  | false =>
    have hz := joinS_ne hnul
    have hq : (joinS zs m k != 0) = true := by simpa using hz
    have HZ := Lib.hid hz
    clear hz
    have hja : joinM zs m k = addM m k := by rw [joinM, hnul]; rfl
    have hsum := sum_ok Fi hnul
    rw [← hja] at hsum
    have HJA := Lib.hid hja
    clear hja
    have HNul := Lib.hid hnul
    clear hnul
    cases hw : within (joinM zs m k) with
    | true =>
      rw [hw] at hsum
      have HW := Lib.hid hw
      clear hw
      go_wp2_with (first | (refine wpList_load_row rfl 26 (.tmp 4) rfl _ rfl 26 (mcells m).toArray (0, 0) _ ((o4.keep hb1 o4.lt).keep hb2 (o4.keep hb1 o4.lt).lt) Try.underlying26 rfl HIm.out ?_) | (refine wpList_load_row rfl 26 (.tmp 5) rfl _ rfl 26 (mcells k).toArray (0, 0) _ ((o5.keep hb1 o5.lt).keep hb2 (o5.keep hb1 o5.lt).lt) Try.underlying26 rfl HIk.out ?_) | (go_at_call 39; refine (l01Joined_c c ((hI.keep hb1).keep hb2) Fi).mono ?_; rintro e w3 ⟨rfl, hb3⟩) | (refine wpList_store_row rfl 26 (.tmp 9) (.tmp 32) rfl _ (mcells (joinM zs m k)).toArray rfl rfl 26 _ (Own.new w3 26 _) (by rw [msize HJm.out]; exact Try.info_mono) (by rw [msize HJm.out]; rfl) (mcells_one _) ?_; have o9 := (Own.new w3 26 #[Value.int .u8 0, .int .u8 0, .int .u8 0, .int .u8 0, .int .u8 0, .int .u8 0, .int .u8 0, .int .u8 0]).setRow (mcells (joinM zs m k)).toArray; have hb4 := below_setRow (below_alloc1 w3 (.cells #[Value.int .u8 0, .int .u8 0, .int .u8 0, .int .u8 0, .int .u8 0, .int .u8 0, .int .u8 0, .int .u8 0] 26)) (Nat.le_refl _) (mcells (joinM zs m k)).toArray; generalize (w3.alloc (.cells #[Value.int .u8 0, .int .u8 0, .int .u8 0, .int .u8 0, .int .u8 0, .int .u8 0, .int .u8 0, .int .u8 0] 26)).setRow w3.heap.size (mcells (joinM zs m k)).toArray = w4 at *) | (go_at_call 38; have _t := hb4; refine (l01Mono_c c ((((hI.keep hb1).keep hb2).keep hb3).keep hb4) hn HJm.out).mono ?_; rintro e w5 ⟨rfl, hb5⟩) | (go_at_call 37; refine (l01Degrees_c c hI hn).mono ?_; rintro e w' ⟨rfl, rfl⟩) | (refine wpList_load_g rfl 26 (.tmp 4) rfl _ rfl 26 (mcells m).toArray (0, 0) _ o4 Try.underlying26 rfl HIm.out ?_) | (go_at_call 38; have _t := hb1; refine (l01Mono_c c (hI.keep hb1) hn hk).mono ?_; rintro e w2 ⟨rfl, hb2⟩) | (go_at_call 38; refine (l01Mono_c c hI hn hm).mono ?_; rintro e w1 ⟨rfl, hb1⟩) | (refine wpList_load_g rfl 26 (.tmp 5) rfl _ rfl 26 (mcells k).toArray (0, 0) _ (o5.keep hb1 o5.lt) Try.underlying26 rfl HIk.out ?_) | (refine wpList_load_g rfl 26 (.tmp 9) rfl _ rfl 26 (mcells (joinM zs m k)).toArray (0, 0) _ o9 Try.underlying26 rfl (by rw [msize HJm.out]; exact Try.info_mono) ?_) | (refine wpList_load_row rfl 26 (.tmp 9) rfl _ rfl 26 (mcells (joinM zs m k)).toArray (0, 0) _ (o9.keep hb5 o9.lt) Try.underlying26 rfl (by rw [msize HJm.out]; exact Try.info_mono) ?_) | (refine wpList_store_row rfl 26 (.tmp 6) (.tmp 43) rfl _ (mcells (joinM zs m k)).toArray rfl rfl 26 _ (((((o6.keep hb1 o6.lt).keep hb2 (o6.keep hb1 o6.lt).lt).keep hb3 ((o6.keep hb1 o6.lt).keep hb2 (o6.keep hb1 o6.lt).lt).lt).keep hb4 (((o6.keep hb1 o6.lt).keep hb2 (o6.keep hb1 o6.lt).lt).keep hb3 ((o6.keep hb1 o6.lt).keep hb2 (o6.keep hb1 o6.lt).lt).lt).lt).keep hb5 ((((o6.keep hb1 o6.lt).keep hb2 (o6.keep hb1 o6.lt).lt).keep hb3 ((o6.keep hb1 o6.lt).keep hb2 (o6.keep hb1 o6.lt).lt).lt).keep hb4 (((o6.keep hb1 o6.lt).keep hb2 (o6.keep hb1 o6.lt).lt).keep hb3 ((o6.keep hb1 o6.lt).keep hb2 (o6.keep hb1 o6.lt).lt).lt).lt).lt) (by rw [msize HJm.out]; exact Try.info_mono) (by rw [msize HJm.out]; rfl) (mcells_one _) ?_))
      refine bodyPost_ret (results_row3 rfl _ _ (w.heap.size + 1 + 1) 26 (mcells (joinM zs m k)).toArray (0, 0) _ rfl ((((((o6.keep hb1 o6.lt).keep hb2 (o6.keep hb1 o6.lt).lt).keep hb3 ((o6.keep hb1 o6.lt).keep hb2 (o6.keep hb1 o6.lt).lt).lt).keep hb4 (((o6.keep hb1 o6.lt).keep hb2 (o6.keep hb1 o6.lt).lt).keep hb3 ((o6.keep hb1 o6.lt).keep hb2 (o6.keep hb1 o6.lt).lt).lt).lt).keep hb5 ((((o6.keep hb1 o6.lt).keep hb2 (o6.keep hb1 o6.lt).lt).keep hb3 ((o6.keep hb1 o6.lt).keep hb2 (o6.keep hb1 o6.lt).lt).lt).keep hb4 (((o6.keep hb1 o6.lt).keep hb2 (o6.keep hb1 o6.lt).lt).keep hb3 ((o6.keep hb1 o6.lt).keep hb2 (o6.keep hb1 o6.lt).lt).lt).lt).lt).setRow _) Try.underlying26 rfl (by rw [msize HJm.out]; exact Try.info_mono)) rfl ⟨?_, below_setRow (below_trans' (below_trans' (below_trans' (below_trans' (below_trans' hb hb1 hb.size) hb2 (below_trans' hb hb1 hb.size).size) hb3 (below_trans' (below_trans' hb hb1 hb.size) hb2 (below_trans' hb hb1 hb.size).size).size) hb4 (below_trans' (below_trans' (below_trans' hb hb1 hb.size) hb2 (below_trans' hb hb1 hb.size).size) hb3 (below_trans' (below_trans' hb hb1 hb.size) hb2 (below_trans' hb hb1 hb.size).size).size).size) hb5 (below_trans' (below_trans' (below_trans' (below_trans' hb hb1 hb.size) hb2 (below_trans' hb hb1 hb.size).size) hb3 (below_trans' (below_trans' hb hb1 hb.size) hb2 (below_trans' hb hb1 hb.size).size).size) hb4 (below_trans' (below_trans' (below_trans' hb hb1 hb.size) hb2 (below_trans' hb hb1 hb.size).size) hb3 (below_trans' (below_trans' hb hb1 hb.size) hb2 (below_trans' hb hb1 hb.size).size).size).size).size) (by omega) _⟩
      rw [mulM, mulS, mulE, HX.out, HNul.out, ← HJA.out, HW.out]; rfl
    | false =>
      rw [hw] at hsum
      have HW := Lib.hid hw
      clear hw
      go_wp2_with (first | (refine wpList_load_row rfl 26 (.tmp 4) rfl _ rfl 26 (mcells m).toArray (0, 0) _ ((o4.keep hb1 o4.lt).keep hb2 (o4.keep hb1 o4.lt).lt) Try.underlying26 rfl HIm.out ?_) | (refine wpList_load_row rfl 26 (.tmp 5) rfl _ rfl 26 (mcells k).toArray (0, 0) _ ((o5.keep hb1 o5.lt).keep hb2 (o5.keep hb1 o5.lt).lt) Try.underlying26 rfl HIk.out ?_) | (go_at_call 39; refine (l01Joined_c c ((hI.keep hb1).keep hb2) Fi).mono ?_; rintro e w3 ⟨rfl, hb3⟩) | (refine wpList_store_row rfl 26 (.tmp 9) (.tmp 32) rfl _ (mcells (joinM zs m k)).toArray rfl rfl 26 _ (Own.new w3 26 _) (by rw [msize HJm.out]; exact Try.info_mono) (by rw [msize HJm.out]; rfl) (mcells_one _) ?_; have o9 := (Own.new w3 26 #[Value.int .u8 0, .int .u8 0, .int .u8 0, .int .u8 0, .int .u8 0, .int .u8 0, .int .u8 0, .int .u8 0]).setRow (mcells (joinM zs m k)).toArray; have hb4 := below_setRow (below_alloc1 w3 (.cells #[Value.int .u8 0, .int .u8 0, .int .u8 0, .int .u8 0, .int .u8 0, .int .u8 0, .int .u8 0, .int .u8 0] 26)) (Nat.le_refl _) (mcells (joinM zs m k)).toArray; generalize (w3.alloc (.cells #[Value.int .u8 0, .int .u8 0, .int .u8 0, .int .u8 0, .int .u8 0, .int .u8 0, .int .u8 0, .int .u8 0] 26)).setRow w3.heap.size (mcells (joinM zs m k)).toArray = w4 at *) | (go_at_call 38; have _t := hb4; refine (l01Mono_c c ((((hI.keep hb1).keep hb2).keep hb3).keep hb4) hn HJm.out).mono ?_; rintro e w5 ⟨rfl, hb5⟩) | (go_at_call 37; refine (l01Degrees_c c hI hn).mono ?_; rintro e w' ⟨rfl, rfl⟩) | (refine wpList_load_g rfl 26 (.tmp 4) rfl _ rfl 26 (mcells m).toArray (0, 0) _ o4 Try.underlying26 rfl HIm.out ?_) | (go_at_call 38; have _t := hb1; refine (l01Mono_c c (hI.keep hb1) hn hk).mono ?_; rintro e w2 ⟨rfl, hb2⟩) | (go_at_call 38; refine (l01Mono_c c hI hn hm).mono ?_; rintro e w1 ⟨rfl, hb1⟩) | (refine wpList_load_g rfl 26 (.tmp 5) rfl _ rfl 26 (mcells k).toArray (0, 0) _ (o5.keep hb1 o5.lt) Try.underlying26 rfl HIk.out ?_) | (refine wpList_load_g rfl 26 (.tmp 9) rfl _ rfl 26 (mcells (joinM zs m k)).toArray (0, 0) _ o9 Try.underlying26 rfl (by rw [msize HJm.out]; exact Try.info_mono) ?_) | (refine wpList_store_row rfl 26 (.tmp 6) (.tmp 42) rfl _ (mcells nul8).toArray rfl rfl 26 _ (((((o6.keep hb1 o6.lt).keep hb2 (o6.keep hb1 o6.lt).lt).keep hb3 ((o6.keep hb1 o6.lt).keep hb2 (o6.keep hb1 o6.lt).lt).lt).keep hb4 (((o6.keep hb1 o6.lt).keep hb2 (o6.keep hb1 o6.lt).lt).keep hb3 ((o6.keep hb1 o6.lt).keep hb2 (o6.keep hb1 o6.lt).lt).lt).lt).keep hb5 ((((o6.keep hb1 o6.lt).keep hb2 (o6.keep hb1 o6.lt).lt).keep hb3 ((o6.keep hb1 o6.lt).keep hb2 (o6.keep hb1 o6.lt).lt).lt).keep hb4 (((o6.keep hb1 o6.lt).keep hb2 (o6.keep hb1 o6.lt).lt).keep hb3 ((o6.keep hb1 o6.lt).keep hb2 (o6.keep hb1 o6.lt).lt).lt).lt).lt) Try.info_mono rfl (mcells_one _) ?_))
      refine bodyPost_ret (results_row3 rfl _ _ (w.heap.size + 1 + 1) 26 (mcells nul8).toArray (0, 0) _ rfl ((((((o6.keep hb1 o6.lt).keep hb2 (o6.keep hb1 o6.lt).lt).keep hb3 ((o6.keep hb1 o6.lt).keep hb2 (o6.keep hb1 o6.lt).lt).lt).keep hb4 (((o6.keep hb1 o6.lt).keep hb2 (o6.keep hb1 o6.lt).lt).keep hb3 ((o6.keep hb1 o6.lt).keep hb2 (o6.keep hb1 o6.lt).lt).lt).lt).keep hb5 ((((o6.keep hb1 o6.lt).keep hb2 (o6.keep hb1 o6.lt).lt).keep hb3 ((o6.keep hb1 o6.lt).keep hb2 (o6.keep hb1 o6.lt).lt).lt).keep hb4 (((o6.keep hb1 o6.lt).keep hb2 (o6.keep hb1 o6.lt).lt).keep hb3 ((o6.keep hb1 o6.lt).keep hb2 (o6.keep hb1 o6.lt).lt).lt).lt).lt).setRow _) Try.underlying26 rfl Try.info_mono) rfl ⟨?_, below_setRow (below_trans' (below_trans' (below_trans' (below_trans' (below_trans' hb hb1 hb.size) hb2 (below_trans' hb hb1 hb.size).size) hb3 (below_trans' (below_trans' hb hb1 hb.size) hb2 (below_trans' hb hb1 hb.size).size).size) hb4 (below_trans' (below_trans' (below_trans' hb hb1 hb.size) hb2 (below_trans' hb hb1 hb.size).size) hb3 (below_trans' (below_trans' hb hb1 hb.size) hb2 (below_trans' hb hb1 hb.size).size).size).size) hb5 (below_trans' (below_trans' (below_trans' (below_trans' hb hb1 hb.size) hb2 (below_trans' hb hb1 hb.size).size) hb3 (below_trans' (below_trans' hb hb1 hb.size) hb2 (below_trans' hb hb1 hb.size).size).size) hb4 (below_trans' (below_trans' (below_trans' hb hb1 hb.size) hb2 (below_trans' hb hb1 hb.size).size) hb3 (below_trans' (below_trans' hb hb1 hb.size) hb2 (below_trans' hb hb1 hb.size).size).size).size).size) (by omega) _⟩
      rw [mulM, mulS, mulE, HX.out, HNul.out, ← HJA.out, HW.out]; rfl

theorem MultiplyMonomials_s {w : World} {a : Option Addr} {n : Nat} {zs m k : List Int} (c : Nat) (h : Ints w a n zs) (hn : n ≤ 1048576) (hm : IsMono m) (hk : IsMono k) :
    Calls Try.prog 9 #[.slice a n c, monoV m, monoV k] w fun e w' => e = .returned (.tuple #[monoV (mulM zs m k), .int .i64 (mulS zs m k), .int .i64 (mulE zs m k)]) ∧ Below w.heap.size w w' := by
  cases hd : degsOk zs with
  | false => exact MulS1 c h hn hm hk hd
  | true =>
    cases h1 : monoOk zs m with
    | false => exact MulS2 c h hn hm hk hd h1
    | true =>
      cases h2 : monoOk zs k with
      | false => exact MulS3 c h hn hm hk hd h1 h2
      | true => exact MulS4 c h hn hm hk hd h1 h2

theorem cond_eq (zs m k : List Int) : (isNul zs m k || within (addM m k)) = within (joinM zs m k) := by
  unfold joinM
  cases isNul zs m k with
  | true => simp [nul_within]
  | false => simp
theorem okM_isMono (zs m k : List Int) : okM zs m k = (isMono zs m && isMono zs k) := by
  unfold okM isMono
  cases degsOk zs <;> simp

set_option maxRecDepth 100000 in
theorem MulC1 {w : World} {a : Option Addr} {n : Nat} {zs m k : List Int} (c : Nat) (h : Ints w a n zs) (hn : n ≤ 1048576) (hm : IsMono m) (hk : IsMono k) (h1 : isMono zs m = false) :
    Calls Try.prog 8 #[.slice a n c, monoV m, monoV k] w fun e w' => e = .returned (.tuple #[monoV (mulM zs m k), .int .i64 (mulS zs m k), .int .i64 (mulE zs m k)]) ∧ Below w.heap.size w w' := by
  have HIm := Lib.hid (show (Try.prog.info? 26).map (·.size) = some (mcells m).toArray.size by rw [msize hm]; exact Try.info_mono)
  have HIk := Lib.hid (show (Try.prog.info? 26).map (·.size) = some (mcells k).toArray.size by rw [msize hk]; exact Try.info_mono)
  unfold monoV
  go_enter Try.func8, Try.ntmps8
  go_upto_region 1 with (fail)
  rw [← nul8_cells]
  obtain ⟨o4, o5, o6, hb⟩ := own3 w 26 (mcells m).toArray (mcells k).toArray (mcells nul8).toArray
  have hI := h.keep hb
  generalize ((w.alloc (.cells (mcells m).toArray 26)).alloc (.cells (mcells k).toArray 26)).alloc (.cells (mcells nul8).toArray 26) = w0 at *
  have HX := Lib.hid (show okM zs m k = false by rw [okM_isMono, h1]; rfl)
  go_wp2_with (first | (refine wpList_load_row rfl 26 (.tmp 4) rfl _ rfl 26 (mcells m).toArray (0, 0) _ o4 Try.underlying26 rfl HIm.out ?_) | (go_at_call 10; refine (IsMonomial_c c hI hn hm).mono ?_; rintro e w1 ⟨rfl, hb1⟩) | (refine wpList_store_row rfl 26 (.tmp 6) (.tmp 21) rfl _ (mcells nul8).toArray rfl rfl 26 _ (o6.keep hb1 o6.lt) Try.info_mono rfl (mcells_one _) ?_))
  refine bodyPost_ret (results_row3 rfl _ _ (w.heap.size + 1 + 1) 26 (mcells nul8).toArray (0, 0) _ rfl ((o6.keep hb1 o6.lt).setRow _) Try.underlying26 rfl Try.info_mono) rfl ⟨?_, below_setRow (below_trans' hb hb1 hb.size) (by omega) _⟩
  rw [mulM, mulS, mulE, HX.out]; rfl

set_option maxRecDepth 100000 in
theorem MulC2 {w : World} {a : Option Addr} {n : Nat} {zs m k : List Int} (c : Nat) (h : Ints w a n zs) (hn : n ≤ 1048576) (hm : IsMono m) (hk : IsMono k) (h1 : isMono zs m = true) (h2 : isMono zs k = false) :
    Calls Try.prog 8 #[.slice a n c, monoV m, monoV k] w fun e w' => e = .returned (.tuple #[monoV (mulM zs m k), .int .i64 (mulS zs m k), .int .i64 (mulE zs m k)]) ∧ Below w.heap.size w w' := by
  have HIm := Lib.hid (show (Try.prog.info? 26).map (·.size) = some (mcells m).toArray.size by rw [msize hm]; exact Try.info_mono)
  have HIk := Lib.hid (show (Try.prog.info? 26).map (·.size) = some (mcells k).toArray.size by rw [msize hk]; exact Try.info_mono)
  unfold monoV
  go_enter Try.func8, Try.ntmps8
  go_upto_region 1 with (fail)
  rw [← nul8_cells]
  obtain ⟨o4, o5, o6, hb⟩ := own3 w 26 (mcells m).toArray (mcells k).toArray (mcells nul8).toArray
  have hI := h.keep hb
  generalize ((w.alloc (.cells (mcells m).toArray 26)).alloc (.cells (mcells k).toArray 26)).alloc (.cells (mcells nul8).toArray 26) = w0 at *
  have HX := Lib.hid (show okM zs m k = false by rw [okM_isMono, h1, h2]; rfl)
  go_wp2_with (first | (refine wpList_load_row rfl 26 (.tmp 4) rfl _ rfl 26 (mcells m).toArray (0, 0) _ o4 Try.underlying26 rfl HIm.out ?_) | (go_at_call 10; have _t := hb1; refine (IsMonomial_c c (hI.keep hb1) hn hk).mono ?_; rintro e w2 ⟨rfl, hb2⟩) | (go_at_call 10; refine (IsMonomial_c c hI hn hm).mono ?_; rintro e w1 ⟨rfl, hb1⟩) | (refine wpList_load_g rfl 26 (.tmp 5) rfl _ rfl 26 (mcells k).toArray (0, 0) _ (o5.keep hb1 o5.lt) Try.underlying26 rfl HIk.out ?_) | (refine wpList_store_row rfl 26 (.tmp 6) (.tmp 21) rfl _ (mcells nul8).toArray rfl rfl 26 _ ((o6.keep hb1 o6.lt).keep hb2 (o6.keep hb1 o6.lt).lt) Try.info_mono rfl (mcells_one _) ?_))
  refine bodyPost_ret (results_row3 rfl _ _ (w.heap.size + 1 + 1) 26 (mcells nul8).toArray (0, 0) _ rfl (((o6.keep hb1 o6.lt).keep hb2 (o6.keep hb1 o6.lt).lt).setRow _) Try.underlying26 rfl Try.info_mono) rfl ⟨?_, below_setRow (below_trans' (below_trans' hb hb1 hb.size) hb2 (below_trans' hb hb1 hb.size).size) (by omega) _⟩
  rw [mulM, mulS, mulE, HX.out]; rfl

set_option maxHeartbeats 1000000 in
set_option maxRecDepth 100000 in
theorem MulC3 {w : World} {a : Option Addr} {n : Nat} {zs m k : List Int} (c : Nat) (h : Ints w a n zs) (hn : n ≤ 1048576) (hm : IsMono m) (hk : IsMono k) (h1 : isMono zs m = true) (h2 : isMono zs k = true) (hw : within (joinM zs m k) = true) :
    Calls Try.prog 8 #[.slice a n c, monoV m, monoV k] w fun e w' => e = .returned (.tuple #[monoV (mulM zs m k), .int .i64 (mulS zs m k), .int .i64 (mulE zs m k)]) ∧ Below w.heap.size w w' := by
  have HIm := Lib.hid (show (Try.prog.info? 26).map (·.size) = some (mcells m).toArray.size by rw [msize hm]; exact Try.info_mono)
  have HIk := Lib.hid (show (Try.prog.info? 26).map (·.size) = some (mcells k).toArray.size by rw [msize hk]; exact Try.info_mono)
  unfold monoV
  go_enter Try.func8, Try.ntmps8
  go_upto_region 1 with (fail)
  rw [← nul8_cells]
  obtain ⟨o4, o5, o6, hb⟩ := own3 w 26 (mcells m).toArray (mcells k).toArray (mcells nul8).toArray
  have hI := h.keep hb
  generalize ((w.alloc (.cells (mcells m).toArray 26)).alloc (.cells (mcells k).toArray 26)).alloc (.cells (mcells nul8).toArray 26) = w0 at *
  have HX := Lib.hid (show okM zs m k = true by rw [okM_isMono, h1, h2]; rfl)
  have Fi := okM_fit hm hk HX.out
  have HJm := Lib.hid (joinM_mono Fi)
  have HC := Lib.hid (cond_eq zs m k)
  obtain ⟨jb1, jb2⟩ := joinS_bd zs m k
  go_wp2_with (first | (refine wpList_load_row rfl 26 (.tmp 4) rfl _ rfl 26 (mcells m).toArray (0, 0) _ ((o4.keep hb1 o4.lt).keep hb2 (o4.keep hb1 o4.lt).lt) Try.underlying26 rfl HIm.out ?_) | (refine wpList_load_row rfl 26 (.tmp 5) rfl _ rfl 26 (mcells k).toArray (0, 0) _ ((o5.keep hb1 o5.lt).keep hb2 (o5.keep hb1 o5.lt).lt) Try.underlying26 rfl HIk.out ?_) | (go_at_call 35; refine (productOf_c c ((hI.keep hb1).keep hb2) Fi).mono ?_; rintro e w3 ⟨rfl, hb3⟩) | (refine wpList_store_row rfl 26 (.tmp 9) (.tmp 27) rfl _ (mcells (joinM zs m k)).toArray rfl rfl 26 _ (Own.new w3 26 _) (by rw [msize HJm.out]; exact Try.info_mono) (by rw [msize HJm.out]; rfl) (mcells_one _) ?_; have o9 := (Own.new w3 26 #[Value.int .u8 0, .int .u8 0, .int .u8 0, .int .u8 0, .int .u8 0, .int .u8 0, .int .u8 0, .int .u8 0]).setRow (mcells (joinM zs m k)).toArray; have hb4 := below_setRow (below_alloc1 w3 (.cells #[Value.int .u8 0, .int .u8 0, .int .u8 0, .int .u8 0, .int .u8 0, .int .u8 0, .int .u8 0, .int .u8 0] 26)) (Nat.le_refl _) (mcells (joinM zs m k)).toArray; generalize (w3.alloc (.cells #[Value.int .u8 0, .int .u8 0, .int .u8 0, .int .u8 0, .int .u8 0, .int .u8 0, .int .u8 0, .int .u8 0] 26)).setRow w3.heap.size (mcells (joinM zs m k)).toArray = w4 at *) | (go_at_call 36; refine (withinPowers_c HJm.out).mono ?_; rintro e w5 ⟨rfl, hb5⟩) | (have _t := hb5; refine wpList_load_row rfl 26 (.tmp 9) rfl _ rfl 26 (mcells (joinM zs m k)).toArray (0, 0) _ (o9.keep hb5 o9.lt) Try.underlying26 rfl (by rw [msize HJm.out]; exact Try.info_mono) ?_) | (refine wpList_load_row rfl 26 (.tmp 9) rfl _ rfl 26 (mcells (joinM zs m k)).toArray (0, 0) _ o9 Try.underlying26 rfl (by rw [msize HJm.out]; exact Try.info_mono) ?_) | (refine wpList_load_row rfl 26 (.tmp 4) rfl _ rfl 26 (mcells m).toArray (0, 0) _ o4 Try.underlying26 rfl HIm.out ?_) | (go_at_call 10; have _t := hb1; refine (IsMonomial_c c (hI.keep hb1) hn hk).mono ?_; rintro e w2 ⟨rfl, hb2⟩) | (go_at_call 10; refine (IsMonomial_c c hI hn hm).mono ?_; rintro e w1 ⟨rfl, hb1⟩) | (refine wpList_load_g rfl 26 (.tmp 5) rfl _ rfl 26 (mcells k).toArray (0, 0) _ (o5.keep hb1 o5.lt) Try.underlying26 rfl HIk.out ?_) | (refine wpList_store_row rfl 26 (.tmp 6) (.tmp 33) rfl _ (mcells (joinM zs m k)).toArray rfl rfl 26 _ (((((o6.keep hb1 o6.lt).keep hb2 (o6.keep hb1 o6.lt).lt).keep hb3 ((o6.keep hb1 o6.lt).keep hb2 (o6.keep hb1 o6.lt).lt).lt).keep hb4 (((o6.keep hb1 o6.lt).keep hb2 (o6.keep hb1 o6.lt).lt).keep hb3 ((o6.keep hb1 o6.lt).keep hb2 (o6.keep hb1 o6.lt).lt).lt).lt).keep hb5 ((((o6.keep hb1 o6.lt).keep hb2 (o6.keep hb1 o6.lt).lt).keep hb3 ((o6.keep hb1 o6.lt).keep hb2 (o6.keep hb1 o6.lt).lt).lt).keep hb4 (((o6.keep hb1 o6.lt).keep hb2 (o6.keep hb1 o6.lt).lt).keep hb3 ((o6.keep hb1 o6.lt).keep hb2 (o6.keep hb1 o6.lt).lt).lt).lt).lt) (by rw [msize HJm.out]; exact Try.info_mono) (by rw [msize HJm.out]; rfl) (mcells_one _) ?_))
  refine bodyPost_ret (results_row3 rfl _ _ (w.heap.size + 1 + 1) 26 (mcells (joinM zs m k)).toArray (0, 0) _ rfl ((((((o6.keep hb1 o6.lt).keep hb2 (o6.keep hb1 o6.lt).lt).keep hb3 ((o6.keep hb1 o6.lt).keep hb2 (o6.keep hb1 o6.lt).lt).lt).keep hb4 (((o6.keep hb1 o6.lt).keep hb2 (o6.keep hb1 o6.lt).lt).keep hb3 ((o6.keep hb1 o6.lt).keep hb2 (o6.keep hb1 o6.lt).lt).lt).lt).keep hb5 ((((o6.keep hb1 o6.lt).keep hb2 (o6.keep hb1 o6.lt).lt).keep hb3 ((o6.keep hb1 o6.lt).keep hb2 (o6.keep hb1 o6.lt).lt).lt).keep hb4 (((o6.keep hb1 o6.lt).keep hb2 (o6.keep hb1 o6.lt).lt).keep hb3 ((o6.keep hb1 o6.lt).keep hb2 (o6.keep hb1 o6.lt).lt).lt).lt).lt).setRow _) Try.underlying26 rfl (by rw [msize HJm.out]; exact Try.info_mono)) rfl ⟨?_, below_setRow (below_trans' (below_trans' (below_trans' (below_trans' (below_trans' hb hb1 hb.size) hb2 (below_trans' hb hb1 hb.size).size) hb3 (below_trans' (below_trans' hb hb1 hb.size) hb2 (below_trans' hb hb1 hb.size).size).size) hb4 (below_trans' (below_trans' (below_trans' hb hb1 hb.size) hb2 (below_trans' hb hb1 hb.size).size) hb3 (below_trans' (below_trans' hb hb1 hb.size) hb2 (below_trans' hb hb1 hb.size).size).size).size) hb5 (below_trans' (below_trans' (below_trans' (below_trans' hb hb1 hb.size) hb2 (below_trans' hb hb1 hb.size).size) hb3 (below_trans' (below_trans' hb hb1 hb.size) hb2 (below_trans' hb hb1 hb.size).size).size) hb4 (below_trans' (below_trans' (below_trans' hb hb1 hb.size) hb2 (below_trans' hb hb1 hb.size).size) hb3 (below_trans' (below_trans' hb hb1 hb.size) hb2 (below_trans' hb hb1 hb.size).size).size).size).size) (by omega) _⟩
  rw [mulM, mulS, mulE, HX.out, HC.out, hw]; rfl

set_option maxHeartbeats 1000000 in
set_option maxRecDepth 100000 in
theorem MulC4 {w : World} {a : Option Addr} {n : Nat} {zs m k : List Int} (c : Nat) (h : Ints w a n zs) (hn : n ≤ 1048576) (hm : IsMono m) (hk : IsMono k) (h1 : isMono zs m = true) (h2 : isMono zs k = true) (hw : within (joinM zs m k) = false) :
    Calls Try.prog 8 #[.slice a n c, monoV m, monoV k] w fun e w' => e = .returned (.tuple #[monoV (mulM zs m k), .int .i64 (mulS zs m k), .int .i64 (mulE zs m k)]) ∧ Below w.heap.size w w' := by
  have HIm := Lib.hid (show (Try.prog.info? 26).map (·.size) = some (mcells m).toArray.size by rw [msize hm]; exact Try.info_mono)
  have HIk := Lib.hid (show (Try.prog.info? 26).map (·.size) = some (mcells k).toArray.size by rw [msize hk]; exact Try.info_mono)
  unfold monoV
  go_enter Try.func8, Try.ntmps8
  go_upto_region 1 with (fail)
  rw [← nul8_cells]
  obtain ⟨o4, o5, o6, hb⟩ := own3 w 26 (mcells m).toArray (mcells k).toArray (mcells nul8).toArray
  have hI := h.keep hb
  generalize ((w.alloc (.cells (mcells m).toArray 26)).alloc (.cells (mcells k).toArray 26)).alloc (.cells (mcells nul8).toArray 26) = w0 at *
  have HX := Lib.hid (show okM zs m k = true by rw [okM_isMono, h1, h2]; rfl)
  have Fi := okM_fit hm hk HX.out
  have HJm := Lib.hid (joinM_mono Fi)
  have HC := Lib.hid (cond_eq zs m k)
  obtain ⟨jb1, jb2⟩ := joinS_bd zs m k
  go_wp2_with (first | (refine wpList_load_row rfl 26 (.tmp 4) rfl _ rfl 26 (mcells m).toArray (0, 0) _ ((o4.keep hb1 o4.lt).keep hb2 (o4.keep hb1 o4.lt).lt) Try.underlying26 rfl HIm.out ?_) | (refine wpList_load_row rfl 26 (.tmp 5) rfl _ rfl 26 (mcells k).toArray (0, 0) _ ((o5.keep hb1 o5.lt).keep hb2 (o5.keep hb1 o5.lt).lt) Try.underlying26 rfl HIk.out ?_) | (go_at_call 35; refine (productOf_c c ((hI.keep hb1).keep hb2) Fi).mono ?_; rintro e w3 ⟨rfl, hb3⟩) | (refine wpList_store_row rfl 26 (.tmp 9) (.tmp 27) rfl _ (mcells (joinM zs m k)).toArray rfl rfl 26 _ (Own.new w3 26 _) (by rw [msize HJm.out]; exact Try.info_mono) (by rw [msize HJm.out]; rfl) (mcells_one _) ?_; have o9 := (Own.new w3 26 #[Value.int .u8 0, .int .u8 0, .int .u8 0, .int .u8 0, .int .u8 0, .int .u8 0, .int .u8 0, .int .u8 0]).setRow (mcells (joinM zs m k)).toArray; have hb4 := below_setRow (below_alloc1 w3 (.cells #[Value.int .u8 0, .int .u8 0, .int .u8 0, .int .u8 0, .int .u8 0, .int .u8 0, .int .u8 0, .int .u8 0] 26)) (Nat.le_refl _) (mcells (joinM zs m k)).toArray; generalize (w3.alloc (.cells #[Value.int .u8 0, .int .u8 0, .int .u8 0, .int .u8 0, .int .u8 0, .int .u8 0, .int .u8 0, .int .u8 0] 26)).setRow w3.heap.size (mcells (joinM zs m k)).toArray = w4 at *) | (go_at_call 36; refine (withinPowers_c HJm.out).mono ?_; rintro e w5 ⟨rfl, hb5⟩) | (refine wpList_load_row rfl 26 (.tmp 9) rfl _ rfl 26 (mcells (joinM zs m k)).toArray (0, 0) _ o9 Try.underlying26 rfl (by rw [msize HJm.out]; exact Try.info_mono) ?_) | (refine wpList_load_row rfl 26 (.tmp 4) rfl _ rfl 26 (mcells m).toArray (0, 0) _ o4 Try.underlying26 rfl HIm.out ?_) | (go_at_call 10; have _t := hb1; refine (IsMonomial_c c (hI.keep hb1) hn hk).mono ?_; rintro e w2 ⟨rfl, hb2⟩) | (go_at_call 10; refine (IsMonomial_c c hI hn hm).mono ?_; rintro e w1 ⟨rfl, hb1⟩) | (refine wpList_load_g rfl 26 (.tmp 5) rfl _ rfl 26 (mcells k).toArray (0, 0) _ (o5.keep hb1 o5.lt) Try.underlying26 rfl HIk.out ?_) | (refine wpList_store_row rfl 26 (.tmp 6) (.tmp 32) rfl _ (mcells nul8).toArray rfl rfl 26 _ (((((o6.keep hb1 o6.lt).keep hb2 (o6.keep hb1 o6.lt).lt).keep hb3 ((o6.keep hb1 o6.lt).keep hb2 (o6.keep hb1 o6.lt).lt).lt).keep hb4 (((o6.keep hb1 o6.lt).keep hb2 (o6.keep hb1 o6.lt).lt).keep hb3 ((o6.keep hb1 o6.lt).keep hb2 (o6.keep hb1 o6.lt).lt).lt).lt).keep hb5 ((((o6.keep hb1 o6.lt).keep hb2 (o6.keep hb1 o6.lt).lt).keep hb3 ((o6.keep hb1 o6.lt).keep hb2 (o6.keep hb1 o6.lt).lt).lt).keep hb4 (((o6.keep hb1 o6.lt).keep hb2 (o6.keep hb1 o6.lt).lt).keep hb3 ((o6.keep hb1 o6.lt).keep hb2 (o6.keep hb1 o6.lt).lt).lt).lt).lt) Try.info_mono rfl (mcells_one _) ?_))
  refine bodyPost_ret (results_row3 rfl _ _ (w.heap.size + 1 + 1) 26 (mcells nul8).toArray (0, 0) _ rfl ((((((o6.keep hb1 o6.lt).keep hb2 (o6.keep hb1 o6.lt).lt).keep hb3 ((o6.keep hb1 o6.lt).keep hb2 (o6.keep hb1 o6.lt).lt).lt).keep hb4 (((o6.keep hb1 o6.lt).keep hb2 (o6.keep hb1 o6.lt).lt).keep hb3 ((o6.keep hb1 o6.lt).keep hb2 (o6.keep hb1 o6.lt).lt).lt).lt).keep hb5 ((((o6.keep hb1 o6.lt).keep hb2 (o6.keep hb1 o6.lt).lt).keep hb3 ((o6.keep hb1 o6.lt).keep hb2 (o6.keep hb1 o6.lt).lt).lt).keep hb4 (((o6.keep hb1 o6.lt).keep hb2 (o6.keep hb1 o6.lt).lt).keep hb3 ((o6.keep hb1 o6.lt).keep hb2 (o6.keep hb1 o6.lt).lt).lt).lt).lt).setRow _) Try.underlying26 rfl Try.info_mono) rfl ⟨?_, below_setRow (below_trans' (below_trans' (below_trans' (below_trans' (below_trans' hb hb1 hb.size) hb2 (below_trans' hb hb1 hb.size).size) hb3 (below_trans' (below_trans' hb hb1 hb.size) hb2 (below_trans' hb hb1 hb.size).size).size) hb4 (below_trans' (below_trans' (below_trans' hb hb1 hb.size) hb2 (below_trans' hb hb1 hb.size).size) hb3 (below_trans' (below_trans' hb hb1 hb.size) hb2 (below_trans' hb hb1 hb.size).size).size).size) hb5 (below_trans' (below_trans' (below_trans' (below_trans' hb hb1 hb.size) hb2 (below_trans' hb hb1 hb.size).size) hb3 (below_trans' (below_trans' hb hb1 hb.size) hb2 (below_trans' hb hb1 hb.size).size).size) hb4 (below_trans' (below_trans' (below_trans' hb hb1 hb.size) hb2 (below_trans' hb hb1 hb.size).size) hb3 (below_trans' (below_trans' hb hb1 hb.size) hb2 (below_trans' hb hb1 hb.size).size).size).size).size) (by omega) _⟩
  rw [mulM, mulS, mulE, HX.out, HC.out, hw]; rfl

theorem MultiplyMonomials_c {w : World} {a : Option Addr} {n : Nat} {zs m k : List Int} (c : Nat) (h : Ints w a n zs) (hn : n ≤ 1048576) (hm : IsMono m) (hk : IsMono k) :
    Calls Try.prog 8 #[.slice a n c, monoV m, monoV k] w fun e w' => e = .returned (.tuple #[monoV (mulM zs m k), .int .i64 (mulS zs m k), .int .i64 (mulE zs m k)]) ∧ Below w.heap.size w w' := by
  cases h1 : isMono zs m with
  | false => exact MulC1 c h hn hm hk h1
  | true =>
    cases h2 : isMono zs k with
    | false => exact MulC2 c h hn hm hk h1 h2
    | true =>
      cases hw : within (joinM zs m k) with
      | true => exact MulC3 c h hn hm hk h1 h2 hw
      | false => exact MulC4 c h hn hm hk h1 h2 hw
theorem mulM_mono {zs m k : List Int} (hm : IsMono m) (hk : IsMono k) : IsMono (mulM zs m k) := by
  unfold mulM
  split
  · rename_i h
    exact joinM_mono (okM_fit hm hk (by simp only [Bool.and_eq_true] at h; exact h.1))
  · exact ⟨rfl, by decide⟩

end Go.Proofs.Ytcafccfoeednnaa
