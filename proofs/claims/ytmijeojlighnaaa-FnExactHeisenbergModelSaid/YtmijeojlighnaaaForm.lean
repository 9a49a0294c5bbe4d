
import Derived.Test.YtmijeojlighnaaaTerm
import Derived.Test.YtmijeojlighnaaaLawMono
import Derived.Deep.CutRange
namespace Go.Proofs.Ytmijeojlighnaaa
open Go.RowKit Go.Deep
theorem Try.info_form : (Try.prog.info? 47).map (·.size) = some 1 := by kernel_rfl
theorem eqMono8 {w : World} {m0 m1 m2 m3 m4 m5 m6 m7 : Int} (hm : IsMono [m0, m1, m2, m3, m4, m5, m6, m7]) :
    Calls Try.prog 99 #[.agg #[.int .u8 m0, .int .u8 m1, .int .u8 m2, .int .u8 m3, .int .u8 m4, .int .u8 m5, .int .u8 m6, .int .u8 m7], .agg #[.int .u8 m0, .int .u8 m1, .int .u8 m2, .int .u8 m3, .int .u8 m4, .int .u8 m5, .int .u8 m6, .int .u8 m7]] w fun e w' => e = .returned (.bool true) ∧ Below w.heap.size w w' := by
  have := eqMonomial_c (w := w) hm hm
  simp only [decide_true] at this
  exact this
set_option maxRecDepth 100000 in
theorem eqTerm9 {w : World} {m0 m1 m2 m3 m4 m5 m6 m7 f : Int} (hm : IsMono [m0, m1, m2, m3, m4, m5, m6, m7]) :
    Calls Try.prog 92 #[.agg #[.int .u8 m0, .int .u8 m1, .int .u8 m2, .int .u8 m3, .int .u8 m4, .int .u8 m5, .int .u8 m6, .int .u8 m7, .int .i64 f], .agg #[.int .u8 m0, .int .u8 m1, .int .u8 m2, .int .u8 m3, .int .u8 m4, .int .u8 m5, .int .u8 m6, .int .u8 m7, .int .i64 f]] w fun e w' => e = .returned (.bool true) ∧ Below w.heap.size w w' := by
  go_enter Try.func92, Try.ntmps92
  go_wp2_with fail
  have o1 := (Own.new w 75 #[.int .u8 m0, .int .u8 m1, .int .u8 m2, .int .u8 m3, .int .u8 m4, .int .u8 m5, .int .u8 m6, .int .u8 m7, .int .i64 f]).alloc (.cells #[.int .u8 m0, .int .u8 m1, .int .u8 m2, .int .u8 m3, .int .u8 m4, .int .u8 m5, .int .u8 m6, .int .u8 m7, .int .i64 f] 75)
  have o2 := Own.new (w.alloc (.cells #[.int .u8 m0, .int .u8 m1, .int .u8 m2, .int .u8 m3, .int .u8 m4, .int .u8 m5, .int .u8 m6, .int .u8 m7, .int .i64 f] 75)) 75 #[.int .u8 m0, .int .u8 m1, .int .u8 m2, .int .u8 m3, .int .u8 m4, .int .u8 m5, .int .u8 m6, .int .u8 m7, .int .i64 f]
  have hb0 := below_then (below_alloc1 w (.cells #[.int .u8 m0, .int .u8 m1, .int .u8 m2, .int .u8 m3, .int .u8 m4, .int .u8 m5, .int .u8 m6, .int .u8 m7, .int .i64 f] 75)) (below_alloc1 _ (.cells #[.int .u8 m0, .int .u8 m1, .int .u8 m2, .int .u8 m3, .int .u8 m4, .int .u8 m5, .int .u8 m6, .int .u8 m7, .int .i64 f] 75))
  rw [size_alloc] at o2
  generalize (w.alloc (.cells #[.int .u8 m0, .int .u8 m1, .int .u8 m2, .int .u8 m3, .int .u8 m4, .int .u8 m5, .int .u8 m6, .int .u8 m7, .int .i64 f] 75)).alloc (.cells #[.int .u8 m0, .int .u8 m1, .int .u8 m2, .int .u8 m3, .int .u8 m4, .int .u8 m5, .int .u8 m6, .int .u8 m7, .int .i64 f] 75) = w0 at *
  refine (eqMono8 hm).mono ?_
  rintro e w1 ⟨rfl, hb1⟩
  have c1 := (o1.keep hb1 o1.lt).cell 8
  have c2 := (o2.keep hb1 o2.lt).cell 8
  go_wp2_with fail
  go_ret
  exact ⟨rfl, below_trans' hb0 hb1 (Nat.le_of_lt (by have := o1.lt; omega))⟩
theorem nine18 {w : World} {b o b' o' : Nat} {m0 m1 m2 m3 m4 m5 m6 m7 f : Int} (h : w.rangeAt b o (tcells ⟨[m0, m1, m2, m3, m4, m5, m6, m7], f⟩)) (h' : w.rangeAt b' o' (tcells ⟨[m0, m1, m2, m3, m4, m5, m6, m7], f⟩)) : w.cell? ⟨b, o, none⟩ = some (.int .u8 m0) ∧ w.cell? ⟨b, o + 1, none⟩ = some (.int .u8 m1) ∧ w.cell? ⟨b, o + 2, none⟩ = some (.int .u8 m2) ∧ w.cell? ⟨b, o + 3, none⟩ = some (.int .u8 m3) ∧ w.cell? ⟨b, o + 4, none⟩ = some (.int .u8 m4) ∧ w.cell? ⟨b, o + 5, none⟩ = some (.int .u8 m5) ∧ w.cell? ⟨b, o + 6, none⟩ = some (.int .u8 m6) ∧ w.cell? ⟨b, o + 7, none⟩ = some (.int .u8 m7) ∧ w.cell? ⟨b, o + 8, none⟩ = some (.int .i64 f) ∧ w.cell? ⟨b', o', none⟩ = some (.int .u8 m0) ∧ w.cell? ⟨b', o' + 1, none⟩ = some (.int .u8 m1) ∧ w.cell? ⟨b', o' + 2, none⟩ = some (.int .u8 m2) ∧ w.cell? ⟨b', o' + 3, none⟩ = some (.int .u8 m3) ∧ w.cell? ⟨b', o' + 4, none⟩ = some (.int .u8 m4) ∧ w.cell? ⟨b', o' + 5, none⟩ = some (.int .u8 m5) ∧ w.cell? ⟨b', o' + 6, none⟩ = some (.int .u8 m6) ∧ w.cell? ⟨b', o' + 7, none⟩ = some (.int .u8 m7) ∧ w.cell? ⟨b', o' + 8, none⟩ = some (.int .i64 f) :=
  ⟨h 0 _ rfl, h 1 _ rfl, h 2 _ rfl, h 3 _ rfl, h 4 _ rfl, h 5 _ rfl, h 6 _ rfl, h 7 _ rfl, h 8 _ rfl, h' 0 _ rfl, h' 1 _ rfl, h' 2 _ rfl, h' 3 _ rfl, h' 4 _ rfl, h' 5 _ rfl, h' 6 _ rfl, h' 7 _ rfl, h' 8 _ rfl⟩
set_option maxRecDepth 100000 in
theorem eqTermS_c {w : World} {a a' : Option Addr} {n : Nat} {ts : List Tm} (c c' : Nat) (h : Terms w a n ts) (h' : Terms w a' n ts) (hn : n ≤ 1048576) :
    Calls Try.prog 80 #[.slice a n c, .slice a' n c'] w fun e w' => e = .returned (.bool true) ∧ Below w.heap.size w w' := by
  go_enter Try.func80, Try.ntmps80
  go_wp2
  go_loopw [5] (fun i wr => ∃ k : Nat, k ≤ n ∧ i = .int .i64 k ∧ Below w.heap.size w wr) (fun i _ => n - (intOf i).toNat)
  case atStart => exact ⟨0, Nat.zero_le _, rfl, Below.refl _ _⟩
  case round =>
    obtain ⟨k, hk, rfl, hb⟩ := hrel
    by_cases hlt : k < n
    · obtain ⟨b, off, t, rfl, hbl, hr, ht, hx⟩ := (h.keep hb).at_ hlt
      obtain ⟨b', off', t', rfl, hbl', hr', ht', hx'⟩ := (h'.keep hb).at_ hlt
      obtain rfl : t = t' := by
        have := hx.out.symm.trans hx'.out
        injection this
      clear ht' hx hx'
      obtain ⟨m, f⟩ := t
      have hm : IsMono m := ht.1
      obtain ⟨m0, m1, m2, m3, m4, m5, m6, m7, rfl⟩ := mono8 hm
      go_upto_region 6 with fail
      go_cut [26] from 11 to 26 (fun v wr => v = .bool false ∧ Below w.heap.size w wr)
      case first =>
        go_region_held3 (fun w' => w'.cell? ⟨b, off + k * 9, none⟩ = some (.int .u8 m0) ∧ w'.cell? ⟨b, off + k * 9 + 1, none⟩ = some (.int .u8 m1) ∧ w'.cell? ⟨b, off + k * 9 + 2, none⟩ = some (.int .u8 m2) ∧ w'.cell? ⟨b, off + k * 9 + 3, none⟩ = some (.int .u8 m3) ∧ w'.cell? ⟨b, off + k * 9 + 4, none⟩ = some (.int .u8 m4) ∧ w'.cell? ⟨b, off + k * 9 + 5, none⟩ = some (.int .u8 m5) ∧ w'.cell? ⟨b, off + k * 9 + 6, none⟩ = some (.int .u8 m6) ∧ w'.cell? ⟨b, off + k * 9 + 7, none⟩ = some (.int .u8 m7) ∧ w'.cell? ⟨b, off + k * 9 + 8, none⟩ = some (.int .i64 f) ∧ w'.cell? ⟨b', off' + k * 9, none⟩ = some (.int .u8 m0) ∧ w'.cell? ⟨b', off' + k * 9 + 1, none⟩ = some (.int .u8 m1) ∧ w'.cell? ⟨b', off' + k * 9 + 2, none⟩ = some (.int .u8 m2) ∧ w'.cell? ⟨b', off' + k * 9 + 3, none⟩ = some (.int .u8 m3) ∧ w'.cell? ⟨b', off' + k * 9 + 4, none⟩ = some (.int .u8 m4) ∧ w'.cell? ⟨b', off' + k * 9 + 5, none⟩ = some (.int .u8 m5) ∧ w'.cell? ⟨b', off' + k * 9 + 6, none⟩ = some (.int .u8 m6) ∧ w'.cell? ⟨b', off' + k * 9 + 7, none⟩ = some (.int .u8 m7) ∧ w'.cell? ⟨b', off' + k * 9 + 8, none⟩ = some (.int .i64 f)) (exact nine18 hr hr')
          (first | (go_at_call 92; refine (eqTerm9 hm).mono ?_; rintro e w2 ⟨rfl, hb2⟩; have hr := rangeAt_keep hr (hb2.block b hbl); have hr' := rangeAt_keep hr' (hb2.block b' hbl')))
        all_goals go_wp2_with fail
        all_goals go_meet
        all_goals exact ⟨rfl, below_trans' hb.drew hb2 hb.size⟩
      case rest =>
        obtain ⟨rfl, hb2⟩ := hcut
        go_wp2_with fail
        go_roundw
        case rel => exact ⟨k + 1, by omega, by go_num, hb2⟩
        case measure => simp [intOf] <;> omega
    · go_wp2
      go_ret
      exact ⟨rfl, hb⟩
set_option maxRecDepth 100000 in
theorem eqForm_c {w : World} {a a' : Option Addr} {n : Nat} {ts : List Tm} (c c' : Nat) (h : Terms w a n ts) (h' : Terms w a' n ts) (hn : n ≤ 1048576) :
    Calls Try.prog 57 #[.agg #[.slice a n c], .agg #[.slice a' n c']] w fun e w' => e = .returned (.bool true) ∧ Below w.heap.size w w' := by
  go_enter Try.func57, Try.ntmps57
  go_wp2_with fail
  have hb0 := below_then (below_alloc1 w (.cells #[.slice a n c] 47)) (below_alloc1 _ (.cells #[.slice a' n c'] 47))
  refine (eqTermS_c c c' (h.keep hb0) (h'.keep hb0) hn).mono ?_
  rintro e w1 ⟨rfl, hb1⟩
  go_wp2_with fail
  go_ret
  exact ⟨rfl, below_trans' hb0 hb1 hb0.size⟩
end Go.Proofs.Ytmijeojlighnaaa
