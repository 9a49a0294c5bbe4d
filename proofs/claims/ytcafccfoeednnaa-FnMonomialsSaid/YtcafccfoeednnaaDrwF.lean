/- The draws of the laws: the source made of a code; the draws of FnMonomials. -/
import Derived.Test.YtcafccfoeednnaaDrwM
namespace Go.Proofs.Ytcafccfoeednnaa
open Go.RowKit Go.Deep

/-- The slice with the address a and the length n holds bytes. -/
def Bts (w : World) (a : Option Addr) (n : Nat) : Prop :=
  0 < n → ∃ b off, a = some ⟨b, off, none⟩ ∧ b < w.heap.size ∧ ∀ i, i < n → ∃ y, 0 ≤ y ∧ y ≤ 255 ∧ w.cell? ⟨b, off + i, none⟩ = some (.int .u8 y)
theorem Bts.keep {w w' : World} {n : Nat} {a : Option Addr} (h : Bts w a n) (hb : Below w.heap.size w w') : Bts w' a n := fun hn => by
  obtain ⟨b, off, ha, hlt, hc⟩ := h hn
  refine ⟨b, off, ha, Nat.lt_of_lt_of_le hlt hb.size, fun i hi => ?_⟩
  obtain ⟨y, h0, h1, h2⟩ := hc i hi
  exact ⟨y, h0, h1, (World.cell?_of_block (a := ⟨b, off + i, none⟩) (hb.block b hlt)).trans h2⟩
theorem Bts.code {w w' : World} {n s : Nat} {a : Option Addr} (h : Bts w a n) (hb : Below w.heap.size w w') (hs : w.heap.size ≤ s) : Code w' s a n := fun hn => by
  obtain ⟨b, off, ha, hlt, hc⟩ := h hn
  refine ⟨b, off, ha, by omega, Nat.lt_of_lt_of_le hlt hb.size, fun i hi => ?_⟩
  obtain ⟨y, h0, h1, h2⟩ := hc i hi
  exact ⟨y, h0, h1, (World.cell?_of_block (a := ⟨b, off + i, none⟩) (hb.block b hlt)).trans h2⟩

set_option maxHeartbeats 4000000 in
set_option maxRecDepth 100000 in
theorem from_c {w : World} {n : Nat} {a : Option Addr} (c : Nat) (hB : Bts w a n) (hn : n ≤ 1048576) :
    Calls Try.prog 31 #[.slice a n c] w fun e w' => e = .returned (.pointer (some ⟨w.heap.size, 0, none⟩)) ∧ Src w' w.heap.size a n c ∧ Below w.heap.size w w' := by
  obtain ⟨h0, hh⟩ : ∃ h0, IntKind.u64.wrap (10193 + (n : Int)) = h0 := ⟨_, rfl⟩
  have hb0 : 0 ≤ h0 ∧ h0 < 18446744073709551616 := by rw [← hh]; exact wrap_u64_b _
  have hnw : IntKind.u64.wrap (n : Int) = (n : Int) := IntWalk.u64_in _ (by omega)
  have hO := Own.new w 89 #[.slice a n c, .int .i64 0, .int .u64 h0]
  have hbl := below_alloc1 w (.cells #[.slice a n c, .int .i64 0, .int .u64 h0] 89)
  go_enter Try.func31, Try.ntmps31
  go_upto_region 2 with fail
  clear hh hnw
  generalize w.alloc (.cells #[.slice a n c, .int .i64 0, .int .u64 h0] 89) = w1 at *
  generalize hg : w.heap.size = s at *
  have HG := Lib.hid hg
  clear hg
  go_wp2_with fail
  go_loopw [4] (fun y wr => ∃ (k : Nat) (h : Int), k ≤ n ∧ y = .int .i64 k ∧ 0 ≤ h ∧ h < 18446744073709551616 ∧ Own wr s 89 #[.slice a n c, .int .i64 0, .int .u64 h] ∧ Below s w wr) (fun y _ => n - (intOf y).toNat)
  case atStart => exact ⟨0, h0, Nat.zero_le _, rfl, hb0.1, hb0.2, hO, hbl⟩
  case round =>
    clear hO hbl
    obtain ⟨k, h, hk, rfl, hh0, hh1, hO, hb⟩ := hrel
    by_cases hkn : k < n
    · by_cases hk4 : k < 4096
      · obtain ⟨b, off, rfl, hbs, hcc⟩ := hB (by omega)
        obtain ⟨y, hy0, hy1, hcy⟩ := hcc k hkn
        have hki : (k : Int) < (n : Int) := by omega
        have hk4i : (k : Int) < 4096 := by omega
        have hyw : IntKind.u64.wrap y = y := IntWalk.u64_in _ (by omega)
        obtain ⟨h', hw⟩ : ∃ h', IntKind.u64.wrap (IntKind.u64.wrap (IntKind.u64.wrap (h * 1099511628211) + y) + 37) = h' := ⟨_, rfl⟩
        have hb' : 0 ≤ h' ∧ h' < 18446744073709551616 := by rw [← hw]; exact wrap_u64_b _
        have c2 := hO.drew.cell 2
        have f2 := hO.drew.frozen 2
        have cy : wr.drew.cell? ⟨b, off + k, none⟩ = some (.int .u8 y) := (World.cell?_of_block (a := ⟨b, off + k, none⟩) (hb.block b (by rw [← HG.out]; exact hbs))).trans hcy
        go_upto_region 5 with fail
        go_region
        all_goals go_wp2_with fail
        all_goals go_roundw
        all_goals first
          | (case measure => simp [intOf]; omega)
          | skip
        all_goals exact ⟨k + 1, h', by omega, by go_num, hb'.1, hb'.2, hO.drew.set 2 _, hb.drew.setCell (p := ⟨s, 2, none⟩) (by simp) _⟩
      · have hk4i : ¬ (k : Int) < 4096 := by omega
        have hki : (k : Int) < (n : Int) := by omega
        go_wp2_with fail
        go_ret
        exact ⟨by rw [HG.out]; rfl, by rw [HG.out]; exact ⟨0, h, hO, by omega, by omega, hh0, hh1⟩, by rw [HG.out]; exact hb⟩
    · have hki : ¬ (k : Int) < (n : Int) := by omega
      go_wp2_with fail
      go_ret
      exact ⟨by rw [HG.out]; rfl, by rw [HG.out]; exact ⟨0, h, hO, by omega, by omega, hh0, hh1⟩, by rw [HG.out]; exact hb⟩

theorem FrB.bel {s B B' : Nat} {w w' : World} (h : FrB s B w w') (hs : B' ≤ s) (hB : B' ≤ B) : Below B' w w' := ⟨h.os, h.tape, h.output, h.size, fun k hk => h.block k (by omega) (by omega)⟩
theorem FrB.own {s B g : Nat} {t : TypeId} {cs : Array Value} {w w' : World} (h : FrB s B w w') (o : Own w g t cs) (hg : g ≠ s) (hB : g < B) : Own w' g t cs := (h.block g hB hg).trans o
theorem IL.weaken {w : World} {B B' : Nat} {v : Value} {zs : List Int} (h : IL w B v zs) (hB : B' ≤ B) : IL w B' v zs := by
  obtain ⟨h1, h2⟩ := h
  refine ⟨h1, ?_⟩
  rcases h2 with h | ⟨g, cap, cur, hv, hb, r⟩
  · exact Or.inl h
  · exact Or.inr ⟨g, cap, cur, hv, by omega, r⟩
theorem IL.farRow {w : World} {B g : Nat} {v : Value} {zs : List Int} (h : IL w B v zs) (hg : g < B) (cs : Array Value) : IL (w.setRow g cs) B v zs := by
  refine World.ownsRow.kept h (row := some g) ⟨rfl, rfl, rfl, by simp, fun k hk hne => setRow_other w g k cs (by simpa using hne)⟩ ?_
  rcases hv : v.ownBlock with _ | q
  · exact Or.inl rfl
  · right
    have := (World.ownsRow.lt h q hv).1
    simp
    omega
theorem results_tcc {P : Program} {fn : Func} {u p q : Tmp} {ty : TypeId} (h : fn.results = #[.tmp u, .cell p ty, .cell q ty]) (tmps : Array Value) (w : World) (g1 g2 : Nat) (t : TypeId) (c1 c2 : Array Value) (fr1 fr2 : Nat × Nat) (d : TypeDesc)
    (hp : tmps.getD p undef = .pointer (some ⟨g1, 0, none⟩)) (hq : tmps.getD q undef = .pointer (some ⟨g2, 0, none⟩)) (hg1 : w.heap[g1]? = some (.cells c1 t fr1)) (hg2 : w.heap[g2]? = some (.cells c2 t fr2))
    (hu : P.underlying ty = some d) (hd : (match d with | .struct _ | .array _ _ => true | _ => false) = true) (hi1 : (P.info? ty).map (·.size) = some c1.size) (hi2 : (P.info? ty).map (·.size) = some c2.size) :
    (results fn tmps).run P w = .ok (.tuple #[tmps.getD u undef, .agg c1, .agg c2]) w := by
  have hp' : tmps[p]?.getD undef = .pointer (some ⟨g1, 0, none⟩) := by simpa using hp
  have hq' : tmps[q]?.getD undef = .pointer (some ⟨g2, 0, none⟩) := by simpa using hq
  simp [results, h, hp', hq', asAddr, run_loadVar_row w g1 t ty c1 fr1 d hg1 hu hd hi1, run_loadVar_row w g2 t ty c2 fr2 d hg2 hu hd hi2]

set_option maxHeartbeats 4000000 in
set_option maxRecDepth 100000 in
theorem drawInverse_c {w : World} {n : Nat} {a : Option Addr} (c : Nat) (hB : Bts w a n) (hn : n ≤ 1048576) :
    Calls Try.prog 18 #[.slice a n c] w fun e w' => ∃ x : Int, e = .returned (.int .i64 x) ∧ -9223372036854775808 ≤ x ∧ x ≤ 9223372036854775807 ∧ Below w.heap.size w w' := by
  go_enter Try.func18, Try.ntmps18
  go_wp2_with fail
  refine (from_c c hB hn).mono ?_
  rintro e w1 ⟨rfl, hS, hb⟩
  have hC := hB.code hb (Nat.le_refl _)
  go_wp2_with fail
  refine (near_c 10006 (by omega) (by omega) hS hC hn).mono ?_
  rintro e w2 ⟨x, rfl, h0, h1, -, hF⟩
  go_wp2_with fail
  go_ret
  exact ⟨x, rfl, h0, h1, hb.trans (hF.bel (Nat.le_refl _) hb.size)⟩

set_option maxHeartbeats 4000000 in
set_option maxRecDepth 100000 in
theorem drawMonos_c {w : World} {n : Nat} {a : Option Addr} (c : Nat) (hB : Bts w a n) (hn : n ≤ 1048576) :
    Calls Try.prog 15 #[.slice a n c] w fun e w' => ∃ (v : Value) (zs : List Int) (x : Int), e = .returned (.tuple #[v, .int .i64 x]) ∧ IL w' w.heap.size v zs ∧ zs.length ≤ 9 ∧ (∀ z ∈ zs, -1 ≤ z ∧ z ≤ 13) ∧ -9223372036854775808 ≤ x ∧ x ≤ 9223372036854775807 ∧ Below w.heap.size w w' := by
  go_enter Try.func15, Try.ntmps15
  go_wp2_with fail
  refine (from_c c hB hn).mono ?_
  rintro e w1 ⟨rfl, hS, hb⟩
  have hC := hB.code hb (Nat.le_refl _)
  have hsl := hS.lt
  have HSL := Lib.hid hsl
  clear hsl
  go_wp2_with fail
  refine (next_c 16 (by omega) hS hC hn).mono ?_
  rintro e w2 ⟨r, rfl, hr, hS2, hF2⟩
  have hC2 := hC.keep hF2
  have hb2 := hb.trans (hF2.bel (Nat.le_refl _) hb.size)
  have hsw2 : Hid (w.heap.size ≤ w2.heap.size) := Lib.hid hb2.size
  clear hr hS hC hb hF2
  by_cases h0 : r = 0
  · subst h0
    have hG := Own.new w2 2 #[.int .i64 1, .int .i64 2, .int .i64 2, .int .i64 2, .int .i64 2, .int .i64 2, .int .i64 3, .int .i64 4]
    have hIL : IL (w2.alloc (.cells #[.int .i64 1, .int .i64 2, .int .i64 2, .int .i64 2, .int .i64 2, .int .i64 2, .int .i64 3, .int .i64 4] 2)) w2.heap.size (.slice (some ⟨w2.heap.size, 0, none⟩) 8 8) [1, 2, 2, 2, 2, 2, 3, 4] := ⟨rfl, Or.inr ⟨w2.heap.size, 8, _, rfl, Nat.le_refl _, hG, Nat.le_refl _, by simp [maxLen], rfl, rfl⟩⟩
    have hSa := hS2.alloc (.cells #[.int .i64 1, .int .i64 2, .int .i64 2, .int .i64 2, .int .i64 2, .int .i64 2, .int .i64 3, .int .i64 4] 2)
    have hCa := hC2.alloc (.cells #[.int .i64 1, .int .i64 2, .int .i64 2, .int .i64 2, .int .i64 2, .int .i64 2, .int .i64 3, .int .i64 4] 2)
    have hba := hb2.trans ((below_alloc1 w2 (.cells #[.int .i64 1, .int .i64 2, .int .i64 2, .int .i64 2, .int .i64 2, .int .i64 2, .int .i64 3, .int .i64 4] 2)).mono hsw2.out)
    have hsz : Hid (w.heap.size < w2.heap.size) := Lib.hid hS2.lt
    clear hG hS2 hC2 hb2
    go_wp2_with fail
    generalize w2.alloc (.cells #[.int .i64 1, .int .i64 2, .int .i64 2, .int .i64 2, .int .i64 2, .int .i64 2, .int .i64 3, .int .i64 4] 2) = w3 at *
    generalize w2.heap.size = g at *
    refine (next_c 20 (by omega) hSa hCa hn).mono ?_
    rintro e w4 ⟨y, rfl, hy, hS4, hF4⟩
    have hyb : 0 ≤ y ∧ y < 20 := ⟨hy.1, hy.2.1 (by omega)⟩
    have hI4 := hIL.keep hF4 hsz.out
    go_wp2_with fail
    go_ret2
    exact ⟨_, _, _, rfl, hI4.weaken hsw2.out, by simp, by simp, by omega, by omega, hba.trans (hF4.bel (Nat.le_refl _) hba.size)⟩
  · have hb0 : (r == 0) = false := by simpa using h0
    go_wp2_with fail
    refine (drawDegrees_c hS2 hC2 hn).mono ?_
    rintro e w3 ⟨v, zs, rfl, hI, hl, hz, hS3, hF3⟩
    obtain ⟨va, vn, vc, rfl⟩ := hI.isSlice
    have hC3 := hC2.keep hF3
    have hb3 := hb2.trans (hF3.bel (Nat.le_refl _) hsw2.out)
    have hsl2 := hS2.lt
    have h32 := hF3.size
    generalize w2.heap.size = B at *
    have HSB := Lib.hid hsl2
    clear hS2 hC2 hb2 hF3 hsl2
    go_wp2_with fail
    refine (badly_c hI hl (fun z h => by have := hz z h; omega) HSB.out h32 hS3 hC3 hn).mono ?_
    rintro e w4 ⟨v', zs', rfl, hI4, hl4, hz4, hS4, hF4⟩
    have hC4 := hC3.keepB hF4 HSB.out
    have hb4 := hb3.trans (hF4.bel (Nat.le_refl _) (Nat.le_of_lt HSB.out))
    have hB4 := Nat.le_trans h32 hF4.size
    clear hI hl hz hS3 hC3 hb3 hF4 h32
    go_wp2_with fail
    refine (next_c 8 (by omega) hS4 hC4 hn).mono ?_
    rintro e w5 ⟨y1, rfl, hy1, hS5, hF5⟩
    have hyb1 : 0 ≤ y1 ∧ y1 < 8 := ⟨hy1.1, hy1.2.1 (by omega)⟩
    have hI5 := hI4.keep hF5 HSB.out
    have hC5 := hC4.keep hF5
    have hb5 := hb4.trans (hF5.bel (Nat.le_refl _) (by have := HSB.out; omega))
    have hB5 := Nat.le_trans hB4 hF5.size
    clear hy1 hI4 hS4 hC4 hb4 hF5 hB4
    go_wp2_with fail
    refine (next_c 16 (by omega) hS5 hC5 hn).mono ?_
    rintro e w6 ⟨y2, rfl, hy2, hS6, hF6⟩
    have hyb2 : 0 ≤ y2 ∧ y2 < 16 := ⟨hy2.1, hy2.2.1 (by omega)⟩
    have hI6 := hI5.keep hF6 HSB.out
    have hC6 := hC5.keep hF6
    have hb6 := hb5.trans (hF6.bel (Nat.le_refl _) (by have := HSB.out; omega))
    have hB6 := Nat.le_trans hB5 hF6.size
    clear hy2 hI5 hS5 hC5 hb5 hF6 hB5
    go_wp2_with fail
    refine (near_c 40 (by omega) (by omega) hS6 hC6 hn).mono ?_
    rintro e w7 ⟨y3, rfl, hy30, hy31, hS7, hF7⟩
    have hI7 := hI6.keep hF7 HSB.out
    have hC7 := hC6.keep hF7
    have hb7 := hb6.trans (hF7.bel (Nat.le_refl _) (by have := HSB.out; omega))
    have hB7 := Nat.le_trans hB6 hF7.size
    clear hI6 hS6 hC6 hb6 hF7 hB6
    have hG := Own.new w7 2 #[.int .i64 y1, .int .i64 y2, .int .i64 y3]
    have hne : w7.heap.size ≠ w.heap.size := by have := HSB.out; omega
    have hIa := hI7.alloc (.cells #[.int .i64 y1, .int .i64 y2, .int .i64 y3] 2)
    have hSa := hS7.alloc (.cells #[.int .i64 y1, .int .i64 y2, .int .i64 y3] 2)
    have hCa := hC7.alloc (.cells #[.int .i64 y1, .int .i64 y2, .int .i64 y3] 2)
    have hba := hb7.trans ((below_alloc1 w7 (.cells #[.int .i64 y1, .int .i64 y2, .int .i64 y3] 2)).mono (by have := HSB.out; omega))
    have hBa : B ≤ (w7.alloc (.cells #[.int .i64 y1, .int .i64 y2, .int .i64 y3] 2)).heap.size := by rw [size_alloc]; omega
    have HNE := Lib.hid hne
    clear hI7 hS7 hC7 hb7 hB7 hne
    go_wp2_with fail
    generalize w7.alloc (.cells #[.int .i64 y1, .int .i64 y2, .int .i64 y3] 2) = wa at *
    refine (pick_c (m := 3) (zs := [y1, y2, y3]) rfl (by omega) (by omega) hG HNE.out hSa hCa hn).mono ?_
    rintro e w8 ⟨y, rfl, hy, hS8, hF8⟩
    have hyb : -9223372036854775808 ≤ y ∧ y ≤ 9223372036854775807 := by
      simp only [List.mem_cons, List.not_mem_nil, or_false] at hy
      omega
    have hI8 := hIa.keep hF8 HSB.out
    have hb8 := hba.trans (hF8.bel (Nat.le_refl _) (by have := HSB.out; omega))
    go_wp2_with fail
    go_ret2
    exact ⟨_, zs', _, rfl, hI8.weaken (by have := HSB.out; omega), hl4, hz4, hyb.1, hyb.2, hb8⟩

set_option maxHeartbeats 4000000 in
set_option maxRecDepth 100000 in
theorem drawMul_c {w : World} {n : Nat} {a : Option Addr} (c : Nat) (hB : Bts w a n) (hn : n ≤ 1048576) :
    Calls Try.prog 7 #[.slice a n c] w fun e w' => ∃ (v : Value) (zs m k : List Int), e = .returned (.tuple #[v, monoV m, monoV k]) ∧ IL w' w.heap.size v zs ∧ zs.length ≤ 9 ∧ (∀ z ∈ zs, -1 ≤ z ∧ z ≤ 13) ∧ IsMono m ∧ IsMono k ∧ Below w.heap.size w w' := by
  have h3 : Own ((w.alloc (.cells #[.int .u8 0, .int .u8 0, .int .u8 0, .int .u8 0, .int .u8 0, .int .u8 0, .int .u8 0, .int .u8 0] 26)).alloc (.cells #[.int .u8 0, .int .u8 0, .int .u8 0, .int .u8 0, .int .u8 0, .int .u8 0, .int .u8 0, .int .u8 0] 26)) w.heap.size 26 (mcells nul8).toArray := (Own.new w 26 (mcells nul8).toArray).alloc (.cells #[.int .u8 0, .int .u8 0, .int .u8 0, .int .u8 0, .int .u8 0, .int .u8 0, .int .u8 0, .int .u8 0] 26)
  have h4 : Own ((w.alloc (.cells #[.int .u8 0, .int .u8 0, .int .u8 0, .int .u8 0, .int .u8 0, .int .u8 0, .int .u8 0, .int .u8 0] 26)).alloc (.cells #[.int .u8 0, .int .u8 0, .int .u8 0, .int .u8 0, .int .u8 0, .int .u8 0, .int .u8 0, .int .u8 0] 26)) (w.heap.size + 1) 26 (mcells nul8).toArray := by
    have := Own.new (w.alloc (.cells #[.int .u8 0, .int .u8 0, .int .u8 0, .int .u8 0, .int .u8 0, .int .u8 0, .int .u8 0, .int .u8 0] 26)) 26 (mcells nul8).toArray
    rwa [size_alloc] at this
  have hba := below_then (below_alloc1 w (.cells #[.int .u8 0, .int .u8 0, .int .u8 0, .int .u8 0, .int .u8 0, .int .u8 0, .int .u8 0, .int .u8 0] 26)) (below_alloc1 (w.alloc (.cells #[.int .u8 0, .int .u8 0, .int .u8 0, .int .u8 0, .int .u8 0, .int .u8 0, .int .u8 0, .int .u8 0] 26)) (.cells #[.int .u8 0, .int .u8 0, .int .u8 0, .int .u8 0, .int .u8 0, .int .u8 0, .int .u8 0, .int .u8 0] 26))
  have hsz : ((w.alloc (.cells #[.int .u8 0, .int .u8 0, .int .u8 0, .int .u8 0, .int .u8 0, .int .u8 0, .int .u8 0, .int .u8 0] 26)).alloc (.cells #[.int .u8 0, .int .u8 0, .int .u8 0, .int .u8 0, .int .u8 0, .int .u8 0, .int .u8 0, .int .u8 0] 26)).heap.size = w.heap.size + 1 + 1 := by rw [size_alloc, size_alloc]
  go_enter Try.func7, Try.ntmps7
  go_upto_region 1 with fail
  generalize (w.alloc (.cells #[.int .u8 0, .int .u8 0, .int .u8 0, .int .u8 0, .int .u8 0, .int .u8 0, .int .u8 0, .int .u8 0] 26)).alloc (.cells #[.int .u8 0, .int .u8 0, .int .u8 0, .int .u8 0, .int .u8 0, .int .u8 0, .int .u8 0, .int .u8 0] 26) = w1 at *
  have HSZ := Lib.hid hsz
  clear hsz
  go_wp2_with fail
  refine (from_c c (hB.keep hba) hn).mono ?_
  rintro e w2 ⟨rfl, hS, hb⟩
  have hC := hB.code (hba.trans (hb.mono hba.size)) (show w.heap.size ≤ w1.heap.size from hba.size)
  have h32 := h3.keep hb h3.lt
  have h42 := h4.keep hb h4.lt
  have hb2 := hba.trans (hb.mono hba.size)
  have hsl := hS.lt
  generalize w1.heap.size = s at *
  have HSL := Lib.hid hsl
  clear hb h3 h4 hba hsl
  go_wp2_with fail
  refine (drawDegrees_c hS hC hn).mono ?_
  rintro e w3 ⟨v, zs, rfl, hI, hl, hz, hS3, hF3⟩
  obtain ⟨va, vn, vc, rfl⟩ := hI.isSlice
  have hC3 := hC.keep hF3
  have h33 := hF3.own h32 (by have := HSZ.out; omega)
  have h43 := hF3.own h42 (by have := HSZ.out; omega)
  have hb3 := hb2.trans (hF3.bel (by have := HSZ.out; omega) hb2.size)
  have h23 := hF3.size
  have hB0 : w.heap.size + 1 + 1 < w2.heap.size := by have := HSZ.out; have := HSL.out; omega
  generalize w2.heap.size = B at *
  have HB0 := Lib.hid hB0
  clear hS hC hb2 hF3 h32 h42 hB0
  go_wp2_with fail
  refine (badly_c hI hl (fun z h => by have := hz z h; omega) HSL.out h23 hS3 hC3 hn).mono ?_
  rintro e w4 ⟨v', zs', rfl, hI4, hl4, hz4, hS4, hF4⟩
  obtain ⟨va', vn', vc', rfl⟩ := hI4.isSlice
  have hC4 := hC3.keepB hF4 HSL.out
  have h34 := hF4.own h33 (by have := HSZ.out; omega) (by have := HB0.out; omega)
  have h44 := hF4.own h43 (by have := HSZ.out; omega) (by have := HB0.out; omega)
  have hb4 := hb3.trans (hF4.bel (by have := HSZ.out; omega) (by have := HB0.out; omega))
  clear hI hl hz hS3 hC3 hb3 hF4 h33 h43 h23
  go_wp2_with fail
  refine (drawMono_c hI4 hl4 hz4 HSL.out hS4 hC4 hn).mono ?_
  rintro e w5 ⟨m, he5, hm, hS5, hF5⟩
  unfold monoV at he5
  subst he5
  have hI5 := hI4.keep hF5 HSL.out
  have hC5 := hC4.keep hF5
  have h35 := hF5.own h34 (by have := HSZ.out; omega)
  have h45 := hF5.own h44 (by have := HSZ.out; omega)
  have hb5 := hb4.trans (hF5.bel (by have := HSZ.out; omega) hb4.size)
  clear hI4 hS4 hC4 hb4 hF5 h34 h44
  go_wp2_with fail
  refine (drawMono_c hI5 hl4 hz4 HSL.out hS5 hC5 hn).mono ?_
  rintro e w6 ⟨k, he6, hk, hS6, hF6⟩
  unfold monoV at he6
  subst he6
  have hI6 := hI5.keep hF6 HSL.out
  have h36 := hF6.own h35 (by have := HSZ.out; omega)
  have h46 := hF6.own h45 (by have := HSZ.out; omega)
  have hb6 := hb5.trans (hF6.bel (by have := HSZ.out; omega) hb5.size)
  clear hI5 hS5 hC5 hb5 hF6 h35 h45 hS6
  have h37 := h36.setRow (mcells m).toArray
  have h47 := h46.farRow (show w.heap.size + 1 ≠ w.heap.size by omega) (mcells m).toArray
  go_wp2_with (first
    | (refine wpList_store_row rfl 26 (.tmp 3) (.tmp 16) rfl _ (mcells m).toArray rfl rfl 26 _ h36 (by rw [msize hm]; exact Try.info_mono) (by rw [msize hm, msize nul_mono]) (by simp [mcells, Value.oneCell']) ?_)
    | (refine wpList_store_row rfl 26 (.tmp 4) (.tmp 19) rfl _ (mcells k).toArray rfl rfl 26 _ h47 (by rw [msize hk]; exact Try.info_mono) (by rw [msize hk, msize nul_mono]) (by simp [mcells, Value.oneCell']) ?_))
  have h38 := h37.farRow (show w.heap.size ≠ w.heap.size + 1 by omega) (mcells k).toArray
  have h48 := h47.setRow (mcells k).toArray
  have hI7 := (hI6.farRow (show w.heap.size < B by have := HB0.out; omega) (mcells m).toArray).farRow (show w.heap.size + 1 < B by have := HB0.out; omega) (mcells k).toArray
  exact bodyPost_ret (results_tcc rfl _ _ w.heap.size (w.heap.size + 1) 26 (mcells m).toArray (mcells k).toArray (0, 0) (0, 0) _ rfl rfl h38 h48 Try.underlying26 rfl (by rw [msize hm]; exact Try.info_mono) (by rw [msize hk]; exact Try.info_mono)) rfl
    ⟨_, zs', m, k, rfl, hI7.weaken (by have := HB0.out; omega), hl4, hz4, hm, hk, below_setRow (below_setRow hb6 (Nat.le_refl _) _) (by omega) _⟩

end Go.Proofs.Ytcafccfoeednnaa
