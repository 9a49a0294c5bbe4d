/- The draws of the laws: the source of numbers; what they return is of the right kind, whatever it is. -/
import Derived.Test.YtcafccfoeednnaaDegs
import Derived.Laws.BitsLemmas
import Derived.Deep.RegionWith
import Derived.Deep.Cut
import Derived.Deep.CutRange
namespace Go.Proofs.Ytcafccfoeednnaa
open Go.RowKit Go.Deep

/-- Block s alone has changed; new blocks may have come. -/
structure Fr (s : Nat) (w w' : World) : Prop where
  os : w'.os = w.os
  tape : w'.tape = w.tape
  output : w'.output = w.output
  size : w.heap.size ≤ w'.heap.size
  block : ∀ k, k < w.heap.size → k ≠ s → w'.heap[k]? = w.heap[k]?
theorem Fr.refl (s : Nat) (w : World) : Fr s w w := ⟨rfl, rfl, rfl, Nat.le_refl _, fun _ _ _ => rfl⟩
theorem Fr.trans {s : Nat} {a b c : World} (h : Fr s a b) (k : Fr s b c) : Fr s a c :=
  ⟨k.os.trans h.os, k.tape.trans h.tape, k.output.trans h.output, Nat.le_trans h.size k.size, fun i hi hs => (k.block i (Nat.lt_of_lt_of_le hi h.size) hs).trans (h.block i hi hs)⟩
theorem Fr.of_below {s : Nat} {w w' : World} (h : Below w.heap.size w w') : Fr s w w' := ⟨h.os, h.tape, h.output, h.size, fun k hk _ => h.block k hk⟩
theorem Fr.bel {s B : Nat} {w w' : World} (h : Fr s w w') (hs : B ≤ s) (hB : B ≤ w.heap.size) : Below B w w' := ⟨h.os, h.tape, h.output, h.size, fun k hk => h.block k (by omega) (by omega)⟩
theorem Fr.set {s : Nat} {w w' : World} (h : Fr s w w') (i : Nat) (v : Value) : Fr s w (w'.setCell ⟨s, i, none⟩ v) :=
  h.trans ⟨rfl, rfl, rfl, by simp [World.setCell], fun k _ hk => Below.heap_setCell _ _ _ _ (by simpa using hk)⟩
theorem Fr.own {s g : Nat} {t : TypeId} {cs : Array Value} {w w' : World} (h : Fr s w w') (o : Own w g t cs) (hg : g ≠ s) : Own w' g t cs := (h.block g o.lt hg).trans o

/-- The source in block s, over the bytes of a slice. -/
def Src (w : World) (s : Nat) (a : Option Addr) (n c : Nat) : Prop :=
  ∃ (i h : Int), Own w s 89 #[.slice a n c, .int .i64 i, .int .u64 h] ∧ 0 ≤ i ∧ i ≤ n ∧ 0 ≤ h ∧ h < 18446744073709551616
/-- The slice's bytes, in another block than s. -/
def Code (w : World) (s : Nat) (a : Option Addr) (n : Nat) : Prop :=
  0 < n → ∃ b off, a = some ⟨b, off, none⟩ ∧ b < s ∧ b < w.heap.size ∧ ∀ i, i < n → ∃ y, 0 ≤ y ∧ y ≤ 255 ∧ w.cell? ⟨b, off + i, none⟩ = some (.int .u8 y)
theorem Code.keep {w w' : World} {s n : Nat} {a : Option Addr} (h : Code w s a n) (hf : Fr s w w') : Code w' s a n := fun hn => by
  obtain ⟨b, off, ha, hs, hb, hc⟩ := h hn
  refine ⟨b, off, ha, hs, Nat.lt_of_lt_of_le hb hf.size, fun i hi => ?_⟩
  obtain ⟨y, h0, h1, h2⟩ := hc i hi
  exact ⟨y, h0, h1, (World.cell?_of_block (a := ⟨b, off + i, none⟩) (hf.block b hb (by omega))).trans h2⟩
theorem Src.lt {w : World} {s n c : Nat} {a : Option Addr} (h : Src w s a n c) : s < w.heap.size := by
  obtain ⟨i, h, hO, _⟩ := h
  exact hO.lt

theorem wrap_u64_b (n : Int) : 0 ≤ IntKind.u64.wrap n ∧ IntKind.u64.wrap n < 18446744073709551616 := by
  simp [IntKind.wrap, IntKind.bits, IntKind.signed]
  omega
theorem and24 {x : Int} (h0 : 0 ≤ x) (h1 : x < 18446744073709551616) : bits .and .u64 x 16777215 = x % 16777216 :=
  bits_mask .u64 64 (by decide) (fun n h0 h1 => IntWalk.u64_in n (by omega)) 24 (by decide) x h0 h1

/-- A number drawn below x. -/
def Dn (x r : Int) : Prop := 0 ≤ r ∧ (1 ≤ x → r < x) ∧ (x < 1 → r = 0)

set_option maxHeartbeats 2000000 in
set_option maxRecDepth 100000 in
theorem next_c {w : World} {s n c : Nat} {a : Option Addr} (x : Int) (hx : x ≤ 1000000) (hS : Src w s a n c) (hC : Code w s a n) (hn : n ≤ 1048576) :
    Calls Try.prog 42 #[.pointer (some ⟨s, 0, none⟩), .int .i64 x] w fun e w' => ∃ r : Int, e = .returned (.int .i64 r) ∧ Dn x r ∧ Src w' s a n c ∧ Fr s w w' := by
  by_cases h1 : x < 1
  · go_enter Try.func42, Try.ntmps42
    go_wp2_with fail
    go_ret
    exact ⟨0, rfl, ⟨by omega, by omega, fun _ => rfl⟩, hS, Fr.refl _ _⟩
  · obtain ⟨i, h, hO, hi0, hi1, hh0, hh1⟩ := hS
    have c2 := hO.cell 2
    have f2 := hO.frozen 2
    obtain ⟨h', hw⟩ : ∃ h', IntKind.u64.wrap (IntKind.u64.wrap (h * 6364136223846793005) + 1442695040888963407) = h' := ⟨_, rfl⟩
    have hb' : 0 ≤ h' ∧ h' < 18446744073709551616 := by rw [← hw]; exact wrap_u64_b _
    have hO1 : Own (w.setCell ⟨s, 2, none⟩ (.int .u64 h')) s 89 #[.slice a n c, .int .i64 i, .int .u64 h'] := hO.set 2 (.int .u64 h')
    have hF1 := (Fr.refl s w).set 2 (.int .u64 h')
    obtain ⟨v, hv⟩ : ∃ v, h' / 8589934592 % 16777216 = v := ⟨_, rfl⟩
    have hvb : 0 ≤ v ∧ v < 16777216 := by omega
    have hA : bits .and .u64 (h' / 8589934592) 16777215 = v := by rw [and24 (by omega) (by omega), hv]
    have hvw : IntKind.i64.wrap v = v := IntWalk.i64_in _ (by omega)
    go_enter Try.func42, Try.ntmps42
    go_upto_region 4 with fail
    clear c2 f2 hw hv
    generalize w.setCell ⟨s, 2, none⟩ (.int .u64 h') = w1 at *
    have d2 := hO1.cell 2
    go_upto_region 5 with fail
    clear d2
    have d0 := hO1.cell 0
    have d1 := hO1.cell 1
    go_quiet (fail)
    have hO2 : Own (w1.drewN nq) s 89 #[.slice a n c, .int .i64 i, .int .u64 h'] := hO1
    have hF2 : Fr s w (w1.drewN nq) := ⟨hF1.os, hF1.tape, hF1.output, hF1.size, hF1.block⟩
    clear d0 d1 hO1 hF1
    generalize w1.drewN nq = w2 at *
    by_cases hin : i < n
    · obtain ⟨k, rfl⟩ : ∃ k : Nat, i = k := ⟨i.toNat, by omega⟩
      have hkn : k < n := by omega
      obtain ⟨b, off, rfl, hbs, hbl, hcc⟩ := (hC.keep hF2) (by omega)
      obtain ⟨y, hy0, hy1, hcy⟩ := hcc k hkn
      have hvy : IntKind.i64.wrap (v + y) = v + y := IntWalk.i64_in _ (by omega)
      have d0 := hO2.cell 0
      have d1 := hO2.cell 1
      go_upto_region 6 with fail
      go_quiet (fail)
      have hO3 : Own (w2.drewN nq) s 89 #[.slice (some ⟨b, off, none⟩) n c, .int .i64 k, .int .u64 h'] := hO2
      have hF3 : Fr s w (w2.drewN nq) := ⟨hF2.os, hF2.tape, hF2.output, hF2.size, hF2.block⟩
      clear d0 d1 hO2 hF2 hcy
      generalize w2.drewN nq = w3 at *
      have d1 := hO3.cell 1
      have f1 := hO3.frozen 1
      have hr : (v + y).tmod x = (v + y) % x := Int.tmod_eq_emod_of_nonneg (by omega)
      have hO4 : Own (w3.setCell ⟨s, 1, none⟩ (.int .i64 ((k : Int) + 1))) s 89 #[.slice (some ⟨b, off, none⟩) n c, .int .i64 ((k : Int) + 1), .int .u64 h'] := hO3.set 1 _
      have hF4 := hF3.set 1 (.int .i64 ((k : Int) + 1))
      go_wp2_with fail
      go_ret
      exact ⟨(v + y) % x, rfl, ⟨Int.emod_nonneg _ (by omega), fun _ => Int.emod_lt_of_pos _ (by omega), fun _ => by omega⟩, ⟨(k : Int) + 1, h', hO4, by omega, by omega, by omega, by omega⟩, hF4⟩
    · have hr : v.tmod x = v % x := Int.tmod_eq_emod_of_nonneg (by omega)
      go_wp2_with fail
      go_ret
      exact ⟨v % x, rfl, ⟨Int.emod_nonneg _ (by omega), fun _ => Int.emod_lt_of_pos _ (by omega), fun _ => by omega⟩, ⟨i, h', hO2, by omega, by omega, by omega, by omega⟩, hF2⟩

set_option maxHeartbeats 2000000 in
set_option maxRecDepth 100000 in
/-- One of some numbers. -/
theorem pick_c {w : World} {s n c g m : Nat} {a : Option Addr} {zs : List Int} (hm : zs.length = m) (h1 : 1 ≤ m) (h9 : m ≤ 9) (hG : Own w g 2 ((zs.map (Value.int .i64)).toArray)) (hgs : g ≠ s) (hS : Src w s a n c) (hC : Code w s a n) (hn : n ≤ 1048576) :
    Calls Try.prog 43 #[.pointer (some ⟨s, 0, none⟩), .slice (some ⟨g, 0, none⟩) m m] w fun e w' => ∃ x : Int, e = .returned (.int .i64 x) ∧ x ∈ zs ∧ Src w' s a n c ∧ Fr s w w' := by
  go_enter Try.func43, Try.ntmps43
  go_wp2_with fail
  refine (next_c (m : Int) (by omega) hS hC hn).mono ?_
  rintro e w1 ⟨r, rfl, hr, hS1, hF1⟩
  obtain ⟨k, rfl⟩ : ∃ k : Nat, r = k := ⟨r.toNat, by have := hr.1; omega⟩
  have hk : k < m := by have := hr.2.1 (by omega); omega
  have hkz : k < zs.length := by omega
  have hG1 := hF1.own hG hgs
  have hc := hG1.cell k
  rw [List.getElem?_toArray, List.getElem?_map, List.getElem?_eq_getElem hkz, Option.map_some] at hc
  have hmem : zs[k] ∈ zs := List.getElem_mem hkz
  generalize zs[k] = z at hc hmem
  clear hr
  go_wp2_with fail
  go_ret
  exact ⟨z, rfl, hmem, hS1, hF1⟩

set_option maxHeartbeats 2000000 in
set_option maxRecDepth 100000 in
/-- A number near a range: any number. -/
theorem near_c {w : World} {s n c : Nat} {a : Option Addr} (x : Int) (hx0 : 0 ≤ x) (hx : x ≤ 100000) (hS : Src w s a n c) (hC : Code w s a n) (hn : n ≤ 1048576) :
    Calls Try.prog 44 #[.pointer (some ⟨s, 0, none⟩), .int .i64 x] w fun e w' => ∃ r : Int, e = .returned (.int .i64 r) ∧ -9223372036854775808 ≤ r ∧ r ≤ 9223372036854775807 ∧ Src w' s a n c ∧ Fr s w w' := by
  go_enter Try.func44, Try.ntmps44
  go_wp2_with fail
  refine (next_c 14 (by omega) hS hC hn).mono ?_
  rintro e w1 ⟨r, rfl, hr, hS1, hF1⟩
  have hsl := hS1.lt
  have HSL := Lib.hid hsl
  have HR := Lib.hid hr
  clear hS hr hsl
  have hC1 := hC.keep hF1
  by_cases h0 : r = 0
  · subst h0
    have hG := Own.new w1 2 #[.int .i64 (-1), .int .i64 (x + 1), .int .i64 1099511627776, .int .i64 (-4611686018427387904)]
    have hFa := Fr.of_below (s := s) (below_alloc1 w1 (.cells #[.int .i64 (-1), .int .i64 (x + 1), .int .i64 1099511627776, .int .i64 (-4611686018427387904)] 2))
    have hSa : Src (w1.alloc (.cells #[.int .i64 (-1), .int .i64 (x + 1), .int .i64 1099511627776, .int .i64 (-4611686018427387904)] 2)) s a n c := by
      obtain ⟨i, h, hO, h1, h2, h3, h4⟩ := hS1
      exact ⟨i, h, hO.alloc _, h1, h2, h3, h4⟩
    have hne : w1.heap.size ≠ s := by have := HSL.out; omega
    have hCa := hC1.keep hFa
    go_wp2_with fail
    refine (pick_c (m := 4) (zs := [-1, x + 1, 1099511627776, -4611686018427387904]) rfl (by omega) (by omega) hG hne hSa hCa hn).mono ?_
    rintro e w2 ⟨y, rfl, hy, hS2, hF2⟩
    have hyb : -9223372036854775808 ≤ y ∧ y ≤ 9223372036854775807 := by
      simp only [List.mem_cons, List.not_mem_nil, or_false] at hy
      omega
    go_wp2_with fail
    go_ret
    exact ⟨y, rfl, hyb.1, hyb.2, hS2, hF1.trans (hFa.trans hF2)⟩
  · have hb0 : (r == 0) = false := by simpa using h0
    go_wp2_with fail
    refine (next_c (x + 1) (by omega) hS1 hC1 hn).mono ?_
    rintro e w2 ⟨y, rfl, hy, hS2, hF2⟩
    have hyb : -9223372036854775808 ≤ y ∧ y ≤ 9223372036854775807 := by have := hy.1; have := hy.2.1 (by omega); omega
    clear hy
    go_wp2_with fail
    go_ret
    exact ⟨y, rfl, hyb.1, hyb.2, hS2, hF1.trans hF2⟩

end Go.Proofs.Ytcafccfoeednnaa
