/- The draws of the laws: lists of degrees. -/
import Derived.Test.YtcafccfoeednnaaDrw
import Derived.Test.YtcafccfoeednnaaPart
namespace Go.Proofs.Ytcafccfoeednnaa
open Go.RowKit Go.Deep

theorem Fr.grown {s : Nat} {w wr w' : World} {row : Option Nat} (h : Fr s w wr) (hg : wr.grownBy w' row) (hr : ∀ k, row = some k → w.heap.size ≤ k) : Fr s w w' :=
  ⟨hg.os.trans h.os, hg.tape.trans h.tape, hg.output.trans h.output, Nat.le_trans h.size hg.size, fun k hk hs => (hg.block k (Nat.lt_of_lt_of_le hk h.size) (fun e => by have := hr k e.symm; omega)).trans (h.block k hk hs)⟩
theorem Fr.grownBy {s : Nat} {w w' : World} (h : Fr s w w') : w.grownBy w' (some s) := ⟨h.os, h.tape, h.output, h.size, fun k hk hs => h.block k hk (by simpa using hs)⟩
theorem Fr.alloc {s : Nat} {w wr : World} (h : Fr s w wr) (o : Obj) : Fr s w (wr.alloc o) := h.trans (Fr.of_below (below_alloc1 wr o))
theorem Src.alloc {w : World} {s n c : Nat} {a : Option Addr} (h : Src w s a n c) (o : Obj) : Src (w.alloc o) s a n c := by
  obtain ⟨i, h, hO, h1, h2, h3, h4⟩ := h
  exact ⟨i, h, hO.alloc _, h1, h2, h3, h4⟩
theorem Src.grown {w w' : World} {s n c : Nat} {a : Option Addr} {row : Option Nat} (h : Src w s a n c) (hg : w.grownBy w' row) (hs : some s ≠ row) : Src w' s a n c := by
  obtain ⟨i, h, hO, h1, h2, h3, h4⟩ := h
  exact ⟨i, h, hO.grown hg hs, h1, h2, h3, h4⟩
theorem Code.alloc {w : World} {s n : Nat} {a : Option Addr} (h : Code w s a n) (o : Obj) : Code (w.alloc o) s a n := h.keep (Fr.of_below (below_alloc1 w o))

/-- A list of numbers in a row of the call's own, from block B on. -/
def IL (w : World) (B : Nat) (v : Value) (zs : List Int) : Prop := w.ownsRow B 2 1 v zs.length (zs.map (Value.int .i64))
theorem IL.keep {w w' : World} {s B : Nat} {v : Value} {zs : List Int} (h : IL w B v zs) (hf : Fr s w w') (hs : s < B) : IL w' B v zs := by
  refine World.ownsRow.kept h hf.grownBy ?_
  rcases hv : v.ownBlock with _ | q
  · exact Or.inl rfl
  · right
    have := (World.ownsRow.lt h q hv).1
    simp
    omega
theorem IL.alloc {w : World} {B : Nat} {v : Value} {zs : List Int} (h : IL w B v zs) (o : Obj) : IL (w.alloc o) B v zs :=
  World.ownsRow.kept h (row := none) ⟨(below_alloc1 w o).os, (below_alloc1 w o).tape, (below_alloc1 w o).output, (below_alloc1 w o).size, fun k hk _ => (below_alloc1 w o).block k hk⟩ (by rcases v.ownBlock with _ | q <;> simp)
theorem empty_il (w : World) : IL (w.alloc (.cells #[] 2)) w.heap.size (.slice (some ⟨w.heap.size, 0, none⟩) 0 0) [] :=
  ⟨rfl, Or.inr ⟨w.heap.size, 0, #[], rfl, Nat.le_refl _, heap_alloc_new w _, Nat.le_refl _, by simp [maxLen], rfl, rfl⟩⟩
theorem IL.isSlice {w : World} {B : Nat} {v : Value} {zs : List Int} (h : IL w B v zs) : ∃ a n c, v = .slice a n c := by
  rcases h.2 with ⟨h0, _⟩ | ⟨g, cap, cur, hv, _⟩
  · exact ⟨_, _, _, h0⟩
  · exact ⟨_, _, _, hv⟩
theorem Try.info_intD : ∃ i z, Try.prog.info? 2 = some i ∧ i.zero = some z ∧ i.size = 1 ∧ i.bytes = 8 ∧ z.cells.size = 1 := by
  obtain ⟨i, hi, hzz⟩ := Option.map_eq_some_iff.1 Try.info_int64
  simp only [Prod.mk.injEq] at hzz
  obtain ⟨hz, hs, hb⟩ := hzz
  exact ⟨i, _, hi, hz, hs, hb, rfl⟩

set_option maxHeartbeats 4000000 in
set_option maxRecDepth 100000 in
theorem drawDegrees_c {w : World} {s n c : Nat} {a : Option Addr} (hS : Src w s a n c) (hC : Code w s a n) (hn : n ≤ 1048576) :
    Calls Try.prog 33 #[.pointer (some ⟨s, 0, none⟩), .int .i64 6] w fun e w' => ∃ v zs, e = .returned v ∧ IL w' w.heap.size v zs ∧ zs.length ≤ 6 ∧ (∀ z ∈ zs, 1 ≤ z ∧ z ≤ 12) ∧ Src w' s a n c ∧ Fr s w w' := by
  have hsl := hS.lt
  have HSL := Lib.hid hsl
  have hI0 := empty_il w
  have hS0 := hS.alloc (.cells #[] 2)
  have hC0 := hC.alloc (.cells #[] 2)
  have hF0 := (Fr.refl s w).alloc (.cells #[] 2)
  clear hS hsl
  go_enter Try.func33, Try.ntmps33
  go_wp2_with fail
  generalize w.alloc (.cells #[] 2) = w1 at *
  refine (next_c 7 (by omega) hS0 hC0 hn).mono ?_
  rintro e w2 ⟨r, rfl, hr, hS2, hF2⟩
  obtain ⟨k0, rfl⟩ : ∃ k : Nat, r = k := ⟨r.toNat, by have := hr.1; omega⟩
  have hk0 : k0 ≤ 6 := by have := hr.2.1 (by omega); omega
  have hI2 := hI0.keep hF2 HSL.out
  have hF2' := hF0.trans hF2
  clear hr hS0 hC0 hI0 hF0 hF2
  go_wp2_with fail
  go_loopw [5, 6] (fun x y wr => ∃ (k : Nat) (va : Option Addr) (vn vc : Nat) (zs : List Int), x = .slice va vn vc ∧ y = .int .i64 k ∧ zs.length + k ≤ 6 ∧ IL wr w.heap.size (.slice va vn vc) zs ∧ Hid (∀ z ∈ zs, 1 ≤ z ∧ z ≤ 12) ∧ Src wr s a n c ∧ Fr s w wr) (fun _ y _ => (intOf y).toNat)
  case atStart => exact ⟨k0, _, _, _, [], rfl, rfl, by simpa using hk0, hI2, Lib.hid (by simp), hS2, hF2'⟩
  case round =>
    clear hI2 hS2 hF2'
    obtain ⟨k, va, vn, vc, zs, rfl, rfl, hlen, hI, hz, hS, hF⟩ := hrel
    by_cases hk : 0 < k
    · have hki : (0 : Int) < (k : Int) := by omega
      have hCr := hC.keep hF
      go_wp2_with fail
      refine (next_c 12 (by omega) hS hCr hn).mono ?_
      rintro e w3 ⟨r, rfl, hr, hS3, hF3⟩
      have hrb : 0 ≤ r ∧ r < 12 := ⟨hr.1, hr.2.1 (by omega)⟩
      have hI3 := hI.keep hF3 HSL.out
      have hFF := hF.trans hF3
      have hC3 := hC.keep hFF
      clear hr hS hCr hI hF hF3
      have hne : w3.heap.size ≠ s := by have := hS3.lt; omega
      have hG := Own.new w3 2 #[.int .i64 1, .int .i64 2, .int .i64 2, .int .i64 3, .int .i64 3, .int .i64 4, .int .i64 5, .int .i64 (1 + r)]
      have hSa := hS3.alloc (.cells #[.int .i64 1, .int .i64 2, .int .i64 2, .int .i64 3, .int .i64 3, .int .i64 4, .int .i64 5, .int .i64 (1 + r)] 2)
      have hCa := hC3.alloc (.cells #[.int .i64 1, .int .i64 2, .int .i64 2, .int .i64 3, .int .i64 3, .int .i64 4, .int .i64 5, .int .i64 (1 + r)] 2)
      have hIa := hI3.alloc (.cells #[.int .i64 1, .int .i64 2, .int .i64 2, .int .i64 3, .int .i64 3, .int .i64 4, .int .i64 5, .int .i64 (1 + r)] 2)
      have hFa := hFF.alloc (.cells #[.int .i64 1, .int .i64 2, .int .i64 2, .int .i64 3, .int .i64 3, .int .i64 4, .int .i64 5, .int .i64 (1 + r)] 2)
      have HNE := Lib.hid hne
      clear hS3 hC3 hI3 hFF hne
      go_wp2_with fail
      generalize w3.alloc (.cells #[.int .i64 1, .int .i64 2, .int .i64 2, .int .i64 3, .int .i64 3, .int .i64 4, .int .i64 5, .int .i64 (1 + r)] 2) = w4 at *
      refine (pick_c (m := 8) (zs := [1, 2, 2, 3, 3, 4, 5, 1 + r]) rfl (by omega) (by omega) hG HNE.out hSa hCa hn).mono ?_
      rintro e w5 ⟨y, rfl, hy, hS5, hF5⟩
      have hyb : 1 ≤ y ∧ y ≤ 12 := by
        simp only [List.mem_cons, List.not_mem_nil, or_false] at hy
        omega
      have HY := Lib.hid hyb
      have hI5 := hIa.keep hF5 HSL.out
      have hFF5 := hFa.trans hF5
      clear hG hSa hCa hIa hFa hy hyb hF5
      obtain ⟨ti, tz, hti, htz, hts, htb, htzs⟩ := Try.info_intD
      have HI := Lib.hid hti
      have HZ := Lib.hid htz
      have HSZ := Lib.hid hts
      have HBt := Lib.hid htb
      have HZs := Lib.hid htzs
      clear hti htz hts htb htzs
      have hown := hI5.alloc (.cells #[.int .i64 y] 2)
      have hSb := hS5.alloc (.cells #[.int .i64 y] 2)
      have hFb := hFF5.alloc (.cells #[.int .i64 y] 2)
      have hnews : ∀ j u, ([Value.int .i64 y] : List Value)[j]? = some u → (w5.alloc (.cells #[.int .i64 y] 2)).cell? ((⟨w5.heap.size, 0, none⟩ : Addr).add j) = some u := fun j u hu => by
        rw [Addr.add_mid]
        exact (Own.new w5 2 #[.int .i64 y]).range j u hu
      have HNW := Lib.hid hnews
      clear hnews hS5 hFF5 hI5
      go_wp2_with (refine wpList_append_own _ rfl (.tmp 16) (.tmp 23) 24 rfl w.heap.size 2 ti tz 1 8 Try.underlying24 HI.out HZ.out HSZ.out HBt.out HZs.out (by decide) _ zs.length (zs.map (Value.int .i64)) rfl hown ⟨w5.heap.size, 0, none⟩ 1 1 [Value.int .i64 y] rfl rfl HNW.out (by simp [Value.oneCell']) (by simp only [maxLen]; omega) (by omega) hFb.size (fun v' w' h2 h3 h4 => ?_)
                   obtain ⟨gg, vk, cp, rfl⟩ : ∃ gg vk cp, v' = .slice gg vk cp := by
                     rcases h2.2 with ⟨h0, _⟩ | ⟨g, cap, cur, hv, _⟩
                     · exact ⟨_, _, _, h0⟩
                     · exact ⟨_, _, _, hv⟩
                   have hF7 := hFb.grown h3 (fun q e => (World.ownsRow.lt hown q e).1)
                   have hS7 := hSb.grown h3 (fun e => by have := (World.ownsRow.lt hown s e.symm).1; have := HSL.out; omega)
                   have H2 := Lib.hid h2
                   clear h2 h3 h4 hown hSb hFb HNW)
      go_roundw
      case rel =>
        refine ⟨k - 1, _, _, _, zs ++ [y], rfl, by congr 1; omega, by simp; omega, ?_, Lib.hid (fun z hz' => ?_), hS7, hF7⟩
        · have := H2.out
          unfold IL
          rw [List.length_append, List.map_append]
          exact this
        · rcases List.mem_append.1 hz' with h | h
          · exact hz.out z h
          · rw [List.mem_singleton.1 h]; exact HY.out
      case measure => simp [intOf]; omega
    · have hk0 : k = 0 := by omega
      subst hk0
      go_wp2_with fail
      go_ret
      exact ⟨_, zs, rfl, hI, by omega, hz.out, hS, hF⟩

/-- Of the blocks below B, block s alone has changed. -/
structure FrB (s B : Nat) (w w' : World) : Prop where
  os : w'.os = w.os
  tape : w'.tape = w.tape
  output : w'.output = w.output
  size : w.heap.size ≤ w'.heap.size
  block : ∀ k, k < B → k ≠ s → w'.heap[k]? = w.heap[k]?
theorem Fr.toB {s B : Nat} {w w' : World} (h : Fr s w w') (hB : B ≤ w.heap.size) : FrB s B w w' := ⟨h.os, h.tape, h.output, h.size, fun k hk hs => h.block k (by omega) hs⟩
theorem FrB.trans {s B : Nat} {a b c : World} (h : FrB s B a b) (k : FrB s B b c) : FrB s B a c :=
  ⟨k.os.trans h.os, k.tape.trans h.tape, k.output.trans h.output, Nat.le_trans h.size k.size, fun i hi hs => (k.block i hi hs).trans (h.block i hi hs)⟩
theorem FrB.mono {s B B' : Nat} {w w' : World} (h : FrB s B w w') (hB : B' ≤ B) : FrB s B' w w' := ⟨h.os, h.tape, h.output, h.size, fun k hk hs => h.block k (by omega) hs⟩
theorem Fr.thenB {s B : Nat} {a b c : World} (h : Fr s a b) (k : FrB s B b c) (hB : a.heap.size ≤ B) : Fr s a c :=
  ⟨k.os.trans h.os, k.tape.trans h.tape, k.output.trans h.output, Nat.le_trans h.size k.size, fun i hi hs => (k.block i (by omega) hs).trans (h.block i hi hs)⟩
theorem FrB.grown {s B : Nat} {w wr w' : World} {row : Option Nat} (h : FrB s B w wr) (hg : wr.grownBy w' row) (hr : ∀ k, row = some k → B ≤ k) (hB : B ≤ wr.heap.size) : FrB s B w w' :=
  ⟨hg.os.trans h.os, hg.tape.trans h.tape, hg.output.trans h.output, Nat.le_trans h.size hg.size, fun k hk hs => (hg.block k (by omega) (fun e => by have := hr k e.symm; omega)).trans (h.block k hk hs)⟩
theorem Code.keepB {w w' : World} {s n B : Nat} {a : Option Addr} (h : Code w s a n) (hf : FrB s B w w') (hs : s < B) : Code w' s a n := fun hn => by
  obtain ⟨b, off, ha, hbs, hb, hc⟩ := h hn
  refine ⟨b, off, ha, hbs, Nat.lt_of_lt_of_le hb hf.size, fun i hi => ?_⟩
  obtain ⟨y, h0, h1, h2⟩ := hc i hi
  exact ⟨y, h0, h1, (World.cell?_of_block (a := ⟨b, off + i, none⟩) (hf.block b (by omega) (by omega))).trans h2⟩

set_option maxHeartbeats 4000000 in
set_option maxRecDepth 100000 in
theorem badly_c {w : World} {s n c B : Nat} {a : Option Addr} {va : Option Addr} {vn vc : Nat} {zs : List Int} (hI : IL w B (.slice va vn vc) zs) (hlen : zs.length ≤ 6) (hz : ∀ z ∈ zs, -1 ≤ z ∧ z ≤ 13) (hsB : s < B) (hB : B ≤ w.heap.size) (hS : Src w s a n c) (hC : Code w s a n) (hn : n ≤ 1048576) :
    Calls Try.prog 32 #[.pointer (some ⟨s, 0, none⟩), .slice va vn vc] w fun e w' => ∃ v zs', e = .returned v ∧ IL w' B v zs' ∧ zs'.length ≤ 9 ∧ (∀ z ∈ zs', -1 ≤ z ∧ z ≤ 13) ∧ Src w' s a n c ∧ FrB s B w w' := by
  go_enter Try.func32, Try.ntmps32
  go_wp2_with fail
  refine (next_c 40 (by omega) hS hC hn).mono ?_
  rintro e w2 ⟨r, rfl, hr, hS2, hF2⟩
  have hI2 := hI.keep hF2 hsB
  have hC2 := hC.keep hF2
  have hB2 : B ≤ w2.heap.size := Nat.le_trans hB hF2.size
  have hFB2 := hF2.toB hB
  have HSB := Lib.hid hsB
  have HB2 := Lib.hid hB2
  clear hr hI hC hS hF2 hsB hB2
  by_cases h0 : r = 0
  · subst h0
    have hne : w2.heap.size ≠ s := by have := HSB.out; have := HB2.out; omega
    have hG := Own.new w2 2 #[.int .i64 0, .int .i64 13, .int .i64 (-1)]
    have hSa := hS2.alloc (.cells #[.int .i64 0, .int .i64 13, .int .i64 (-1)] 2)
    have hCa := hC2.alloc (.cells #[.int .i64 0, .int .i64 13, .int .i64 (-1)] 2)
    have hIa := hI2.alloc (.cells #[.int .i64 0, .int .i64 13, .int .i64 (-1)] 2)
    have hFa := hFB2.trans (((Fr.refl s w2).alloc (.cells #[.int .i64 0, .int .i64 13, .int .i64 (-1)] 2)).toB HB2.out)
    have HNE := Lib.hid hne
    have HBa : Hid (B ≤ (w2.alloc (.cells #[.int .i64 0, .int .i64 13, .int .i64 (-1)] 2)).heap.size) := Lib.hid (by rw [size_alloc]; have := HB2.out; omega)
    clear hS2 hC2 hI2 hFB2 hne
    go_wp2_with fail
    generalize w2.alloc (.cells #[.int .i64 0, .int .i64 13, .int .i64 (-1)] 2) = w4 at *
    refine (pick_c (m := 3) (zs := [0, 13, -1]) rfl (by omega) (by omega) hG HNE.out hSa hCa hn).mono ?_
    rintro e w5 ⟨y, rfl, hy, hS5, hF5⟩
    have hyb : -1 ≤ y ∧ y ≤ 13 := by
      simp only [List.mem_cons, List.not_mem_nil, or_false] at hy
      omega
    have HY := Lib.hid hyb
    have hI5 := hIa.keep hF5 HSB.out
    have hFF5 := hFa.trans (hF5.toB HBa.out)
    have HB5 := Lib.hid (Nat.le_trans HBa.out hF5.size)
    clear hG hSa hCa hIa hFa hy hyb hF5
    obtain ⟨ti, tz, hti, htz, hts, htb, htzs⟩ := Try.info_intD
    have HI := Lib.hid hti
    have HZ := Lib.hid htz
    have HSZ := Lib.hid hts
    have HBt := Lib.hid htb
    have HZs := Lib.hid htzs
    clear hti htz hts htb htzs
    have hown := hI5.alloc (.cells #[.int .i64 y] 2)
    have hSb := hS5.alloc (.cells #[.int .i64 y] 2)
    have hFb := hFF5.trans (((Fr.refl s w5).alloc (.cells #[.int .i64 y] 2)).toB HB5.out)
    have HBb : Hid (B ≤ (w5.alloc (.cells #[.int .i64 y] 2)).heap.size) := Lib.hid (by rw [size_alloc]; have := HB5.out; omega)
    have hnews : ∀ j u, ([Value.int .i64 y] : List Value)[j]? = some u → (w5.alloc (.cells #[.int .i64 y] 2)).cell? ((⟨w5.heap.size, 0, none⟩ : Addr).add j) = some u := fun j u hu => by
      rw [Addr.add_mid]
      exact (Own.new w5 2 #[.int .i64 y]).range j u hu
    have HNW := Lib.hid hnews
    clear hnews hS5 hFF5 hI5
    go_wp2_with (refine wpList_append_own _ rfl (.tmp 9) (.tmp 13) 24 rfl B 2 ti tz 1 8 Try.underlying24 HI.out HZ.out HSZ.out HBt.out HZs.out (by decide) _ zs.length (zs.map (Value.int .i64)) rfl hown ⟨w5.heap.size, 0, none⟩ 1 1 [Value.int .i64 y] rfl rfl HNW.out (by simp [Value.oneCell']) (by simp only [maxLen]; omega) (by omega) HBb.out (fun v' w' h2 h3 h4 => ?_)
                 have hF7 := hFb.grown h3 (fun q e => (World.ownsRow.lt hown q e).1) HBb.out
                 have hS7 := hSb.grown h3 (fun e => by have := (World.ownsRow.lt hown s e.symm).1; have := HSB.out; omega)
                 have H2 := Lib.hid h2
                 clear h2 h3 h4 hown hSb hFb HNW)
    go_ret
    refine ⟨v', zs ++ [y], rfl, ?_, by simp; omega, fun z hz' => ?_, hS7, hF7⟩
    · have := H2.out
      unfold IL
      rw [List.length_append, List.map_append]
      exact this
    · rcases List.mem_append.1 hz' with h | h
      · exact hz z h
      · rw [List.mem_singleton.1 h]; exact HY.out
  · have hb0 : (r == 0) = false := by simpa using h0
    by_cases h1 : r = 1
    · subst h1
      have hG := Own.new w2 2 #[.int .i64 2, .int .i64 2, .int .i64 2, .int .i64 2, .int .i64 2, .int .i64 2, .int .i64 2, .int .i64 2, .int .i64 2]
      have hSa := hS2.alloc (.cells #[.int .i64 2, .int .i64 2, .int .i64 2, .int .i64 2, .int .i64 2, .int .i64 2, .int .i64 2, .int .i64 2, .int .i64 2] 2)
      have hFa := hFB2.trans (((Fr.refl s w2).alloc (.cells #[.int .i64 2, .int .i64 2, .int .i64 2, .int .i64 2, .int .i64 2, .int .i64 2, .int .i64 2, .int .i64 2, .int .i64 2] 2)).toB HB2.out)
      go_wp2_with fail
      go_ret
      exact ⟨_, [2, 2, 2, 2, 2, 2, 2, 2, 2], rfl, ⟨rfl, Or.inr ⟨w2.heap.size, 9, _, rfl, HB2.out, hG, Nat.le_refl _, by simp [maxLen], rfl, rfl⟩⟩, by simp, by simp, hSa, hFa⟩
    · have hb1 : (r == 1) = false := by simpa using h1
      go_wp2_with fail
      go_ret
      exact ⟨_, zs, rfl, hI2, by omega, hz, hS2, hFB2⟩

end Go.Proofs.Ytcafccfoeednnaa
