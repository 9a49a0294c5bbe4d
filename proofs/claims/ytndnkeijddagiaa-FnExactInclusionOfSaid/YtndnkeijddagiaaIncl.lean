
import Derived.Test.YtndnkeijddagiaaGen
import Derived.Test.YtndnkeijddagiaaPrdC
namespace Go.Proofs.Ytndnkeijddagiaa
open Go.RowKit Go.Deep
def gensFT (s k : Nat) : List (List Tm) := (List.range k).map (fun i => [⟨genM (s + i), 1⟩])
theorem gensFT_succ (s k : Nat) : gensFT s (k + 1) = gensFT s k ++ [[⟨genM (s + k), 1⟩]] := by simp [gensFT, List.range_succ]
theorem gensFT_len (s k : Nat) : (gensFT s k).length = k := by simp [gensFT]
theorem gensFT_one (s k : Nat) : ∀ ts ∈ gensFT s k, ts.length ≤ 1 := by
  intro ts h
  simp only [gensFT, List.mem_map] at h
  obtain ⟨i, -, rfl⟩ := h
  simp
theorem gensFT_tm (s k : Nat) : ∀ ts ∈ gensFT s k, ∀ t ∈ ts, IsTm t := by
  intro ts h t ht
  simp only [gensFT, List.mem_map] at h
  obtain ⟨i, -, rfl⟩ := h
  obtain rfl : t = ⟨genM (s + i), 1⟩ := by simpa using ht
  exact ⟨genM_mono _, by dsimp only; omega, by dsimp only; omega⟩
def plS (zs : List Int) (sc : Bool) : Nat := if sc then zs.length else 0
def plM (zs ys : List Int) (sc : Bool) : Nat := if sc then ys.length else zs.length
def inV (zs : List Int) (ims : List (List Tm)) (ys : List Int) (jms : List (List Tm)) (sc : Bool) : List (List Tm) := if prE zs ims ys jms = 0 then gensFT (plS zs sc) (plM zs ys sc) else []
theorem in_no {zs : List Int} {ims : List (List Tm)} {ys : List Int} {jms : List (List Tm)} {sc : Bool} (h : ¬ prE zs ims ys jms = 0) : inV zs ims ys jms sc = [] := by rw [inV, if_neg h]
theorem in_yes {zs : List Int} {ims : List (List Tm)} {ys : List Int} {jms : List (List Tm)} {sc : Bool} (h : prE zs ims ys jms = 0) : inV zs ims ys jms sc = gensFT (plS zs sc) (plM zs ys sc) := by rw [inV, if_pos h]
theorem pr_ok {zs : List Int} {ims : List (List Tm)} {ys : List Int} {jms : List (List Tm)} (h : prE zs ims ys jms = 0) : zs.length + ys.length ≤ 8 := by
  unfold prE at h
  split at h
  · omega
  · split at h
    · omega
    · omega
theorem generatorForm_a {w : World} {s k : Nat} {f : Int} (hi : s + k < 8) :
    Calls Try.prog 87 #[.int .i64 ((s : Int) + (k : Int)), .int .i64 f] w fun e w' => ∃ g, e = .returned (.agg #[.slice (some ⟨g, 0, none⟩) 1 1]) ∧ w.heap.size ≤ g ∧ Own w' g 76 (tcells ⟨genM (s + k), f⟩).toArray ∧ Below w.heap.size w w' := by
  have := generatorForm_c (w := w) (f := f) hi
  rwa [Int.natCast_add] at this
theorem l04Generator_a {w : World} {s k : Nat} (hi : s + k < 8) :
    Calls Try.prog 86 #[.int .i64 ((s : Int) + (k : Int))] w fun e w' => ∃ g, e = .returned (.agg #[.slice (some ⟨g, 0, none⟩) 1 1]) ∧ w.heap.size ≤ g ∧ Own w' g 76 (tcells ⟨genM (s + k), 1⟩).toArray ∧ Below w.heap.size w w' := by
  have := l04Generator_c (w := w) hi
  rwa [Int.natCast_add] at this
set_option maxRecDepth 100000 in
theorem placesInProduct_c {w : World} {a1 a2 b1 b2 : Option Addr} {dn1 n1 dn2 n2 : Nat} (dc1 c1 dc2 c2 : Nat) (h1 : dn1 ≤ 1048576) (h2 : dn2 ≤ 1048576) (sc : Bool) {s m : Nat} (hs : (sc = false ∧ s = 0 ∧ m = dn1) ∨ (sc = true ∧ s = dn1 ∧ m = dn2)) :
    Calls Try.prog 90 #[.agg #[.slice a1 dn1 dc1, .slice b1 n1 c1], .agg #[.slice a2 dn2 dc2, .slice b2 n2 c2], .bool sc] w fun e w' => e = .returned (.tuple #[.int .i64 s, .int .i64 ((s : Int) + (m : Int))]) ∧ Below w.heap.size w w' := by
  have hA := (Own.new w 29 #[.slice a1 dn1 dc1, .slice b1 n1 c1]).alloc (.cells #[.slice a2 dn2 dc2, .slice b2 n2 c2] 29)
  have hB := Own.new (w.alloc (.cells #[.slice a1 dn1 dc1, .slice b1 n1 c1] 29)) 29 #[.slice a2 dn2 dc2, .slice b2 n2 c2]
  rw [size_alloc] at hB
  have hb := below_then (below_alloc1 w (.cells #[.slice a1 dn1 dc1, .slice b1 n1 c1] 29)) (below_alloc1 _ (.cells #[.slice a2 dn2 dc2, .slice b2 n2 c2] 29))
  have s12 : IntKind.i64.wrap ((dn1 : Int) + (dn2 : Int)) = (dn1 : Int) + (dn2 : Int) := IntWalk.i64_in _ (by omega)
  rcases hs with ⟨rfl, rfl, rfl⟩ | ⟨rfl, rfl, rfl⟩
  all_goals
    go_enter Try.func90, Try.ntmps90
    go_upto_region 1 with fail
    generalize (w.alloc (.cells #[.slice a1 _ dc1, .slice b1 n1 c1] 29)).alloc (.cells #[.slice a2 _ dc2, .slice b2 n2 c2] 29) = w0 at *
    have c0 := hA.cell 0
    have d0 := hB.cell 0
    go_wp2_with fail
    go_quiet (fail)
    go_wp2_with fail
    go_ret2
  · exact ⟨by simp, below_drewN hb _⟩
  · exact ⟨rfl, below_drewN hb _⟩
set_option maxHeartbeats 4000000 in
set_option maxRecDepth 100000 in
theorem l04Pair_c {w : World} {g1 o1 dn1 i1 j1 n1 g2 o2 dn2 i2 j2 n2 : Nat} {zs ys : List Int} {ims jms : List (List Tm)} (dc1 c1 dc2 c2 : Nat) (hd1 : Ints w (some ⟨g1, o1, none⟩) dn1 zs) (hdn1 : dn1 ≤ 1048576) (hN1 : FrmsN w (some ⟨i1, j1, none⟩) n1 ims) (hn1 : n1 ≤ 1048576) (hL1 : ∀ im ∈ ims, (im.length : Int) ≤ 1048576) (hT1 : ∀ ts ∈ ims, ∀ t ∈ ts, IsTm t)
    (hd2 : Ints w (some ⟨g2, o2, none⟩) dn2 ys) (hdn2 : dn2 ≤ 1048576) (hN2 : FrmsN w (some ⟨i2, j2, none⟩) n2 jms) (hn2 : n2 ≤ 1048576) (hL2 : ∀ im ∈ jms, (im.length : Int) ≤ 1048576) (hT2 : ∀ ts ∈ jms, ∀ t ∈ ts, IsTm t) :
    Calls Try.prog 89 #[.agg #[.slice (some ⟨g1, o1, none⟩) dn1 dc1, .slice (some ⟨i1, j1, none⟩) n1 c1], .agg #[.slice (some ⟨g2, o2, none⟩) dn2 dc2, .slice (some ⟨i2, j2, none⟩) n2 c2]] w fun e w' => e = .returned (.int .i64 (prE zs ims ys jms)) ∧ Below w.heap.size w w' := by
  have hA := (Own.new w 29 #[.slice (some ⟨g1, o1, none⟩) dn1 dc1, .slice (some ⟨i1, j1, none⟩) n1 c1]).alloc (.cells #[.slice (some ⟨g2, o2, none⟩) dn2 dc2, .slice (some ⟨i2, j2, none⟩) n2 c2] 29)
  have hB := Own.new (w.alloc (.cells #[.slice (some ⟨g1, o1, none⟩) dn1 dc1, .slice (some ⟨i1, j1, none⟩) n1 c1] 29)) 29 #[.slice (some ⟨g2, o2, none⟩) dn2 dc2, .slice (some ⟨i2, j2, none⟩) n2 c2]
  rw [size_alloc] at hB
  have hb := below_then (below_alloc1 w (.cells #[.slice (some ⟨g1, o1, none⟩) dn1 dc1, .slice (some ⟨i1, j1, none⟩) n1 c1] 29)) (below_alloc1 _ (.cells #[.slice (some ⟨g2, o2, none⟩) dn2 dc2, .slice (some ⟨i2, j2, none⟩) n2 c2] 29))
  have HF1 := Lib.hid (hN1.frms hL1)
  have HF2 := Lib.hid (hN2.frms hL2)
  have HLL1 := Lib.hid hL1
  have HLL2 := Lib.hid hL2
  have HTT1 := Lib.hid hT1
  have HTT2 := Lib.hid hT2
  have HN1 := Lib.hid hN1
  have HN2 := Lib.hid hN2
  have HHd1 := Lib.hid hd1
  have HHd2 := Lib.hid hd2
  have HDL1 := Lib.hid hd1.len
  have HDL2 := Lib.hid hd2.len
  have HLn1 := Lib.hid hN1.1
  have HLn2 := Lib.hid hN2.1
  clear hL1 hL2 hT1 hT2 hN1 hN2 hd1 hd2
  cases hal1 : isAlg zs ims
  case false =>
    have HE := Lib.hid (pr_1 (ims := ims) (zs := zs) (ys := ys) (jms := jms) (Or.inl hal1))
    have HA1 := Lib.hid hal1
    clear hal1
    go_enter Try.func89, Try.ntmps89
    go_upto_region 1 with fail
    generalize (w.alloc (.cells #[.slice (some ⟨g1, o1, none⟩) dn1 dc1, .slice (some ⟨i1, j1, none⟩) n1 c1] 29)).alloc (.cells #[.slice (some ⟨g2, o2, none⟩) dn2 dc2, .slice (some ⟨i2, j2, none⟩) n2 c2] 29) = w0 at *
    have c0 := hA.cell 0
    have c1' := hA.cell 1
    go_wp2_with fail
    refine (l02Is_c dc1 c1 (HHd1.out.keep hb) hdn1 (HF1.out.keep hb) hn1 HLL1.out).mono ?_
    rintro e w1 ⟨rfl, hb1⟩
    rw [HA1.out]
    replace hb := below_trans' hb hb1 hb.size
    clear hb1 c0 c1'
    go_wp2_with fail
    go_ret
    exact ⟨ret_i HE.out.symm, hb⟩
  have HA1 := Lib.hid hal1
  clear hal1
  go_enter Try.func89, Try.ntmps89
  go_upto_region 1 with fail
  generalize (w.alloc (.cells #[.slice (some ⟨g1, o1, none⟩) dn1 dc1, .slice (some ⟨i1, j1, none⟩) n1 c1] 29)).alloc (.cells #[.slice (some ⟨g2, o2, none⟩) dn2 dc2, .slice (some ⟨i2, j2, none⟩) n2 c2] 29) = w0 at *
  have c0 := hA.cell 0
  have c1' := hA.cell 1
  go_wp2_with fail
  refine (l02Is_c dc1 c1 (HHd1.out.keep hb) hdn1 (HF1.out.keep hb) hn1 HLL1.out).mono ?_
  rintro e w1 ⟨rfl, hb1⟩
  rw [HA1.out]
  clear c0 c1'
  replace hA := hA.keep hb1 hA.lt
  replace hB := hB.keep hb1 hB.lt
  replace hb := below_trans' hb hb1 hb.size
  clear hb1
  have d0 := hB.cell 0
  have d1 := hB.cell 1
  go_wp2_with fail
  refine (l02Is_c dc2 c2 (HHd2.out.keep hb) hdn2 (HF2.out.keep hb) hn2 HLL2.out).mono ?_
  rintro e w2 ⟨rfl, hb1⟩
  clear d0 d1
  replace hA := hA.keep hb1 hA.lt
  replace hB := hB.keep hb1 hB.lt
  replace hb := below_trans' hb hb1 hb.size
  clear hb1
  cases hal2 : isAlg ys jms
  case false =>
    have HE := Lib.hid (pr_1 (ims := ims) (zs := zs) (Or.inr hal2))
    clear hal2
    go_wp2_with fail
    go_ret
    exact ⟨ret_i HE.out.symm, hb⟩
  have HA2 := Lib.hid hal2
  clear hal2
  have c0 := hA.cell 0
  have d0 := hB.cell 0
  by_cases hbig : 8 < dn1 + dn2
  · have HE := Lib.hid (pr_3 HA1.out HA2.out (by rw [HDL1.out, HDL2.out]; exact hbig))
    have hbi : (8 : Int) < (dn1 : Int) + (dn2 : Int) := by omega
    go_wp2_with fail
    go_ret
    exact ⟨ret_i HE.out.symm, hb⟩
  · have HE := Lib.hid (pr_0 HA1.out HA2.out (by rw [HDL1.out, HDL2.out]; exact hbig)).1
    have hbi : ¬ (8 : Int) < (dn1 : Int) + (dn2 : Int) := by omega
    go_wp2_with fail
    go_ret
    exact ⟨ret_i HE.out.symm, hb⟩
set_option maxHeartbeats 4000000 in
set_option maxRecDepth 100000 in
theorem InclusionOf_c {w : World} {g1 o1 dn1 i1 j1 n1 g2 o2 dn2 i2 j2 n2 : Nat} {zs ys : List Int} {ims jms : List (List Tm)} (dc1 c1 dc2 c2 : Nat) (hd1 : Ints w (some ⟨g1, o1, none⟩) dn1 zs) (hdn1 : dn1 ≤ 1048576) (hN1 : FrmsN w (some ⟨i1, j1, none⟩) n1 ims) (hn1 : n1 ≤ 1048576) (hL1 : ∀ im ∈ ims, (im.length : Int) ≤ 1048576) (hT1 : ∀ ts ∈ ims, ∀ t ∈ ts, IsTm t)
    (hd2 : Ints w (some ⟨g2, o2, none⟩) dn2 ys) (hdn2 : dn2 ≤ 1048576) (hN2 : FrmsN w (some ⟨i2, j2, none⟩) n2 jms) (hn2 : n2 ≤ 1048576) (hL2 : ∀ im ∈ jms, (im.length : Int) ≤ 1048576) (hT2 : ∀ ts ∈ jms, ∀ t ∈ ts, IsTm t) (sc : Bool) :
    Calls Try.prog 41 #[.agg #[.slice (some ⟨g1, o1, none⟩) dn1 dc1, .slice (some ⟨i1, j1, none⟩) n1 c1], .agg #[.slice (some ⟨g2, o2, none⟩) dn2 dc2, .slice (some ⟨i2, j2, none⟩) n2 c2], .bool sc] w fun e w' => ∃ ra rn rc, e = .returned (.tuple #[.slice ra rn rc, .int .i64 (prE zs ims ys jms)]) ∧ OwnF w' w.heap.size w'.heap.size ra rn (inV zs ims ys jms sc) ∧ Below w.heap.size w w' := by
  have hA := (Own.new w 29 #[.slice (some ⟨g1, o1, none⟩) dn1 dc1, .slice (some ⟨i1, j1, none⟩) n1 c1]).alloc (.cells #[.slice (some ⟨g2, o2, none⟩) dn2 dc2, .slice (some ⟨i2, j2, none⟩) n2 c2] 29)
  have hB := Own.new (w.alloc (.cells #[.slice (some ⟨g1, o1, none⟩) dn1 dc1, .slice (some ⟨i1, j1, none⟩) n1 c1] 29)) 29 #[.slice (some ⟨g2, o2, none⟩) dn2 dc2, .slice (some ⟨i2, j2, none⟩) n2 c2]
  rw [size_alloc] at hB
  have hb := below_then (below_alloc1 w (.cells #[.slice (some ⟨g1, o1, none⟩) dn1 dc1, .slice (some ⟨i1, j1, none⟩) n1 c1] 29)) (below_alloc1 _ (.cells #[.slice (some ⟨g2, o2, none⟩) dn2 dc2, .slice (some ⟨i2, j2, none⟩) n2 c2] 29))
  have HLL1 := Lib.hid hL1
  have HLL2 := Lib.hid hL2
  have HTT1 := Lib.hid hT1
  have HTT2 := Lib.hid hT2
  have HN1 := Lib.hid hN1
  have HN2 := Lib.hid hN2
  have HHd1 := Lib.hid hd1
  have HHd2 := Lib.hid hd2
  have HDL1 := Lib.hid hd1.len
  have HDL2 := Lib.hid hd2.len
  have HLn1 := Lib.hid hN1.1
  have HLn2 := Lib.hid hN2.1
  clear hL1 hL2 hT1 hT2 hN1 hN2 hd1 hd2
  have c0 := hA.cell 0
  have c1' := hA.cell 1
  have d0 := hB.cell 0
  have d1 := hB.cell 1
  by_cases hE : prE zs ims ys jms = 0
  case neg =>
    have HE := Lib.hid (in_no (sc := sc) hE)
    obtain ⟨E, hEE⟩ : ∃ E, prE zs ims ys jms = E := ⟨_, rfl⟩
    rw [hEE] at hE
    have hEb : (E != 0) = true := by simpa using hE
    have HEE := Lib.hid hEE
    clear hEE
    rw [HEE.out, HE.out]
    go_enter Try.func41, Try.ntmps41
    go_upto_region 1 with fail
    generalize (w.alloc (.cells #[.slice (some ⟨g1, o1, none⟩) dn1 dc1, .slice (some ⟨i1, j1, none⟩) n1 c1] 29)).alloc (.cells #[.slice (some ⟨g2, o2, none⟩) dn2 dc2, .slice (some ⟨i2, j2, none⟩) n2 c2] 29) = w0 at *
    go_wp2_with fail
    refine (ProductOfAlgebras_c dc1 c1 dc2 c2 (HHd1.out.keep hb) hdn1 (HN1.out.keep hb) hn1 HLL1.out HTT1.out (HHd2.out.keep hb) hdn2 (HN2.out.keep hb) hn2 HLL2.out HTT2.out).mono ?_
    rintro e w1 ⟨pa, pan, pac, pb, pbn, pbc, rfl, -, -, hb1⟩
    rw [HEE.out]
    replace hb := below_trans' hb hb1 hb.size
    have hb' := below_trans' hb (below_alloc1 w1 (.cells #[.slice pa pan pac, .slice pb pbn pbc] 29)) hb.size
    clear hb1 c0 c1' d0 d1 hb
    go_wp2_with fail
    go_ret2
    exact ⟨none, 0, 0, rfl, OwnF.none_, hb'⟩
  have HE := Lib.hid (in_yes (sc := sc) hE)
  have h8 := pr_ok hE
  rw [HDL1.out, HDL2.out] at h8
  have HEE := Lib.hid hE
  clear hE
  rw [HEE.out, HE.out]
  obtain ⟨s, m, hs, hsm⟩ : ∃ s m : Nat, ((sc = false ∧ s = 0 ∧ m = dn1) ∨ (sc = true ∧ s = dn1 ∧ m = dn2)) ∧ (plS zs sc = s ∧ plM zs ys sc = m) := by
    cases sc
    · exact ⟨0, dn1, Or.inl ⟨rfl, rfl, rfl⟩, rfl, HDL1.out⟩
    · exact ⟨dn1, dn2, Or.inr ⟨rfl, rfl, rfl⟩, HDL1.out, HDL2.out⟩
  have hm8 : s + m ≤ 8 := by omega
  rw [hsm.1, hsm.2]
  have HSM := Lib.hid hs
  clear hs hsm
  go_enter Try.func41, Try.ntmps41
  go_upto_region 1 with fail
  generalize (w.alloc (.cells #[.slice (some ⟨g1, o1, none⟩) dn1 dc1, .slice (some ⟨i1, j1, none⟩) n1 c1] 29)).alloc (.cells #[.slice (some ⟨g2, o2, none⟩) dn2 dc2, .slice (some ⟨i2, j2, none⟩) n2 c2] 29) = w0 at *
  go_wp2_with fail
  refine (ProductOfAlgebras_c dc1 c1 dc2 c2 (HHd1.out.keep hb) hdn1 (HN1.out.keep hb) hn1 HLL1.out HTT1.out (HHd2.out.keep hb) hdn2 (HN2.out.keep hb) hn2 HLL2.out HTT2.out).mono ?_
  rintro e w1 ⟨pa, pan, pac, pb, pbn, pbc, rfl, -, -, hb1⟩
  rw [HEE.out]
  clear c0 c1' d0 d1
  replace hA := hA.keep hb1 hA.lt
  replace hB := hB.keep hb1 hB.lt
  replace hb := below_trans' hb hb1 hb.size
  clear hb1
  have hba := below_alloc1 w1 (.cells #[.slice pa pan pac, .slice pb pbn pbc] 29)
  replace hA := hA.keep hba hA.lt
  replace hB := hB.keep hba hB.lt
  replace hb := below_trans' hb hba hb.size
  clear hba
  go_upto_region 4 with fail
  generalize w1.alloc (.cells #[.slice pa pan pac, .slice pb pbn pbc] 29) = w2 at *
  have c0 := hA.cell 0
  have c1' := hA.cell 1
  have d0 := hB.cell 0
  have d1 := hB.cell 1
  go_wp2_with fail
  refine (placesInProduct_c dc1 c1 dc2 c2 hdn1 hdn2 sc HSM.out).mono ?_
  rintro e w3 ⟨rfl, hb1⟩
  clear c0 c1' d0 d1
  replace hA := hA.keep hb1 hA.lt
  replace hB := hB.keep hb1 hB.lt
  replace hb := below_trans' hb hb1 hb.size
  clear hb1
  have hmk1 := make_forms m (by omega) w3
  have s13 : (s : Int) + (m : Int) - (s : Int) = (m : Int) := by omega
  have hR := Own.new w3 47 (Array.replicate m (Value.slice none 0 0))
  have hba := below_alloc1 w3 (.cells (Array.replicate m (Value.slice none 0 0)) 47)
  have hgR : w.heap.size ≤ w3.heap.size := hb.size
  replace hb := below_trans' hb hba hb.size
  go_upto_region 6 with fail
  generalize w3.alloc (.cells (Array.replicate m (Value.slice none 0 0)) 47) = w4 at *
  generalize w3.heap.size = gO at *
  clear hmk1 hba s13 hA hB
  have hR0 : Own w4 gO 47 (valCells m []).toArray := by rw [show (valCells m []).toArray = Array.replicate m (Value.slice none 0 0) by simp [valCells]]; exact hR
  have HW0 : Hid (Vals w4 w.heap.size [] (gensFT s 0)) := Lib.hid (Vals.nil _ _)
  clear hR
  go_upto_region 7 with fail
  go_loopw [36] (fun y wr => ∃ (k : Nat) (vs : List Value), k ≤ m ∧ y = .int .i64 k ∧ Below w.heap.size w wr ∧ Own wr gO 47 (valCells m vs).toArray ∧ Hid (Vals wr w.heap.size vs (gensFT s k))) (fun y _ => m - (intOf y).toNat)
  case atStart => exact ⟨0, [], Nat.zero_le _, rfl, hb, hR0, HW0⟩
  case round =>
    clear hb hR0 HW0
    obtain ⟨k, vs, hk, rfl, hb, hR, HW⟩ := hrel
    have HVL := Lib.hid (show vs.length = k by rw [HW.out.len, gensFT_len])
    by_cases hin : k < m
    · have hk0 : (0 : Int) ≤ (k : Int) := by omega
      have hkn : (k : Int) < (m : Int) := by omega
      go_wp2_with fail
      refine (generatorForm_a (s := s) (k := k) (f := 1) (by omega)).mono ?_
      rintro e w5 ⟨g, rfl, hg, hG, hb5⟩
      have hb6 := below_trans' hb hb5 hb.size
      have hR6 := hR.keep hb5 hR.lt
      have HO := Lib.hid (ownR_one (genM_mono (s + k)) hG hg)
      have HW6 := Lib.hid ((HW.out.keep hb5).snoc HW.out.lt hb.size HO.out)
      clear hb hR hb5 hG HW HO
      have hfz := hR6.frozen k
      obtain ⟨ov, hcv⟩ := hR6.has (i := k) (by have := HVL.out; rw [List.size_toArray, valCells_len (by omega)]; omega)
      go_wp2_with fail
      go_roundw
      case rel =>
        have q2 : Below w.heap.size w (w5.setCell ⟨gO, k, none⟩ (.slice (some ⟨g, 0, none⟩) 1 1)) := hb6.setCell (p := ⟨gO, k, none⟩) (by dsimp only; omega) _
        have q4 : Own (w5.setCell ⟨gO, k, none⟩ (.slice (some ⟨g, 0, none⟩) 1 1)) gO 47 (valCells m (vs ++ [.slice (some ⟨g, 0, none⟩) 1 1])).toArray := by
          have := hR6.set k (.slice (some ⟨g, 0, none⟩) 1 1)
          rwa [valCells_step HVL.out hin] at this
        have Q1 := Lib.hid (HW6.out.far (p := ⟨gO, k, none⟩) hR6 (.slice (some ⟨g, 0, none⟩) 1 1))
        exact ⟨k + 1, vs ++ [.slice (some ⟨g, 0, none⟩) 1 1], by omega, by go_num, q2, q4, by rw [gensFT_succ]; exact Q1⟩
      case measure => simp [intOf] <;> omega
    · have he : k = m := by omega
      subst he
      go_wp2_with fail
      go_ret2
      refine ⟨some ⟨gO, 0, none⟩, k, k, rfl, ?_, hb⟩
      refine HW.out.ownF (gensFT_len s k) hR (fun i v hi => ?_) (by omega) (gensFT_tm s k)
      rw [List.getElem?_toArray, valCells_full HVL.out]
      exact hi
set_option maxHeartbeats 4000000 in
set_option maxRecDepth 100000 in
theorem InclusionOf_s {w : World} {g1 o1 dn1 i1 j1 n1 g2 o2 dn2 i2 j2 n2 : Nat} {zs ys : List Int} {ims jms : List (List Tm)} (dc1 c1 dc2 c2 : Nat) (hd1 : Ints w (some ⟨g1, o1, none⟩) dn1 zs) (hdn1 : dn1 ≤ 1048576) (hN1 : FrmsN w (some ⟨i1, j1, none⟩) n1 ims) (hn1 : n1 ≤ 1048576) (hL1 : ∀ im ∈ ims, (im.length : Int) ≤ 1048576) (hT1 : ∀ ts ∈ ims, ∀ t ∈ ts, IsTm t)
    (hd2 : Ints w (some ⟨g2, o2, none⟩) dn2 ys) (hdn2 : dn2 ≤ 1048576) (hN2 : FrmsN w (some ⟨i2, j2, none⟩) n2 jms) (hn2 : n2 ≤ 1048576) (hL2 : ∀ im ∈ jms, (im.length : Int) ≤ 1048576) (hT2 : ∀ ts ∈ jms, ∀ t ∈ ts, IsTm t) (sc : Bool) :
    Calls Try.prog 40 #[.agg #[.slice (some ⟨g1, o1, none⟩) dn1 dc1, .slice (some ⟨i1, j1, none⟩) n1 c1], .agg #[.slice (some ⟨g2, o2, none⟩) dn2 dc2, .slice (some ⟨i2, j2, none⟩) n2 c2], .bool sc] w fun e w' => ∃ ra rn rc, e = .returned (.tuple #[.slice ra rn rc, .int .i64 (prE zs ims ys jms)]) ∧ OwnF w' w.heap.size w'.heap.size ra rn (inV zs ims ys jms sc) ∧ Below w.heap.size w w' := by
  have hA := (Own.new w 29 #[.slice (some ⟨g1, o1, none⟩) dn1 dc1, .slice (some ⟨i1, j1, none⟩) n1 c1]).alloc (.cells #[.slice (some ⟨g2, o2, none⟩) dn2 dc2, .slice (some ⟨i2, j2, none⟩) n2 c2] 29)
  have hB := Own.new (w.alloc (.cells #[.slice (some ⟨g1, o1, none⟩) dn1 dc1, .slice (some ⟨i1, j1, none⟩) n1 c1] 29)) 29 #[.slice (some ⟨g2, o2, none⟩) dn2 dc2, .slice (some ⟨i2, j2, none⟩) n2 c2]
  rw [size_alloc] at hB
  have hb := below_then (below_alloc1 w (.cells #[.slice (some ⟨g1, o1, none⟩) dn1 dc1, .slice (some ⟨i1, j1, none⟩) n1 c1] 29)) (below_alloc1 _ (.cells #[.slice (some ⟨g2, o2, none⟩) dn2 dc2, .slice (some ⟨i2, j2, none⟩) n2 c2] 29))
  have HLL1 := Lib.hid hL1
  have HLL2 := Lib.hid hL2
  have HTT1 := Lib.hid hT1
  have HTT2 := Lib.hid hT2
  have HN1 := Lib.hid hN1
  have HN2 := Lib.hid hN2
  have HHd1 := Lib.hid hd1
  have HHd2 := Lib.hid hd2
  have HDL1 := Lib.hid hd1.len
  have HDL2 := Lib.hid hd2.len
  have HLn1 := Lib.hid hN1.1
  have HLn2 := Lib.hid hN2.1
  clear hL1 hL2 hT1 hT2 hN1 hN2 hd1 hd2
  obtain ⟨ti, tz, hti, htz, hts, htb, htzs⟩ := Try.info_formA
  have HI := Lib.hid hti
  have HZ := Lib.hid htz
  have HS := Lib.hid hts
  have HBt := Lib.hid htb
  have HZs := Lib.hid htzs
  clear hti htz hts htb htzs
  have c0 := hA.cell 0
  have c1' := hA.cell 1
  have d0 := hB.cell 0
  have d1 := hB.cell 1
  by_cases hE : prE zs ims ys jms = 0
  case neg =>
    have HE := Lib.hid (in_no (sc := sc) hE)
    obtain ⟨E, hEE⟩ : ∃ E, prE zs ims ys jms = E := ⟨_, rfl⟩
    rw [hEE] at hE
    have hEb : (E != 0) = true := by simpa using hE
    have HEE := Lib.hid hEE
    clear hEE
    rw [HEE.out, HE.out]
    go_enter Try.func40, Try.ntmps40
    go_upto_region 1 with fail
    generalize (w.alloc (.cells #[.slice (some ⟨g1, o1, none⟩) dn1 dc1, .slice (some ⟨i1, j1, none⟩) n1 c1] 29)).alloc (.cells #[.slice (some ⟨g2, o2, none⟩) dn2 dc2, .slice (some ⟨i2, j2, none⟩) n2 c2] 29) = w0 at *
    go_wp2_with fail
    refine (l04Pair_c dc1 c1 dc2 c2 (HHd1.out.keep hb) hdn1 (HN1.out.keep hb) hn1 HLL1.out HTT1.out (HHd2.out.keep hb) hdn2 (HN2.out.keep hb) hn2 HLL2.out HTT2.out).mono ?_
    rintro e w1 ⟨rfl, hb1⟩
    rw [HEE.out]
    replace hb := below_trans' hb hb1 hb.size
    clear hb1 c0 c1' d0 d1
    go_wp2_with fail
    go_ret2
    exact ⟨none, 0, 0, rfl, OwnF.none_, hb⟩
  have HE := Lib.hid (in_yes (sc := sc) hE)
  have h8 := pr_ok hE
  rw [HDL1.out, HDL2.out] at h8
  have HEE := Lib.hid hE
  clear hE
  rw [HEE.out, HE.out]
  obtain ⟨s, m, hs, hsm⟩ : ∃ s m : Nat, ((sc = false ∧ s = 0 ∧ m = dn1) ∨ (sc = true ∧ s = dn1 ∧ m = dn2)) ∧ (plS zs sc = s ∧ plM zs ys sc = m) := by
    cases sc
    · exact ⟨0, dn1, Or.inl ⟨rfl, rfl, rfl⟩, rfl, HDL1.out⟩
    · exact ⟨dn1, dn2, Or.inr ⟨rfl, rfl, rfl⟩, HDL1.out, HDL2.out⟩
  have hm8 : s + m ≤ 8 := by omega
  rw [hsm.1, hsm.2]
  have HSM := Lib.hid hs
  clear hs hsm
  go_enter Try.func40, Try.ntmps40
  go_upto_region 1 with fail
  generalize (w.alloc (.cells #[.slice (some ⟨g1, o1, none⟩) dn1 dc1, .slice (some ⟨i1, j1, none⟩) n1 c1] 29)).alloc (.cells #[.slice (some ⟨g2, o2, none⟩) dn2 dc2, .slice (some ⟨i2, j2, none⟩) n2 c2] 29) = w0 at *
  go_wp2_with fail
  refine (l04Pair_c dc1 c1 dc2 c2 (HHd1.out.keep hb) hdn1 (HN1.out.keep hb) hn1 HLL1.out HTT1.out (HHd2.out.keep hb) hdn2 (HN2.out.keep hb) hn2 HLL2.out HTT2.out).mono ?_
  rintro e w1 ⟨rfl, hb1⟩
  rw [HEE.out]
  clear c0 c1' d0 d1
  replace hA := hA.keep hb1 hA.lt
  replace hB := hB.keep hb1 hB.lt
  replace hb := below_trans' hb hb1 hb.size
  clear hb1
  go_upto_region 4 with fail
  go_cut [9, 10, 11] (fun o p q wr => ∃ gO, o = .slice (some ⟨gO, 0, none⟩) 0 0 ∧ p = .int .i64 0 ∧ q = .int .i64 dn1 ∧ wr.ownsRow w.heap.size 47 1 (.slice (some ⟨gO, 0, none⟩) 0 0) 0 [] ∧ Own wr w.heap.size 29 #[.slice (some ⟨g1, o1, none⟩) dn1 dc1, .slice (some ⟨i1, j1, none⟩) n1 c1] ∧ Own wr (w.heap.size + 1) 29 #[.slice (some ⟨g2, o2, none⟩) dn2 dc2, .slice (some ⟨i2, j2, none⟩) n2 c2] ∧ Below w.heap.size w wr)
  case first =>
    replace hA := hA.drew
    replace hB := hB.drew
    replace hb : Below w.heap.size w w1.drew := hb.drew
    refine wp_region_held_drew (S := (fun w' => w'.cell? ⟨w.heap.size, 0, none⟩ = some (.slice (some ⟨g1, o1, none⟩) dn1 dc1))) (by kernel_rfl) ?_ (fun hHeld0 => ?_)
    · ((try dsimp only); (exact hA.cell 0))
    generalize w1.drew = Wd at *
    (refine hdTake (i := 1) (v := ?_) rfl (by kernel_rfl) (by kernel_rfl) (by kernel_rfl) (fun _ _ _ h => h) (by rfl) ?_ (by assumption) ?_; rotate_left; (intro w hSw; (try dsimp only at hSw); go_simp; (try with_reducible rfl)); (try simp only [Act.put, List.setIfInBounds_toArray, List.set_cons_zero, List.set_cons_succ]))
    (refine hdTake (i := 2) (v := ?_) rfl (by kernel_rfl) (by kernel_rfl) (by kernel_rfl) (fun _ _ _ h => h) (by rfl) ?_ (by assumption) ?_; rotate_left; (intro w hSw; (try dsimp only at hSw); go_simp; (try with_reducible rfl)); (try simp only [Act.put, List.setIfInBounds_toArray, List.set_cons_zero, List.set_cons_succ]))
    refine wpAnyH_ready (rs := [0, 3]) (by kernel_rfl) (by simp) ?_
    refine AllReadyH.cons (hdAt (i := 0) rfl) (fun K hK => ?_) (AllReadyH.cons (hdAt (i := 3) rfl) (fun K hK => ?_) AllReadyH.nil)
    · skip
      (go_simp; try go_wp2_with fail)
      have hbs0 := hb.size
      have hR : (Wd.alloc (.cells #[] 47)).ownsRow w.heap.size 47 1 (.slice (some ⟨Wd.heap.size, 0, none⟩) 0 0) 0 [] := ⟨rfl, Or.inr ⟨Wd.heap.size, 0, #[], rfl, hbs0, heap_alloc_new Wd _, Nat.le_refl _, by simp [maxLen], rfl, rfl⟩⟩
      have hbX := below_alloc1 Wd (.cells #[] 47)
      replace hA := hA.keep hbX hA.lt
      replace hB := hB.keep hbX hB.lt
      replace hb := below_trans' hb hbX hb.size
      generalize Wd.alloc (.cells #[] 47) = W1 at *
      generalize Wd.heap.size = gO at *
      clear hbX hbs0
      refine hK.out _ _ ?_ (fun hHeld1 => ?_)
      · ((try dsimp only); (exact hA.cell 0))
      clear hK K
      (try simp only [Act.put, List.setIfInBounds_toArray, List.set_cons_zero, List.set_cons_succ])
      (refine hdTake (i := 4) (v := ?_) rfl (by kernel_rfl) (by kernel_rfl) (by kernel_rfl) (fun _ _ _ h => h) (by rfl) ?_ (by assumption) ?_; rotate_left; (intro w hSw; (try dsimp only at hSw); go_simp; (try with_reducible rfl)); (try simp only [Act.put, List.setIfInBounds_toArray, List.set_cons_zero, List.set_cons_succ]))
      (refine hdTake (i := 5) (v := ?_) rfl (by kernel_rfl) (by kernel_rfl) (by kernel_rfl) (fun _ _ _ h => h) (by rfl) ?_ (by assumption) ?_; rotate_left; (intro w hSw; (try dsimp only at hSw); go_simp; (try with_reducible rfl)); (try simp only [Act.put, List.setIfInBounds_toArray, List.set_cons_zero, List.set_cons_succ]))
      refine hdCall (i := 3) (by kernel_rfl) rfl (fun K hK => ?_)
      (go_simp; try go_wp2_with fail)
      refine hK.out _ _ ?_ (fun hHeld2 => ?_)
      · ((try dsimp only); (exact hA.cell 0))
      clear hK K
      (try simp only [Act.put, List.setIfInBounds_toArray, List.set_cons_zero, List.set_cons_succ])
      (refine hdTake (i := 6) (v := ?_) rfl (by kernel_rfl) (by kernel_rfl) (by kernel_rfl) (fun _ _ _ h => h) (by rfl) ?_ (by assumption) ?_; rotate_left; (intro w hSw; (try dsimp only at hSw); go_simp; (try with_reducible rfl)); (try simp only [Act.put, List.setIfInBounds_toArray, List.set_cons_zero, List.set_cons_succ]))
      refine wpAnyH_done (by kernel_rfl) ?_ _
      go_wp2_with fail
      go_meet
      exact ⟨gO, rfl, rfl, rfl, hR, hA, hB, hb⟩
    · skip
      (go_simp; try go_wp2_with fail)
      refine hK.out _ _ ?_ (fun hHeld1 => ?_)
      · ((try dsimp only); (exact hA.cell 0))
      clear hK K
      (try simp only [Act.put, List.setIfInBounds_toArray, List.set_cons_zero, List.set_cons_succ])
      refine hdCall (i := 0) (by kernel_rfl) rfl (fun K hK => ?_)
      (go_simp; try go_wp2_with fail)
      have hbs0 := hb.size
      have hR : (Wd.alloc (.cells #[] 47)).ownsRow w.heap.size 47 1 (.slice (some ⟨Wd.heap.size, 0, none⟩) 0 0) 0 [] := ⟨rfl, Or.inr ⟨Wd.heap.size, 0, #[], rfl, hbs0, heap_alloc_new Wd _, Nat.le_refl _, by simp [maxLen], rfl, rfl⟩⟩
      have hbX := below_alloc1 Wd (.cells #[] 47)
      replace hA := hA.keep hbX hA.lt
      replace hB := hB.keep hbX hB.lt
      replace hb := below_trans' hb hbX hb.size
      generalize Wd.alloc (.cells #[] 47) = W2 at *
      generalize Wd.heap.size = gO at *
      clear hbX hbs0
      refine hK.out _ _ ?_ (fun hHeld2 => ?_)
      · ((try dsimp only); (exact hA.cell 0))
      clear hK K
      (try simp only [Act.put, List.setIfInBounds_toArray, List.set_cons_zero, List.set_cons_succ])
      (refine hdTake (i := 4) (v := ?_) rfl (by kernel_rfl) (by kernel_rfl) (by kernel_rfl) (fun _ _ _ h => h) (by rfl) ?_ (by assumption) ?_; rotate_left; (intro w hSw; (try dsimp only at hSw); go_simp; (try with_reducible rfl)); (try simp only [Act.put, List.setIfInBounds_toArray, List.set_cons_zero, List.set_cons_succ]))
      (refine hdTake (i := 5) (v := ?_) rfl (by kernel_rfl) (by kernel_rfl) (by kernel_rfl) (fun _ _ _ h => h) (by rfl) ?_ (by assumption) ?_; rotate_left; (intro w hSw; (try dsimp only at hSw); go_simp; (try with_reducible rfl)); (try simp only [Act.put, List.setIfInBounds_toArray, List.set_cons_zero, List.set_cons_succ]))
      (refine hdTake (i := 6) (v := ?_) rfl (by kernel_rfl) (by kernel_rfl) (by kernel_rfl) (fun _ _ _ h => h) (by rfl) ?_ (by assumption) ?_; rotate_left; (intro w hSw; (try dsimp only at hSw); go_simp; (try with_reducible rfl)); (try simp only [Act.put, List.setIfInBounds_toArray, List.set_cons_zero, List.set_cons_succ]))
      refine wpAnyH_done (by kernel_rfl) ?_ _
      go_wp2_with fail
      go_meet
      exact ⟨gO, rfl, rfl, rfl, hR, hA, hB, hb⟩
  case rest =>
    obtain ⟨gO, rfl, rfl, rfl, hR, hA, hB, hb⟩ := hcut
    have c0 := hA.cell 0
    have d0 := hB.cell 0
    rcases HSM.out with ⟨rfl, rfl, rfl⟩ | ⟨rfl, rfl, rfl⟩
    · skip
      go_upto_region 9 with fail
      clear c0 d0
      go_loopw [9, 12] (fun o y wr => ∃ (k : Nat) (oa : Option Addr) (oc : Nat) (vs : List Value), k ≤ m ∧ y = .int .i64 k ∧ o = .slice oa k oc ∧ Below w.heap.size w wr ∧ wr.ownsRow w.heap.size 47 1 (.slice oa k oc) k vs ∧ Hid (Vals wr w.heap.size vs (gensFT 0 k))) (fun _ y _ => m - (intOf y).toNat)
      case atStart => exact ⟨0, _, _, [], Nat.zero_le _, rfl, rfl, hb, hR, Lib.hid (Vals.nil _ _)⟩
      case round =>
        clear hb hR hA hB
        obtain ⟨k, oa, oc, vs, hk, rfl, rfl, hb, hR, HW⟩ := hrel
        by_cases hin : k < m
        · have hk0 : (0 : Int) ≤ (k : Int) := by omega
          have hkn : (k : Int) < (m : Int) := by omega
          have HR := Lib.hid hR
          clear hR
          go_wp2_with fail
          refine (l04Generator_c (i := k) (by omega)).mono ?_
          rintro e w4 ⟨g, rfl, hg, hG, hb5⟩
          have hb6 := below_trans' hb hb5 hb.size
          have hR6 := row_keep HR.out hb5
          have HO := Lib.hid (ownR_one (genM_mono _) hG hg)
          have HW6 := Lib.hid ((HW.out.keep hb5).snoc HW.out.lt hb.size HO.out)
          have hnews : ∀ j u, ([Value.slice (some ⟨g, 0, none⟩) 1 1] : List Value)[j]? = some u → (w4.alloc (.cells #[.slice (some ⟨g, 0, none⟩) 1 1] 47)).cell? ((⟨w4.heap.size, 0, none⟩ : Addr).add j) = some u := fun j u hu => by
            rw [Addr.add_mid]
            exact (Own.new w4 47 #[.slice (some ⟨g, 0, none⟩) 1 1]).range j u hu
          have hone : ∀ u ∈ ([Value.slice (some ⟨g, 0, none⟩) 1 1] : List Value), u.oneCell' = true := by simp [Value.oneCell']
          have HN := Lib.hid hnews
          have HOn := Lib.hid hone
          have hba := below_alloc1 w4 (.cells #[.slice (some ⟨g, 0, none⟩) 1 1] 47)
          have HR2 := Lib.hid (row_keep hR6 hba)
          have hb3 := below_trans' hb6 hba hb6.size
          have HW3 := Lib.hid (HW6.out.keep hba)
          have hbs := hb6.size
          clear hnews hone hR6 HW6 hba hb hb5 hG HW HO HR hb6
          go_wp2_with (refine wpList_append_own_wide _ rfl (.tmp 33) (.tmp 38) 27 rfl w.heap.size 47 ti tz 1 24 Try.underlying27 HI.out HZ.out HS.out HBt.out HZs.out (by omega) (.slice oa k oc) k vs rfl HR2.out ⟨w4.heap.size, 0, none⟩ 1 1 [Value.slice (some ⟨g, 0, none⟩) 1 1] rfl rfl HN.out HOn.out (by simp only [maxLen]; omega) (by omega) (by rw [size_alloc]; omega) (fun v' w' h2 h3 h4 => ?_))
          have hb4 := grown_below hb3 h3 (fun j e => (HR2.out.lt j e).1) hb3.size
          have HW4 := Lib.hid (HW3.out.grown h3 (fun q e => row_own HR2.out e))
          obtain ⟨va, vc, rfl⟩ := row_slice h2
          have H2 := Lib.hid h2
          clear h2 h3 h4 hb3 HR2 HW3 HN HOn
          go_wp2_with fail
          go_roundw
          case rel => exact ⟨k + 1, va, vc, vs ++ [.slice (some ⟨g, 0, none⟩) 1 1], by omega, by go_num, rfl, hb4, H2.out, by rw [gensFT_succ, Nat.zero_add]; exact HW4⟩
          case measure => simp [intOf] <;> omega
        · have he : k = m := by omega
          subst he
          have HR := Lib.hid hR
          clear hR
          go_wp2_with fail
          go_ret2
          obtain ⟨ra, rc, hrr, hO⟩ := HW.out.ownF_row (gensFT_len 0 k) HR.out (gensFT_tm 0 k)
          simp only [Value.slice.injEq] at hrr
          obtain ⟨rfl, -, rfl⟩ := hrr
          exact ⟨oa, k, oc, rfl, hO, hb⟩
    · skip
      go_upto_region 9 with fail
      clear c0 d0
      go_loopw [9, 12] (fun o y wr => ∃ (k : Nat) (oa : Option Addr) (oc : Nat) (vs : List Value), k ≤ m ∧ y = .int .i64 k ∧ o = .slice oa k oc ∧ Below w.heap.size w wr ∧ wr.ownsRow w.heap.size 47 1 (.slice oa k oc) k vs ∧ Hid (Vals wr w.heap.size vs (gensFT s k))) (fun _ y _ => m - (intOf y).toNat)
      case atStart => exact ⟨0, _, _, [], Nat.zero_le _, rfl, rfl, hb, hR, Lib.hid (Vals.nil _ _)⟩
      case round =>
        clear hb hR hA hB
        obtain ⟨k, oa, oc, vs, hk, rfl, rfl, hb, hR, HW⟩ := hrel
        by_cases hin : k < m
        · have hk0 : (0 : Int) ≤ (k : Int) := by omega
          have hkn : (k : Int) < (m : Int) := by omega
          have HR := Lib.hid hR
          clear hR
          go_wp2_with fail
          refine (l04Generator_a (s := s) (k := k) (by omega)).mono ?_
          rintro e w4 ⟨g, rfl, hg, hG, hb5⟩
          have hb6 := below_trans' hb hb5 hb.size
          have hR6 := row_keep HR.out hb5
          have HO := Lib.hid (ownR_one (genM_mono _) hG hg)
          have HW6 := Lib.hid ((HW.out.keep hb5).snoc HW.out.lt hb.size HO.out)
          have hnews : ∀ j u, ([Value.slice (some ⟨g, 0, none⟩) 1 1] : List Value)[j]? = some u → (w4.alloc (.cells #[.slice (some ⟨g, 0, none⟩) 1 1] 47)).cell? ((⟨w4.heap.size, 0, none⟩ : Addr).add j) = some u := fun j u hu => by
            rw [Addr.add_mid]
            exact (Own.new w4 47 #[.slice (some ⟨g, 0, none⟩) 1 1]).range j u hu
          have hone : ∀ u ∈ ([Value.slice (some ⟨g, 0, none⟩) 1 1] : List Value), u.oneCell' = true := by simp [Value.oneCell']
          have HN := Lib.hid hnews
          have HOn := Lib.hid hone
          have hba := below_alloc1 w4 (.cells #[.slice (some ⟨g, 0, none⟩) 1 1] 47)
          have HR2 := Lib.hid (row_keep hR6 hba)
          have hb3 := below_trans' hb6 hba hb6.size
          have HW3 := Lib.hid (HW6.out.keep hba)
          have hbs := hb6.size
          clear hnews hone hR6 HW6 hba hb hb5 hG HW HO HR hb6
          go_wp2_with (refine wpList_append_own_wide _ rfl (.tmp 33) (.tmp 38) 27 rfl w.heap.size 47 ti tz 1 24 Try.underlying27 HI.out HZ.out HS.out HBt.out HZs.out (by omega) (.slice oa k oc) k vs rfl HR2.out ⟨w4.heap.size, 0, none⟩ 1 1 [Value.slice (some ⟨g, 0, none⟩) 1 1] rfl rfl HN.out HOn.out (by simp only [maxLen]; omega) (by omega) (by rw [size_alloc]; omega) (fun v' w' h2 h3 h4 => ?_))
          have hb4 := grown_below hb3 h3 (fun j e => (HR2.out.lt j e).1) hb3.size
          have HW4 := Lib.hid (HW3.out.grown h3 (fun q e => row_own HR2.out e))
          obtain ⟨va, vc, rfl⟩ := row_slice h2
          have H2 := Lib.hid h2
          clear h2 h3 h4 hb3 HR2 HW3 HN HOn
          go_wp2_with fail
          go_roundw
          case rel => exact ⟨k + 1, va, vc, vs ++ [.slice (some ⟨g, 0, none⟩) 1 1], by omega, by go_num, rfl, hb4, H2.out, by rw [gensFT_succ]; exact HW4⟩
          case measure => simp [intOf] <;> omega
        · have he : k = m := by omega
          subst he
          have HR := Lib.hid hR
          clear hR
          go_wp2_with fail
          go_ret2
          obtain ⟨ra, rc, hrr, hO⟩ := HW.out.ownF_row (gensFT_len s k) HR.out (gensFT_tm s k)
          simp only [Value.slice.injEq] at hrr
          obtain ⟨rfl, -, rfl⟩ := hrr
          exact ⟨oa, k, oc, rfl, hO, hb⟩
end Go.Proofs.Ytndnkeijddagiaa
namespace Go.Proofs.Ytndnkeijddagiaa
open Go.RowKit Go.Deep
end Go.Proofs.Ytndnkeijddagiaa
