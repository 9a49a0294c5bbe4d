
import Derived.Test.YtndnkeijddagiaaAlgS
import Derived.Test.YtndnkeijddagiaaWord
import Derived.Test.YtndnkeijddagiaaIsAlg
import Derived.Test.YtndnkeijddagiaaEug
namespace Go.Proofs.Ytndnkeijddagiaa
open Go.RowKit Go.Deep
set_option maxHeartbeats 8000000 in
set_option maxRecDepth 100000 in
theorem eug_walk0 (da : Option Addr) (dn dc : Nat) (zs : List Int) (a : Option Addr) (n c : Nat) (fss : List (List Tm)) (w : World) (hd : Ints w da dn zs) (hdm : (dn : Int) ≤ 9223372036854775807) (hF : Frms w a n fss) (hnm : (n : Int) ≤ 9223372036854775807)
    (E0 : Int) (E1 : Int)
    (CS : ∀ (w' : World) (da' : Option Addr) (dc' : Nat) (a' : Option Addr) (c' : Nat), dn ≤ 1048576 → n ≤ 1048576 → (∀ ts ∈ fss, (ts.length : Int) ≤ 1048576) → Ints w' da' dn zs → Frms w' a' n fss → Calls Try.prog 25 #[.agg #[.slice da' dn dc', .slice a' n c']] w' fun e w'' => e = .returned (.tuple #[.int .i64 E0, .int .i64 E1]) ∧ Below w'.heap.size w' w'')
    (CC : ∀ (w' : World) (da' : Option Addr) (dc' : Nat) (a' : Option Addr) (c' : Nat), dn ≤ 1048576 → n ≤ 1048576 → (∀ ts ∈ fss, (ts.length : Int) ≤ 1048576) → Ints w' da' dn zs → Frms w' a' n fss → Calls Try.prog 26 #[.agg #[.slice da' dn dc', .slice a' n c']] w' fun e w'' => e = .returned (.tuple #[.int .i64 E0, .int .i64 E1]) ∧ Below w'.heap.size w' w'') :
    Calls Try.prog 6 #[.agg #[.slice da dn dc, .slice a n c]] w fun e w' => e = .returned (.bool true) ∧ Below w.heap.size w w' := by
  have HL := Lib.hid hd.len
  have HLn := Lib.hid hF.len
  have HD := Lib.hid hd
  have HF := Lib.hid hF
  have HT := Lib.hid hF.tm
  have HCS := Lib.hid CS
  have HCC := Lib.hid CC
  clear CS CC
  have hP := Own.new w 25 #[.slice da dn dc, .slice a n c]
  have hb := below_alloc1 w (.cells #[.slice da dn dc, .slice a n c] 25)
  rcases szA_spec (L := 1048576) (dn := dn) (n := n) (fss := fss) with hz | ⟨h1, hR, h3, h4, h5⟩
  · have HZ := Lib.hid hz
    clear hz
    go_enter Try.func6, Try.ntmps6
    go_upto_region 2 with fail
    generalize w.alloc (.cells #[.slice da dn dc, .slice a n c] 25) = w0 at *
    generalize hG : w.heap.size = G at *
    have HG := Lib.hid hG
    clear hG
    have hbw : Below w.heap.size w w0 := by rw [HG.out]; exact hb
    have p0 := hP.cell 0
    have p1 := hP.cell 1
    go_wp2_with fail
    refine (szAlgebra_c dc c 1048576 (by omega) (by omega) hdm (HF.out.keep hbw) hnm).mono ?_
    rintro e w1 ⟨rfl, hb1⟩
    rw [HZ.out]
    clear p0 p1 hbw
    go_wp2_with fail
    go_ret
    exact ⟨rfl, by rw [HG.out]; exact below_trans' hb hb1 (Nat.le_of_lt hP.lt)⟩
  generalize hz : szA 1048576 dn n fss = R at *
  have HZ := Lib.hid hz
  clear hz
  have hdn : dn ≤ 1048576 := by omega
  have hn : n ≤ 1048576 := by omega
  have HLL := Lib.hid h5
  clear h5
  have hRn : ¬ R < 0 := by omega
  go_enter Try.func6, Try.ntmps6
  go_upto_region 2 with fail
  generalize w.alloc (.cells #[.slice da dn dc, .slice a n c] 25) = w0 at *
  generalize hG : w.heap.size = G at *
  have HG := Lib.hid hG
  clear hG
  have hbw : Below w.heap.size w w0 := by rw [HG.out]; exact hb
  have p0 := hP.cell 0
  have p1 := hP.cell 1
  go_wp2_with fail
  refine (szAlgebra_c dc c 1048576 (by omega) (by omega) hdm (HF.out.keep hbw) hnm).mono ?_
  rintro e w1 ⟨rfl, hb1⟩
  rw [HZ.out]
  clear p0 p1 hbw
  replace hb := below_trans' hb hb1 (Nat.le_of_lt hP.lt)
  replace hP := hP.keep hb1 hP.lt
  clear hb1
  have p0 := hP.cell 0
  have p1 := hP.cell 1
  go_wp2_with fail
  refine (toAlgebra_c dc c (HD.out.keep (show Below w.heap.size w _ by rw [HG.out]; exact hb)) hdn (HF.out.keep (show Below w.heap.size w _ by rw [HG.out]; exact hb)) hn HLL.out).mono ?_
  rintro e wA ⟨gd, g, gs, rfl, hgd, hdg, hi, fB, hbA⟩
  clear p0 p1
  replace hb := below_trans' hb hbA (Nat.le_of_lt hP.lt)
  replace hP := hP.keep hbA hP.lt
  go_wp2_with fail
  refine (HCS.out _ _ _ _ _ hdn hn HLL.out (hi.ints' HL.out) (fB.frms HT.out HLL.out HLn.out)).mono ?_
  rintro e wS ⟨rfl, hbS⟩
  replace hb := below_trans' hb hbS (Nat.le_of_lt hP.lt)
  replace hP := hP.keep hbS hP.lt
  clear hi fB hbA hbS
  have p0 := hP.cell 0
  have p1 := hP.cell 1
  go_wp2_with fail
  refine (toAlgebra_c dc c (HD.out.keep (show Below w.heap.size w _ by rw [HG.out]; exact hb)) hdn (HF.out.keep (show Below w.heap.size w _ by rw [HG.out]; exact hb)) hn HLL.out).mono ?_
  rintro e wC ⟨kd, kg, ks, rfl, hkd, hkg, hi, fB, hbA⟩
  clear p0 p1
  replace hb := below_trans' hb hbA (Nat.le_of_lt hP.lt)
  replace hP := hP.keep hbA hP.lt
  clear hbA
  go_upto_region 7 with fail
  have hba := below_alloc1 wC (.cells #[.slice (some ⟨kd, 0, none⟩) dn dn, .slice (some ⟨kg, 0, none⟩) n n] 29)
  have hX := Own.new wC 29 #[.slice (some ⟨kd, 0, none⟩) dn dn, .slice (some ⟨kg, 0, none⟩) n n]
  replace hb := below_trans' hb hba (Nat.le_of_lt hP.lt)
  replace hP := hP.keep hba hP.lt
  replace hi := IntBlk.keep hi hba (IntBlk.lt hi)
  replace fB := fB.keep hba
  generalize wC.alloc (.cells #[.slice (some ⟨kd, 0, none⟩) dn dn, .slice (some ⟨kg, 0, none⟩) n n] 29) = wx at *
  generalize wC.heap.size = gX at *
  clear hba
  have x0 := hX.cell 0
  have x1 := hX.cell 1
  go_wp2_with fail
  refine (HCC.out _ _ _ _ _ hdn hn HLL.out (hi.ints' HL.out) (fB.frms HT.out HLL.out HLn.out)).mono ?_
  rintro e wR ⟨rfl, hbR⟩
  clear x0 x1
  replace hb := below_trans' hb hbR (Nat.le_of_lt hP.lt)
  replace hP := hP.keep hbR hP.lt
  replace hX := hX.keep hbR hX.lt
  replace hi := IntBlk.keep hi hbR (IntBlk.lt hi)
  replace fB := fB.keep hbR
  clear hbR
  have hne0 : (E0 != E0) = false := by simp
  have hne1 : (E1 != E1) = false := by simp
  go_upto_region 10 with fail
  clear hne0 hne1
  replace hb : Below G w wR.drew := hb.drew
  replace hP : Own wR.drew G 25 #[.slice da dn dc, .slice a n c] := hP
  replace hX : Own wR.drew gX 29 #[.slice (some ⟨kd, 0, none⟩) dn dn, .slice (some ⟨kg, 0, none⟩) n n] := hX
  replace hi : IntBlk wR.drew kd zs := hi
  replace fB := fB.keep ((Below.refl _ _).drew : Below wR.heap.size wR wR.drew)
  go_region_held3 (fun w' => w'.cell? ⟨gX, 0, none⟩ = some (.slice (some ⟨kd, 0, none⟩) dn dn) ∧ w'.cell? ⟨gX, 1, none⟩ = some (.slice (some ⟨kg, 0, none⟩) n n) ∧ w'.cell? ⟨G, 0, none⟩ = some (.slice da dn dc) ∧ w'.cell? ⟨G, 1, none⟩ = some (.slice a n c)) (exact ⟨hX.cell 0, hX.cell 1, hP.cell 0, hP.cell 1⟩)
    (first
      | (go_at_call 16; refine (toAlgebra_c dc c (HD.out.keep (show Below w.heap.size w _ by rw [HG.out]; exact hb)) hdn (HF.out.keep (show Below w.heap.size w _ by rw [HG.out]; exact hb)) hn HLL.out).mono ?_; rintro e wA ⟨md, mg, ms, rfl, hmd, hmg, mi, mB, hbA⟩; have hi' := IntBlk.keep hi hbA (IntBlk.lt hi); have fB' := fB.keep hbA; clear hi fB; have hi := hi'; have fB := fB'; clear hi' fB'; have hb' := below_trans' hb hbA (Nat.le_of_lt hP.lt); have hP' := hP.keep hbA hP.lt; have hX' := hX.keep hbA hX.lt; clear hb; have hb := hb'; clear hb'; clear hP; have hP := hP'; clear hP'; clear hX; have hX := hX'; clear hX')
      | (go_at_call 18; refine (eqAlgebra_c dn dn n n (hi.ints' HL.out) (mi.ints' HL.out) hdn (fB.frms HT.out HLL.out HLn.out) (mB.frms HT.out HLL.out HLn.out) hn HLL.out).mono ?_; rintro e wE ⟨rfl, hbE⟩; have hi' := IntBlk.keep hi hbE (IntBlk.lt hi); have fB' := fB.keep hbE; clear hi fB; have hi := hi'; have fB := fB'; clear hi' fB'; have hb' := below_trans' hb hbE (Nat.le_of_lt hP.lt); have hP' := hP.keep hbE hP.lt; have hX' := hX.keep hbE hX.lt; clear hb; have hb := hb'; clear hb'; clear hP; have hP := hP'; clear hP'; clear hX; have hX := hX'; clear hX'))
  go_wp2_with fail
  go_ret
  exact ⟨rfl, by rw [HG.out]; exact hb⟩
theorem eug_walk (da : Option Addr) (dn dc : Nat) (zs : List Int) (a : Option Addr) (n c : Nat) (fss : List (List Tm)) (w : World) (hd : Ints w da dn zs) (hdm : (dn : Int) ≤ 9223372036854775807) (hF : Frms w a n fss) (hnm : (n : Int) ≤ 9223372036854775807) :
    Calls Try.prog 6 #[.agg #[.slice da dn dc, .slice a n c]] w fun e w' => e = .returned (.bool true) ∧ Below w.heap.size w w' :=
  eug_walk0 da dn dc zs a n c fss w hd hdm hF hnm (eoV zs fss) (alE8 zs fss) (fun _ _ dc' _ c' h1 h2 h3 h4 h5 => EulerOfGenerators_s dc' c' h4 h1 h5 h2 h3) (fun _ _ dc' _ c' h1 h2 h3 h4 h5 => EulerOfGenerators_c dc' c' h4 h1 h5 h2 h3)
end Go.Proofs.Ytndnkeijddagiaa
