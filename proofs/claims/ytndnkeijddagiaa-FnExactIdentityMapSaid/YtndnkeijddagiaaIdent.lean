
import Derived.Test.YtndnkeijddagiaaGen
import Derived.Test.YtndnkeijddagiaaTbl
namespace Go.Proofs.Ytndnkeijddagiaa
open Go.RowKit Go.Deep
def gensTo (k : Nat) : List (List Tm) := (List.range k).map (fun i => [⟨genM i, 1⟩])
theorem gensTo_succ (k : Nat) : gensTo (k + 1) = gensTo k ++ [[⟨genM k, 1⟩]] := by simp [gensTo, List.range_succ]
theorem gensTo_len (k : Nat) : (gensTo k).length = k := by simp [gensTo]
theorem gensTo_tm (k : Nat) : ∀ ts ∈ gensTo k, ∀ t ∈ ts, IsTm t := by
  intro ts h t ht
  simp only [gensTo, List.mem_map] at h
  obtain ⟨i, -, rfl⟩ := h
  obtain rfl : t = ⟨genM i, 1⟩ := by simpa using ht
  exact ⟨genM_mono i, by dsimp only; omega, by dsimp only; omega⟩
theorem gensTo_one (k : Nat) : ∀ ts ∈ gensTo k, (ts.length : Int) ≤ 1048576 := by
  intro ts h
  simp only [gensTo, List.mem_map] at h
  obtain ⟨i, -, rfl⟩ := h
  simp
theorem gensTo_sum (k : Nat) : sumLen (gensTo k) = k := by
  induction k with
  | zero => rfl
  | succ k ih =>
    have : sumLen (gensTo (k + 1)) = sumLen (gensTo k) + 1 := by rw [gensTo_succ, sumLen, sumLen]; simp
    rw [this, ih]
def idV (zs : List Int) (ims : List (List Tm)) : List (List Tm) := if isAlg zs ims = true then gensTo zs.length else []
def idE (zs : List Int) (ims : List (List Tm)) : Int := if isAlg zs ims = true then 0 else 1
theorem id_no {zs : List Int} {ims : List (List Tm)} (h : isAlg zs ims = false) : idV zs ims = [] ∧ idE zs ims = 1 := by simp [idV, idE, h]
theorem id_yes {zs : List Int} {ims : List (List Tm)} (h : isAlg zs ims = true) : idV zs ims = gensTo zs.length ∧ idE zs ims = 0 := by simp [idV, idE, h]
set_option maxHeartbeats 1000000 in
set_option maxRecDepth 100000 in
theorem IdentityMap_c {w : World} {da : Option Addr} {dn : Nat} {zs : List Int} {a : Option Addr} {n : Nat} {ims : List (List Tm)} (dc c : Nat) (hd : Ints w da dn zs) (hdn : dn ≤ 1048576) (hF : Frms w a n ims) (hn : n ≤ 1048576) (hL : ∀ im ∈ ims, (im.length : Int) ≤ 1048576) :
    Calls Try.prog 36 #[.agg #[.slice da dn dc, .slice a n c]] w fun e w' => ∃ ra rn rc, e = .returned (.tuple #[.slice ra rn rc, .int .i64 (idE zs ims)]) ∧ OwnF w' w.heap.size w'.heap.size ra rn (idV zs ims) ∧ Below w.heap.size w w' := by
  have HLL := Lib.hid hL
  have HDL := Lib.hid hd.len
  clear hL
  have hA := Own.new w 29 #[.slice da dn dc, .slice a n c]
  have hb := below_alloc1 w (.cells #[.slice da dn dc, .slice a n c] 29)
  have c0 := hA.cell 0
  have c1 := hA.cell 1
  cases hal : isAlg zs ims
  all_goals
    have HA := Lib.hid hal
    clear hal
    go_enter Try.func36, Try.ntmps36
    go_upto_region 1 with fail
    generalize w.alloc (.cells #[.slice da dn dc, .slice a n c] 29) = w0 at *
    go_wp2_with fail
    refine (IsAlgebra_c dc c (hd.keep hb) hdn (hF.keep hb) hn HLL.out).mono ?_
    rintro e w1 ⟨rfl, hb1⟩
    rw [HA.out]
    have hA1 := hA.keep hb1 hA.lt
    have hb2 := below_trans' hb hb1 hb.size
    clear hA hb hb1 c0 c1
    have c0 := hA1.cell 0
  · go_wp2_with fail
    go_ret2
    exact ⟨none, 0, 0, by rw [(id_no HA.out).2]; rfl, by rw [(id_no HA.out).1]; exact OwnF.none_, hb2⟩
  · have h8 : dn ≤ 8 := by have := degsOk_len (isAlg_degs HA.out); have := HDL.out; omega
    have hmk1 := make_forms dn hdn w1
    have hR := Own.new w1 47 (Array.replicate dn (Value.slice none 0 0))
    have hba := below_alloc1 w1 (.cells (Array.replicate dn (Value.slice none 0 0)) 47)
    have hb3 := below_trans' hb2 hba hb2.size
    have hgR : w.heap.size < w1.heap.size := hA1.lt
    go_upto_region 4 with fail
    generalize w1.alloc (.cells (Array.replicate dn (Value.slice none 0 0)) 47) = w2 at *
    generalize w1.heap.size = gO at *
    clear c0 hmk1 hA1 hb2 hba
    have hR0 : Own w2 gO 47 (valCells dn []).toArray := by rw [show (valCells dn []).toArray = Array.replicate dn (Value.slice none 0 0) by simp [valCells]]; exact hR
    have HW0 : Hid (Vals w2 w.heap.size [] (gensTo 0)) := Lib.hid (Vals.nil _ _)
    clear hR
    go_upto_region 5 with fail
    go_loopw [15] (fun y wr => ∃ (k : Nat) (vs : List Value), k ≤ dn ∧ y = .int .i64 k ∧ Below w.heap.size w wr ∧ Own wr gO 47 (valCells dn vs).toArray ∧ Hid (Vals wr w.heap.size vs (gensTo k))) (fun y _ => dn - (intOf y).toNat)
    case atStart => exact ⟨0, [], Nat.zero_le _, rfl, hb3, hR0, HW0⟩
    case round =>
      clear hb3 hR0 HW0
      obtain ⟨k, vs, hk, rfl, hb, hR, HW⟩ := hrel
      have HVL := Lib.hid (show vs.length = k by rw [HW.out.len, gensTo_len])
      by_cases hin : k < dn
      · have hk0 : (0 : Int) ≤ (k : Int) := by omega
        have hkn : (k : Int) < (dn : Int) := by omega
        go_wp2_with fail
        refine (generatorForm_c (i := k) (f := 1) (by omega)).mono ?_
        rintro e w4 ⟨g, rfl, hg, hG, hb5⟩
        have hb6 := below_trans' hb hb5 hb.size
        have hR6 := hR.keep hb5 hR.lt
        have HO := Lib.hid (ownR_one (genM_mono k) hG hg)
        have HW6 := Lib.hid ((HW.out.keep hb5).snoc HW.out.lt hb.size HO.out)
        clear hb hR hb5 hG HW HO
        have hfz := hR6.frozen k
        obtain ⟨ov, hcv⟩ := hR6.has (i := k) (by have := HVL.out; rw [List.size_toArray, valCells_len (by omega)]; omega)
        go_wp2_with fail
        go_roundw
        case rel =>
          have q2 : Below w.heap.size w (w4.setCell ⟨gO, k, none⟩ (.slice (some ⟨g, 0, none⟩) 1 1)) := hb6.setCell (p := ⟨gO, k, none⟩) (by dsimp only; omega) _
          have q4 : Own (w4.setCell ⟨gO, k, none⟩ (.slice (some ⟨g, 0, none⟩) 1 1)) gO 47 (valCells dn (vs ++ [.slice (some ⟨g, 0, none⟩) 1 1])).toArray := by
            have := hR6.set k (.slice (some ⟨g, 0, none⟩) 1 1)
            rwa [valCells_step HVL.out hin] at this
          have Q1 := Lib.hid (HW6.out.far (p := ⟨gO, k, none⟩) hR6 (.slice (some ⟨g, 0, none⟩) 1 1))
          exact ⟨k + 1, vs ++ [.slice (some ⟨g, 0, none⟩) 1 1], by omega, by go_num, q2, q4, by rw [gensTo_succ]; exact Q1⟩
        case measure => simp [intOf] <;> omega
      · have he : k = dn := by omega
        subst he
        go_wp2_with fail
        go_ret2
        refine ⟨some ⟨gO, 0, none⟩, k, k, by rw [(id_yes HA.out).2]; rfl, ?_, hb⟩
        rw [(id_yes HA.out).1, HDL.out]
        refine HW.out.ownF (gensTo_len k) hR (fun i v hi => ?_) (by omega) (gensTo_tm k)
        rw [List.getElem?_toArray, valCells_full HVL.out]
        exact hi
set_option maxHeartbeats 1000000 in
set_option maxRecDepth 100000 in
theorem IdentityMap_s {w : World} {da : Option Addr} {dn : Nat} {zs : List Int} {a : Option Addr} {n : Nat} {ims : List (List Tm)} (dc c : Nat) (hd : Ints w da dn zs) (hdn : dn ≤ 1048576) (hF : Frms w a n ims) (hn : n ≤ 1048576) (hL : ∀ im ∈ ims, (im.length : Int) ≤ 1048576) :
    Calls Try.prog 35 #[.agg #[.slice da dn dc, .slice a n c]] w fun e w' => ∃ ra rn rc, e = .returned (.tuple #[.slice ra rn rc, .int .i64 (idE zs ims)]) ∧ OwnF w' w.heap.size w'.heap.size ra rn (idV zs ims) ∧ Below w.heap.size w w' := by
  have HLL := Lib.hid hL
  have HDL := Lib.hid hd.len
  obtain ⟨ti, tz, hti, htz, hts, htb, htzs⟩ := Try.info_formA
  have HI := Lib.hid hti
  have HZ := Lib.hid htz
  have HS := Lib.hid hts
  have HBt := Lib.hid htb
  have HZs := Lib.hid htzs
  clear hL hti htz hts htb htzs
  have hA := Own.new w 29 #[.slice da dn dc, .slice a n c]
  have hb := below_alloc1 w (.cells #[.slice da dn dc, .slice a n c] 29)
  have c0 := hA.cell 0
  have c1 := hA.cell 1
  cases hal : isAlg zs ims
  all_goals
    have HA := Lib.hid hal
    clear hal
    go_enter Try.func35, Try.ntmps35
    go_upto_region 1 with fail
    generalize w.alloc (.cells #[.slice da dn dc, .slice a n c] 29) = w0 at *
    go_wp2_with fail
    refine (l02Is_c dc c (hd.keep hb) hdn (hF.keep hb) hn HLL.out).mono ?_
    rintro e w1 ⟨rfl, hb1⟩
    rw [HA.out]
    have hA1 := hA.keep hb1 hA.lt
    have hb2 := below_trans' hb hb1 hb.size
    clear hA hb hb1 c0 c1
  · go_wp2_with fail
    go_ret2
    exact ⟨none, 0, 0, by rw [(id_no HA.out).2]; rfl, by rw [(id_no HA.out).1]; exact OwnF.none_, hb2⟩
  · have h8 : dn ≤ 8 := by have := degsOk_len (isAlg_degs HA.out); have := HDL.out; omega
    have hl0 := hA1.lt
    have hR0 : (w1.alloc (.cells #[] 47)).ownsRow w.heap.size 47 1 (.slice (some ⟨w1.heap.size, 0, none⟩) 0 0) 0 [] := ⟨rfl, Or.inr ⟨w1.heap.size, 0, #[], rfl, by omega, heap_alloc_new w1 _, Nat.le_refl _, by simp [maxLen], rfl, rfl⟩⟩
    have hba := below_alloc1 w1 (.cells #[] 47)
    have hA2 := hA1.keep hba hA1.lt
    have hb3 := below_trans' hb2 hba hb2.size
    go_upto_region 4 with fail
    generalize w1.alloc (.cells #[] 47) = w2 at *
    generalize w1.heap.size = gO at *
    clear hA1 hb2 hba hl0
    have HW0 : Hid (Vals w2 w.heap.size [] (gensTo 0)) := Lib.hid (Vals.nil _ _)
    go_upto_region 5 with fail
    go_loopw [4, 5] (fun o y wr => ∃ (k : Nat) (oa : Option Addr) (oc : Nat) (vs : List Value), k ≤ dn ∧ y = .int .i64 k ∧ o = .slice oa k oc ∧ Below w.heap.size w wr ∧ Own wr w.heap.size 29 #[.slice da dn dc, .slice a n c] ∧ wr.ownsRow w.heap.size 47 1 (.slice oa k oc) k vs ∧ Hid (Vals wr w.heap.size vs (gensTo k))) (fun _ y _ => dn - (intOf y).toNat)
    case atStart => exact ⟨0, _, _, [], Nat.zero_le _, rfl, rfl, hb3, hA2, hR0, HW0⟩
    case round =>
      clear hb3 hA2 hR0 HW0
      obtain ⟨k, oa, oc, vs, hk, rfl, rfl, hb, hA, hR, HW⟩ := hrel
      have cA := hA.cell 0
      by_cases hin : k < dn
      · have hk0 : (0 : Int) ≤ (k : Int) := by omega
        have hkn : (k : Int) < (dn : Int) := by omega
        have HR := Lib.hid hR
        clear hR
        go_wp2_with fail
        refine (l04Generator_c (i := k) (by omega)).mono ?_
        rintro e w4 ⟨g, rfl, hg, hG, hb5⟩
        have hb6 := below_trans' hb hb5 hb.size
        have hA6 := hA.keep hb5 hA.lt
        have hR6 : w4.ownsRow w.heap.size 47 1 (.slice oa k oc) k vs := World.ownsRow.kept HR.out (row := none) ⟨hb5.os, hb5.tape, hb5.output, hb5.size, fun j hj _ => hb5.block j hj⟩ (by cases oa <;> simp [Value.ownBlock])
        have HO := Lib.hid (ownR_one (genM_mono k) hG hg)
        have HW6 := Lib.hid ((HW.out.keep hb5).snoc HW.out.lt hb.size HO.out)
        have hnews : ∀ j u, ([Value.slice (some ⟨g, 0, none⟩) 1 1] : List Value)[j]? = some u → (w4.alloc (.cells #[.slice (some ⟨g, 0, none⟩) 1 1] 47)).cell? ((⟨w4.heap.size, 0, none⟩ : Addr).add j) = some u := fun j u hu => by
          rw [Addr.add_mid]
          exact (Own.new w4 47 #[.slice (some ⟨g, 0, none⟩) 1 1]).range j u hu
        have hone : ∀ u ∈ ([Value.slice (some ⟨g, 0, none⟩) 1 1] : List Value), u.oneCell' = true := by simp [Value.oneCell']
        have HN := Lib.hid hnews
        have HOn := Lib.hid hone
        have hba := below_alloc1 w4 (.cells #[.slice (some ⟨g, 0, none⟩) 1 1] 47)
        have HR2 := Lib.hid (hR6.alloc (.cells #[.slice (some ⟨g, 0, none⟩) 1 1] 47))
        have hA3 := hA6.keep hba hA6.lt
        have hb3 := below_trans' hb6 hba hb6.size
        have HW3 := Lib.hid (HW6.out.keep hba)
        have hbs := hb6.size
        clear hnews hone hR6 HW6 hba hb hA hb5 hG HW HO HR hA6 hb6 cA
        go_wp2_with (refine wpList_append_own_wide _ rfl (.tmp 17) (.tmp 20) 27 rfl w.heap.size 47 ti tz 1 24 Try.underlying27 HI.out HZ.out HS.out HBt.out HZs.out (by omega) (.slice oa k oc) k vs rfl HR2.out ⟨w4.heap.size, 0, none⟩ 1 1 [Value.slice (some ⟨g, 0, none⟩) 1 1] rfl rfl HN.out HOn.out (by simp only [maxLen]; omega) (by omega) (by rw [size_alloc]; omega) (fun v' w' h2 h3 h4 => ?_))
        have hA4 := hA3.grown h3 (own_ne_row hA3 HR2.out (by decide))
        have hb4 := grown_below hb3 h3 (fun j e => (HR2.out.lt j e).1) hb3.size
        have HW4 := Lib.hid (HW3.out.grown h3 (fun q e => by
          rcases HR2.out.2 with ⟨h0, _⟩ | ⟨g', cap, cur, h0, _, hgg, _⟩
          · rw [h0] at e; cases e
          · rw [h0] at e
            have e' : g' = q := by
              have : some g' = some q := e
              injection this
            subst e'
            exact ⟨cur, hgg⟩))
        obtain ⟨va, vc, rfl⟩ := row_slice h2
        have H2 := Lib.hid h2
        clear h2 h3 h4 hA3 hb3 HR2 HW3 HN HOn
        go_roundw
        case rel => exact ⟨k + 1, va, vc, vs ++ [.slice (some ⟨g, 0, none⟩) 1 1], by omega, by go_num, rfl, hb4, hA4, H2.out, by rw [gensTo_succ]; exact HW4⟩
        case measure => simp [intOf] <;> omega
      · have he : k = dn := by omega
        subst he
        have HR := Lib.hid hR
        clear hR
        go_wp2_with fail
        go_ret2
        obtain ⟨ra, rc, hrr, hO⟩ := HW.out.ownF_row (gensTo_len k) HR.out (gensTo_tm k)
        simp only [Value.slice.injEq] at hrr
        obtain ⟨rfl, -, rfl⟩ := hrr
        exact ⟨oa, k, oc, by rw [(id_yes HA.out).2]; rfl, by rw [(id_yes HA.out).1, HDL.out]; exact hO, hb⟩
end Go.Proofs.Ytndnkeijddagiaa
