
import Derived.Test.YtihpfphgmdblaaaGreatDoorPrsT
import Derived.Test.YtihpfphgmdblaaaGreatDoorLawForm
namespace Go.Proofs.YtihpfphgmdblaaaGreatDoor
open Go.RowKit Go.Deep
theorem ints_of_ownP {w : World} {g n : Nat} {zs : List Int} (h : Own w g 2 ((zs.map (Value.int .i64)).toArray)) (hn : zs.length = n) : Ints w (some ⟨g, 0, none⟩) n zs := IntBlk.ints' h hn
theorem pfV_tm (zs : List Int) (l : List UInt8) : ∀ t ∈ pfV zs l, IsTm t := by
  rw [pfV]
  split
  · cases h : paG zs l (rdF l) with
    | none => simp
    | some ts =>
      have := (paG_of (zs := zs) (l := l) (E := rdF l) (fun _ h => rdF_tm h) (fun ts h hl e => by rw [← e]; exact rdF_text h hl) ts).1 h
      exact this.2.2
  · simp
theorem pfV_400 (zs : List Int) (l : List UInt8) : (pfV zs l).length ≤ 400 := by
  rw [pfV]
  split
  · cases h : paG zs l (rdF l) with
    | none => simp
    | some ts =>
      have := (paG_of (zs := zs) (l := l) (E := rdF l) (fun _ h => rdF_tm h) (fun ts h hl e => by rw [← e]; exact rdF_text h hl) ts).1 h
      exact (isForm_fine this.1 this.2.2).2
  · simp
set_option maxHeartbeats 8000000 in
set_option maxRecDepth 100000 in
theorem parseForm_walkL (da : Option Addr) (dn dc : Nat) (zs : List Int) (l : List UInt8) (w : World) (hd : Ints w da dn zs) (hdn : dn ≤ 1048576) (hl : l.length ≤ 1048576) (hE : Errs w) (htab : Tab w) :
    Calls Tryz.prog 3 #[.slice da dn dc, str l] w fun e w' => e = .returned (.bool true) ∧ Below w.heap.size w w' := by
  have HL := Lib.hid hd.len
  have HD := Lib.hid hd
  have HE := Lib.hid hE
  have HTB := Lib.hid htab
  have HVt := Lib.hid (pfV_tm zs l)
  have h400 := pfV_400 zs l
  obtain ⟨V, hV⟩ : ∃ V, pfV zs l = V := ⟨_, rfl⟩
  obtain ⟨E, hEe⟩ : ∃ E, pfE zs l = E := ⟨_, rfl⟩
  rw [hV] at HVt h400
  obtain ⟨N0, hN0⟩ : ∃ N, V.length = N := ⟨_, rfl⟩
  have hVl : N0 ≤ 1048576 := by omega
  have HnV := Lib.hid hN0
  clear hN0 h400
  clear hd hE htab
  go_enter Tryz.func3, Tryz.ntmps3
  have hbC := Below.refl w.heap.size w
  go_wp2_with fail
  refine (toInt64S_b dc HD.out hdn).mono ?_
  rintro e w2 ⟨g1, rfl, hg1, hi10, hb⟩
  replace hbC := below_trans' hbC hb hbC.size
  have hi1 : Own w2 g1 2 ((zs.map (Value.int .i64)).toArray) := hi10
  clear hb hi10
  have hl1 := hi1.lt
  go_wp2_with fail
  refine (ParseForm_s _ l (ints_of_ownP hi1 HL.out) hdn hl).mono ?_
  rintro e w3 ⟨a8, n8, c8, rfl, hV8, hb⟩
  rw [hV] at hV8
  obtain ⟨_, _, hve, -⟩ := hV8.terms HVt.out HnV.out
  simp only [Value.slice.injEq] at hve
  have hn := hve.2.1
  clear hve
  subst hn
  rw [hEe]
  have hs2 := hbC.size
  replace hbC := below_trans' hbC hb hbC.size
  replace hi1 := hi1.keep hb hi1.lt
  have hs23 := hb.size
  clear hb hs2
  have hs3 := hbC.size
  have hO8 := Own.new w3 25 #[.slice a8 n8 c8]
  have hba := below_alloc1 w3 (.cells #[.slice a8 n8 c8] 25)
  replace hbC := below_trans' hbC hba hbC.size
  replace hi1 := hi1.keep hba hi1.lt
  replace hV8 := hV8.keep hba
  clear hba
  go_upto_region 6 with fail
  generalize w3.alloc (.cells #[.slice a8 n8 c8] 25) = w4 at *
  obtain ⟨g8, hg⟩ : ∃ x, w3.heap.size = x := ⟨_, rfl⟩
  rw [hg] at hO8
  try rw [hg]
  have hw_g8 : w.heap.size ≤ g8 := by rw [← hg]; exact hs3
  have hE_g8 : w3.heap.size ≤ g8 := Nat.le_of_eq hg
  clear hg
  clear hs3
  have hq_hV8 := fun q (e : (Value.slice a8 n8 c8).ownBlock = some q) => (hV8.at_ e)
  have hl8 := hO8.lt
  go_wp2_with fail
  refine (toInt64S_b dc (HD.out.keep hbC) hdn).mono ?_
  rintro e w5 ⟨g2, rfl, hg2, hi20, hb⟩
  replace hbC := below_trans' hbC hb hbC.size
  replace hi1 := hi1.keep hb hi1.lt
  replace hO8 := hO8.keep hb hO8.lt
  replace hV8 := hV8.keep hb
  have hi2 : Own w5 g2 2 ((zs.map (Value.int .i64)).toArray) := hi20
  have hl2 := hi2.lt
  clear hb hi20
  go_wp2_with fail
  refine (ParseForm_c _ l (ints_of_ownP hi2 HL.out) hdn hl (HE.out.keep hbC) (HTB.out.keep hbC (Nat.le_refl _))).mono ?_
  rintro e w6 ⟨a12, n12, c12, rfl, hvR, hb⟩
  rw [hV] at hvR
  obtain ⟨_, _, hve, -⟩ := hvR.terms HVt.out HnV.out
  simp only [Value.slice.injEq] at hve
  have hn := hve.2.1.symm
  clear hve
  subst hn
  rw [hEe]
  replace hbC := below_trans' hbC hb hbC.size
  replace hi1 := hi1.keep hb hi1.lt
  replace hO8 := hO8.keep hb hO8.lt
  replace hi2 := hi2.keep hb hi2.lt
  replace hV8 := hV8.keep hb
  obtain ⟨gv, tv, csv, hOv, hszv, hav, hgv⟩ := hvR.block hi1
  have hlv := hOv.lt
  have hs56 := hb.size
  clear hb hi1
  have hq_hvR := fun q (e : (Value.slice a12 n8 c12).ownBlock = some q) => (hvR.at_ e)
  have hs3 := hbC.size
  have h12 := Own.new w6 25 #[.slice a12 n8 c12]
  have hba := below_alloc1 w6 (.cells #[.slice a12 n8 c12] 25)
  replace hbC := below_trans' hbC hba hbC.size
  replace hO8 := hO8.keep hba hO8.lt
  replace hi2 := hi2.keep hba hi2.lt
  replace hOv := hOv.keep hba hOv.lt
  replace hV8 := hV8.keep hba
  replace hvR := hvR.keep hba
  clear hba
  go_upto_region 8 with fail
  generalize w6.alloc (.cells #[.slice a12 n8 c12] 25) = w7 at *
  obtain ⟨g12, hg⟩ : ∃ x, w6.heap.size = x := ⟨_, rfl⟩
  rw [hg] at h12
  try rw [hg]
  have hw_g12 : w.heap.size ≤ g12 := by rw [← hg]; exact hs3
  have hE_g12 : w6.heap.size ≤ g12 := Nat.le_of_eq hg
  clear hg
  clear hs3
  have hl12 := h12.lt
  have hca := h12.cell 0
  have hcb := hO8.cell 0
  go_wp2_with fail
  clear hca hcb
  refine (eqForm_c _ _ (hvR.read HVt.out) (hV8.read HVt.out) hVl).mono ?_
  rintro e w8 ⟨rfl, hb⟩
  replace hbC := below_trans' hbC hb hbC.size
  replace hO8 := hO8.keep hb hO8.lt
  replace hi2 := hi2.keep hb hi2.lt
  replace hOv := hOv.keep hb hOv.lt
  replace h12 := h12.keep hb h12.lt
  replace hV8 := hV8.keep hb
  replace hvR := hvR.keep hb
  clear hb
  go_wp2_with fail
  refine (toInt64S_b dc (HD.out.keep hbC) hdn).mono ?_
  rintro e w9 ⟨g3, rfl, -, hi3, hb⟩
  replace hbC := below_trans' hbC hb hbC.size
  replace hO8 := hO8.keep hb hO8.lt
  replace hi2 := hi2.keep hb hi2.lt
  replace hOv := hOv.keep hb hOv.lt
  replace h12 := h12.keep hb h12.lt
  replace hV8 := hV8.keep hb
  replace hvR := hvR.keep hb
  clear hb
  go_wp2_with fail
  refine (eqInt64S_c dn dn (ints_of_ownP hi2 HL.out) (ints_of_ownP hi3 HL.out) hdn hdn).mono ?_
  rintro e w10 ⟨rfl, q, hq⟩
  rw [decide_eq_true rfl]
  have hb : Below w9.heap.size w9 w10 := by rw [hq]; exact below_drewN (Below.refl _ _) q
  replace hbC := below_trans' hbC hb hbC.size
  replace hO8 := hO8.keep hb hO8.lt
  replace hi2 := hi2.keep hb hi2.lt
  replace hOv := hOv.keep hb hOv.lt
  replace h12 := h12.keep hb h12.lt
  replace hV8 := hV8.keep hb
  replace hvR := hvR.keep hb
  clear hb hq hi3
  go_wp2_with fail
  refine (markInt64S_c dn hi2 (by simp [HL.out]) (fun _ => rfl) hdn (by omega) (by omega)).mono ?_
  rintro e w11 ⟨rfl, hi9, ho⟩
  replace hbC := hbC.trans (ho.below w.heap.size (by omega))
  replace hO8 := ho.own hO8 (by omega)
  replace hOv := ho.own hOv (by omega)
  replace h12 := ho.own h12 (by omega)
  replace hV8 := hV8.only ho (fun e => by have := hq_hV8 _ e; omega)
  replace hvR := hvR.only ho (fun e => by have := hq_hvR _ e; omega)
  clear ho hi9
  obtain ⟨K0, hK0⟩ : ∃ K0, (1 : Int) + (dn : Int) = K0 := ⟨_, rfl⟩
  rw [hK0]
  have hkn : ¬ (K0 < 0) := by omega
  have HK0 := Lib.hid hK0
  clear hK0
  have hca := h12.cell 0
  have hcb := hO8.cell 0
  go_wp2_with fail
  clear hca hcb
  refine (eqForm_c _ _ (hvR.read HVt.out) (hV8.read HVt.out) hVl).mono ?_
  rintro e w12 ⟨rfl, hb⟩
  replace hbC := below_trans' hbC hb hbC.size
  replace hO8 := hO8.keep hb hO8.lt
  replace hOv := hOv.keep hb hOv.lt
  replace h12 := h12.keep hb h12.lt
  replace hV8 := hV8.keep hb
  replace hvR := hvR.keep hb
  clear hb
  have hca := h12.cell 0
  go_wp2_with fail
  clear hca
  refine (markForm_c c12 hOv hszv hav hVl (by omega) (by omega)).mono ?_
  rintro e w13 ⟨rfl, hOw, ho⟩
  have hba := below_alloc1 w12 (.cells #[.slice a12 n8 c12] 25)
  replace hbC := below_trans' hbC hba hbC.size
  replace hO8 := hO8.keep hba hO8.lt
  replace h12 := h12.keep hba h12.lt
  replace hV8 := hV8.keep hba
  replace hbC := hbC.trans (ho.below w.heap.size (by omega))
  replace hO8 := ho.own hO8 (by omega)
  replace h12 := ho.own h12 (by omega)
  replace hV8 := hV8.only ho (fun e => by have := hq_hV8 _ e; omega)
  clear ho hba hOv hvR
  generalize hM : (1 : Int) + ((n8 * 9 : Nat) : Int) = M at *
  have HM := Lib.hid hM
  have hmn : ¬ (M < 0) := by omega
  clear hM
  have hca := h12.cell 0
  go_wp2_with fail
  clear hca
  refine (heldForm_c c12 hOw hszv hav hVl (by omega) (by omega)).mono ?_
  rintro e w14 ⟨rfl, hb⟩
  rw [HM.out]
  replace hbC := below_trans' hbC hb hbC.size
  replace hO8 := hO8.keep hb hO8.lt
  replace h12 := h12.keep hb h12.lt
  replace hOw := hOw.keep hb hOw.lt
  replace hV8 := hV8.keep hb
  clear hb
  go_wp2_with fail
  refine (toInt64S_b dc (HD.out.keep hbC) hdn).mono ?_
  rintro e w15 ⟨g4, rfl, hg4, hi40, hb⟩
  replace hbC := below_trans' hbC hb hbC.size
  replace hO8 := hO8.keep hb hO8.lt
  replace h12 := h12.keep hb h12.lt
  replace hOw := hOw.keep hb hOw.lt
  replace hV8 := hV8.keep hb
  have hi4 : Own w15 g4 2 ((zs.map (Value.int .i64)).toArray) := hi40
  clear hb hi40
  go_wp2_with fail
  refine (ParseForm_c _ l (ints_of_ownP hi4 HL.out) hdn hl (HE.out.keep hbC) (HTB.out.keep hbC (Nat.le_refl _))).mono ?_
  rintro e w16 ⟨a17, n17, c17, rfl, hV17, hb⟩
  rw [hV] at hV17
  obtain ⟨_, _, hve, -⟩ := hV17.terms HVt.out HnV.out
  simp only [Value.slice.injEq] at hve
  have hn := hve.2.1.symm
  clear hve
  subst hn
  rw [hEe]
  replace hbC := below_trans' hbC hb hbC.size
  replace hO8 := hO8.keep hb hO8.lt
  replace h12 := h12.keep hb h12.lt
  replace hOw := hOw.keep hb hOw.lt
  replace hV8 := hV8.keep hb
  clear hb hi4
  have hs3 := hbC.size
  have h17 := Own.new w16 25 #[.slice a17 n8 c17]
  have hba := below_alloc1 w16 (.cells #[.slice a17 n8 c17] 25)
  replace hbC := below_trans' hbC hba hbC.size
  replace hO8 := hO8.keep hba hO8.lt
  replace h12 := h12.keep hba h12.lt
  replace hOw := hOw.keep hba hOw.lt
  replace hV8 := hV8.keep hba
  replace hV17 := hV17.keep hba
  clear hba
  go_upto_region 25 with fail
  generalize w16.alloc (.cells #[.slice a17 n8 c17] 25) = w17 at *
  obtain ⟨g17, hg⟩ : ∃ x, w16.heap.size = x := ⟨_, rfl⟩
  rw [hg] at h17
  try rw [hg]
  have hw_g17 : w.heap.size ≤ g17 := by rw [← hg]; exact hs3
  have hE_g17 : w16.heap.size ≤ g17 := Nat.le_of_eq hg
  clear hg
  clear hs3
  have hca := h17.cell 0
  have hcb := hO8.cell 0
  go_wp2_with fail
  clear hca hcb
  refine (eqForm_c _ _ (hV17.read HVt.out) (hV8.read HVt.out) hVl).mono ?_
  rintro e w18 ⟨rfl, hb⟩
  replace hbC := below_trans' hbC hb hbC.size
  replace hO8 := hO8.keep hb hO8.lt
  replace h12 := h12.keep hb h12.lt
  replace hOw := hOw.keep hb hOw.lt
  replace h17 := h17.keep hb h17.lt
  replace hV8 := hV8.keep hb
  replace hV17 := hV17.keep hb
  clear hb
  have hca := h12.cell 0
  go_wp2_with fail
  clear hca
  refine (heldForm_c c12 hOw hszv hav hVl (by omega) (by omega)).mono ?_
  rintro e w19 ⟨rfl, hb⟩
  rw [HM.out]
  replace hbC := below_trans' hbC hb hbC.size
  replace hO8 := hO8.keep hb hO8.lt
  replace h12 := h12.keep hb h12.lt
  replace hOw := hOw.keep hb hOw.lt
  replace h17 := h17.keep hb h17.lt
  replace hV8 := hV8.keep hb
  replace hV17 := hV17.keep hb
  clear hb
  go_wp2_with fail
  go_ret
  exact ⟨rfl, hbC⟩
theorem parseForm_walk (da : Option Addr) (dn dc : Nat) (zs : List Int) (s : ByteArray) (w : World) (hd : Ints w da dn zs) (hE : Errs w) (htab : Tab w) :
    Calls Tryz.prog 3 #[.slice da dn dc, .string s] w fun e w' => e = .returned (.bool true) ∧ Below w.heap.size w w' := by
  obtain ⟨l, rfl⟩ : ∃ l : List UInt8, s = ⟨l.toArray⟩ := ⟨s.data.toList, rfl⟩
  have hsz : (⟨l.toArray⟩ : ByteArray).size = l.length := by simp [ByteArray.size]
  by_cases hdn : dn ≤ 1048576
  · by_cases hl : l.length ≤ 1048576
    · exact parseForm_walkL da dn dc zs l w hd hdn hl hE htab
    · go_enter Tryz.func3, Tryz.ntmps3
      go_wp2_with fail
      go_ret
      exact ⟨rfl, Below.refl _ _⟩
  · go_enter Tryz.func3, Tryz.ntmps3
    go_wp2_with fail
    go_ret
    exact ⟨rfl, Below.refl _ _⟩
end Go.Proofs.YtihpfphgmdblaaaGreatDoor
