
import Derived.Test.YtbokloflbldikaaGreatElimB
import Derived.Test.YtbokloflbldikaaGreatVector
import Derived.Test.YtbokloflbldikaaGreatRedP
import Derived.Test.YtbokloflbldikaaGreatMatM
namespace Go.Proofs.YtbokloflbldikaaGreat
open Go.RowKit Go.Deep
set_option maxRecDepth 100000 in
theorem basisOf0_c {w : World} (a : Option Addr) (c : Nat) :
    Calls Tryz.prog 51 #[.slice a 0 c] w fun e w' => e = .returned (.agg #[.slice none 0 0, .slice none 0 0]) ∧ Below w.heap.size w w' := by
  have hQ := (Own.new w 92 #[.slice none 0 0, .slice none 0 0]).alloc (.cells #[.slice none 0 0, .slice none 0 0] 92)
  have hB := Own.new (w.alloc (.cells #[.slice none 0 0, .slice none 0 0] 92)) 92 #[.slice none 0 0, .slice none 0 0]
  rw [size_alloc] at hB
  have hb := below_then (below_alloc1 w (.cells #[.slice none 0 0, .slice none 0 0] 92)) (below_alloc1 _ (.cells #[.slice none 0 0, .slice none 0 0] 92))
  go_enter Tryz.func51, Tryz.ntmps51
  go_wp2_with fail
  go_step3
  go_upto_region 2 with fail
  generalize (w.alloc (.cells #[.slice none 0 0, .slice none 0 0] 92)).alloc (.cells #[.slice none 0 0, .slice none 0 0] 92) = w0 at *
  have b0 := hB.cell 0
  have b1 := hB.cell 1
  have r0 := hQ.cell 0
  have r1 := hQ.cell 1
  have q0 := hQ.frozen 0
  have q1 := hQ.frozen 1
  go_wp2_with fail
  (try rw [Exit.noGoto_ret])
  have s2 := (hQ.set 0 (.slice none 0 0)).set 1 (.slice none 0 0)
  exact bodyPost_ret (results_cell_row rfl _ _ w.heap.size 92 #[.slice none 0 0, .slice none 0 0] (0, 0) _ rfl s2 Tryz.underlying92 rfl Tryz.info_basis) rfl ⟨rfl, (hb.setCell (p := ⟨w.heap.size, 0, none⟩) (Nat.le_refl _) _).setCell (p := ⟨w.heap.size, 1, none⟩) (Nat.le_refl _) _⟩
set_option maxRecDepth 100000 in
theorem rankOf_c {w : World} {g gr W n : Nat} {Fl : List Int} {o : List Nat} (hM : Mat Fl W n o) (hn : n ≤ 1000) (hW : W ≤ 1000) (hgr : ¬ gr = g) (hO : Own w g 105 (ofI Fl)) (hR : Own w gr 74 (slc g W o).toArray) :
    Calls Tryz.prog 31 #[.slice (some ⟨gr, 0, none⟩) n n] w fun e w' => ∃ d : Nat, e = .returned (.int .i64 d) ∧ Hid (IsRank (o.map (fun i => vec (rowOf Fl W i))) d) ∧ Touch (fun k => k = g ∨ k = gr) w w' := by
  by_cases hn0 : 0 < n
  · go_enter Tryz.func31, Tryz.ntmps31
    go_wp2_with fail
    refine (basisOf_c hM hn hn0 hW hgr hO hR).mono ?_
    rintro e w1 ⟨d, rc, v2, rfl, HK, ht⟩
    have hfd : ∀ w : World, (Instr.field 92 (.agg #[.slice (some ⟨gr, 0, none⟩) d rc, v2]) 0).run Tryz.prog w = .ok (.slice (some ⟨gr, 0, none⟩) d rc) w := fun _ => by first | rfl | kernel_rfl
    go_wp2_with fail
    go_ret
    exact ⟨d, rfl, HK, ht⟩
  · obtain rfl : n = 0 := by omega
    have ho : o = [] := List.length_eq_zero_iff.1 hM.ol
    go_enter Tryz.func31, Tryz.ntmps31
    go_wp2_with fail
    refine (basisOf0_c _ _).mono ?_
    rintro e w1 ⟨rfl, hb⟩
    have hfd : ∀ w : World, (Instr.field 92 (.agg #[.slice none 0 0, .slice none 0 0]) 0).run Tryz.prog w = .ok (.slice none 0 0) w := fun _ => by first | rfl | kernel_rfl
    go_wp2_with fail
    go_ret
    exact ⟨0, rfl, Lib.hid ⟨[], ⟨by simp, by simp, by simp, by simp⟩, by rw [ho]; exact SameSp.refl _, rfl⟩, Touch.of_below hb⟩
def rdV (zs : List Int) (ims : List (List Tm)) (n : Int) : Nat := (redR (mtV zs ims n)).length
theorem dRow_ok {zs : List Int} {ims : List (List Tm)} (h : AlgOk zs ims) (V : List (List Int)) {u : List Int} (hm : IsMono u) (ok : monoOk zs u = true) : RowOk V.length (dRow zs ims V u) := ⟨by rw [dRow, rowT_len], fun x hx => by
  rw [dRow, rowT] at hx
  obtain ⟨m, -, rfl⟩ := List.mem_map.1 hx
  have hs := h.diff [⟨u, 1⟩] [] 0 (fun t ht => by
    obtain rfl : t = ⟨u, 1⟩ := by simpa using ht
    exact ⟨hm, by dsimp only; omega, by dsimp only; omega⟩) (fun t ht => by
    obtain rfl : t = ⟨u, 1⟩ := by simpa using ht
    exact ok) sum9_nil
  exact coef_bd hs.bd⟩
theorem rows3_slc (g W n : Nat) : rows3 g W n n = slc g W (List.range n) := by
  rw [rows3, slc]
  apply List.map_congr_left
  intro i hi
  rw [if_pos (List.mem_range.1 hi)]
theorem flat_row {zs : List Int} {ims : List (List Tm)} {V U : List (List Int)} {i : Nat} {u : List Int} (h : U[i]? = some u) : rowOf (flat3 zs ims V U) V.length i = dRow zs ims V u := by
  have hi := (List.getElem?_eq_some_iff.1 h).1
  have hl : (flat3 zs ims V U).length = U.length * V.length := flat3_len
  apply List.ext_getElem?
  intro c
  have hd : (dRow zs ims V u).length = V.length := by rw [dRow, rowT_len]
  by_cases hc : c < V.length
  · have hx : (dRow zs ims V u)[c]? = some ((dRow zs ims V u)[c]'(by omega)) := List.getElem?_eq_getElem _
    rw [← rowOf_get hl hi hc, flat3_get h c _ hx, hx]
  · rw [List.getElem?_eq_none (by rw [rowOf_len hl hi]; omega), List.getElem?_eq_none (by omega)]
end Go.Proofs.YtbokloflbldikaaGreat

namespace Go.Proofs.YtbokloflbldikaaGreat
open Go.RowKit Go.Deep
theorem mtV_ok {zs : List Int} {ims : List (List Tm)} {n : Int} (hT : ∀ im ∈ ims, ∀ u ∈ im, IsTm u) : ∃ m, ∀ r ∈ mtV zs ims n, RowOk m r := by
  by_cases h : mtE zs ims n = 0
  · obtain ⟨h1, h2, h3, h4, h5⟩ := code3_zero (by rw [mtE] at h; exact h)
    have hA := isAlg_ok h1 hT
    have hz := isAlg_dg h1
    refine ⟨(side zs (n.toNat + 1)).length, fun r hr => ?_⟩
    rw [mtV, if_pos h] at hr
    obtain ⟨u, hu, rfl⟩ := List.mem_map.1 hr
    exact dRow_ok hA _ (mons_mono hA.h8 u hu) (ext_ok hA.h8 (degs_one hz) hu).1
  · exact ⟨0, fun r hr => by rw [mtV, if_neg h] at hr; simp at hr⟩
theorem rd_rank {zs : List Int} {ims : List (List Tm)} {m d : Nat} (hE : mtE zs ims (m : Int) = 0) (hT : ∀ im ∈ ims, ∀ u ∈ im, IsTm u) (h : IsRank ((List.range (cnt zs m)).map (fun i => vec (rowOf (flat3 zs ims (side zs (m + 1)) (side zs m)) (cnt zs (m + 1)) i))) d) : d = rdV zs ims (m : Int) := by
  obtain ⟨W, hW⟩ := mtV_ok (zs := zs) (ims := ims) (n := (m : Int)) hT
  have e : (List.range (cnt zs m)).map (fun i => vec (rowOf (flat3 zs ims (side zs (m + 1)) (side zs m)) (cnt zs (m + 1)) i)) = (mtV zs ims (m : Int)).map vec := by
    rw [mtV, if_pos hE, List.map_map]
    simp only [Int.toNat_natCast]
    apply List.ext_getElem
    · simp [side_len]
    · intro i h1 h2
      simp only [List.length_map, List.length_range] at h1
      have hi : i < (side zs m).length := by rw [side_len]; exact h1
      rw [List.getElem_map, List.getElem_map, List.getElem_range, ← side_len zs (m + 1), flat_row (List.getElem?_eq_getElem hi)]
      rfl
  rw [e] at h
  exact h.uniq (redR_rank hW)
theorem flat3_bd {zs : List Int} {ims : List (List Tm)} {m : Nat} (hA : AlgOk zs ims) (hz : degsOk zs = true) {V : List (List Int)} : ∀ x ∈ flat3 zs ims V (side zs m), 0 ≤ x ∧ x ≤ 10006 := fun x hx => by
  rw [flat3, List.mem_flatMap] at hx
  obtain ⟨u, hu, hx⟩ := hx
  exact (dRow_ok hA V (mons_mono hA.h8 u hu) (ext_ok hA.h8 (degs_one hz) hu).1).bd x hx
set_option maxHeartbeats 2000000 in
set_option maxRecDepth 100000 in
theorem RankOfD_c {w : World} {da : Option Addr} {dn : Nat} {zs : List Int} {a : Option Addr} {k : Nat} {ims : List (List Tm)} (n : Int) (dc c : Nat) (hd : Ints w da dn zs) (hdn : dn ≤ 1048576) (hF : Frms w a k ims) (hk : k ≤ 1048576) (hL : ∀ im ∈ ims, (im.length : Int) ≤ 1048576) :
    Calls Tryz.prog 15 #[.agg #[.slice da dn dc, .slice a k c], .int .i64 n] w fun e w' => e = .returned (.tuple #[.int .i64 (rdV zs ims n : Nat), .int .i64 (mtE zs ims n)]) ∧ Below w.heap.size w w' := by
  have HD := Lib.hid hd
  have HF := Lib.hid hF
  have HLL := Lib.hid hL
  have HT := Lib.hid hF.tm
  have hO := Own.new w 32 #[.slice da dn dc, .slice a k c]
  have hb := below_alloc1 w (.cells #[.slice da dn dc, .slice a k c] 32)
  clear hd hF hL
  go_enter Tryz.func15, Tryz.ntmps15
  go_wp2_with fail
  refine (checkDegree_c dc c (HD.out.keep hb) hdn (HF.out.keep hb) hk HLL.out).mono ?_
  rintro e w1 ⟨rfl, hb1⟩
  have hO1 := hO.keep hb1 hO.lt
  have hb2 := below_then hb hb1
  clear hO hb hb1
  generalize hE : code3 zs ims (low1 n) n = E at *
  have HE := Lib.hid hE
  clear hE
  by_cases hE0 : E = 0
  · subst hE0
    have HZ := Lib.hid (code3_zero HE.out)
    obtain ⟨m, rfl⟩ : ∃ m : Nat, n = m := ⟨n.toNat, by have := HZ.out.2.1; omega⟩
    have c0 := hO1.cell 0
    have c1 := hO1.cell 1
    go_wp2_with fail
    clear c0 c1
    have hz := isAlg_dg HZ.out.1
    have q := HZ.out.2.2
    simp only [Int.toNat_natCast] at q
    have hAok := isAlg_ok HZ.out.1 HT.out
    refine (matrixOf_c dc c (HD.out.keep hb2) hdn (HF.out.keep hb2) hAok HZ.out.1 hz (degs_one hz) (by omega) q.2.1 q.2.2).mono ?_
    rintro e w2 ⟨g, rfl, hg, hN, hR, hb3⟩
    have hs1 := hb2.size
    have hb4 := hb2.trans (hb3.mono hb2.size)
    have hs2 := hb4.size
    have HM : Hid (Mat (flat3 zs ims (side zs (m + 1)) (side zs m)) (cnt zs (m + 1)) (cnt zs m) (List.range (cnt zs m))) := Lib.hid ⟨by rw [flat3_len, side_len, side_len], by simp, List.nodup_range, fun i hi => List.mem_range.1 hi, flat3_bd hAok hz⟩
    rw [rows3_slc] at hR
    clear hb2 hb3 hO1 hz hAok
    go_wp2_with fail
    refine (rankOf_c HM.out (by omega) (by omega) (by omega) hN hR).mono ?_
    rintro e w3 ⟨d, rfl, HK, ht⟩
    have hd := rd_rank (by rw [mtE]; exact HE.out) HT.out HK.out
    have HDD := Lib.hid hd
    clear hd
    have hb5 := hb4.trans (ht.bel (B := w.heap.size) (fun k hk => by omega) hs2)
    clear hb4 hN hR ht
    go_wp2_with fail
    go_ret2
    exact ⟨by rw [mtE, HE.out, ← HDD.out]; rfl, hb5⟩
  · have hEb : (E != 0) = true := by simpa using hE0
    have hv : rdV zs ims n = 0 := by rw [rdV, mtV, mtE, HE.out, if_neg hE0]; rfl
    have HV := Lib.hid hv
    clear hv
    go_wp2_with fail
    go_ret2
    exact ⟨by rw [mtE, HE.out, HV.out]; rfl, hb2⟩
end Go.Proofs.YtbokloflbldikaaGreat

namespace Go.Proofs.YtbokloflbldikaaGreat
open Go.RowKit Go.Deep
theorem insR_len {r : List Int} {p : Nat} : ∀ {L : List (List Int)}, (insR r p L).length = L.length + 1
  | [] => rfl
  | s :: L => by
    have := insR_len (r := r) (p := p) (L := L)
    rw [insR]
    split <;> simp [this]
theorem putR_len {L : List (List Int)} {r : List Int} : (putR L r).length ≤ L.length + 1 := by
  rw [putR]
  split
  · rw [insR_len]; exact Nat.le_refl _
  · omega
theorem redR_len : ∀ {V L : List (List Int)}, (V.foldl putR L).length ≤ L.length + V.length
  | [], L => by simp
  | r :: V, L => by
    have h1 := redR_len (V := V) (L := putR L r)
    have h2 := putR_len (L := L) (r := r)
    rw [List.foldl_cons, List.length_cons]
    omega
theorem redR_snoc {V : List (List Int)} {k : Nat} {r : List Int} (h : V[k]? = some r) : redR (V.take (k + 1)) = putR (redR (V.take k)) r := by
  rw [redR, take_sn h, List.foldl_append]
  rfl
set_option maxHeartbeats 1000000 in
set_option maxRecDepth 100000 in
theorem l03Reduce_c {w : World} {b : Option Addr} {m N : Nat} {V : List (List Int)} (c : Nat) (hT : Tab w b N V) (hm : m ≤ 1000) (hN : N ≤ 800) (hV : ∀ r ∈ V, RowOk m r) :
    Calls Tryz.prog 50 #[.slice b N c] w fun e w' => ∃ b' N' c', e = .returned (.slice b' N' c') ∧ Tab w' b' N' (redR V) ∧ Below w.heap.size w w' := by
  have HT := Lib.hid hT
  have HLn := Lib.hid hT.1
  have HV := Lib.hid hV
  have hb := below_alloc1 w (.cells #[] 22)
  clear hT hV
  go_enter Tryz.func50, Tryz.ntmps50
  go_upto_region 2 with fail
  generalize w.alloc (.cells #[] 22) = w1 at *
  generalize hge : w.heap.size = gO at *
  have HGE := Lib.hid hge
  clear hge
  go_upto_region 3 with fail
  go_loopw [4, 3] (fun y z wr => ∃ (k n : Nat) (oa : Option Addr) (oc : Nat), k ≤ N ∧ y = .int .i64 k ∧ z = .slice oa n oc ∧ Below gO w wr ∧ Tab wr oa n (redR (V.take k))) (fun y _ _ => N - (intOf y).toNat)
  case atStart => exact ⟨0, 0, _, 0, Nat.zero_le _, rfl, rfl, hb, by rw [List.take_zero]; exact ⟨rfl, fun h => absurd h (by omega)⟩⟩
  case round =>
    clear hb
    obtain ⟨k, n, oa, oc, hk, rfl, rfl, hb, hO⟩ := hrel
    have hk0 : (0 : Int) ≤ (k : Int) := by omega
    by_cases hkn : k < N
    · have hki : (k : Int) < (N : Int) := by omega
      obtain ⟨b1, off, s, ai, mi, ci, rfl, hbl, hcs, hIs, hx⟩ := (HT.out.keep (by rw [HGE.out]; exact hb)).at_ hkn
      have hs := HV.out s (List.mem_of_getElem? hx.out)
      obtain rfl : m = mi := by have := hIs.len; have := hs.len; omega
      have hR := redR_red (RedI.nil m) (V := V.take k) (fun r hr => HV.out r (List.mem_of_mem_take hr))
      have HRD := Lib.hid hR.1
      have hln := redR_len (V := V.take k) (L := [])
      have hn9 : n ≤ 900 := by
        have h1 := hO.1
        rw [redR] at h1
        rw [List.length_take, List.length_nil] at hln
        omega
      have HS := Lib.hid hs
      have HX := Lib.hid hx.out
      clear hs hR hln hx
      go_wp2_with fail
      refine (l03Put_c ci oc hIs hO hm hn9 HS.out (fun t ht => ⟨HRD.out.ok t ht, HRD.out.fst t ht⟩)).mono ?_
      rintro e w2 ⟨b', N', c', rfl, hO2, hb2⟩
      have hb3 := hb.trans (hb2.mono (by rw [← HGE.out]; exact hb.size))
      clear hb hb2 hO hIs hcs
      go_wp2_with fail
      go_roundw
      case rel => exact ⟨k + 1, N', b', c', by omega, by go_num, rfl, hb3, by rw [redR_snoc HX.out]; exact hO2⟩
      case measure => simp [intOf] <;> omega
    · have he : k = N := by omega
      subst he
      rw [List.take_of_length_le (Nat.le_of_eq HLn.out)] at hO
      go_wp2_with fail
      go_ret
      exact ⟨oa, n, oc, rfl, hO, by rw [HGE.out]; exact hb⟩
set_option maxHeartbeats 1000000 in
set_option maxRecDepth 100000 in
theorem l03Rank_c {w : World} {da : Option Addr} {dn : Nat} {zs : List Int} {a : Option Addr} {k : Nat} {ims : List (List Tm)} {m : Nat} (dc c : Nat) (hd : Ints w da dn zs) (hF : Frms w a k ims) (HA : AlgOk zs ims) (hA : isAlg zs ims = true) (hz : degsOk zs = true) (hz1 : ∀ z ∈ zs, 1 ≤ z) (hm : m ≤ 20) (hc1 : cnt zs m ≤ 120) (hc2 : cnt zs (m + 1) ≤ 120) (hE : mtE zs ims (m : Int) = 0) :
    Calls Tryz.prog 30 #[.agg #[.slice da dn dc, .slice a k c], .int .i64 m] w fun e w' => e = .returned (.int .i64 (rdV zs ims (m : Int) : Nat)) ∧ Below w.heap.size w w' := by
  have hO := Own.new w 32 #[.slice da dn dc, .slice a k c]
  have hb := below_alloc1 w (.cells #[.slice da dn dc, .slice a k c] 32)
  have hV : ∀ r ∈ mtV zs ims (m : Int), RowOk (cnt zs (m + 1)) r := fun r hr => by
    rw [mtV, if_pos hE] at hr
    simp only [Int.toNat_natCast] at hr
    obtain ⟨u, hu, rfl⟩ := List.mem_map.1 hr
    have := dRow_ok HA (side zs (m + 1)) (mons_mono HA.h8 u hu) (ext_ok HA.h8 hz1 hu).1
    rwa [side_len] at this
  have HV := Lib.hid hV
  have HME : Hid (mtV zs ims (m : Int) = (side zs m).map (dRow zs ims (side zs (m + 1)))) := Lib.hid (by rw [mtV, if_pos hE]; simp)
  have hm0 : ¬ (m : Int) < 0 := by omega
  have c0 := hO.cell 0
  have c1 := hO.cell 1
  clear hV
  go_enter Tryz.func30, Tryz.ntmps30
  go_upto_region 1 with fail
  generalize w.alloc (.cells #[.slice da dn dc, .slice a k c] 32) = w0 at *
  go_wp2_with fail
  refine (l03Matrix_c dc c (hd.keep hb) (hF.keep hb) HA hA hz hz1 hm hc1 hc2).mono ?_
  rintro e w1 ⟨ra, rc, rfl, hT, hb1⟩
  have hb2 := below_trans' hb hb1 hb.size
  rw [← HME.out] at hT
  have hTb := hT.tab
  clear hT hb hb1 c0 c1 hO
  go_wp2_with fail
  refine (l03Reduce_c (m := cnt zs (m + 1)) rc hTb (by omega) (by omega) HV.out).mono ?_
  rintro e w2 ⟨b', N', c', rfl, hT2, hb3⟩
  have hb4 := below_trans' hb2 hb3 hb2.size
  have HN : Hid (rdV zs ims (m : Int) = N') := Lib.hid hT2.1
  clear hb2 hb3 hT2 hTb
  go_wp2_with fail
  go_ret
  exact ⟨ret_i (by rw [HN.out]), hb4⟩
set_option maxHeartbeats 2000000 in
set_option maxRecDepth 100000 in
theorem RankOfD_s {w : World} {da : Option Addr} {dn : Nat} {zs : List Int} {a : Option Addr} {k : Nat} {ims : List (List Tm)} (n : Int) (dc c : Nat) (hd : Ints w da dn zs) (hdn : dn ≤ 1048576) (hF : Frms w a k ims) (hk : k ≤ 1048576) (hL : ∀ im ∈ ims, (im.length : Int) ≤ 1048576) :
    Calls Tryz.prog 14 #[.agg #[.slice da dn dc, .slice a k c], .int .i64 n] w fun e w' => e = .returned (.tuple #[.int .i64 (rdV zs ims n : Nat), .int .i64 (mtE zs ims n)]) ∧ Below w.heap.size w w' := by
  have HD := Lib.hid hd
  have HF := Lib.hid hF
  have HLL := Lib.hid hL
  have HT := Lib.hid hF.tm
  have hO := Own.new w 32 #[.slice da dn dc, .slice a k c]
  have hb := below_alloc1 w (.cells #[.slice da dn dc, .slice a k c] 32)
  clear hd hF hL
  go_enter Tryz.func14, Tryz.ntmps14
  go_wp2_with fail
  refine (l03Code_c dc c (HD.out.keep hb) hdn (HF.out.keep hb) hk HLL.out).mono ?_
  rintro e w1 ⟨rfl, hb1⟩
  have hO1 := hO.keep hb1 hO.lt
  have hb2 := below_then hb hb1
  clear hO hb hb1
  generalize hE : code3 zs ims (low1 n) n = E at *
  have HE := Lib.hid hE
  clear hE
  by_cases hE0 : E = 0
  · subst hE0
    have HZ := Lib.hid (code3_zero HE.out)
    obtain ⟨m, rfl⟩ : ∃ m : Nat, n = m := ⟨n.toNat, by have := HZ.out.2.1; omega⟩
    have c0 := hO1.cell 0
    have c1 := hO1.cell 1
    go_wp2_with fail
    clear c0 c1
    have hz := isAlg_dg HZ.out.1
    have q := HZ.out.2.2
    simp only [Int.toNat_natCast] at q
    have hAok := isAlg_ok HZ.out.1 HT.out
    refine (l03Rank_c dc c (HD.out.keep hb2) (HF.out.keep hb2) hAok HZ.out.1 hz (degs_one hz) (by omega) q.2.1 q.2.2 (by rw [mtE]; exact HE.out)).mono ?_
    rintro e w2 ⟨rfl, hb3⟩
    have hb4 := hb2.trans (hb3.mono hb2.size)
    clear hb2 hb3 hO1 hz hAok
    go_wp2_with fail
    go_ret2
    exact ⟨by rw [mtE, HE.out]; rfl, hb4⟩
  · have hEb : (E != 0) = true := by simpa using hE0
    have hv : rdV zs ims n = 0 := by rw [rdV, mtV, mtE, HE.out, if_neg hE0]; rfl
    have HV := Lib.hid hv
    clear hv
    go_wp2_with fail
    go_ret2
    exact ⟨by rw [mtE, HE.out, HV.out]; rfl, hb2⟩
end Go.Proofs.YtbokloflbldikaaGreat
