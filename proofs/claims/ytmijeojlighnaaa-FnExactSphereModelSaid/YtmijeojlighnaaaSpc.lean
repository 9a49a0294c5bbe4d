
import Derived.Test.YtmijeojlighnaaaFree
import Derived.Test.YtmijeojlighnaaaKeep
import Derived.Test.YtmijeojlighnaaaGen
namespace Go.Proofs.Ytmijeojlighnaaa
open Go.RowKit Go.Deep
def SpM (VD : List Int) (VI : List (List Tm)) (w : World) (e : Ending) (w' : World) : Prop := ∃ (ra : Option Addr) (an ac : Nat) (rb : Option Addr) (bn bc : Nat), e = .returned (.agg #[.slice ra an ac, .slice rb bn bc]) ∧ OwnV w' w.heap.size w'.heap.size ra an VD ∧ OwnF w' w.heap.size w'.heap.size rb bn VI ∧ Below w.heap.size w w'
def SpO (VD : List Int) (VI : List (List Tm)) (E : Int) (w : World) (e : Ending) (w' : World) : Prop := ∃ (ra : Option Addr) (an ac : Nat) (rb : Option Addr) (bn bc : Nat), e = .returned (.tuple #[.agg #[.slice ra an ac, .slice rb bn bc], .int .i64 E]) ∧ OwnV w' w.heap.size w'.heap.size ra an VD ∧ OwnF w' w.heap.size w'.heap.size rb bn VI ∧ Below w.heap.size w w'
theorem ownV_blk {w : World} {lo hi g n : Nat} {V : List Int} (h : Own w g 2 ((V.map (Value.int .i64)).toArray)) (hl : V.length = n) (h1 : lo ≤ g) (h2 : g < hi) : OwnV w lo hi (some ⟨g, 0, none⟩) n V :=
  ⟨hl, fun _ => ⟨g, _, rfl, h1, h2, h, by simp; omega, fun i hi => by
    have : V[i]? = some V[i] := List.getElem?_eq_getElem (by omega)
    simp [List.getD_eq_getElem?_getD, this]⟩⟩
theorem vals_nils {w : World} {B : Nat} {vs : List Value} {V : List (List Tm)} (h : Vals w B vs V) (hn : B ≤ w.heap.size) : ∀ j, Vals w B (vs ++ List.replicate j (.slice none 0 0)) (V ++ List.replicate j [])
  | 0 => by simpa using h
  | j + 1 => by
    rw [List.replicate_succ', List.replicate_succ', ← List.append_assoc, ← List.append_assoc]
    exact (vals_nils h hn j).snoc (vals_nils h hn j).lt hn ⟨rfl, Or.inl ⟨rfl, rfl⟩⟩
theorem ownF_nils {w : World} {lo g n : Nat} (h : Own w g 47 (Array.replicate n (.slice none 0 0))) (hlo : lo ≤ g) : OwnF w lo w.heap.size (some ⟨g, 0, none⟩) n (List.replicate n []) := by
  have h1 := vals_nils (Vals.nil w lo) (by have := h.lt; omega) n
  simp only [List.nil_append] at h1
  refine h1.ownF (by simp) h (fun i v hi => ?_) hlo (fun ts hts t ht => by rw [List.eq_of_mem_replicate hts] at ht; simp at ht)
  rw [List.getElem?_replicate] at hi
  rw [Array.getElem?_replicate]
  exact hi
set_option maxHeartbeats 1000000 in
set_option maxRecDepth 100000 in
theorem withZero_c {w : World} {a : Option Addr} {n : Nat} (c : Nat) (hn : n ≤ 1048576) :
    Calls Try.prog 90 #[.slice a n c] w fun e w' => ∃ g, e = .returned (.agg #[.slice a n c, .slice (some ⟨g, 0, none⟩) n n]) ∧ w.heap.size ≤ g ∧ Own w' g 47 (Array.replicate n (.slice none 0 0)) ∧ Below w.heap.size w w' := by
  have hX := Own.new w 25 #[.slice none 0 0, .slice none 0 0]
  have hb := below_alloc1 w (.cells #[.slice none 0 0, .slice none 0 0] 25)
  have hmk := make_forms n hn
  go_enter Try.func90, Try.ntmps90
  go_upto_region 1 with fail
  generalize w.alloc (.cells #[.slice none 0 0, .slice none 0 0] 25) = w1 at *
  obtain ⟨gX, hgX⟩ : ∃ g, w.heap.size = g := ⟨_, rfl⟩
  rw [hgX] at hX
  try rw [hgX]
  have hwX : w.heap.size ≤ gX := by omega
  clear hgX
  have hmk1 := hmk w1
  have hF := Own.new w1 47 (Array.replicate n (Value.slice none 0 0))
  have hba := below_alloc1 w1 (.cells (Array.replicate n (Value.slice none 0 0)) 47)
  have hlX := hX.lt
  have hs1 := hb.size
  have hX2 := hX.keep hba hX.lt
  have hb2 := below_trans' hb hba hb.size
  clear hmk hX hb hba
  generalize w1.alloc (.cells (Array.replicate n (Value.slice none 0 0)) 47) = w2 at *
  obtain ⟨gF, hgF⟩ : ∃ g, w1.heap.size = g := ⟨_, rfl⟩
  rw [hgF] at hmk1 hF hlX hs1
  have c0 := hX2.cell 0
  have c1 := hX2.cell 1
  have f0 := hX2.frozen 0
  have f1 := hX2.frozen 1
  go_wp2_with fail
  have s2 := (hX2.set 0 (.slice a n c)).set 1 (.slice (some ⟨gF, 0, none⟩) n n)
  have ht : Touch (fun k => k = gX) w2 ((w2.setCell ⟨gX, 0, none⟩ (.slice a n c)).setCell ⟨gX, 1, none⟩ (.slice (some ⟨gF, 0, none⟩) n n)) := Touch.of_only (((Only.refl gX _).set 0 _).set 1 _)
  exact bodyPost_ret (results_cell_row rfl _ _ gX 25 #[.slice a n c, .slice (some ⟨gF, 0, none⟩) n n] (0, 0) _ rfl s2 Try.underlying25 rfl Try.info_alg) rfl ⟨gF, rfl, hs1, ht.own hF (by omega), (hb2.setCell (p := ⟨gX, 0, none⟩) hwX _).setCell (p := ⟨gX, 1, none⟩) hwX _⟩
set_option maxHeartbeats 1000000 in
set_option maxRecDepth 100000 in
theorem oddSphere_c (x : Int) (w : World) :
    Calls Try.prog 73 #[.int .i64 x] w fun e w' => SpM [x] [[]] w e w' := by
  have hX := Own.new w 25 #[.slice none 0 0, .slice none 0 0]
  have hb := below_alloc1 w (.cells #[.slice none 0 0, .slice none 0 0] 25)
  go_enter Try.func73, Try.ntmps73
  go_upto_region 1 with fail
  generalize w.alloc (.cells #[.slice none 0 0, .slice none 0 0] 25) = w1 at *
  obtain ⟨gX, hgX⟩ : ∃ g, w.heap.size = g := ⟨_, rfl⟩
  rw [hgX] at hX
  try rw [hgX]
  have hwX : w.heap.size ≤ gX := by omega
  clear hgX
  have hba := below_alloc1 w1 (.cells #[.int .i64 x] 2)
  have hI := Own.new w1 2 #[.int .i64 x]
  have hlX := hX.lt
  replace hX := hX.keep hba hX.lt
  have hs1 := hb.size
  replace hb := below_trans' hb hba hb.size
  clear hba
  go_wp2_with fail
  refine (withZero_c 1 (show 1 ≤ 1048576 by omega)).mono ?_
  rintro e w3 ⟨gF, rfl, hgF, hO, hb3⟩
  obtain ⟨gI, hgI⟩ : ∃ g, w1.heap.size = g := ⟨_, rfl⟩
  have hlI := hI.lt
  have hFl := hO.lt
  replace hX := hX.keep hb3 hX.lt
  replace hI := hI.keep hb3 hI.lt
  replace hb := below_trans' hb hb3 hb.size
  rw [hgI] at hI hlI hs1 hlX
  try rw [hgI]
  clear hb3 hgI
  have c0 := hX.cell 0
  have c1 := hX.cell 1
  have f0 := hX.frozen 0
  have f1 := hX.frozen 1
  have hV : OwnV w3 gI w3.heap.size (some ⟨gI, 0, none⟩) 1 [x] := ownV_blk hI rfl (Nat.le_refl _) (by omega)
  have hF := ownF_nils (lo := gI) (n := 1) hO (by omega)
  go_wp2_with fail
  have s2 := (hX.set 0 (.slice (some ⟨gI, 0, none⟩) 1 1)).set 1 (.slice (some ⟨gF, 0, none⟩) 1 1)
  have ht : Touch (fun k => k = gX) w3 ((w3.setCell ⟨gX, 0, none⟩ (.slice (some ⟨gI, 0, none⟩) 1 1)).setCell ⟨gX, 1, none⟩ (.slice (some ⟨gF, 0, none⟩) 1 1)) := Touch.of_only (((Only.refl gX _).set 0 _).set 1 _)
  have hV9 := (hV.touch ht (fun g h1 h2 => by omega)).weaken (lo' := w.heap.size) (hi' := ((w3.setCell ⟨gX, 0, none⟩ (.slice (some ⟨gI, 0, none⟩) 1 1)).setCell ⟨gX, 1, none⟩ (.slice (some ⟨gF, 0, none⟩) 1 1)).heap.size) (by omega) (by simp)
  have hF9 := (hF.touch ht (fun g h1 h2 => by omega)).weaken (lo' := w.heap.size) (hi' := ((w3.setCell ⟨gX, 0, none⟩ (.slice (some ⟨gI, 0, none⟩) 1 1)).setCell ⟨gX, 1, none⟩ (.slice (some ⟨gF, 0, none⟩) 1 1)).heap.size) (by omega) (by simp)
  have hb9 := (hb.setCell (p := ⟨gX, 0, none⟩) hwX (.slice (some ⟨gI, 0, none⟩) 1 1)).setCell (p := ⟨gX, 1, none⟩) hwX (.slice (some ⟨gF, 0, none⟩) 1 1)
  exact bodyPost_ret (results_cell_row rfl _ _ gX 25 #[.slice (some ⟨gI, 0, none⟩) 1 1, .slice (some ⟨gF, 0, none⟩) 1 1] (0, 0) _ rfl s2 Try.underlying25 rfl Try.info_alg) rfl ⟨_, _, _, _, _, _, rfl, hV9, hF9, hb9⟩
theorem mono_first {e : Int} (h0 : 0 ≤ e) (h1 : e ≤ 255) : IsMono [e, 0, 0, 0, 0, 0, 0, 0] := ⟨rfl, by intro x hx; simp at hx; omega⟩
set_option maxHeartbeats 1000000 in
set_option maxRecDepth 100000 in
theorem truncated_c (n e : Int) (w : World) (hn0 : 0 ≤ n) (hn1 : n ≤ 100) (he0 : 0 ≤ e) (he1 : e ≤ 100) (hp0 : 0 ≤ e * n) (hp1 : e * n ≤ 10000) :
    Calls Try.prog 91 #[.int .i64 n, .int .i64 e] w fun e2 w' => SpM [n, e * n - 1] [[], [⟨[e, 0, 0, 0, 0, 0, 0, 0], 1⟩]] w e2 w' := by
  have hX := Own.new w 25 #[.slice none 0 0, .slice none 0 0]
  have hb := below_alloc1 w (.cells #[.slice none 0 0, .slice none 0 0] 25)
  go_enter Try.func91, Try.ntmps91
  go_upto_region 1 with fail
  generalize w.alloc (.cells #[.slice none 0 0, .slice none 0 0] 25) = w1 at *
  obtain ⟨gX, hgX⟩ : ∃ g, w.heap.size = g := ⟨_, rfl⟩
  rw [hgX] at hX
  try rw [hgX]
  have hwX : w.heap.size ≤ gX := by omega
  clear hgX
  have hba := below_alloc1 w1 (.cells #[.int .i64 n, .int .i64 (e * n - 1)] 2)
  have hI := Own.new w1 2 #[.int .i64 n, .int .i64 (e * n - 1)]
  have hlX := hX.lt
  replace hX := hX.keep hba hX.lt
  have hs1 := hb.size
  replace hb := below_trans' hb hba hb.size
  clear hba
  go_wp2_with fail
  refine (withZero_c 2 (show 2 ≤ 1048576 by omega)).mono ?_
  rintro e3 w3 ⟨gF, rfl, hgF, hO, hb3⟩
  obtain ⟨gI, hgI⟩ : ∃ g, w1.heap.size = g := ⟨_, rfl⟩
  have hlI := hI.lt
  replace hX := hX.keep hb3 hX.lt
  replace hI := hI.keep hb3 hI.lt
  replace hb := below_trans' hb hb3 hb.size
  rw [hgI] at hI hlI hs1 hlX
  try rw [hgI]
  clear hb3 hgI
  have hlF := hO.lt
  have hG := Own.new w3 25 #[.slice (some ⟨gI, 0, none⟩) 2 2, .slice (some ⟨gF, 0, none⟩) 2 2]
  have hba := below_alloc1 w3 (.cells #[.slice (some ⟨gI, 0, none⟩) 2 2, .slice (some ⟨gF, 0, none⟩) 2 2] 25)
  replace hX := hX.keep hba hX.lt
  replace hI := hI.keep hba hI.lt
  replace hO := hO.keep hba hO.lt
  replace hb := below_trans' hb hba hb.size
  clear hba
  go_upto_region 2 with fail
  generalize w3.alloc (.cells #[.slice (some ⟨gI, 0, none⟩) 2 2, .slice (some ⟨gF, 0, none⟩) 2 2] 25) = w4 at *
  obtain ⟨gG, hgG⟩ : ∃ g, w3.heap.size = g := ⟨_, rfl⟩
  rw [hgG] at hG hlF
  try rw [hgG]
  clear hgG
  have hlG := hG.lt
  have cG := hG.cell 1
  have hT := Own.new w4 75 #[.int .u8 e, .int .u8 0, .int .u8 0, .int .u8 0, .int .u8 0, .int .u8 0, .int .u8 0, .int .u8 0, .int .i64 1]
  have hba := below_alloc1 w4 (.cells #[.int .u8 e, .int .u8 0, .int .u8 0, .int .u8 0, .int .u8 0, .int .u8 0, .int .u8 0, .int .u8 0, .int .i64 1] 75)
  replace hX := hX.keep hba hX.lt
  replace hI := hI.keep hba hI.lt
  replace hO := hO.keep hba hO.lt
  replace hG := hG.keep hba hG.lt
  replace hb := below_trans' hb hba hb.size
  clear hba
  have cO := hO.cell 1
  have fO := hO.frozen 1
  go_upto_region 3 with fail
  clear cO fO cG
  have hlT := hT.lt
  replace hX := hX.far (p := ⟨gF, 1, none⟩) (by dsimp only; omega) (.slice (some ⟨w4.heap.size, 0, none⟩) 1 1)
  replace hI := hI.far (p := ⟨gF, 1, none⟩) (by dsimp only; omega) (.slice (some ⟨w4.heap.size, 0, none⟩) 1 1)
  replace hG := hG.far (p := ⟨gF, 1, none⟩) (by dsimp only; omega) (.slice (some ⟨w4.heap.size, 0, none⟩) 1 1)
  replace hT := hT.far (p := ⟨gF, 1, none⟩) (by dsimp only; omega) (.slice (some ⟨w4.heap.size, 0, none⟩) 1 1)
  replace hb := hb.setCell (p := ⟨gF, 1, none⟩) (by dsimp only; omega) (.slice (some ⟨w4.heap.size, 0, none⟩) 1 1)
  replace hO := hO.set 1 (.slice (some ⟨w4.heap.size, 0, none⟩) 1 1)
  generalize (w4.alloc (.cells #[.int .u8 e, .int .u8 0, .int .u8 0, .int .u8 0, .int .u8 0, .int .u8 0, .int .u8 0, .int .u8 0, .int .i64 1] 75)).setCell ⟨gF, 1, none⟩ (.slice (some ⟨w4.heap.size, 0, none⟩) 1 1) = w6 at *
  obtain ⟨gT, hgT⟩ : ∃ g, w4.heap.size = g := ⟨_, rfl⟩
  rw [hgT] at hT hlG
  rw [hgT] at hO
  have hl6 := hT.lt
  have hR : OwnR w6 gT (.slice (some ⟨gT, 0, none⟩) 1 1) [⟨[e, 0, 0, 0, 0, 0, 0, 0], 1⟩] := ownR_one (mono_first he0 (by omega)) hT (Nat.le_refl _)
  have hVl : Vals w6 gI [.slice none 0 0] [[]] := vals_nils (Vals.nil w6 gI) (by omega) 1
  have hVs : Vals w6 gI [.slice none 0 0, .slice (some ⟨gT, 0, none⟩) 1 1] [[], [⟨[e, 0, 0, 0, 0, 0, 0, 0], 1⟩]] := hVl.snoc (C := gT) (fun i u q h1 h2 => by
    rcases i with _ | i
    · simp at h1
      subst h1
      simp [Value.ownBlock] at h2
    · simp at h1) (by omega) hR
  have hF := hVs.ownF (n := 2) rfl hO (fun i v hi => by rcases i with _ | _ | i <;> simp_all) (by omega) (fun ts hts t ht => by
    simp at hts
    rcases hts with rfl | rfl
    · simp at ht
    · simp at ht
      subst ht
      exact ⟨mono_first he0 (by omega), by simp⟩)
  have hV : OwnV w6 gI w6.heap.size (some ⟨gI, 0, none⟩) 2 [n, e * n - 1] := ownV_blk hI rfl (Nat.le_refl _) (by omega)
  clear hR hVl hVs hT hO hI
  have cG0 := hG.cell 0
  have cG1 := hG.cell 1
  have c0 := hX.cell 0
  have c1 := hX.cell 1
  have f0 := hX.frozen 0
  have f1 := hX.frozen 1
  go_wp2_with fail
  have s2 := (hX.set 0 (.slice (some ⟨gI, 0, none⟩) 2 2)).set 1 (.slice (some ⟨gF, 0, none⟩) 2 2)
  have ht : Touch (fun k => k = gX) w6 ((w6.setCell ⟨gX, 0, none⟩ (.slice (some ⟨gI, 0, none⟩) 2 2)).setCell ⟨gX, 1, none⟩ (.slice (some ⟨gF, 0, none⟩) 2 2)) := Touch.of_only (((Only.refl gX _).set 0 _).set 1 _)
  have hV9 := (hV.touch ht (fun g h1 h2 => by omega)).weaken (lo' := w.heap.size) (hi' := ((w6.setCell ⟨gX, 0, none⟩ (.slice (some ⟨gI, 0, none⟩) 2 2)).setCell ⟨gX, 1, none⟩ (.slice (some ⟨gF, 0, none⟩) 2 2)).heap.size) (by omega) (by simp)
  have hF9 := (hF.touch ht (fun g h1 h2 => by omega)).weaken (lo' := w.heap.size) (hi' := ((w6.setCell ⟨gX, 0, none⟩ (.slice (some ⟨gI, 0, none⟩) 2 2)).setCell ⟨gX, 1, none⟩ (.slice (some ⟨gF, 0, none⟩) 2 2)).heap.size) (by omega) (by simp)
  have hb9 := (hb.setCell (p := ⟨gX, 0, none⟩) hwX (.slice (some ⟨gI, 0, none⟩) 2 2)).setCell (p := ⟨gX, 1, none⟩) hwX (.slice (some ⟨gF, 0, none⟩) 2 2)
  exact bodyPost_ret (results_cell_row rfl _ _ gX 25 #[.slice (some ⟨gI, 0, none⟩) 2 2, .slice (some ⟨gF, 0, none⟩) 2 2] (0, 0) _ rfl s2 Try.underlying25 rfl Try.info_alg) rfl ⟨_, _, _, _, _, _, rfl, hV9, hF9, hb9⟩
set_option maxHeartbeats 1000000 in
set_option maxRecDepth 100000 in
theorem evenSphere_c (x : Int) (w : World) (hx0 : 0 ≤ x) (hx1 : x ≤ 12) :
    Calls Try.prog 74 #[.int .i64 x] w fun e w' => SpM [x, 2 * x - 1] [[], [⟨[2, 0, 0, 0, 0, 0, 0, 0], 1⟩]] w e w' := by
  have hX := Own.new w 25 #[.slice none 0 0, .slice none 0 0]
  have hb := below_alloc1 w (.cells #[.slice none 0 0, .slice none 0 0] 25)
  go_enter Try.func74, Try.ntmps74
  go_upto_region 1 with fail
  generalize w.alloc (.cells #[.slice none 0 0, .slice none 0 0] 25) = w1 at *
  obtain ⟨gX, hgX⟩ : ∃ g, w.heap.size = g := ⟨_, rfl⟩
  rw [hgX] at hX
  try rw [hgX]
  have hwX : w.heap.size ≤ gX := by omega
  clear hgX
  have hlX := hX.lt
  have hs1 := hb.size
  go_wp2_with fail
  refine (truncated_c x 2 w1 (by omega) (by omega) (by omega) (by omega) (by omega) (by omega)).mono ?_
  rintro e w3 ⟨ra, an, ac, rb, bn, bc, rfl, hV, hF, hb3⟩
  replace hX := hX.keep hb3 hX.lt
  replace hb := below_trans' hb hb3 hb.size
  clear hb3
  have c0 := hX.cell 0
  have c1 := hX.cell 1
  have f0 := hX.frozen 0
  have f1 := hX.frozen 1
  go_wp2_with fail
  have s2 := (hX.set 0 (.slice ra an ac)).set 1 (.slice rb bn bc)
  have ht : Touch (fun k => k = gX) w3 ((w3.setCell ⟨gX, 0, none⟩ (.slice ra an ac)).setCell ⟨gX, 1, none⟩ (.slice rb bn bc)) := Touch.of_only (((Only.refl gX _).set 0 _).set 1 _)
  have hV9 := (hV.touch ht (fun g h1 h2 => by omega)).weaken (lo' := w.heap.size) (hi' := ((w3.setCell ⟨gX, 0, none⟩ (.slice ra an ac)).setCell ⟨gX, 1, none⟩ (.slice rb bn bc)).heap.size) (by omega) (by simp)
  have hF9 := (hF.touch ht (fun g h1 h2 => by omega)).weaken (lo' := w.heap.size) (hi' := ((w3.setCell ⟨gX, 0, none⟩ (.slice ra an ac)).setCell ⟨gX, 1, none⟩ (.slice rb bn bc)).heap.size) (by omega) (by simp)
  have hb9 := (hb.setCell (p := ⟨gX, 0, none⟩) hwX (.slice ra an ac)).setCell (p := ⟨gX, 1, none⟩) hwX (.slice rb bn bc)
  exact bodyPost_ret (results_cell_row rfl _ _ gX 25 #[.slice ra an ac, .slice rb bn bc] (0, 0) _ rfl s2 Try.underlying25 rfl Try.info_alg) rfl ⟨_, _, _, _, _, _, rfl, hV9, hF9, hb9⟩
end Go.Proofs.Ytmijeojlighnaaa
