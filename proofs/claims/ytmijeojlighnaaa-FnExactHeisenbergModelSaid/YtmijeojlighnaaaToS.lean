
import Derived.Test.YtmijeojlighnaaaTor
import Derived.Test.YtmijeojlighnaaaNewA
import Derived.Test.YtmijeojlighnaaaNum
import Derived.Test.YtmijeojlighnaaaSingle
namespace Go.Proofs.Ytmijeojlighnaaa
open Go.RowKit Go.Deep
theorem row_ownS {w : World} {B n : Nat} {t : TypeId} {v : Value} {xs : List Value} (h : w.ownsRow B t 1 v n xs) (hn : 0 < n) : ∃ g cap cur, v = .slice (some ⟨g, 0, none⟩) n cap ∧ B ≤ g ∧ Own w g t cur ∧ ∀ (i : Nat) u, xs[i]? = some u → cur[i]? = some u := by
  rcases h.2 with ⟨-, h0⟩ | ⟨g, cap, cur, e, h1, h2, -, -, -, h3⟩
  · omega
  · refine ⟨g, cap, cur, e, h1, h2, fun i u hu => ?_⟩
    rw [← h3, List.getElem?_take] at hu
    split at hu
    · rwa [Array.getElem?_toList] at hu
    · cases hu
theorem row_keepS {w w' : World} {B n size : Nat} {t : TypeId} {v : Value} {xs : List Value} (h : w.ownsRow B t size v n xs) (hb : Below w.heap.size w w') : w'.ownsRow B t size v n xs := row_keep h hb
theorem row_intsS {w : World} {B g n c : Nat} {V : List Int} (h : w.ownsRow B 2 1 (.slice (some ⟨g, 0, none⟩) n c) n (V.map (Value.int .i64))) : Ints w (some ⟨g, 0, none⟩) n V := by
  obtain ⟨a, c', he, hV⟩ := OwnV.of_row h
  simp only [Value.slice.injEq] at he
  obtain ⟨rfl, -, rfl⟩ := he
  exact hV.ints
theorem l01OwnJ_c {w : World} {g o n : Nat} {zs : List Int} (c : Nat) (h : Ints w (some ⟨g, o, none⟩) n zs) (hn : n ≤ 1048576) :
    Calls Try.prog 55 #[.slice (some ⟨g, o, none⟩) n c] w fun e w' => ∃ a c', e = .returned (.slice a n c') ∧ OwnV w' w.heap.size w'.heap.size a n zs ∧ Below w.heap.size w w' := by
  refine (l01OwnI_c c h hn).mono ?_
  rintro e w' ⟨a, c', rfl, hr, hb⟩
  obtain ⟨a2, c2, he, hV⟩ := OwnV.of_row hr
  simp only [Value.slice.injEq] at he
  obtain ⟨rfl, -, rfl⟩ := he
  exact ⟨_, _, rfl, hV, hb⟩
set_option maxHeartbeats 2000000 in
set_option maxRecDepth 100000 in
theorem l02FreeI_c {w : World} {gd go dn : Nat} {zs : List Int} (dc : Nat) (hd : Ints w (some ⟨gd, go, none⟩) dn zs) (hdn : dn ≤ 1048576) :
    Calls Try.prog 33 #[.slice (some ⟨gd, go, none⟩) dn dc] w fun e w' => ∃ a ac b, e = .returned (.agg #[.slice a dn ac, .slice b dn dn]) ∧ OwnV w' w.heap.size w'.heap.size a dn zs ∧ OwnE w' w.heap.size w'.heap.size b dn ∧ Below w.heap.size w w' := by
  have hO := Own.new w 25 #[.slice none 0 0, .slice none 0 0]
  have hb := below_alloc1 w (.cells #[.slice none 0 0, .slice none 0 0] 25)
  have hd1 := hd.keep hb
  have hmk := make_forms dn hdn
  go_enter Try.func33, Try.ntmps33
  go_upto_region 1 with fail
  generalize w.alloc (.cells #[.slice none 0 0, .slice none 0 0] 25) = w0 at *
  generalize hg : w.heap.size = G at *
  have HG := Lib.hid hg
  clear hg hd
  have hdr : Ints w0.drew (some ⟨gd, go, none⟩) dn zs := hd1
  have hOr : Own w0.drew G 25 #[.slice none 0 0, .slice none 0 0] := hO
  have hbr : Below G w w0.drew := hb.drew
  have hl0 : G < w0.drew.heap.size := hO.lt
  have hds : Ints (w0.alloc (.cells (Array.replicate dn (Value.slice none 0 0)) 47)).drew (some ⟨gd, go, none⟩) dn zs := hd1.keep (below_alloc1 _ _).drew
  have hOs : Own (w0.alloc (.cells (Array.replicate dn (Value.slice none 0 0)) 47)).drew G 25 #[.slice none 0 0, .slice none 0 0] := hO.alloc _
  have hbs : Below G w (w0.alloc (.cells (Array.replicate dn (Value.slice none 0 0)) 47)).drew := (below_trans' hb (below_alloc1 _ _) (Nat.le_of_lt hO.lt)).drew
  have hEs : Own (w0.alloc (.cells (Array.replicate dn (Value.slice none 0 0)) 47)).drew w0.heap.size 47 (Array.replicate dn (Value.slice none 0 0)) := Own.new w0 _ _
  have hls : w0.heap.size < (w0.alloc (.cells (Array.replicate dn (Value.slice none 0 0)) 47)).drew.heap.size := hEs.lt
  have HGL := Lib.hid hl0
  have HLS := Lib.hid hls
  clear hO hb hd1 hl0 hls
  go_region_with (go_at_call 55; (first
    | (with_reducible refine (l01OwnJ_c dc hdr hdn).mono ?_
       rintro e w2 ⟨a, ac, rfl, hV, hb3⟩
       have hO2 := hOr.keep hb3 hOr.lt
       have hV2 := hV.weaken (lo' := G + 1) HGL.out (Nat.le_refl _)
       have hb4 := below_trans' hbr hb3 (Nat.le_of_lt HGL.out)
       have HL2 := Lib.hid (Nat.lt_of_lt_of_le HGL.out hb3.size)
       clear hOr hbr hV hb3 hds hOs hbs hEs hdr
       have k0 := hO2.cell 0
       have k1 := hO2.cell 1
       have f0 := hO2.frozen 0
       have f1 := hO2.frozen 1
       have k2 := (hO2.alloc (.cells (Array.replicate dn (Value.slice none 0 0)) 47)).cell 0
       have k3 := (hO2.alloc (.cells (Array.replicate dn (Value.slice none 0 0)) 47)).cell 1
       have f2 := (hO2.alloc (.cells (Array.replicate dn (Value.slice none 0 0)) 47)).frozen 0
       have f3 := (hO2.alloc (.cells (Array.replicate dn (Value.slice none 0 0)) 47)).frozen 1)
    | (with_reducible refine (l01OwnJ_c dc hds hdn).mono ?_
       rintro e w2 ⟨a, ac, rfl, hV, hb3⟩
       have hO2 := hOs.keep hb3 hOs.lt
       have hE2 := hEs.keep hb3 hEs.lt
       have hV2 := hV.weaken (lo' := G + 1) hOs.lt (Nat.le_refl _)
       have hb4 := below_trans' hbs hb3 (Nat.le_of_lt hOs.lt)
       have HL2 := Lib.hid (Nat.lt_of_lt_of_le HLS.out hb3.size)
       clear hOr hbr hV hb3 hds hOs hbs hEs hdr
       have k0 := hO2.cell 0
       have k1 := hO2.cell 1
       have f0 := hO2.frozen 0
       have f1 := hO2.frozen 1)))
  all_goals go_wp2_with fail
  · skip
    have hO3 := hO2.alloc (.cells (Array.replicate dn (Value.slice none 0 0)) 47)
    have hE3 := Own.new w2 47 (Array.replicate dn (Value.slice none 0 0))
    have hV3 := hV2.keep (below_alloc1 w2 (.cells (Array.replicate dn (Value.slice none 0 0)) 47))
    have hb5 := below_trans' hb4 (below_alloc1 w2 (.cells (Array.replicate dn (Value.slice none 0 0)) 47)) (Nat.le_of_lt HL2.out)
    have s2 := (hO3.set 0 (.slice a dn ac)).set 1 (.slice (some ⟨w2.heap.size, 0, none⟩) dn dn)
    have ht : Touch (fun k => k = G) (w2.alloc (.cells (Array.replicate dn (Value.slice none 0 0)) 47)) (((w2.alloc (.cells (Array.replicate dn (Value.slice none 0 0)) 47)).setCell ⟨G, 0, none⟩ (.slice a dn ac)).setCell ⟨G, 1, none⟩ (.slice (some ⟨w2.heap.size, 0, none⟩) dn dn)) := Touch.of_only (((Only.refl G (w2.alloc (.cells (Array.replicate dn (Value.slice none 0 0)) 47))).set 0 _).set 1 _)
    have h9 := HL2.out
    refine bodyPost_ret (results_cell_row rfl _ _ G 25 #[.slice a dn ac, .slice (some ⟨w2.heap.size, 0, none⟩) dn dn] (0, 0) _ rfl s2 Try.underlying25 rfl Try.info_alg) rfl ⟨a, ac, some ⟨w2.heap.size, 0, none⟩, rfl, ?_, ?_, ?_⟩
    · rw [HG.out]; exact (hV3.touch ht (fun g h1 h2 => by omega)).weaken (by omega) (by simp)
    · rw [HG.out]; exact fun _ => ⟨w2.heap.size, rfl, by omega, by simp; try omega, ht.own hE3 (by omega)⟩
    · rw [HG.out]; exact (hb5.setCell (p := ⟨G, 0, none⟩) (by dsimp only; omega) _).setCell (p := ⟨G, 1, none⟩) (by dsimp only; omega) _
  · have h8 := HGL.out
    have h8' : w0.drew.heap.size = w0.heap.size := rfl
    rw [h8'] at h8
    have s2 := (hO2.set 0 (.slice a dn ac)).set 1 (.slice (some ⟨w0.heap.size, 0, none⟩) dn dn)
    have ht : Touch (fun k => k = G) w2 ((w2.setCell ⟨G, 0, none⟩ (.slice a dn ac)).setCell ⟨G, 1, none⟩ (.slice (some ⟨w0.heap.size, 0, none⟩) dn dn)) := Touch.of_only (((Only.refl G w2).set 0 _).set 1 _)
    have h9 := HL2.out
    refine bodyPost_ret (results_cell_row rfl _ _ G 25 #[.slice a dn ac, .slice (some ⟨w0.heap.size, 0, none⟩) dn dn] (0, 0) _ rfl s2 Try.underlying25 rfl Try.info_alg) rfl ⟨a, ac, some ⟨w0.heap.size, 0, none⟩, rfl, ?_, ?_, ?_⟩
    · rw [HG.out]; exact (hV2.touch ht (fun g h1 h2 => by omega)).weaken (by omega) (by simp)
    · rw [HG.out]; exact fun _ => ⟨w0.heap.size, rfl, by omega, by simp; try omega, ht.own hE2 (by omega)⟩
    · rw [HG.out]; exact (hb4.setCell (p := ⟨G, 0, none⟩) (by dsimp only; omega) _).setCell (p := ⟨G, 1, none⟩) (by dsimp only; omega) _
theorem ones_snoc (k : Nat) : (List.replicate k (1 : Int)).map (Value.int .i64) ++ [.int .i64 1] = (List.replicate (k + 1) (1 : Int)).map (Value.int .i64) := by rw [List.replicate_succ', List.map_append]; rfl
theorem empty_rowS (w : World) : (w.alloc (.cells #[] 2)).ownsRow w.heap.size 2 1 (.slice (some ⟨w.heap.size, 0, none⟩) 0 0) 0 [] := empty_row w
set_option maxHeartbeats 1000000 in
set_option maxRecDepth 100000 in
theorem l08Ones_c (n : Nat) (w : World) (hn : n ≤ 8) :
    Calls Try.prog 43 #[.int .i64 n] w fun e w' => ∃ g dc, e = .returned (.slice (some ⟨g, 0, none⟩) n dc) ∧ w.heap.size ≤ g ∧ w'.ownsRow w.heap.size 2 1 (.slice (some ⟨g, 0, none⟩) n dc) n ((List.replicate n (1 : Int)).map (Value.int .i64)) ∧ Below w.heap.size w w' := by
  obtain ⟨ti, tz, hti, htz, hts, htb, htzs⟩ := Try.info_intA
  have HI := Lib.hid hti
  have HZ := Lib.hid htz
  have HSz := Lib.hid hts
  have HBt := Lib.hid htb
  have HZs := Lib.hid htzs
  clear hti htz hts htb htzs
  have hR := empty_rowS w
  have hb := below_alloc1 w (.cells #[] 2)
  go_enter Try.func43, Try.ntmps43
  go_upto_region 2 with fail
  generalize w.alloc (.cells #[] 2) = w1 at *
  go_loopw [3, 0] (fun x y wr => ∃ (k g dc : Nat), k ≤ n ∧ x = .slice (some ⟨g, 0, none⟩) k dc ∧ y = .int .i64 ((n : Int) - k) ∧ w.heap.size ≤ g ∧ Below w.heap.size w wr ∧ wr.ownsRow w.heap.size 2 1 (.slice (some ⟨g, 0, none⟩) k dc) k ((List.replicate k (1 : Int)).map (Value.int .i64))) (fun _ y _ => (intOf y).toNat)
  case atStart => exact ⟨0, w.heap.size, 0, Nat.zero_le _, rfl, by simp, Nat.le_refl _, hb, hR⟩
  case round =>
    clear hb hR
    obtain ⟨k, g, dc, hk, rfl, rfl, hg, hb, hR⟩ := hrel
    have hbs := hb.size
    by_cases hlt : k < n
    · have hp : (0 : Int) < (n : Int) - (k : Int) := by omega
      have HN := Lib.hid (news1s wr (.int .i64 1) 2)
      have HOn : Hid (∀ u ∈ ([Value.int .i64 1] : List Value), u.oneCell' = true) := Lib.hid (by simp [Value.oneCell'])
      have hal := below_alloc1 wr (.cells #[.int .i64 1] 2)
      have hRa := Lib.hid (row_keepS hR hal)
      have hba := below_trans' hb hal hb.size
      clear hal hR hb
      go_wp2_with (refine wpList_append_own_wide _ rfl (.tmp 9) (.tmp 10) 22 rfl w.heap.size 2 ti tz 1 8 Try.underlying22 HI.out HZ.out HSz.out HBt.out HZs.out (by omega) (.slice (some ⟨g, 0, none⟩) k dc) k _ rfl hRa.out ⟨wr.heap.size, 0, none⟩ 1 1 [Value.int .i64 1] rfl rfl HN.out HOn.out (by simp only [maxLen]; omega) (by omega) (by rw [size_alloc]; omega) (fun v' w'' h2 h3 h4 => ?_)
                   obtain ⟨g2, cap2, cur2, rfl, hg2, -, -⟩ := row_ownS h2 (by omega)
                   have hr : ∀ q, (Value.slice (some ⟨g, 0, none⟩) k dc).ownBlock = some q → w.heap.size ≤ q := fun q e => (hRa.out.lt q e).1
                   have hbb := grown_below hba h3 (fun q e => by have := hr q e; omega) hba.size
                   have hRb := Lib.hid h2
                   clear h2 h3 h4 hr hRa HN HOn hba)
      go_roundw
      case rel => exact ⟨k + 1, g2, cap2, by omega, rfl, by go_num, hg2, hbb, by rw [← ones_snoc]; exact hRb.out⟩
      case measure => simp [intOf] <;> omega
    · have he : k = n := by omega
      subst he
      go_wp2_with fail
      go_ret
      exact ⟨g, dc, rfl, hg, hR, hb⟩
end Go.Proofs.Ytmijeojlighnaaa
