/- The walk of the law on the text of a form: for every list of numbers and every list of terms, where the library's table of powers stands as it is laid, it returns true and leaves the arguments as they were. -/
import Derived.Test.YtcafccfoeednnaaDoorLawForm
import Derived.Test.YtcafccfoeednnaaDoorTxtG
namespace Go.Proofs.YtcafccfoeednnaaDoor
open Go.RowKit Go.Deep

set_option maxHeartbeats 2000000 in
set_option maxRecDepth 100000 in
theorem formText_walk (da : Option Addr) (dn dc : Nat) (zs : List Int) (a : Option Addr) (n c : Nat) (ts : List Tm) (w : World) (hd : Ints w da dn zs) (h : Terms w a n ts) (hmx : (n : Int) ≤ 9223372036854775807) (htab : Tab w) :
    Calls Tryd.prog 3 #[.slice da dn dc, .agg #[.slice a n c]] w fun e w' => e = .returned (.bool true) ∧ Below w.heap.size w w' := by
  have HT := Lib.hid h.2.1
  have HL := Lib.hid hd.len
  have HLt := Lib.hid h.len
  have hO := Own.new w 25 #[.slice a n c]
  have hb0 := below_alloc1 w (.cells #[.slice a n c] 25)
  have c0 := hO.cell 0
  by_cases hdn : dn ≤ 1048576
  · by_cases hn : n ≤ 1048576
    · have hv : (if (n : Int) ≤ 1048576 then 1048576 - (n : Int) else -1) = 1048576 - (n : Int) := by rw [if_pos (by omega)]
      have hnn : ¬ (1048576 - (n : Int) < 0) := by omega
      go_enter Tryd.func3, Tryd.ntmps3
      go_wp2_with fail
      refine (szForm_c a n c 1048576 (by omega) (by omega) hmx).mono ?_
      rintro e w1 ⟨rfl, hbz⟩
      rw [hv]
      have hO1 := hO.keep hbz hO.lt
      have hb1 := below_trans' hb0 hbz hb0.size
      clear hO hb0 c0 hbz
      have c1 := hO1.cell 0
      generalize hG : w.heap.size = G at *
      have HG := Lib.hid hG
      clear hG
      go_upto_region 7 with fail
      clear c1
      go_cut [6, 7] (fun v0 v1 wr => v0 = str (ftV zs ts) ∧ v1 = .int .i64 (ftE zs ts) ∧ Below G w wr ∧ Own wr G 25 #[.slice a n c])
      case first =>
        have h0 : Ints w1.drew da dn zs := hd.keep (hG' HG.out hb1.drew)
        have hTs : Terms w1.drew a n ts := h.keep (hG' HG.out hb1.drew)
        have hOd : Own w1.drew G 25 #[.slice a n c] := hO1
        have hbb : Below G w w1.drew := hb1.drew
        clear hO1 hb1
        go_region_held3 (fun w' => w'.cell? ⟨G, 0, none⟩ = some (.slice a n c)) (exact hOd.cell 0)
          (first
            | (go_at_call 7; refine (toInt64S_b dc h0 hdn).mono ?_; rintro e wI ⟨g1, rfl, hg1, hi1, hbI⟩; have hbb' := below_trans' hbb hbI (Nat.le_of_lt hOd.lt); have h0' := h0.keep hbI; have hTs' := hTs.keep hbI; have hOd' := hOd.keep hbI hOd.lt; (try (have hf1 := hf1.keep hbI hf1.lt)); clear hbb h0 hTs hOd; have hbb := hbb'; have h0 := h0'; have hTs := hTs'; have hOd := hOd')
            | (go_at_call 8; refine (toForm_c c hTs hn).mono ?_; rintro e wF ⟨g2, rfl, hg2, hf1, hbF⟩; have hbb' := below_trans' hbb hbF (Nat.le_of_lt hOd.lt); have h0' := h0.keep hbF; have hTs' := hTs.keep hbF; have hOd' := hOd.keep hbF hOd.lt; (try (have hi1 := hi1.keep hbF hi1.lt)); clear hbb h0 hTs hOd; have hbb := hbb'; have h0 := h0'; have hTs := hTs'; have hOd := hOd')
            | (go_at_call 6; refine (FormText_s dn n (hi1.ints' HL.out) hdn (hf1.terms HT.out HLt.out) hn).mono ?_; rintro e wS ⟨rfl, hbS⟩; have hbb' := below_trans' hbb hbS (Nat.le_of_lt hOd.lt); have h0' := h0.keep hbS; have hTs' := hTs.keep hbS; have hOd' := hOd.keep hbS hOd.lt; clear hbb h0 hTs hOd; have hbb := hbb'; have h0 := h0'; have hTs := hTs'; have hOd := hOd'))
        all_goals (go_wp2_with fail; go_meet; exact ⟨rfl, rfl, hbb, hOd⟩)
      case rest =>
        clear hO1 hb1
        obtain ⟨rfl, rfl, hb1, hO1⟩ := hcut
        go_wp2_with fail
        refine (toInt64S_b dc (hd.keep (hG' HG.out hb1)) hdn).mono ?_
        rintro e w2 ⟨g2, rfl, hg2, hi2, hb2⟩
        have hO2 := hO1.keep hb2 hO1.lt
        have hb12 := below_trans' hb1 hb2 (Nat.le_of_lt hO1.lt)
        have hi2' : Own w2 g2 2 ((zs.map (Value.int .i64)).toArray) := hi2
        clear hi2 hO1 hb1 hb2
        have c2 := hO2.cell 0
        go_wp2_with fail
        clear c2
        refine (toForm_c c (h.keep (hG' HG.out hb12)) hn).mono ?_
        rintro e w3 ⟨g3, rfl, hg3, hf3, hb3⟩
        have hO3 := hO2.keep hb3 hO2.lt
        have hi3 := hi2'.keep hb3 hi2'.lt
        have hb13 := below_trans' hb12 hb3 (Nat.le_of_lt hO2.lt)
        clear hO2 hi2' hb12 hb3
        have hf9 := Own.new w3 32 #[.slice (some ⟨g3, 0, none⟩) n n]
        have hba := below_alloc1 w3 (.cells #[.slice (some ⟨g3, 0, none⟩) n n] 32)
        have c9 := hf9.cell 0
        go_wp2_with fail
        clear c9
        have hO4 := hO3.alloc (.cells #[.slice (some ⟨g3, 0, none⟩) n n] 32)
        have hi4 := hi3.alloc (.cells #[.slice (some ⟨g3, 0, none⟩) n n] 32)
        have hf4 := hf3.alloc (.cells #[.slice (some ⟨g3, 0, none⟩) n n] 32)
        have hb14 := below_trans' hb13 hba (Nat.le_of_lt hO3.lt)
        clear hba hO3 hi3 hf3 hb13
        generalize w3.alloc (.cells #[.slice (some ⟨g3, 0, none⟩) n n] 32) = w4 at *
        refine (FormText_c dn n (IntBlk.ints' hi4 HL.out) hdn (hf4.terms HT.out HLt.out) hn (htab.keep hb14 (Nat.le_of_eq HG.out))).mono ?_
        rintro e w5 ⟨rfl, hb5⟩
        have hO5 := hO4.keep hb5 hO4.lt
        have hi5 := hi4.keep hb5 hi4.lt
        have hf5 := hf4.keep hb5 hf4.lt
        have hF5 := hf9.keep hb5 hf9.lt
        have hb15 := below_trans' hb14 hb5 (Nat.le_of_lt hO4.lt)
        clear hO4 hi4 hf4 hf9 hb14 hb5
        go_wp2_with fail
        refine (toInt64S_b dc (hd.keep (hG' HG.out hb15)) hdn).mono ?_
        rintro e w6 ⟨g6, rfl, hg6, hi6, hb6⟩
        have hO6 := hO5.keep hb6 hO5.lt
        have hii := hi5.keep hb6 hi5.lt
        have hf6 := hf5.keep hb6 hf5.lt
        have hF6 := hF5.keep hb6 hF5.lt
        have hb16 := below_trans' hb15 hb6 (Nat.le_of_lt hO5.lt)
        clear hO5 hi5 hf5 hF5 hb15 hb6
        go_wp2_with fail
        refine (eqInt64S_c dn dn (IntBlk.ints' hii HL.out) (hi6.ints' HL.out) hdn hdn).mono ?_
        rintro e w7 ⟨rfl, q, rfl⟩
        go_upto_region 15 with fail
        have hOd : Own (w6.drewN q).drew G 25 #[.slice a n c] := hO6
        have hTs : Terms (w6.drewN q).drew a n ts := h.keep (hG' HG.out (below_drewN hb16 q).drew)
        have hf7 : Own (w6.drewN q).drew g3 64 (rcells ts).toArray := hf6
        have hF7 : Own (w6.drewN q).drew w3.heap.size 32 #[.slice (some ⟨g3, 0, none⟩) n n] := hF6
        have hbb : Below G w (w6.drewN q).drew := (below_drewN hb16 q).drew
        clear hO6 hii hf6 hF6 hb16 hi6
        go_region_held3 (fun w' => w'.cell? ⟨G, 0, none⟩ = some (.slice a n c) ∧ w'.cell? ⟨w3.heap.size, 0, none⟩ = some (.slice (some ⟨g3, 0, none⟩) n n)) (exact ⟨hOd.cell 0, hF7.cell 0⟩)
          (first
            | (go_at_call 8; refine (toForm_c c hTs hn).mono ?_; rintro e wF ⟨gg, rfl, hgg, hfg, hbF⟩; have hbb' := below_trans' hbb hbF (Nat.le_of_lt hOd.lt); have hOd' := hOd.keep hbF hOd.lt; have hf7' := hf7.keep hbF hf7.lt; have hF7' := hF7.keep hbF hF7.lt; clear hbb hOd hf7 hF7 hTs; have hbb := hbb'; have hOd := hOd'; have hf7 := hf7'; have hF7 := hF7')
            | (go_at_call 11; refine (eqForm_c n n (hf7.terms HT.out HLt.out) (hfg.terms HT.out HLt.out) hn).mono ?_; rintro e wS ⟨rfl, hbS⟩; have hbb' := below_trans' hbb hbS (Nat.le_of_lt hOd.lt); have hOd' := hOd.keep hbS hOd.lt; have hf7' := hf7.keep hbS hf7.lt; have hF7' := hF7.keep hbS hF7.lt; clear hbb hOd hf7 hF7; have hbb := hbb'; have hOd := hOd'; have hf7 := hf7'; have hF7 := hF7'))
        all_goals (go_wp2_with fail; go_ret; exact ⟨rfl, by rw [HG.out]; exact hbb⟩)
    · have hv : (if (n : Int) ≤ 1048576 then 1048576 - (n : Int) else -1) = -1 := by rw [if_neg (by omega)]
      go_enter Tryd.func3, Tryd.ntmps3
      go_wp2_with fail
      refine (szForm_c a n c 1048576 (by omega) (by omega) hmx).mono ?_
      rintro e w1 ⟨rfl, hbz⟩
      rw [hv]
      go_wp2_with fail
      go_ret
      exact ⟨rfl, below_trans' hb0 hbz hb0.size⟩
  · go_enter Tryd.func3, Tryd.ntmps3
    go_wp2_with fail
    go_ret
    exact ⟨rfl, hb0⟩

end Go.Proofs.YtcafccfoeednnaaDoor
