
import Derived.Test.YtmmicjcfnnppfaaGreatVis
import Derived.Test.YtmmicjcfnnppfaaGreatFresh
namespace Go.Proofs.YtmmicjcfnnppfaaGreat
set_option maxRecDepth 100000
open Go.RowKit Go.Deep
theorem mcells_setV {E : List Int} {i : Nat} {x : Int} : ((mcells E).toArray).setIfInBounds i (.int .u8 x) = (mcells (E.set i x)).toArray := by simp [mcells, List.map_set]
theorem row_farN {w : World} {B sz n : Nat} {t : TypeId} {v : Value} {xs : List Value} {p : Addr} (h : w.ownsRow B t sz v n xs) (hp : v.ownBlock ≠ some p.block) (u : Value) : (w.setCell p u).ownsRow B t sz v n xs := ownsRow_setCell_other h hp u
theorem FG.far {w w' : World} {v v' : Value} {p : Addr} (h : FG w w' v v') (hp : w.heap.size ≤ p.block) (u : Value) : FG w (w'.setCell p u) v v' :=
 ⟨h.b.setCell (Nat.zero_le _) u, fun i hi hv => (Below.heap_setCell w' p u i (by omega)).trans (h.k i hi hv), h.r⟩
theorem FG.drew {w w' : World} {v v' : Value} (h : FG w w' v v') : FG w w'.drew v v' := ⟨h.b.drew, h.k, h.r⟩
set_option maxHeartbeats 8000000 in
theorem l01Fill_c {w0 : World} {n c : Nat} {a : Option Addr} {zs : List Int} (hd : Ints w0 a n zs) (hz : degsOk zs = true) :
    ∀ (d : Nat) {w : World} {i rest : Nat} {E : List Int} {X : List (List Int)} {fa : Option Addr} {fc : Nat}, i + d = n → rest ≤ 900 → IsMono E → E.drop n = List.replicate (8 - n) 0 → X.length ≤ 400 → w.ownsRow w0.heap.size 143 8 (.slice fa X.length fc) X.length (mrowsV X) → Below w0.heap.size w0 w →
    Calls Tryz.prog 117 #[.slice a n c, monoV E, .int .i64 i, .int .i64 rest, .slice fa X.length fc] w fun e w' => ∃ fv', e = .returned fv' ∧ w'.ownsRow w0.heap.size 143 8 fv' ((X ++ ext (E.take i) (mons (zs.drop i) rest)).take 401).length (mrowsV ((X ++ ext (E.take i) (mons (zs.drop i) rest)).take 401)) ∧ FG w w' (.slice fa X.length fc) fv' := by
 have HL := Lib.hid hd.len
 have h8 : n ≤ 8 := by have := degsOk_len hz; have := HL.out; omega
 have HZ := Lib.hid hz
 have HD := Lib.hid hd
 clear hd hz
 intro d
 induction d with
 | zero =>
   intro w i rest E X fa fc hi hrr hm hzE hX hF hb
   obtain rfl : i = n := by omega
   have hdr : zs.drop i = [] := List.drop_of_length_le (Nat.le_of_eq HL.out)
   rw [hdr]
   have HM := Lib.hid hm
   have HZE := Lib.hid hzE
   clear hm hzE
   by_cases hz0 : rest = 0
   · subst hz0
     have hme : mons [] 0 = [[]] := rfl
     rw [hme, ext_nil HM.out h8 HZE.out, List.take_of_length_le (show (X ++ [E]).length ≤ 401 by simp; omega)]
     obtain ⟨e0, e1, e2, e3, e4, e5, e6, e7, rfl⟩ := mono8 HM.out
     have hE := Own.new w 143 #[.int .u8 e0, .int .u8 e1, .int .u8 e2, .int .u8 e3, .int .u8 e4, .int .u8 e5, .int .u8 e6, .int .u8 e7]
     have hba := bA1 w (.cells #[.int .u8 e0, .int .u8 e1, .int .u8 e2, .int .u8 e3, .int .u8 e4, .int .u8 e5, .int .u8 e6, .int .u8 e7] 143)
     have HG1 := Lib.hid (FG.of_below (.slice fa X.length fc) hba)
     have hF1 := row_keep hF hba
     have hbs : w0.heap.size ≤ w.heap.size := hb.size
     obtain ⟨ti, tz, hti, htz, hts, htb, htzs⟩ := Tryz.info_monoA
     have HI := Lib.hid hti
     have HZt := Lib.hid htz
     have HS := Lib.hid hts
     have HBt := Lib.hid htb
     have HZs := Lib.hid htzs
     clear hti htz hts htb htzs
     have HON : Hid (∀ u ∈ ([.int .u8 e0, .int .u8 e1, .int .u8 e2, .int .u8 e3, .int .u8 e4, .int .u8 e5, .int .u8 e6, .int .u8 e7] : List Value), u.oneCell' = true) := Lib.hid (by simp [Value.oneCell'])
     have hba1 := Lib.hid hba.size
     clear hba hF
     show Calls Tryz.prog 117 #[.slice a i c, .agg #[.int .u8 e0, .int .u8 e1, .int .u8 e2, .int .u8 e3, .int .u8 e4, .int .u8 e5, .int .u8 e6, .int .u8 e7], .int .i64 i, .int .i64 ((0 : Nat) : Int), .slice fa X.length fc] w _
     go_enter Tryz.func117, Tryz.ntmps117
     go_upto_region 3 with fail
     generalize hgM : w.heap.size = gM at hE
     have HGM := Lib.hid hgM
     clear hgM
     generalize w.alloc (.cells #[.int .u8 e0, .int .u8 e1, .int .u8 e2, .int .u8 e3, .int .u8 e4, .int .u8 e5, .int .u8 e6, .int .u8 e7] 143) = w1 at *
     obtain ⟨z0, z1, z2, z3, z4, z5, z6, z7⟩ : w1.cell? ⟨gM, 0, none⟩ = some (.int .u8 e0) ∧ w1.cell? ⟨gM, 1, none⟩ = some (.int .u8 e1) ∧ w1.cell? ⟨gM, 2, none⟩ = some (.int .u8 e2) ∧ w1.cell? ⟨gM, 3, none⟩ = some (.int .u8 e3) ∧ w1.cell? ⟨gM, 4, none⟩ = some (.int .u8 e4) ∧ w1.cell? ⟨gM, 5, none⟩ = some (.int .u8 e5) ∧ w1.cell? ⟨gM, 6, none⟩ = some (.int .u8 e6) ∧ w1.cell? ⟨gM, 7, none⟩ = some (.int .u8 e7) := ⟨hE.cell 0, hE.cell 1, hE.cell 2, hE.cell 3, hE.cell 4, hE.cell 5, hE.cell 6, hE.cell 7⟩
     have hY := Own.new w1 143 #[.int .u8 e0, .int .u8 e1, .int .u8 e2, .int .u8 e3, .int .u8 e4, .int .u8 e5, .int .u8 e6, .int .u8 e7]
     have hbb := bA1 w1 (.cells #[.int .u8 e0, .int .u8 e1, .int .u8 e2, .int .u8 e3, .int .u8 e4, .int .u8 e5, .int .u8 e6, .int .u8 e7] 143)
     have HRW := Lib.hid (row_keep hF1 hbb)
     have HG2 := Lib.hid (HG1.out.trans (FG.of_below (.slice fa X.length fc) hbb))
     have HNW : Hid (∀ j u, ([.int .u8 e0, .int .u8 e1, .int .u8 e2, .int .u8 e3, .int .u8 e4, .int .u8 e5, .int .u8 e6, .int .u8 e7] : List Value)[j]? = some u → (w1.alloc (.cells #[.int .u8 e0, .int .u8 e1, .int .u8 e2, .int .u8 e3, .int .u8 e4, .int .u8 e5, .int .u8 e6, .int .u8 e7] 143)).cell? ((⟨w1.heap.size, 0, none⟩ : Addr).add j) = some u) := Lib.hid (fun j u hu => by rw [Addr.add_mid]; exact hY.range j u hu)
     have hbs2 : w0.heap.size ≤ (w1.alloc (.cells #[.int .u8 e0, .int .u8 e1, .int .u8 e2, .int .u8 e3, .int .u8 e4, .int .u8 e5, .int .u8 e6, .int .u8 e7] 143)).heap.size := Nat.le_trans hbs (Nat.le_trans hba1.out hbb.size)
     clear hE hF1 hY hbb HG1 hba1 hbs
     rw [show ((0 : Nat) : Int) = 0 from rfl]
     go_wp2_with (refine wpList_append_fresh _ (by rfl) (.tmp 19) (.tmp 21) 72 (by rfl) w0.heap.size 143 ti tz 8 8 Tryz.underlying72 HI.out HZt.out HS.out HBt.out HZs.out (by omega) (.slice fa X.length fc) X.length (mrowsV X) (by rfl) HRW.out ⟨w1.heap.size, 0, none⟩ 1 1 [.int .u8 e0, .int .u8 e1, .int .u8 e2, .int .u8 e3, .int .u8 e4, .int .u8 e5, .int .u8 e6, .int .u8 e7] (by rfl) (by rfl) HNW.out HON.out (by simp only [maxLen]; omega) (by omega) hbs2 (fun v' w6 h2 h3 h4 => ?_))
     have H2 := Lib.hid h2
     have H3 := Lib.hid (HG2.out.trans (FG.of_grown h3 h4))
     clear h2 h3 h4 HG2 HRW HNW
     go_wp2_with fail
     go_ret
     refine ⟨v', rfl, ?_, H3.out⟩
     have := H2.out
     rw [List.length_append, mrowsV_app, mrowsV_one]
     exact this
   · have hme : mons [] rest = [] := by rw [mons, if_neg hz0]
     rw [hme, show ext (E.take i) [] = [] from rfl, List.append_nil, List.take_of_length_le (show X.length ≤ 401 by omega)]
     have hba := bA1 w (.cells (mcells E).toArray 143)
     have HG1 := Lib.hid (FG.of_below (.slice fa X.length fc) hba)
     have HF1 := Lib.hid (row_keep hF hba)
     have hzi : ¬ (rest : Int) = 0 := by omega
     have hzb : ((rest : Int) == 0) = false := by simpa using hzi
     clear hba hF
     unfold monoV
     go_enter Tryz.func117, Tryz.ntmps117
     go_wp2_with fail
     go_ret
     exact ⟨_, rfl, HF1.out, HG1.out⟩
 | succ d ih =>
   intro w i rest E X fa fc hi hrr hm hzE hX hF hb
   have hin : i < n := by omega
   obtain ⟨b, off, dd, ha, hbl, hcd, hxd⟩ := (HD.out).at_ (k := i) hin
   subst ha
   have hdd := degs_at HZ.out hxd.out
   obtain ⟨D, rfl⟩ : ∃ D : Nat, dd = (D : Int) := ⟨dd.toNat, by omega⟩
   obtain ⟨hD1, hD2⟩ : 1 ≤ D ∧ D ≤ 12 := by omega
   have HDR := Lib.hid (drop_at hxd.out)
   have HDT : Hid ((D : Int).toNat = D) := Lib.hid (by omega)
   clear hdd
   have HM := Lib.hid hm
   have HZE := Lib.hid hzE
   clear hm hzE
   obtain ⟨Q, hQ⟩ : ∃ Q, rest / D = Q := ⟨_, rfl⟩
   have hQ2 : Q ≤ rest := by rw [← hQ]; exact Nat.div_le_self _ _
   have s4 : (rest : Int).tdiv (D : Int) = (Q : Int) := by rw [← hQ]; exact (Int.ofNat_tdiv rest D).symm
   have s5 : IntKind.i64.wrap (Q : Int) = (Q : Int) := IntWalk.i64_in _ (by omega)
   have hDn : ¬ (D : Int) = 0 := by omega
   have hDn0 : ¬ D = 0 := by omega
   have hDnb : ((D : Int) == 0) = false := by simpa using hDn
   have HQ := Lib.hid hQ
   clear hQ
   obtain ⟨M, hMON, hcase⟩ : ∃ M, mons (zs.drop i) rest = down (fillF D zs i rest) (M + 1) ∧ ((odd (D : Int) = true ∧ ¬ 1 < Q ∧ Q = M) ∨ (odd (D : Int) = true ∧ 1 < Q ∧ 1 = M) ∨ (odd (D : Int) = false ∧ ¬ 20 < Q ∧ Q = M) ∨ (odd (D : Int) = false ∧ 20 < Q ∧ 20 = M)) := by
    refine ⟨min (gx (D : Int)) Q, by rw [HDR.out, mons, HDT.out, HQ.out]; rfl, ?_⟩
    rw [gx]
    cases odd (D : Int) <;> simp <;> omega
   have HMON := Lib.hid hMON
   clear hMON
   have hin' : ¬ (i : Int) = (n : Int) := by omega
   have hinb : ((i : Int) == (n : Int)) = false := by simpa using hin'
   have hi0 : (0 : Int) ≤ (i : Int) := by omega
   have hi2 : (i : Int) < (n : Int) := by omega
   have hi8 : (i : Int) < 8 := by omega
   have k4 : w.cell? ⟨b, off + i, none⟩ = some (.int .i64 D) := (World.cell?_of_block (a := ⟨b, off + i, none⟩) (hb.block b hbl)).trans hcd
   have hE := Own.new w 143 (mcells E).toArray
   have hba := bA1 w (.cells (mcells E).toArray 143)
   have HG0 := Lib.hid (FG.of_below (.slice fa X.length fc) hba)
   have HF0 := Lib.hid (row_keep hF hba)
   have hb0 := bT' hb hba hb.size
   have HNE : Hid ((Value.slice fa X.length fc).ownBlock ≠ some w.heap.size) := Lib.hid (fun e => by have := (hF.lt _ e).2; omega)
   have HBS := Lib.hid hb.size
   have k5 : (w.alloc (.cells (mcells E).toArray 143)).cell? ⟨b, off + i, none⟩ = some (.int .i64 D) := (World.cell?_of_block (a := ⟨b, off + i, none⟩) (hb0.block b hbl)).trans hcd
   clear hba hF hb k4
   unfold monoV
   obtain ⟨YF, hYF⟩ : ∃ YF, (X ++ ext (E.take i) (mons (zs.drop i) rest)).take 401 = YF := ⟨_, rfl⟩
   rw [hYF]
   have HYF := Lib.hid hYF
   clear hYF
   go_enter Tryz.func117, Tryz.ntmps117
   go_upto_region 5 with fail
   generalize hgM : w.heap.size = gM at hE HNE HBS
   have HGM := Lib.hid hgM
   clear hgM
   generalize w.alloc (.cells (mcells E).toArray 143) = w1 at *
   rcases hcase with ⟨ho, hq, rfl⟩ | ⟨ho, hq, rfl⟩ | ⟨ho, hq, rfl⟩ | ⟨ho, hq, rfl⟩
   · have HO := Lib.hid ho
     have hom : (D : Int) % 2 = 1 := by simp only [odd, decide_eq_true_eq] at ho; omega
     have hq1 : ¬ (1 : Int) < (Q : Int) := by omega
     have hq2 : ¬ (20 : Int) < (Q : Int) := by omega
     clear ho
     go_upto_region 9 with fail
     clear k5 hom
     go_loopw [4, 12] (fun l x wr => ∃ (k : Nat) (y : Int) (E' : List Int) (X' : List (List Int)) (fa' : Option Addr) (fc' : Nat), k ≤ Q + 1 ∧ x = .int .i64 y ∧ l = .slice fa' X'.length fc' ∧ Hid (y = (k : Int) - 1) ∧ Own wr gM 143 (mcells E').toArray ∧ Hid (IsMono E') ∧ Hid (E'.take i = E.take i) ∧ Hid (E'.drop n = List.replicate (8 - n) 0) ∧ Hid (wr.ownsRow w0.heap.size 143 8 (.slice fa' X'.length fc') X'.length (mrowsV X')) ∧ Hid (FG w wr (.slice fa X.length fc) (.slice fa' X'.length fc')) ∧ Hid ((Value.slice fa' X'.length fc').ownBlock ≠ some gM) ∧ Hid (∃ Z, X' = (X ++ ext (E.take i) Z).take 401 ∧ Z ++ down (fillF D zs i rest) k = down (fillF D zs i rest) (Q + 1)) ∧ Below w0.heap.size w0 wr) (fun _ x _ => (intOf x + 1).toNat)
     case atStart => exact ⟨Q + 1, (Q : Int), E, X, fa, fc, Nat.le_refl _, rfl, rfl, Lib.hid (by omega), hE, HM, Lib.hid rfl, HZE, HF0, HG0, HNE, Lib.hid ⟨[], by rw [show ext (E.take i) [] = [] from rfl, List.append_nil, List.take_of_length_le (by omega)], rfl⟩, hb0⟩
     case round =>
      clear hE HM HZE HF0 HG0 HNE hb0
      obtain ⟨k, y, E', X', fa', fc', hk, rfl, rfl, hy, hE, HM, HT, HZE, HF, HG, HNE, HX, hb⟩ := hrel
      rcases Nat.eq_zero_or_pos k with rfl | hpos
      · obtain rfl : y = -1 := by have := hy.out; omega
        go_wp2_with fail
        go_ret
        obtain ⟨Z, e1, e2⟩ := HX.out
        rw [show down (fillF D zs i rest) 0 = [] from rfl, List.append_nil] at e2
        have hYX : YF = X' := by rw [← HYF.out, HMON.out, ← e2, ← e1]
        rw [hYX]
        exact ⟨.slice fa' X'.length fc', rfl, HF.out, HG.out⟩
      obtain ⟨e, rfl⟩ : ∃ e, k = e + 1 := ⟨k - 1, by omega⟩
      obtain rfl : y = (e : Int) := by have := hy.out; omega
      clear hy hpos
      by_cases hful : 400 < X'.length
      · have hfb : ¬ (X'.length : Int) ≤ 400 := by omega
        go_wp2_with fail
        go_ret
        obtain ⟨Z, e1, e2⟩ := HX.out
        have e3 := take_more (X := X ++ ext (E.take i) Z) (ext (E.take i) (down (fillF D zs i rest) (e + 1))) (k := 401) (by rw [← e1]; omega)
        rw [List.append_assoc, ← ext_app, e2, ← HMON.out, ← e1] at e3
        have hYX : YF = X' := by rw [← HYF.out, e3]
        rw [hYX]
        exact ⟨.slice fa' X'.length fc', rfl, HF.out, HG.out⟩
      have hfb : (X'.length : Int) ≤ 400 := by omega
      have hX4 : X'.length ≤ 400 := by omega
      have heG : e ≤ 20 := by omega
      have heQ : e ≤ Q := by omega
      obtain ⟨P, hP⟩ : ∃ P, e * D = P := ⟨_, rfl⟩
      have hPr : P ≤ rest := by
       rw [← hP]
       have := (Nat.le_div_iff_mul_le (show 0 < D by omega)).1 (show e ≤ rest / D by rw [HQ.out]; exact heQ)
       exact this
      have s1 : IntKind.i64.wrap ((e : Int) * (D : Int)) = (P : Int) := by rw [← Int.natCast_mul, hP]; exact IntWalk.i64_in _ (by omega)
      obtain ⟨u, hu⟩ : ∃ u, rest - P = u := ⟨_, rfl⟩
      have s1p : IntKind.i64.wrap (P : Int) = (P : Int) := IntWalk.i64_in _ (by omega)
      have s6 : (rest : Int) - (P : Int) = (u : Int) := by omega
      have s7 : IntKind.i64.wrap (u : Int) = (u : Int) := IntWalk.i64_in _ (by omega)
      have s8 : IntKind.u8.wrap (e : Int) = (e : Int) := IntWalk.u8_in _ (by omega)
      have s9 : IntKind.i64.wrap ((i : Int) + 1) = (i : Int) + 1 := IntWalk.i64_in _ (by omega)
      have hur : u ≤ 900 := by omega
      have HPU : Hid (u = rest - e * D) := Lib.hid (by rw [hP]; omega)
      clear hP hu
      have HFI : Hid (fillF D zs i rest e = (mons (zs.drop (i + 1)) u).map ((e : Int) :: ·)) := Lib.hid (by rw [fillF, HPU.out])
      have f2 := hE.frozen i
      obtain ⟨o2, ho2⟩ := hE.has (i := i) (by have := HM.out.1; simp [mcells]; omega)
      go_upto_region 12 with fail
      have hE2 := hE.set i (.int .u8 e)
      rw [mcells_setV] at hE2
      have HF2 := Lib.hid (row_farN (p := ⟨gM, i, none⟩) HF.out HNE.out (.int .u8 e))
      have HG2 := Lib.hid (HG.out.far (p := ⟨gM, i, none⟩) (by rw [← HGM.out]; exact Nat.le_refl _) (.int .u8 e))
      have hb2 := hb.setCell (p := ⟨gM, i, none⟩) HBS.out (.int .u8 e)
      have hgl : gM < (wr.setCell ⟨gM, i, none⟩ (.int .u8 e)).heap.size := hE2.lt
      generalize wr.setCell ⟨gM, i, none⟩ (.int .u8 e) = w2 at *
      have HM2 := Lib.hid (mono_set (i := i) (x := (e : Int)) HM.out (by omega) (by omega))
      have HT2 := Lib.hid (take_set_next (E := E') (i := i) (e := (e : Int)) (by have := HM.out.1; omega))
      have HZE2 : Hid ((E'.set i (e : Int)).drop n = List.replicate (8 - n) 0) := Lib.hid (by rw [drop_set_lt hin]; exact HZE.out)
      have HL8 := Lib.hid HM.out.1
      generalize hEs : E'.set i (e : Int) = Es at *
      have HEs := Lib.hid hEs
      clear f2 ho2 hE HF HG hb hEs HM HZE
      obtain ⟨q0, q1, q2, q3, q4, q5, q6, q7, rfl⟩ := mono8 HM2.out
      have hgl' := Lib.hid hgl
      clear hgl
      replace hE2 : Own w2.drew gM 143 #[.int .u8 q0, .int .u8 q1, .int .u8 q2, .int .u8 q3, .int .u8 q4, .int .u8 q5, .int .u8 q6, .int .u8 q7] := hE2
      replace hb2 : Below w0.heap.size w0 w2.drew := hb2.drew
      have HF3 : Hid (w2.drew.ownsRow w0.heap.size 143 8 (.slice fa' X'.length fc') X'.length (mrowsV X')) := Lib.hid HF2.out
      have HG3 : Hid (FG w w2.drew (.slice fa X.length fc) (.slice fa' X'.length fc')) := Lib.hid HG2.out.drew
      have HGL : Hid (gM < w2.drew.heap.size) := hgl'
      have k5 : w2.drew.cell? ⟨b, off + i, none⟩ = some (.int .i64 D) := (World.cell?_of_block (a := ⟨b, off + i, none⟩) (hb2.block b hbl)).trans hcd
      clear HF2 HG2 hgl'
      refine wp_region_held_drew (S := (fun w' => w'.cell? ⟨gM, 0, none⟩ = some (.int .u8 q0) ∧ w'.cell? ⟨gM, 1, none⟩ = some (.int .u8 q1) ∧ w'.cell? ⟨gM, 2, none⟩ = some (.int .u8 q2) ∧ w'.cell? ⟨gM, 3, none⟩ = some (.int .u8 q3) ∧ w'.cell? ⟨gM, 4, none⟩ = some (.int .u8 q4) ∧ w'.cell? ⟨gM, 5, none⟩ = some (.int .u8 q5) ∧ w'.cell? ⟨gM, 6, none⟩ = some (.int .u8 q6) ∧ w'.cell? ⟨gM, 7, none⟩ = some (.int .u8 q7) ∧ w'.cell? ⟨b, off + i, none⟩ = some (.int .i64 D))) (by kernel_rfl) ?_ (fun _ => ?_)
      · ((try dsimp only); (exact ⟨hE2.cell 0, hE2.cell 1, hE2.cell 2, hE2.cell 3, hE2.cell 4, hE2.cell 5, hE2.cell 6, hE2.cell 7, k5⟩))
      generalize w2.drew = Wd at *
      refine hdT 0 ?_
      refine hdT 1 ?_
      refine hdT 2 ?_
      refine hdT 3 ?_
      refine hdT 4 ?_
      refine hdT 5 ?_
      refine hdT 6 ?_
      refine hdT 7 ?_
      refine hdT 8 ?_
      refine hdT 9 ?_
      refine hdT 10 ?_
      refine hdT 11 ?_
      refine hdT 12 ?_
      refine hdC 13 (fun K hK => ?_)
      have hc := ih (i := i + 1) (rest := u) (E := [q0, q1, q2, q3, q4, q5, q6, q7]) (X := X') (fa := fa') (fc := fc') (by omega) hur HM2.out HZE2.out hX4 HF3.out hb2
      rw [Int.natCast_add] at hc
      obtain ⟨Y4, hY4⟩ : ∃ Y4, (X' ++ ext (([q0, q1, q2, q3, q4, q5, q6, q7] : List Int).take (i + 1)) (mons (zs.drop (i + 1)) u)).take 401 = Y4 := ⟨_, rfl⟩
      rw [hY4] at hc
      have HY4 := Lib.hid hY4
      clear hY4
      have HC := Lib.hid hc
      clear hc
      have hbs0 := hb2.size
      (go_simp; (go_at_call 117; refine HC.out.mono ?_; rintro e1 W1 ⟨fv4, rfl, hF4, hG4⟩; (obtain ⟨fa4, fc4, hfv4⟩ := row_slice hF4); subst hfv4); go_wp2_with fail)
      have hN4 := hG4.ne HNE.out HGL.out
      replace hE2 := hG4.own hE2 HNE.out
      replace hb2 := hb2.trans (hG4.below (B := w0.heap.size) (fun q hq => (HF3.out.lt q hq).1) hbs0)
      replace hG4 := HG3.out.trans hG4
      clear HC hbs0
      replace k5 : W1.cell? ⟨b, off + i, none⟩ = some (.int .i64 D) := (World.cell?_of_block (a := ⟨b, off + i, none⟩) (hb2.block b hbl)).trans hcd
      refine hK.out _ _ ?_ (fun _ => ?_)
      · ((try dsimp only); (exact ⟨hE2.cell 0, hE2.cell 1, hE2.cell 2, hE2.cell 3, hE2.cell 4, hE2.cell 5, hE2.cell 6, hE2.cell 7, k5⟩))
      clear hK K
      (try simp only [Act.put, pA, pB, pC])
      refine hdT 14 ?_
      refine wpAnyH_done (by kernel_rfl) ?_ _
      have HF4 := Lib.hid hF4
      have HG4 := Lib.hid hG4
      have HN4 := Lib.hid hN4
      clear hF4 hG4 hN4
      go_wp2_with fail
      go_roundw
      case rel =>
       obtain ⟨Z, e1, e2⟩ := HX.out
       have e3 : (X ++ ext (E.take i) Z).take 401 = X ++ ext (E.take i) Z := take_app (by rw [← e1]; omega)
       have e4 : X' ++ ext (([q0, q1, q2, q3, q4, q5, q6, q7] : List Int).take (i + 1)) (mons (zs.drop (i + 1)) u) = X ++ ext (E.take i) (Z ++ fillF D zs i rest e) := by
        rw [HT2.out, HT.out, ← ext_cons, ← HFI.out, e1, e3, List.append_assoc, ← ext_app]
       refine ⟨e, (e : Int) - 1, [q0, q1, q2, q3, q4, q5, q6, q7], Y4, fa4, fc4, by omega, by go_num, rfl, Lib.hid rfl, hE2, HM2, Lib.hid ?_, HZE2, HF4, HG4, HN4, Lib.hid ⟨_, by rw [← HY4.out, e4], by rw [List.append_assoc]; exact e2⟩, hb2⟩
       have := congrArg (List.take i) HT2.out
       rw [List.take_take, Nat.min_eq_left (by omega), List.take_left' (by rw [List.length_take]; have := HL8.out; omega)] at this
       rw [this]
       exact HT.out
      case measure => simp [intOf] <;> omega
   · have HO := Lib.hid ho
     have hom : (D : Int) % 2 = 1 := by simp only [odd, decide_eq_true_eq] at ho; omega
     have hq1 : (1 : Int) < (Q : Int) := by omega
     clear ho
     go_upto_region 9 with fail
     clear k5 hom
     go_loopw [4, 12] (fun l x wr => ∃ (k : Nat) (y : Int) (E' : List Int) (X' : List (List Int)) (fa' : Option Addr) (fc' : Nat), k ≤ 1 + 1 ∧ x = .int .i64 y ∧ l = .slice fa' X'.length fc' ∧ Hid (y = (k : Int) - 1) ∧ Own wr gM 143 (mcells E').toArray ∧ Hid (IsMono E') ∧ Hid (E'.take i = E.take i) ∧ Hid (E'.drop n = List.replicate (8 - n) 0) ∧ Hid (wr.ownsRow w0.heap.size 143 8 (.slice fa' X'.length fc') X'.length (mrowsV X')) ∧ Hid (FG w wr (.slice fa X.length fc) (.slice fa' X'.length fc')) ∧ Hid ((Value.slice fa' X'.length fc').ownBlock ≠ some gM) ∧ Hid (∃ Z, X' = (X ++ ext (E.take i) Z).take 401 ∧ Z ++ down (fillF D zs i rest) k = down (fillF D zs i rest) (1 + 1)) ∧ Below w0.heap.size w0 wr) (fun _ x _ => (intOf x + 1).toNat)
     case atStart => exact ⟨1 + 1, 1, E, X, fa, fc, Nat.le_refl _, rfl, rfl, Lib.hid (by omega), hE, HM, Lib.hid rfl, HZE, HF0, HG0, HNE, Lib.hid ⟨[], by rw [show ext (E.take i) [] = [] from rfl, List.append_nil, List.take_of_length_le (by omega)], rfl⟩, hb0⟩
     case round =>
      clear hE HM HZE HF0 HG0 HNE hb0
      obtain ⟨k, y, E', X', fa', fc', hk, rfl, rfl, hy, hE, HM, HT, HZE, HF, HG, HNE, HX, hb⟩ := hrel
      rcases Nat.eq_zero_or_pos k with rfl | hpos
      · obtain rfl : y = -1 := by have := hy.out; omega
        go_wp2_with fail
        go_ret
        obtain ⟨Z, e1, e2⟩ := HX.out
        rw [show down (fillF D zs i rest) 0 = [] from rfl, List.append_nil] at e2
        have hYX : YF = X' := by rw [← HYF.out, HMON.out, ← e2, ← e1]
        rw [hYX]
        exact ⟨.slice fa' X'.length fc', rfl, HF.out, HG.out⟩
      obtain ⟨e, rfl⟩ : ∃ e, k = e + 1 := ⟨k - 1, by omega⟩
      obtain rfl : y = (e : Int) := by have := hy.out; omega
      clear hy hpos
      by_cases hful : 400 < X'.length
      · have hfb : ¬ (X'.length : Int) ≤ 400 := by omega
        go_wp2_with fail
        go_ret
        obtain ⟨Z, e1, e2⟩ := HX.out
        have e3 := take_more (X := X ++ ext (E.take i) Z) (ext (E.take i) (down (fillF D zs i rest) (e + 1))) (k := 401) (by rw [← e1]; omega)
        rw [List.append_assoc, ← ext_app, e2, ← HMON.out, ← e1] at e3
        have hYX : YF = X' := by rw [← HYF.out, e3]
        rw [hYX]
        exact ⟨.slice fa' X'.length fc', rfl, HF.out, HG.out⟩
      have hfb : (X'.length : Int) ≤ 400 := by omega
      have hX4 : X'.length ≤ 400 := by omega
      have heG : e ≤ 20 := by omega
      have heQ : e ≤ Q := by omega
      obtain ⟨P, hP⟩ : ∃ P, e * D = P := ⟨_, rfl⟩
      have hPr : P ≤ rest := by
       rw [← hP]
       have := (Nat.le_div_iff_mul_le (show 0 < D by omega)).1 (show e ≤ rest / D by rw [HQ.out]; exact heQ)
       exact this
      have s1 : IntKind.i64.wrap ((e : Int) * (D : Int)) = (P : Int) := by rw [← Int.natCast_mul, hP]; exact IntWalk.i64_in _ (by omega)
      obtain ⟨u, hu⟩ : ∃ u, rest - P = u := ⟨_, rfl⟩
      have s1p : IntKind.i64.wrap (P : Int) = (P : Int) := IntWalk.i64_in _ (by omega)
      have s6 : (rest : Int) - (P : Int) = (u : Int) := by omega
      have s7 : IntKind.i64.wrap (u : Int) = (u : Int) := IntWalk.i64_in _ (by omega)
      have s8 : IntKind.u8.wrap (e : Int) = (e : Int) := IntWalk.u8_in _ (by omega)
      have s9 : IntKind.i64.wrap ((i : Int) + 1) = (i : Int) + 1 := IntWalk.i64_in _ (by omega)
      have hur : u ≤ 900 := by omega
      have HPU : Hid (u = rest - e * D) := Lib.hid (by rw [hP]; omega)
      clear hP hu
      have HFI : Hid (fillF D zs i rest e = (mons (zs.drop (i + 1)) u).map ((e : Int) :: ·)) := Lib.hid (by rw [fillF, HPU.out])
      have f2 := hE.frozen i
      obtain ⟨o2, ho2⟩ := hE.has (i := i) (by have := HM.out.1; simp [mcells]; omega)
      go_upto_region 12 with fail
      have hE2 := hE.set i (.int .u8 e)
      rw [mcells_setV] at hE2
      have HF2 := Lib.hid (row_farN (p := ⟨gM, i, none⟩) HF.out HNE.out (.int .u8 e))
      have HG2 := Lib.hid (HG.out.far (p := ⟨gM, i, none⟩) (by rw [← HGM.out]; exact Nat.le_refl _) (.int .u8 e))
      have hb2 := hb.setCell (p := ⟨gM, i, none⟩) HBS.out (.int .u8 e)
      have hgl : gM < (wr.setCell ⟨gM, i, none⟩ (.int .u8 e)).heap.size := hE2.lt
      generalize wr.setCell ⟨gM, i, none⟩ (.int .u8 e) = w2 at *
      have HM2 := Lib.hid (mono_set (i := i) (x := (e : Int)) HM.out (by omega) (by omega))
      have HT2 := Lib.hid (take_set_next (E := E') (i := i) (e := (e : Int)) (by have := HM.out.1; omega))
      have HZE2 : Hid ((E'.set i (e : Int)).drop n = List.replicate (8 - n) 0) := Lib.hid (by rw [drop_set_lt hin]; exact HZE.out)
      have HL8 := Lib.hid HM.out.1
      generalize hEs : E'.set i (e : Int) = Es at *
      have HEs := Lib.hid hEs
      clear f2 ho2 hE HF HG hb hEs HM HZE
      obtain ⟨q0, q1, q2, q3, q4, q5, q6, q7, rfl⟩ := mono8 HM2.out
      have hgl' := Lib.hid hgl
      clear hgl
      replace hE2 : Own w2.drew gM 143 #[.int .u8 q0, .int .u8 q1, .int .u8 q2, .int .u8 q3, .int .u8 q4, .int .u8 q5, .int .u8 q6, .int .u8 q7] := hE2
      replace hb2 : Below w0.heap.size w0 w2.drew := hb2.drew
      have HF3 : Hid (w2.drew.ownsRow w0.heap.size 143 8 (.slice fa' X'.length fc') X'.length (mrowsV X')) := Lib.hid HF2.out
      have HG3 : Hid (FG w w2.drew (.slice fa X.length fc) (.slice fa' X'.length fc')) := Lib.hid HG2.out.drew
      have HGL : Hid (gM < w2.drew.heap.size) := hgl'
      have k5 : w2.drew.cell? ⟨b, off + i, none⟩ = some (.int .i64 D) := (World.cell?_of_block (a := ⟨b, off + i, none⟩) (hb2.block b hbl)).trans hcd
      clear HF2 HG2 hgl'
      refine wp_region_held_drew (S := (fun w' => w'.cell? ⟨gM, 0, none⟩ = some (.int .u8 q0) ∧ w'.cell? ⟨gM, 1, none⟩ = some (.int .u8 q1) ∧ w'.cell? ⟨gM, 2, none⟩ = some (.int .u8 q2) ∧ w'.cell? ⟨gM, 3, none⟩ = some (.int .u8 q3) ∧ w'.cell? ⟨gM, 4, none⟩ = some (.int .u8 q4) ∧ w'.cell? ⟨gM, 5, none⟩ = some (.int .u8 q5) ∧ w'.cell? ⟨gM, 6, none⟩ = some (.int .u8 q6) ∧ w'.cell? ⟨gM, 7, none⟩ = some (.int .u8 q7) ∧ w'.cell? ⟨b, off + i, none⟩ = some (.int .i64 D))) (by kernel_rfl) ?_ (fun _ => ?_)
      · ((try dsimp only); (exact ⟨hE2.cell 0, hE2.cell 1, hE2.cell 2, hE2.cell 3, hE2.cell 4, hE2.cell 5, hE2.cell 6, hE2.cell 7, k5⟩))
      generalize w2.drew = Wd at *
      refine hdT 0 ?_
      refine hdT 1 ?_
      refine hdT 2 ?_
      refine hdT 3 ?_
      refine hdT 4 ?_
      refine hdT 5 ?_
      refine hdT 6 ?_
      refine hdT 7 ?_
      refine hdT 8 ?_
      refine hdT 9 ?_
      refine hdT 10 ?_
      refine hdT 11 ?_
      refine hdT 12 ?_
      refine hdC 13 (fun K hK => ?_)
      have hc := ih (i := i + 1) (rest := u) (E := [q0, q1, q2, q3, q4, q5, q6, q7]) (X := X') (fa := fa') (fc := fc') (by omega) hur HM2.out HZE2.out hX4 HF3.out hb2
      rw [Int.natCast_add] at hc
      obtain ⟨Y4, hY4⟩ : ∃ Y4, (X' ++ ext (([q0, q1, q2, q3, q4, q5, q6, q7] : List Int).take (i + 1)) (mons (zs.drop (i + 1)) u)).take 401 = Y4 := ⟨_, rfl⟩
      rw [hY4] at hc
      have HY4 := Lib.hid hY4
      clear hY4
      have HC := Lib.hid hc
      clear hc
      have hbs0 := hb2.size
      (go_simp; (go_at_call 117; refine HC.out.mono ?_; rintro e1 W1 ⟨fv4, rfl, hF4, hG4⟩; (obtain ⟨fa4, fc4, hfv4⟩ := row_slice hF4); subst hfv4); go_wp2_with fail)
      have hN4 := hG4.ne HNE.out HGL.out
      replace hE2 := hG4.own hE2 HNE.out
      replace hb2 := hb2.trans (hG4.below (B := w0.heap.size) (fun q hq => (HF3.out.lt q hq).1) hbs0)
      replace hG4 := HG3.out.trans hG4
      clear HC hbs0
      replace k5 : W1.cell? ⟨b, off + i, none⟩ = some (.int .i64 D) := (World.cell?_of_block (a := ⟨b, off + i, none⟩) (hb2.block b hbl)).trans hcd
      refine hK.out _ _ ?_ (fun _ => ?_)
      · ((try dsimp only); (exact ⟨hE2.cell 0, hE2.cell 1, hE2.cell 2, hE2.cell 3, hE2.cell 4, hE2.cell 5, hE2.cell 6, hE2.cell 7, k5⟩))
      clear hK K
      (try simp only [Act.put, pA, pB, pC])
      refine hdT 14 ?_
      refine wpAnyH_done (by kernel_rfl) ?_ _
      have HF4 := Lib.hid hF4
      have HG4 := Lib.hid hG4
      have HN4 := Lib.hid hN4
      clear hF4 hG4 hN4
      go_wp2_with fail
      go_roundw
      case rel =>
       obtain ⟨Z, e1, e2⟩ := HX.out
       have e3 : (X ++ ext (E.take i) Z).take 401 = X ++ ext (E.take i) Z := take_app (by rw [← e1]; omega)
       have e4 : X' ++ ext (([q0, q1, q2, q3, q4, q5, q6, q7] : List Int).take (i + 1)) (mons (zs.drop (i + 1)) u) = X ++ ext (E.take i) (Z ++ fillF D zs i rest e) := by
        rw [HT2.out, HT.out, ← ext_cons, ← HFI.out, e1, e3, List.append_assoc, ← ext_app]
       refine ⟨e, (e : Int) - 1, [q0, q1, q2, q3, q4, q5, q6, q7], Y4, fa4, fc4, by omega, by go_num, rfl, Lib.hid rfl, hE2, HM2, Lib.hid ?_, HZE2, HF4, HG4, HN4, Lib.hid ⟨_, by rw [← HY4.out, e4], by rw [List.append_assoc]; exact e2⟩, hb2⟩
       have := congrArg (List.take i) HT2.out
       rw [List.take_take, Nat.min_eq_left (by omega), List.take_left' (by rw [List.length_take]; have := HL8.out; omega)] at this
       rw [this]
       exact HT.out
      case measure => simp [intOf] <;> omega
   · have HO := Lib.hid ho
     have hom : (D : Int) % 2 = 0 := by simp only [odd, decide_eq_false_iff_not] at ho; omega
     have hq1 : ¬ (20 : Int) < (Q : Int) := by omega
     clear ho
     go_upto_region 9 with fail
     clear k5 hom
     go_loopw [4, 12] (fun l x wr => ∃ (k : Nat) (y : Int) (E' : List Int) (X' : List (List Int)) (fa' : Option Addr) (fc' : Nat), k ≤ Q + 1 ∧ x = .int .i64 y ∧ l = .slice fa' X'.length fc' ∧ Hid (y = (k : Int) - 1) ∧ Own wr gM 143 (mcells E').toArray ∧ Hid (IsMono E') ∧ Hid (E'.take i = E.take i) ∧ Hid (E'.drop n = List.replicate (8 - n) 0) ∧ Hid (wr.ownsRow w0.heap.size 143 8 (.slice fa' X'.length fc') X'.length (mrowsV X')) ∧ Hid (FG w wr (.slice fa X.length fc) (.slice fa' X'.length fc')) ∧ Hid ((Value.slice fa' X'.length fc').ownBlock ≠ some gM) ∧ Hid (∃ Z, X' = (X ++ ext (E.take i) Z).take 401 ∧ Z ++ down (fillF D zs i rest) k = down (fillF D zs i rest) (Q + 1)) ∧ Below w0.heap.size w0 wr) (fun _ x _ => (intOf x + 1).toNat)
     case atStart => exact ⟨Q + 1, (Q : Int), E, X, fa, fc, Nat.le_refl _, rfl, rfl, Lib.hid (by omega), hE, HM, Lib.hid rfl, HZE, HF0, HG0, HNE, Lib.hid ⟨[], by rw [show ext (E.take i) [] = [] from rfl, List.append_nil, List.take_of_length_le (by omega)], rfl⟩, hb0⟩
     case round =>
      clear hE HM HZE HF0 HG0 HNE hb0
      obtain ⟨k, y, E', X', fa', fc', hk, rfl, rfl, hy, hE, HM, HT, HZE, HF, HG, HNE, HX, hb⟩ := hrel
      rcases Nat.eq_zero_or_pos k with rfl | hpos
      · obtain rfl : y = -1 := by have := hy.out; omega
        go_wp2_with fail
        go_ret
        obtain ⟨Z, e1, e2⟩ := HX.out
        rw [show down (fillF D zs i rest) 0 = [] from rfl, List.append_nil] at e2
        have hYX : YF = X' := by rw [← HYF.out, HMON.out, ← e2, ← e1]
        rw [hYX]
        exact ⟨.slice fa' X'.length fc', rfl, HF.out, HG.out⟩
      obtain ⟨e, rfl⟩ : ∃ e, k = e + 1 := ⟨k - 1, by omega⟩
      obtain rfl : y = (e : Int) := by have := hy.out; omega
      clear hy hpos
      by_cases hful : 400 < X'.length
      · have hfb : ¬ (X'.length : Int) ≤ 400 := by omega
        go_wp2_with fail
        go_ret
        obtain ⟨Z, e1, e2⟩ := HX.out
        have e3 := take_more (X := X ++ ext (E.take i) Z) (ext (E.take i) (down (fillF D zs i rest) (e + 1))) (k := 401) (by rw [← e1]; omega)
        rw [List.append_assoc, ← ext_app, e2, ← HMON.out, ← e1] at e3
        have hYX : YF = X' := by rw [← HYF.out, e3]
        rw [hYX]
        exact ⟨.slice fa' X'.length fc', rfl, HF.out, HG.out⟩
      have hfb : (X'.length : Int) ≤ 400 := by omega
      have hX4 : X'.length ≤ 400 := by omega
      have heG : e ≤ 20 := by omega
      have heQ : e ≤ Q := by omega
      obtain ⟨P, hP⟩ : ∃ P, e * D = P := ⟨_, rfl⟩
      have hPr : P ≤ rest := by
       rw [← hP]
       have := (Nat.le_div_iff_mul_le (show 0 < D by omega)).1 (show e ≤ rest / D by rw [HQ.out]; exact heQ)
       exact this
      have s1 : IntKind.i64.wrap ((e : Int) * (D : Int)) = (P : Int) := by rw [← Int.natCast_mul, hP]; exact IntWalk.i64_in _ (by omega)
      obtain ⟨u, hu⟩ : ∃ u, rest - P = u := ⟨_, rfl⟩
      have s1p : IntKind.i64.wrap (P : Int) = (P : Int) := IntWalk.i64_in _ (by omega)
      have s6 : (rest : Int) - (P : Int) = (u : Int) := by omega
      have s7 : IntKind.i64.wrap (u : Int) = (u : Int) := IntWalk.i64_in _ (by omega)
      have s8 : IntKind.u8.wrap (e : Int) = (e : Int) := IntWalk.u8_in _ (by omega)
      have s9 : IntKind.i64.wrap ((i : Int) + 1) = (i : Int) + 1 := IntWalk.i64_in _ (by omega)
      have hur : u ≤ 900 := by omega
      have HPU : Hid (u = rest - e * D) := Lib.hid (by rw [hP]; omega)
      clear hP hu
      have HFI : Hid (fillF D zs i rest e = (mons (zs.drop (i + 1)) u).map ((e : Int) :: ·)) := Lib.hid (by rw [fillF, HPU.out])
      have f2 := hE.frozen i
      obtain ⟨o2, ho2⟩ := hE.has (i := i) (by have := HM.out.1; simp [mcells]; omega)
      go_upto_region 12 with fail
      have hE2 := hE.set i (.int .u8 e)
      rw [mcells_setV] at hE2
      have HF2 := Lib.hid (row_farN (p := ⟨gM, i, none⟩) HF.out HNE.out (.int .u8 e))
      have HG2 := Lib.hid (HG.out.far (p := ⟨gM, i, none⟩) (by rw [← HGM.out]; exact Nat.le_refl _) (.int .u8 e))
      have hb2 := hb.setCell (p := ⟨gM, i, none⟩) HBS.out (.int .u8 e)
      have hgl : gM < (wr.setCell ⟨gM, i, none⟩ (.int .u8 e)).heap.size := hE2.lt
      generalize wr.setCell ⟨gM, i, none⟩ (.int .u8 e) = w2 at *
      have HM2 := Lib.hid (mono_set (i := i) (x := (e : Int)) HM.out (by omega) (by omega))
      have HT2 := Lib.hid (take_set_next (E := E') (i := i) (e := (e : Int)) (by have := HM.out.1; omega))
      have HZE2 : Hid ((E'.set i (e : Int)).drop n = List.replicate (8 - n) 0) := Lib.hid (by rw [drop_set_lt hin]; exact HZE.out)
      have HL8 := Lib.hid HM.out.1
      generalize hEs : E'.set i (e : Int) = Es at *
      have HEs := Lib.hid hEs
      clear f2 ho2 hE HF HG hb hEs HM HZE
      obtain ⟨q0, q1, q2, q3, q4, q5, q6, q7, rfl⟩ := mono8 HM2.out
      have hgl' := Lib.hid hgl
      clear hgl
      replace hE2 : Own w2.drew gM 143 #[.int .u8 q0, .int .u8 q1, .int .u8 q2, .int .u8 q3, .int .u8 q4, .int .u8 q5, .int .u8 q6, .int .u8 q7] := hE2
      replace hb2 : Below w0.heap.size w0 w2.drew := hb2.drew
      have HF3 : Hid (w2.drew.ownsRow w0.heap.size 143 8 (.slice fa' X'.length fc') X'.length (mrowsV X')) := Lib.hid HF2.out
      have HG3 : Hid (FG w w2.drew (.slice fa X.length fc) (.slice fa' X'.length fc')) := Lib.hid HG2.out.drew
      have HGL : Hid (gM < w2.drew.heap.size) := hgl'
      have k5 : w2.drew.cell? ⟨b, off + i, none⟩ = some (.int .i64 D) := (World.cell?_of_block (a := ⟨b, off + i, none⟩) (hb2.block b hbl)).trans hcd
      clear HF2 HG2 hgl'
      refine wp_region_held_drew (S := (fun w' => w'.cell? ⟨gM, 0, none⟩ = some (.int .u8 q0) ∧ w'.cell? ⟨gM, 1, none⟩ = some (.int .u8 q1) ∧ w'.cell? ⟨gM, 2, none⟩ = some (.int .u8 q2) ∧ w'.cell? ⟨gM, 3, none⟩ = some (.int .u8 q3) ∧ w'.cell? ⟨gM, 4, none⟩ = some (.int .u8 q4) ∧ w'.cell? ⟨gM, 5, none⟩ = some (.int .u8 q5) ∧ w'.cell? ⟨gM, 6, none⟩ = some (.int .u8 q6) ∧ w'.cell? ⟨gM, 7, none⟩ = some (.int .u8 q7) ∧ w'.cell? ⟨b, off + i, none⟩ = some (.int .i64 D))) (by kernel_rfl) ?_ (fun _ => ?_)
      · ((try dsimp only); (exact ⟨hE2.cell 0, hE2.cell 1, hE2.cell 2, hE2.cell 3, hE2.cell 4, hE2.cell 5, hE2.cell 6, hE2.cell 7, k5⟩))
      generalize w2.drew = Wd at *
      refine hdT 0 ?_
      refine hdT 1 ?_
      refine hdT 2 ?_
      refine hdT 3 ?_
      refine hdT 4 ?_
      refine hdT 5 ?_
      refine hdT 6 ?_
      refine hdT 7 ?_
      refine hdT 8 ?_
      refine hdT 9 ?_
      refine hdT 10 ?_
      refine hdT 11 ?_
      refine hdT 12 ?_
      refine hdC 13 (fun K hK => ?_)
      have hc := ih (i := i + 1) (rest := u) (E := [q0, q1, q2, q3, q4, q5, q6, q7]) (X := X') (fa := fa') (fc := fc') (by omega) hur HM2.out HZE2.out hX4 HF3.out hb2
      rw [Int.natCast_add] at hc
      obtain ⟨Y4, hY4⟩ : ∃ Y4, (X' ++ ext (([q0, q1, q2, q3, q4, q5, q6, q7] : List Int).take (i + 1)) (mons (zs.drop (i + 1)) u)).take 401 = Y4 := ⟨_, rfl⟩
      rw [hY4] at hc
      have HY4 := Lib.hid hY4
      clear hY4
      have HC := Lib.hid hc
      clear hc
      have hbs0 := hb2.size
      (go_simp; (go_at_call 117; refine HC.out.mono ?_; rintro e1 W1 ⟨fv4, rfl, hF4, hG4⟩; (obtain ⟨fa4, fc4, hfv4⟩ := row_slice hF4); subst hfv4); go_wp2_with fail)
      have hN4 := hG4.ne HNE.out HGL.out
      replace hE2 := hG4.own hE2 HNE.out
      replace hb2 := hb2.trans (hG4.below (B := w0.heap.size) (fun q hq => (HF3.out.lt q hq).1) hbs0)
      replace hG4 := HG3.out.trans hG4
      clear HC hbs0
      replace k5 : W1.cell? ⟨b, off + i, none⟩ = some (.int .i64 D) := (World.cell?_of_block (a := ⟨b, off + i, none⟩) (hb2.block b hbl)).trans hcd
      refine hK.out _ _ ?_ (fun _ => ?_)
      · ((try dsimp only); (exact ⟨hE2.cell 0, hE2.cell 1, hE2.cell 2, hE2.cell 3, hE2.cell 4, hE2.cell 5, hE2.cell 6, hE2.cell 7, k5⟩))
      clear hK K
      (try simp only [Act.put, pA, pB, pC])
      refine hdT 14 ?_
      refine wpAnyH_done (by kernel_rfl) ?_ _
      have HF4 := Lib.hid hF4
      have HG4 := Lib.hid hG4
      have HN4 := Lib.hid hN4
      clear hF4 hG4 hN4
      go_wp2_with fail
      go_roundw
      case rel =>
       obtain ⟨Z, e1, e2⟩ := HX.out
       have e3 : (X ++ ext (E.take i) Z).take 401 = X ++ ext (E.take i) Z := take_app (by rw [← e1]; omega)
       have e4 : X' ++ ext (([q0, q1, q2, q3, q4, q5, q6, q7] : List Int).take (i + 1)) (mons (zs.drop (i + 1)) u) = X ++ ext (E.take i) (Z ++ fillF D zs i rest e) := by
        rw [HT2.out, HT.out, ← ext_cons, ← HFI.out, e1, e3, List.append_assoc, ← ext_app]
       refine ⟨e, (e : Int) - 1, [q0, q1, q2, q3, q4, q5, q6, q7], Y4, fa4, fc4, by omega, by go_num, rfl, Lib.hid rfl, hE2, HM2, Lib.hid ?_, HZE2, HF4, HG4, HN4, Lib.hid ⟨_, by rw [← HY4.out, e4], by rw [List.append_assoc]; exact e2⟩, hb2⟩
       have := congrArg (List.take i) HT2.out
       rw [List.take_take, Nat.min_eq_left (by omega), List.take_left' (by rw [List.length_take]; have := HL8.out; omega)] at this
       rw [this]
       exact HT.out
      case measure => simp [intOf] <;> omega
   · have HO := Lib.hid ho
     have hom : (D : Int) % 2 = 0 := by simp only [odd, decide_eq_false_iff_not] at ho; omega
     have hq1 : (20 : Int) < (Q : Int) := by omega
     clear ho
     go_upto_region 9 with fail
     clear k5 hom
     go_loopw [4, 12] (fun l x wr => ∃ (k : Nat) (y : Int) (E' : List Int) (X' : List (List Int)) (fa' : Option Addr) (fc' : Nat), k ≤ 20 + 1 ∧ x = .int .i64 y ∧ l = .slice fa' X'.length fc' ∧ Hid (y = (k : Int) - 1) ∧ Own wr gM 143 (mcells E').toArray ∧ Hid (IsMono E') ∧ Hid (E'.take i = E.take i) ∧ Hid (E'.drop n = List.replicate (8 - n) 0) ∧ Hid (wr.ownsRow w0.heap.size 143 8 (.slice fa' X'.length fc') X'.length (mrowsV X')) ∧ Hid (FG w wr (.slice fa X.length fc) (.slice fa' X'.length fc')) ∧ Hid ((Value.slice fa' X'.length fc').ownBlock ≠ some gM) ∧ Hid (∃ Z, X' = (X ++ ext (E.take i) Z).take 401 ∧ Z ++ down (fillF D zs i rest) k = down (fillF D zs i rest) (20 + 1)) ∧ Below w0.heap.size w0 wr) (fun _ x _ => (intOf x + 1).toNat)
     case atStart => exact ⟨20 + 1, 20, E, X, fa, fc, Nat.le_refl _, rfl, rfl, Lib.hid (by omega), hE, HM, Lib.hid rfl, HZE, HF0, HG0, HNE, Lib.hid ⟨[], by rw [show ext (E.take i) [] = [] from rfl, List.append_nil, List.take_of_length_le (by omega)], rfl⟩, hb0⟩
     case round =>
      clear hE HM HZE HF0 HG0 HNE hb0
      obtain ⟨k, y, E', X', fa', fc', hk, rfl, rfl, hy, hE, HM, HT, HZE, HF, HG, HNE, HX, hb⟩ := hrel
      rcases Nat.eq_zero_or_pos k with rfl | hpos
      · obtain rfl : y = -1 := by have := hy.out; omega
        go_wp2_with fail
        go_ret
        obtain ⟨Z, e1, e2⟩ := HX.out
        rw [show down (fillF D zs i rest) 0 = [] from rfl, List.append_nil] at e2
        have hYX : YF = X' := by rw [← HYF.out, HMON.out, ← e2, ← e1]
        rw [hYX]
        exact ⟨.slice fa' X'.length fc', rfl, HF.out, HG.out⟩
      obtain ⟨e, rfl⟩ : ∃ e, k = e + 1 := ⟨k - 1, by omega⟩
      obtain rfl : y = (e : Int) := by have := hy.out; omega
      clear hy hpos
      by_cases hful : 400 < X'.length
      · have hfb : ¬ (X'.length : Int) ≤ 400 := by omega
        go_wp2_with fail
        go_ret
        obtain ⟨Z, e1, e2⟩ := HX.out
        have e3 := take_more (X := X ++ ext (E.take i) Z) (ext (E.take i) (down (fillF D zs i rest) (e + 1))) (k := 401) (by rw [← e1]; omega)
        rw [List.append_assoc, ← ext_app, e2, ← HMON.out, ← e1] at e3
        have hYX : YF = X' := by rw [← HYF.out, e3]
        rw [hYX]
        exact ⟨.slice fa' X'.length fc', rfl, HF.out, HG.out⟩
      have hfb : (X'.length : Int) ≤ 400 := by omega
      have hX4 : X'.length ≤ 400 := by omega
      have heG : e ≤ 20 := by omega
      have heQ : e ≤ Q := by omega
      obtain ⟨P, hP⟩ : ∃ P, e * D = P := ⟨_, rfl⟩
      have hPr : P ≤ rest := by
       rw [← hP]
       have := (Nat.le_div_iff_mul_le (show 0 < D by omega)).1 (show e ≤ rest / D by rw [HQ.out]; exact heQ)
       exact this
      have s1 : IntKind.i64.wrap ((e : Int) * (D : Int)) = (P : Int) := by rw [← Int.natCast_mul, hP]; exact IntWalk.i64_in _ (by omega)
      obtain ⟨u, hu⟩ : ∃ u, rest - P = u := ⟨_, rfl⟩
      have s1p : IntKind.i64.wrap (P : Int) = (P : Int) := IntWalk.i64_in _ (by omega)
      have s6 : (rest : Int) - (P : Int) = (u : Int) := by omega
      have s7 : IntKind.i64.wrap (u : Int) = (u : Int) := IntWalk.i64_in _ (by omega)
      have s8 : IntKind.u8.wrap (e : Int) = (e : Int) := IntWalk.u8_in _ (by omega)
      have s9 : IntKind.i64.wrap ((i : Int) + 1) = (i : Int) + 1 := IntWalk.i64_in _ (by omega)
      have hur : u ≤ 900 := by omega
      have HPU : Hid (u = rest - e * D) := Lib.hid (by rw [hP]; omega)
      clear hP hu
      have HFI : Hid (fillF D zs i rest e = (mons (zs.drop (i + 1)) u).map ((e : Int) :: ·)) := Lib.hid (by rw [fillF, HPU.out])
      have f2 := hE.frozen i
      obtain ⟨o2, ho2⟩ := hE.has (i := i) (by have := HM.out.1; simp [mcells]; omega)
      go_upto_region 12 with fail
      have hE2 := hE.set i (.int .u8 e)
      rw [mcells_setV] at hE2
      have HF2 := Lib.hid (row_farN (p := ⟨gM, i, none⟩) HF.out HNE.out (.int .u8 e))
      have HG2 := Lib.hid (HG.out.far (p := ⟨gM, i, none⟩) (by rw [← HGM.out]; exact Nat.le_refl _) (.int .u8 e))
      have hb2 := hb.setCell (p := ⟨gM, i, none⟩) HBS.out (.int .u8 e)
      have hgl : gM < (wr.setCell ⟨gM, i, none⟩ (.int .u8 e)).heap.size := hE2.lt
      generalize wr.setCell ⟨gM, i, none⟩ (.int .u8 e) = w2 at *
      have HM2 := Lib.hid (mono_set (i := i) (x := (e : Int)) HM.out (by omega) (by omega))
      have HT2 := Lib.hid (take_set_next (E := E') (i := i) (e := (e : Int)) (by have := HM.out.1; omega))
      have HZE2 : Hid ((E'.set i (e : Int)).drop n = List.replicate (8 - n) 0) := Lib.hid (by rw [drop_set_lt hin]; exact HZE.out)
      have HL8 := Lib.hid HM.out.1
      generalize hEs : E'.set i (e : Int) = Es at *
      have HEs := Lib.hid hEs
      clear f2 ho2 hE HF HG hb hEs HM HZE
      obtain ⟨q0, q1, q2, q3, q4, q5, q6, q7, rfl⟩ := mono8 HM2.out
      have hgl' := Lib.hid hgl
      clear hgl
      replace hE2 : Own w2.drew gM 143 #[.int .u8 q0, .int .u8 q1, .int .u8 q2, .int .u8 q3, .int .u8 q4, .int .u8 q5, .int .u8 q6, .int .u8 q7] := hE2
      replace hb2 : Below w0.heap.size w0 w2.drew := hb2.drew
      have HF3 : Hid (w2.drew.ownsRow w0.heap.size 143 8 (.slice fa' X'.length fc') X'.length (mrowsV X')) := Lib.hid HF2.out
      have HG3 : Hid (FG w w2.drew (.slice fa X.length fc) (.slice fa' X'.length fc')) := Lib.hid HG2.out.drew
      have HGL : Hid (gM < w2.drew.heap.size) := hgl'
      have k5 : w2.drew.cell? ⟨b, off + i, none⟩ = some (.int .i64 D) := (World.cell?_of_block (a := ⟨b, off + i, none⟩) (hb2.block b hbl)).trans hcd
      clear HF2 HG2 hgl'
      refine wp_region_held_drew (S := (fun w' => w'.cell? ⟨gM, 0, none⟩ = some (.int .u8 q0) ∧ w'.cell? ⟨gM, 1, none⟩ = some (.int .u8 q1) ∧ w'.cell? ⟨gM, 2, none⟩ = some (.int .u8 q2) ∧ w'.cell? ⟨gM, 3, none⟩ = some (.int .u8 q3) ∧ w'.cell? ⟨gM, 4, none⟩ = some (.int .u8 q4) ∧ w'.cell? ⟨gM, 5, none⟩ = some (.int .u8 q5) ∧ w'.cell? ⟨gM, 6, none⟩ = some (.int .u8 q6) ∧ w'.cell? ⟨gM, 7, none⟩ = some (.int .u8 q7) ∧ w'.cell? ⟨b, off + i, none⟩ = some (.int .i64 D))) (by kernel_rfl) ?_ (fun _ => ?_)
      · ((try dsimp only); (exact ⟨hE2.cell 0, hE2.cell 1, hE2.cell 2, hE2.cell 3, hE2.cell 4, hE2.cell 5, hE2.cell 6, hE2.cell 7, k5⟩))
      generalize w2.drew = Wd at *
      refine hdT 0 ?_
      refine hdT 1 ?_
      refine hdT 2 ?_
      refine hdT 3 ?_
      refine hdT 4 ?_
      refine hdT 5 ?_
      refine hdT 6 ?_
      refine hdT 7 ?_
      refine hdT 8 ?_
      refine hdT 9 ?_
      refine hdT 10 ?_
      refine hdT 11 ?_
      refine hdT 12 ?_
      refine hdC 13 (fun K hK => ?_)
      have hc := ih (i := i + 1) (rest := u) (E := [q0, q1, q2, q3, q4, q5, q6, q7]) (X := X') (fa := fa') (fc := fc') (by omega) hur HM2.out HZE2.out hX4 HF3.out hb2
      rw [Int.natCast_add] at hc
      obtain ⟨Y4, hY4⟩ : ∃ Y4, (X' ++ ext (([q0, q1, q2, q3, q4, q5, q6, q7] : List Int).take (i + 1)) (mons (zs.drop (i + 1)) u)).take 401 = Y4 := ⟨_, rfl⟩
      rw [hY4] at hc
      have HY4 := Lib.hid hY4
      clear hY4
      have HC := Lib.hid hc
      clear hc
      have hbs0 := hb2.size
      (go_simp; (go_at_call 117; refine HC.out.mono ?_; rintro e1 W1 ⟨fv4, rfl, hF4, hG4⟩; (obtain ⟨fa4, fc4, hfv4⟩ := row_slice hF4); subst hfv4); go_wp2_with fail)
      have hN4 := hG4.ne HNE.out HGL.out
      replace hE2 := hG4.own hE2 HNE.out
      replace hb2 := hb2.trans (hG4.below (B := w0.heap.size) (fun q hq => (HF3.out.lt q hq).1) hbs0)
      replace hG4 := HG3.out.trans hG4
      clear HC hbs0
      replace k5 : W1.cell? ⟨b, off + i, none⟩ = some (.int .i64 D) := (World.cell?_of_block (a := ⟨b, off + i, none⟩) (hb2.block b hbl)).trans hcd
      refine hK.out _ _ ?_ (fun _ => ?_)
      · ((try dsimp only); (exact ⟨hE2.cell 0, hE2.cell 1, hE2.cell 2, hE2.cell 3, hE2.cell 4, hE2.cell 5, hE2.cell 6, hE2.cell 7, k5⟩))
      clear hK K
      (try simp only [Act.put, pA, pB, pC])
      refine hdT 14 ?_
      refine wpAnyH_done (by kernel_rfl) ?_ _
      have HF4 := Lib.hid hF4
      have HG4 := Lib.hid hG4
      have HN4 := Lib.hid hN4
      clear hF4 hG4 hN4
      go_wp2_with fail
      go_roundw
      case rel =>
       obtain ⟨Z, e1, e2⟩ := HX.out
       have e3 : (X ++ ext (E.take i) Z).take 401 = X ++ ext (E.take i) Z := take_app (by rw [← e1]; omega)
       have e4 : X' ++ ext (([q0, q1, q2, q3, q4, q5, q6, q7] : List Int).take (i + 1)) (mons (zs.drop (i + 1)) u) = X ++ ext (E.take i) (Z ++ fillF D zs i rest e) := by
        rw [HT2.out, HT.out, ← ext_cons, ← HFI.out, e1, e3, List.append_assoc, ← ext_app]
       refine ⟨e, (e : Int) - 1, [q0, q1, q2, q3, q4, q5, q6, q7], Y4, fa4, fc4, by omega, by go_num, rfl, Lib.hid rfl, hE2, HM2, Lib.hid ?_, HZE2, HF4, HG4, HN4, Lib.hid ⟨_, by rw [← HY4.out, e4], by rw [List.append_assoc]; exact e2⟩, hb2⟩
       have := congrArg (List.take i) HT2.out
       rw [List.take_take, Nat.min_eq_left (by omega), List.take_left' (by rw [List.length_take]; have := HL8.out; omega)] at this
       rw [this]
       exact HT.out
      case measure => simp [intOf] <;> omega
end Go.Proofs.YtmmicjcfnnppfaaGreat
