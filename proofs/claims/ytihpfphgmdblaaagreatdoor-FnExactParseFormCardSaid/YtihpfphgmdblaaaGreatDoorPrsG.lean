
import Derived.Test.YtihpfphgmdblaaaGreatDoorPrsF
namespace Go.Proofs.YtihpfphgmdblaaaGreatDoor
open Go.RowKit Go.Deep
def PfO (zs : List Int) (l : List UInt8) (w : World) (e : Ending) (w' : World) : Prop := ∃ (va : Option Addr) (vn vc : Nat), e = .returned (.tuple #[.agg #[.slice va vn vc], .int .i64 (pfE zs l)]) ∧ OwnR w' w.heap.size (.slice va vn vc) (pfV zs l) ∧ Below w.heap.size w w'
theorem pf_degs {zs : List Int} {l : List UInt8} (h : degsOk zs = false) : pfV zs l = [] ∧ pfE zs l = 1 := by
  rw [pfV, pfE, h]
  exact ⟨rfl, rfl⟩
theorem pf_no {zs : List Int} {l : List UInt8} (h : degsOk zs = true) (hn : paG zs l (rdF l) = none) : pfV zs l = [] ∧ pfE zs l = 6 := by
  rw [pfV, pfE, hn, if_pos h, if_pos h]
  exact ⟨rfl, rfl⟩
theorem pf_yes {zs : List Int} {l : List UInt8} {ts : List Tm} (h : degsOk zs = true) (hn : paG zs l (rdF l) = some ts) : pfV zs l = ts ∧ pfE zs l = 0 := by
  rw [pfV, pfE, hn, if_pos h, if_pos h]
  exact ⟨rfl, rfl⟩
set_option maxHeartbeats 4000000 in
set_option maxRecDepth 100000 in
theorem ParseForm_c {w : World} {da : Option Addr} {dn : Nat} {zs : List Int} (dc : Nat) (l : List UInt8) (hd : Ints w da dn zs) (hdn : dn ≤ 1048576) (hl : l.length ≤ 1048576) (hE : Errs w) (htab : Tab w) :
    Calls Tryz.prog 7 #[.slice da dn dc, str l] w fun e w' => PfO zs l w e w' := by
  have HE := Lib.hid hE
  have HD := Lib.hid hd
  have HTB := Lib.hid htab
  clear hE hd htab
  have hX := Own.new w 25 #[.slice none 0 0]
  have hb := below_alloc1 w (.cells #[.slice none 0 0] 25)
  go_enter Tryz.func7, Tryz.ntmps7
  go_upto_region 1 with fail
  generalize w.alloc (.cells #[.slice none 0 0] 25) = w1 at *
  obtain ⟨gX, hgX⟩ : ∃ g, w.heap.size = g := ⟨_, rfl⟩
  rw [hgX] at hX
  try rw [hgX]
  have hwX : w.heap.size ≤ gX := by omega
  clear hgX
  go_wp2_with fail
  refine (AreDegrees_c dc (HD.out.keep hb) hdn).mono ?_
  rintro e w1 ⟨rfl, rfl⟩
  cases hz : degsOk zs with
  | false =>
    have HV := Lib.hid (pf_degs (l := l) hz)
    clear hz
    have cX := hX.cell 0
    have fX := hX.frozen 0
    go_wp2_with fail
    have hX9 := hX.set 0 (.slice none 0 0)
    exact bodyPost_ret (results_row2 rfl _ _ gX 25 #[.slice none 0 0] (0, 0) _ rfl hX9 Tryz.underlying25 rfl Tryz.info_form) rfl ⟨none, 0, 0, by rw [HV.out.2]; rfl, by rw [HV.out.1]; exact World.ownsRow_nil _ _ _ _, hb.setCell (p := ⟨gX, 0, none⟩) hwX _⟩
  | true =>
    have HZ := Lib.hid hz
    clear hz
    go_wp2_with fail
    refine (readForm_c l w1 hl (HE.out.keep hb)).mono ?_
    rintro e w2 ⟨va, vn, vc, b, ts, rfl, hO, hTm, h4, hrd, hb2⟩
    have hXO : gX < w1.heap.size := hX.lt
    replace hX := hX.keep hb2 hX.lt
    replace hb := below_trans' hb hb2 hb.size
    clear hb2
    have hG := Own.new w2 25 #[.slice va vn vc]
    have hb3 := below_alloc1 w2 (.cells #[.slice va vn vc] 25)
    replace hX := hX.keep hb3 hX.lt
    replace hb := below_trans' hb hb3 hb.size
    replace hO := hO.keep hb3
    clear hb3
    go_upto_region 4 with fail
    generalize w2.alloc (.cells #[.slice va vn vc] 25) = w3 at *
    obtain ⟨gG, hgG⟩ : ∃ g, w2.heap.size = g := ⟨_, rfl⟩
    rw [hgG] at hG
    try rw [hgG]
    clear hgG
    cases b with
    | false =>
      have HV := Lib.hid (pf_no (l := l) HZ.out (by rw [hrd.2 rfl]; rfl))
      clear hrd hTm hO hG
      have cX := hX.cell 0
      have fX := hX.frozen 0
      go_wp2_with fail
      have hX9 := hX.set 0 (.slice none 0 0)
      exact bodyPost_ret (results_row2 rfl _ _ gX 25 #[.slice none 0 0] (0, 0) _ rfl hX9 Tryz.underlying25 rfl Tryz.info_form) rfl ⟨none, 0, 0, by rw [HV.out.2]; rfl, by rw [HV.out.1]; exact World.ownsRow_nil _ _ _ _, hb.setCell (p := ⟨gX, 0, none⟩) hwX _⟩
    | true =>
      have HRD := Lib.hid (hrd.1 rfl)
      obtain ⟨a', c', hve, hT⟩ := hO.terms hTm rfl
      simp only [Value.slice.injEq] at hve
      obtain ⟨rfl, rfl, rfl⟩ := hve
      have HO := Lib.hid hO
      have HT := Lib.hid hT
      have HTm := Lib.hid hTm
      clear hrd hO hT hTm
      have cG := hG.cell 0
      go_wp2_with fail
      refine (IsForm_c dc vc (HD.out.keep hb) hdn HT.out (by omega)).mono ?_
      rintro e w4 ⟨rfl, hb4⟩
      clear cG
      have hG4 := hG.keep hb4 hG.lt
      replace hX := hX.keep hb4 hX.lt
      replace hb := below_trans' hb hb4 hb.size
      have HT4 := Lib.hid (HT.out.keep hb4)
      have HO4 := Lib.hid (HO.out.keep hb4)
      clear hb4 hG HT HO
      cases hi : isForm zs ts with
      | false =>
        have HV := Lib.hid (pf_no (l := l) HZ.out (by rw [HRD.out, paG]; exact if_neg (by rw [hi]; simp)))
        clear hi
        have cX := hX.cell 0
        have fX := hX.frozen 0
        go_wp2_with fail
        have hX9 := hX.set 0 (.slice none 0 0)
        exact bodyPost_ret (results_row2 rfl _ _ gX 25 #[.slice none 0 0] (0, 0) _ rfl hX9 Tryz.underlying25 rfl Tryz.info_form) rfl ⟨none, 0, 0, by rw [HV.out.2]; rfl, by rw [HV.out.1]; exact World.ownsRow_nil _ _ _ _, hb.setCell (p := ⟨gX, 0, none⟩) hwX _⟩
      | true =>
        have HF := Lib.hid (isForm_fine hi HTm.out).1
        have HI := Lib.hid hi
        clear hi
        have cG := hG4.cell 0
        go_wp2_with fail
        refine (textOfForm_c vc HT4.out h4 HF.out (HTB.out.keep hb (Nat.le_refl _))).mono ?_
        rintro e w5 ⟨rfl, hb5⟩
        clear cG
        have hG5 := hG4.keep hb5 hG4.lt
        replace hX := hX.keep hb5 hX.lt
        replace hb := below_trans' hb hb5 hb.size
        have HO5 := Lib.hid (HO4.out.keep hb5)
        clear hb5 hG4 HO4 HT4
        cases hq : (textF ts == l) with
        | false =>
          have HV := Lib.hid (pf_no (zs := zs) (l := l) HZ.out (by rw [HRD.out, paG]; exact if_neg (by rintro ⟨-, h⟩; rw [h] at hq; simp at hq)))
          have cX := hX.cell 0
          have fX := hX.frozen 0
          go_wp2_with fail
          have hX9 := hX.set 0 (.slice none 0 0)
          exact bodyPost_ret (results_row2 rfl _ _ gX 25 #[.slice none 0 0] (0, 0) _ rfl hX9 Tryz.underlying25 rfl Tryz.info_form) rfl ⟨none, 0, 0, by rw [HV.out.2]; rfl, by rw [HV.out.1]; exact World.ownsRow_nil _ _ _ _, hb.setCell (p := ⟨gX, 0, none⟩) hwX _⟩
        | true =>
          have hqe : textF ts = l := by simpa using hq
          have HV := Lib.hid (pf_yes (zs := zs) (l := l) (ts := ts) HZ.out (by rw [HRD.out, paG]; exact if_pos ⟨HI.out, hqe⟩))
          clear hqe
          have cX := hX.cell 0
          have fX := hX.frozen 0
          have cG := hG5.cell 0
          go_wp2_with fail
          have hX9 := hX.set 0 (.slice va ts.length vc)
          exact bodyPost_ret (results_row2 rfl _ _ gX 25 #[.slice va ts.length vc] (0, 0) _ rfl hX9 Tryz.underlying25 rfl Tryz.info_form) rfl ⟨va, ts.length, vc, by rw [HV.out.2]; rfl, by rw [HV.out.1]; exact (HO5.out.set (p := ⟨gX, 0, none⟩) (by dsimp only; exact hXO) _).weaken (by omega), hb.setCell (p := ⟨gX, 0, none⟩) hwX _⟩
end Go.Proofs.YtihpfphgmdblaaaGreatDoor
