
import Derived.Test.YtihpfphgmdblaaaGreatDoorPrsR
namespace Go.Proofs.YtihpfphgmdblaaaGreatDoor
open Go.RowKit Go.Deep
set_option maxHeartbeats 4000000 in
set_option maxRecDepth 100000 in
theorem ParseForm_s {w : World} {da : Option Addr} {dn : Nat} {zs : List Int} (dc : Nat) (l : List UInt8) (hd : Ints w da dn zs) (hdn : dn ≤ 1048576) (hl : l.length ≤ 1048576) :
    Calls Tryz.prog 5 #[.slice da dn dc, str l] w fun e w' => PfO zs l w e w' := by
  have HD := Lib.hid hd
  clear hd
  have hX := Own.new w 25 #[.slice none 0 0]
  have hb := below_alloc1 w (.cells #[.slice none 0 0] 25)
  go_enter Tryz.func5, Tryz.ntmps5
  go_upto_region 1 with fail
  generalize w.alloc (.cells #[.slice none 0 0] 25) = w1 at *
  obtain ⟨gX, hgX⟩ : ∃ g, w.heap.size = g := ⟨_, rfl⟩
  rw [hgX] at hX
  try rw [hgX]
  have hwX : w.heap.size ≤ gX := by omega
  clear hgX
  go_wp2_with fail
  refine (l01Degrees_c dc (HD.out.keep hb) hdn).mono ?_
  rintro e w1 ⟨rfl, rfl⟩
  cases hz : degsOk zs with
  | false =>
    have HV := Lib.hid (pf_degs (l := l) hz)
    clear hz
    have cX := hX.cell 0
    have fX := hX.frozen 0
    go_wp2_with fail
    have hX9 := hX.set 0 (.slice none 0 0)
    exact bodyPost_ret (results_row2 rfl _ _ gX 25 #[.slice none 0 0] (0, 0) _ rfl hX9 Tryz.underlying25 rfl Tryz.info_form) rfl ⟨none, 0, 0, by rw [HV.out.2]; rfl, by rw [HV.out.1]; exact World.ownsRow_nil _ _ _ _, hb.setCell (p := ⟨gX, 0, none⟩) hwX _⟩
  | true =>
    have HZ := Lib.hid hz
    clear hz
    go_wp2_with fail
    refine (l01Read_c dc l (HD.out.keep hb) hdn HZ.out hl).mono ?_
    rintro e w2 ⟨va, vn, vc, b, ts, rfl, hO, hTm, hpa, hb2⟩
    have hXO : gX < w1.heap.size := hX.lt
    replace hX := hX.keep hb2 hX.lt
    replace hb := below_trans' hb hb2 hb.size
    clear hb2 hTm
    have hG := Own.new w2 25 #[.slice va vn vc]
    have hb3 := below_alloc1 w2 (.cells #[.slice va vn vc] 25)
    replace hX := hX.keep hb3 hX.lt
    replace hb := below_trans' hb hb3 hb.size
    have HO := Lib.hid (hO.keep hb3)
    clear hb3 hO
    go_upto_region 4 with fail
    generalize w2.alloc (.cells #[.slice va vn vc] 25) = w3 at *
    obtain ⟨gG, hgG⟩ : ∃ g, w2.heap.size = g := ⟨_, rfl⟩
    rw [hgG] at hG
    try rw [hgG]
    clear hgG
    cases b with
    | false =>
      have HV := Lib.hid (pf_no (l := l) HZ.out (by rw [paG_same]; exact hpa.2 rfl))
      clear hpa hG
      have cX := hX.cell 0
      have fX := hX.frozen 0
      go_wp2_with fail
      have hX9 := hX.set 0 (.slice none 0 0)
      exact bodyPost_ret (results_row2 rfl _ _ gX 25 #[.slice none 0 0] (0, 0) _ rfl hX9 Tryz.underlying25 rfl Tryz.info_form) rfl ⟨none, 0, 0, by rw [HV.out.2]; rfl, by rw [HV.out.1]; exact World.ownsRow_nil _ _ _ _, hb.setCell (p := ⟨gX, 0, none⟩) hwX _⟩
    | true =>
      have HV := Lib.hid (pf_yes (l := l) (ts := ts) HZ.out (by rw [paG_same]; exact hpa.1 rfl))
      have cX := hX.cell 0
      have fX := hX.frozen 0
      have cG := hG.cell 0
      clear hpa
      go_wp2_with fail
      have hX9 := hX.set 0 (.slice va vn vc)
      exact bodyPost_ret (results_row2 rfl _ _ gX 25 #[.slice va vn vc] (0, 0) _ rfl hX9 Tryz.underlying25 rfl Tryz.info_form) rfl ⟨va, vn, vc, by rw [HV.out.2]; rfl, by rw [HV.out.1]; exact (HO.out.set (p := ⟨gX, 0, none⟩) (by dsimp only; exact hXO) _).weaken (by omega), hb.setCell (p := ⟨gX, 0, none⟩) hwX _⟩
end Go.Proofs.YtihpfphgmdblaaaGreatDoor
