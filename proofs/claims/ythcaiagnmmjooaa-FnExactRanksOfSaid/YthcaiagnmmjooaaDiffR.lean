/- The program's differential of a form, as sums in a map of its own; addDifferential's contract is its premise. -/
import Derived.Test.YthcaiagnmmjooaaDiffQ
import Derived.Test.YthcaiagnmmjooaaAlg
namespace Go.Proofs.Ythcaiagnmmjooaa
open Go.RowKit Go.Deep Go.Maps

theorem Frms.grown {w w' : World} {a : Option Addr} {n b k : Nat} {fss : List (List Tm)} {S : List Int → Int} (h : Frms w a n fss) (hM : MapIs w b k S) (hg : w.grownBy w' (some b)) : Frms w' a n fss := by
  obtain ⟨hl, hr⟩ := h
  refine ⟨hl, fun hn => ?_⟩
  obtain ⟨b', off, ha, hlt, hc⟩ := hr hn
  have hne : b' ≠ b := by
    intro e
    subst e
    have h0 : fss[0]? = some fss[0] := List.getElem?_eq_getElem (by omega)
    obtain ⟨ai, ni, ci, h1, -, -⟩ := hc 0 _ h0
    rw [hM.nocell] at h1
    cases h1
  refine ⟨b', off, ha, Nat.lt_of_lt_of_le hlt hg.size, fun i ts hi => ?_⟩
  obtain ⟨ai, ni, ci, h1, h2, h3⟩ := hc i ts hi
  exact ⟨ai, ni, ci, (World.cell?_of_block (a := ⟨b', off + i, none⟩) (hg.block b' hlt (by simpa using hne))).trans h1, h2.grown hM hg, h3⟩
theorem termS_bd {zs : List Int} {ims : List (List Tm)} {t : Tm} {S : List Int → Int} (h : ∀ m, 0 ≤ S m ∧ S m ≤ 10006) : ∀ i m, 0 ≤ termS zs ims t S i m ∧ termS zs ims t S i m ≤ 10006
  | 0, m => h m
  | i + 1, m => by
    rw [termS]
    split
    · exact addP_bd (fun m => termS_bd h i m) m
    · exact termS_bd h i m
theorem diffS_bd {zs : List Int} {ims : List (List Tm)} : ∀ {fs : List Tm} {S : List Int → Int}, (∀ m, 0 ≤ S m ∧ S m ≤ 10006) → ∀ m, 0 ≤ diffS zs ims S fs m ∧ diffS zs ims S fs m ≤ 10006
  | [], _, h => h
  | t :: fs, S, h => diffS_bd (fs := fs) (S := termS zs ims t S ims.length) (termS_bd h _)
theorem diffS_take {zs : List Int} {ims : List (List Tm)} {t : Tm} {S : List Int → Int} {fs : List Tm} {i : Nat} (h : fs[i]? = some t) : diffS zs ims S (fs.take (i + 1)) = termS zs ims t (diffS zs ims S (fs.take i)) ims.length := by
  rw [diffS, diffS, List.take_add_one, h, List.foldl_append]; rfl
/-- The map's block lies behind w: what grew there is nothing that w has. -/
theorem bel_grown {w w0 w1 : World} {b : Nat} (hb : Below w.heap.size w w0) (hg : w0.grownBy w1 (some b)) (h : w.heap.size ≤ b) : Below w.heap.size w w1 :=
  grown_below hb hg (fun k e => by cases e; exact h) hb.size

set_option maxHeartbeats 8000000 in
set_option maxRecDepth 100000 in
theorem differentialOf_p {w : World} {da : Option Addr} {dn : Nat} {zs : List Int} {a : Option Addr} {n : Nat} {ims : List (List Tm)} {a2 : Option Addr} {n2 : Nat} {fs : List Tm} (dc c c2 : Nat) (hd : Ints w da dn zs) (hF : Frms w a n ims) (_hn : n ≤ 8) (h : Terms w a2 n2 fs) (hn2 : n2 ≤ 1048576) (h400 : n2 ≤ 400)
    (HADD : ∀ (wx : World) (b N : Nat) (S : List Int → Int) (p0 p1 p2 p3 p4 p5 p6 p7 f : Int), ⟨[p0, p1, p2, p3, p4, p5, p6, p7], f⟩ ∈ fs → Ints wx da dn zs → Frms wx a n ims → MapIs wx b N S → N ≤ 1280000 → (∀ m, 0 ≤ S m ∧ S m ≤ 10006) →
      Calls Try.prog 157 #[.map (some b), .agg #[.slice da dn dc, .slice a n c], .agg #[.int .u8 p0, .int .u8 p1, .int .u8 p2, .int .u8 p3, .int .u8 p4, .int .u8 p5, .int .u8 p6, .int .u8 p7, .int .i64 f]] wx fun e w' => e = .returned (.tuple #[]) ∧ MapIs w' b (N + 3200) (termS zs ims ⟨[p0, p1, p2, p3, p4, p5, p6, p7], f⟩ S n) ∧ wx.grownBy w' (some b)) :
    Calls Try.prog 123 #[.agg #[.slice da dn dc, .slice a n c], .agg #[.slice a2 n2 c2]] w fun e w' => ∃ b, e = .returned (.map (some b)) ∧ w.heap.size ≤ b ∧ MapIs w' b (n2 * 3200) (diffS zs ims zeroL fs) ∧ Below w.heap.size w w' := by
  have hl2 := h.len
  have HL := Lib.hid hF.len
  have HA := Lib.hid HADD
  have HT := Lib.hid h
  have HD := Lib.hid hd
  have HFF := Lib.hid hF
  clear HADD
  have hA := (Own.new w 44 #[.slice da dn dc, .slice a n c]).alloc (.cells #[.slice a2 n2 c2] 59)
  have hG := Own.new (w.alloc (.cells #[.slice da dn dc, .slice a n c] 44)) 59 #[.slice a2 n2 c2]
  simp only [size_alloc] at hG
  have hb := below_then (below_alloc1 w (.cells #[.slice da dn dc, .slice a n c] 44)) (below_alloc1 _ (.cells #[.slice a2 n2 c2] 59))
  generalize hg1 : w.heap.size + 1 = gG at *
  generalize hg0 : w.heap.size = gA at *
  go_enter Try.func123, Try.ntmps123
  go_upto_region 1 with fail
  generalize (w.alloc (.cells #[.slice da dn dc, .slice a n c] 44)).alloc (.cells #[.slice a2 n2 c2] 59) = w0 at *
  try simp only [hg0, hg1]
  have hmm := @run_makeMap Try.prog
  have hM := mapIs_made w0
  have hbb : gA ≤ w0.heap.size := by have := hA.lt; omega
  replace hA := hA.alloc (.map #[] 0)
  replace hG := hG.alloc (.map #[] 0)
  replace hb := below_trans' hb (below_alloc1 w0 (.map #[] 0)) hbb
  have cG := hG.cell 0
  go_wp2_with fail
  clear cG hmm
  generalize w0.alloc (.map #[] 0) = w3 at *
  generalize hgb : w0.heap.size = b at *
  clear hgb
  go_loopw [12] (fun x wr => ∃ i : Nat, i ≤ n2 ∧ x = .int .i64 i ∧ Below gA w wr ∧ Own wr gA 44 #[.slice da dn dc, .slice a n c] ∧ MapIs wr b (i * 3200) (diffS zs ims zeroL (fs.take i))) (fun x _ => n2 - (intOf x).toNat)
  case atStart => exact ⟨0, Nat.zero_le _, rfl, hb, hA, by rw [List.take_zero]; exact hM.mono (Nat.zero_le _)⟩
  case round =>
    clear hb hA hM hG
    obtain ⟨i, hi, rfl, hb, hA, hM⟩ := hrel
    subst hg0
    by_cases hi1 : i < n2
    · obtain ⟨b1, o1, t, rfl, hbl1, hr10, ht, hx⟩ := (HT.out.keep hb).at_ hi1
      obtain ⟨mt, tf⟩ := t
      have hmt : IsMono mt := ht.1
      obtain ⟨p0, p1, p2, p3, p4, p5, p6, p7, rfl⟩ := mono8 hmt
      obtain ⟨y0, y1, y2, y3, y4, y5, y6, y7, y8⟩ := nine hr10
      have hmem := List.mem_of_getElem? hx.out
      have hT := Own.new wr 65 #[.int .u8 p0, .int .u8 p1, .int .u8 p2, .int .u8 p3, .int .u8 p4, .int .u8 p5, .int .u8 p6, .int .u8 p7, .int .i64 tf]
      have hba := below_alloc1 wr (.cells #[.int .u8 p0, .int .u8 p1, .int .u8 p2, .int .u8 p3, .int .u8 p4, .int .u8 p5, .int .u8 p6, .int .u8 p7, .int .i64 tf] 65)
      replace hA := hA.alloc (.cells #[.int .u8 p0, .int .u8 p1, .int .u8 p2, .int .u8 p3, .int .u8 p4, .int .u8 p5, .int .u8 p6, .int .u8 p7, .int .i64 tf] 65)
      replace hM := hM.keep hba
      replace hb := below_trans' hb hba hb.size
      have cA0 := hA.cell 0
      have cA1 := hA.cell 1
      have c0 := hT.cell 0
      have c1 := hT.cell 1
      have c2' := hT.cell 2
      have c3 := hT.cell 3
      have c4 := hT.cell 4
      have c5 := hT.cell 5
      have c6 := hT.cell 6
      have c7 := hT.cell 7
      have c8 := hT.cell 8
      have hi0 : (0 : Int) ≤ (i : Int) := by omega
      have hin : (i : Int) < (n2 : Int) := by omega
      go_wp2_with fail
      clear y0 y1 y2 y3 y4 y5 y6 y7 y8 cA0 cA1 c0 c1 c2' c3 c4 c5 c6 c7 c8 hba hT
      generalize wr.alloc (.cells #[.int .u8 p0, .int .u8 p1, .int .u8 p2, .int .u8 p3, .int .u8 p4, .int .u8 p5, .int .u8 p6, .int .u8 p7, .int .i64 tf] 65) = wt at *
      refine (HA.out wt b _ _ _ _ _ _ _ _ _ _ _ hmem (HD.out.keep hb) (HFF.out.keep hb) hM (by omega) (diffS_bd (fun _ => by simp [zeroL]))).mono ?_
      rintro e wz ⟨rfl, hM2, hgr⟩
      replace hA := hA.grownM hM hgr
      replace hb := bel_grown hb hgr (by omega)
      go_wp2_with fail
      go_roundw
      case rel => exact ⟨i + 1, by omega, by go_num, hb, hA, by rw [diffS_take hx.out, HL.out]; exact hM2.mono (by omega)⟩
      case measure => simp [intOf] <;> omega
    · have he : i = n2 := by omega
      subst he
      rw [List.take_of_length_le (Nat.le_of_eq hl2)] at hM
      go_wp2_with fail
      go_ret
      exact ⟨b, rfl, by omega, hM, hb⟩

end Go.Proofs.Ythcaiagnmmjooaa
