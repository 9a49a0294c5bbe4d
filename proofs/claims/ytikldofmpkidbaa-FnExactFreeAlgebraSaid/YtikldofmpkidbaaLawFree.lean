
import Derived.Test.YtikldofmpkidbaaFree
namespace Go.Proofs.Ytikldofmpkidbaa
open Go.RowKit Go.Deep
theorem own_ne {w : World} {g g' : Nat} {t t' : TypeId} {cs cs' : Array Value} (h : Own w g t cs) (h' : Own w g' t' cs') (hne : t ≠ t') : g ≠ g' :=
  fun e => hne (by
    have k : some (Obj.cells cs t (0, 0)) = some (Obj.cells cs' t' (0, 0)) := (show w.heap[g]? = _ from h).symm.trans (show w.heap[g]? = _ by rw [e]; exact h')
    cases k
    rfl)
theorem OwnE.only {w w' : World} {lo hi n g : Nat} {b : Option Addr} {cs : Array Value} (h : OwnE w lo hi b n) (ho : Only g w w') (hg : Own w g 2 cs) : OwnE w' lo hi b n :=
  fun hn => by
    obtain ⟨g', h1, h2, h3, h4⟩ := h hn
    exact ⟨g', h1, h2, h3, ho.own h4 (fun e => own_ne h4 hg (by decide) e)⟩
theorem markTermS0_c {w : World} (a : Option Addr) (c : Nat) (K : Int) : Calls Try.prog 92 #[.slice a 0 c, .int .i64 K] w fun e w' => e = .returned (.int .i64 K) ∧ Below w.heap.size w w' := by
  go_enter Try.func92, Try.ntmps92
  go_wp2
  go_loopw [5, 1] (fun i v wr => i = .int .i64 0 ∧ v = .int .i64 K ∧ wr = w) (fun _ _ _ => 0)
  case atStart => exact ⟨rfl, rfl, rfl⟩
  case round =>
    obtain ⟨rfl, rfl, rfl⟩ := hrel
    go_wp2
    go_ret
    exact ⟨rfl, Below.refl _ _⟩
theorem heldTermS0_c {w : World} (a : Option Addr) (c : Nat) (K : Int) : Calls Try.prog 93 #[.slice a 0 c, .int .i64 K] w fun e w' => e = .returned (.int .i64 K) ∧ Below w.heap.size w w' := by
  go_enter Try.func93, Try.ntmps93
  go_wp2
  go_loopw [5, 1] (fun i v wr => i = .int .i64 0 ∧ v = .int .i64 K ∧ wr = w) (fun _ _ _ => 0)
  case atStart => exact ⟨rfl, rfl, rfl⟩
  case round =>
    obtain ⟨rfl, rfl, rfl⟩ := hrel
    go_wp2
    go_ret
    exact ⟨rfl, Below.refl _ _⟩
set_option maxRecDepth 100000 in
theorem markFormS0_c {w : World} {b : Option Addr} {n : Nat} (c : Nat) (K : Int) (h : Frms w b n (List.replicate n [])) (hn : n ≤ 1048576) :
    Calls Try.prog 54 #[.slice b n c, .int .i64 K] w fun e w' => e = .returned (.int .i64 K) ∧ Below w.heap.size w w' := by
  have HH := Lib.hid h
  go_enter Try.func54, Try.ntmps54
  go_wp2_with fail
  go_loopw [5, 1] (fun i v wr => ∃ k : Nat, k ≤ n ∧ i = .int .i64 k ∧ v = .int .i64 K ∧ Below w.heap.size w wr) (fun i _ _ => n - (intOf i).toNat)
  case atStart => exact ⟨0, Nat.zero_le _, rfl, rfl, Below.refl _ _⟩
  case round =>
    obtain ⟨k, hk, rfl, rfl, hb⟩ := hrel
    by_cases hlt : k < n
    · obtain ⟨bb, off, ts, ai, ni, ci, rfl, hbl, hc, hT, hni, hx⟩ := (HH.out.keep hb).at_ hlt
      obtain rfl : ni = 0 := by
        have h1 := hx.out
        rw [List.getElem?_replicate, if_pos hlt] at h1
        injection h1 with h1
        have := hT.len
        rw [← h1] at this
        exact this.symm
      have hk0 : (0 : Int) ≤ (k : Int) := by omega
      have hkn : (k : Int) < (n : Int) := by omega
      clear hT hni hx
      go_wp2_with fail
      refine (markTermS0_c ai ci K).mono ?_
      rintro e w1 ⟨rfl, hb1⟩
      go_wp2_with fail
      go_roundw
      case rel => exact ⟨k + 1, by omega, by go_num, rfl, below_trans' hb hb1 hb.size⟩
      case measure => simp [intOf] <;> omega
    · have he : k = n := by omega
      subst he
      go_wp2_with fail
      go_ret
      exact ⟨rfl, hb⟩
set_option maxRecDepth 100000 in
theorem heldFormS0_c {w : World} {b : Option Addr} {n : Nat} (c : Nat) (K : Int) (hK : 0 ≤ K) (h : Frms w b n (List.replicate n [])) (hn : n ≤ 1048576) :
    Calls Try.prog 55 #[.slice b n c, .int .i64 K] w fun e w' => e = .returned (.int .i64 K) ∧ Below w.heap.size w w' := by
  have HH := Lib.hid h
  go_enter Try.func55, Try.ntmps55
  go_wp2_with fail
  go_loopw [5, 1] (fun i v wr => ∃ k : Nat, k ≤ n ∧ i = .int .i64 k ∧ v = .int .i64 K ∧ Below w.heap.size w wr) (fun i _ _ => n - (intOf i).toNat)
  case atStart => exact ⟨0, Nat.zero_le _, rfl, rfl, Below.refl _ _⟩
  case round =>
    obtain ⟨k, hk, rfl, rfl, hb⟩ := hrel
    by_cases hlt : k < n
    · obtain ⟨bb, off, ts, ai, ni, ci, rfl, hbl, hc, hT, hni, hx⟩ := (HH.out.keep hb).at_ hlt
      obtain rfl : ni = 0 := by
        have h1 := hx.out
        rw [List.getElem?_replicate, if_pos hlt] at h1
        injection h1 with h1
        have := hT.len
        rw [← h1] at this
        exact this.symm
      have hk0 : (0 : Int) ≤ (k : Int) := by omega
      have hkn : (k : Int) < (n : Int) := by omega
      clear hT hni hx
      go_wp2_with fail
      refine (heldTermS0_c ai ci K).mono ?_
      rintro e w1 ⟨rfl, hb1⟩
      go_wp2_with fail
      go_roundw
      case rel => exact ⟨k + 1, by omega, by go_num, rfl, below_trans' hb hb1 hb.size⟩
      case measure => simp [intOf] <;> omega
    · have he : k = n := by omega
      subst he
      go_wp2_with fail
      go_ret
      exact ⟨rfl, hb⟩
set_option maxRecDepth 100000 in
theorem markAlgebra0_c {w : World} {lo hi n g : Nat} {a b : Option Addr} {cs : Array Value} {K : Int} (ac bc : Nat) (h : Own w g 2 cs) (hs : n ≤ cs.size) (ha : 0 < n → a = some ⟨g, 0, none⟩) (hE : OwnE w lo hi b n) (hn : n ≤ 1048576) (hK : 0 ≤ K) (hK2 : K ≤ 100000000) :
    Calls Try.prog 26 #[.agg #[.slice a n ac, .slice b n bc], .int .i64 K] w fun e w' => e = .returned (.int .i64 (K + n)) ∧ Own w' g 2 (markA (mkI K) cs n) ∧ OwnE w' lo hi b n ∧ Touch (fun k => k = g) w w' := by
  have hb := below_alloc1 w (.cells #[.slice a n ac, .slice b n bc] 33)
  have hA := Own.new w 33 #[.slice a n ac, .slice b n bc]
  have h1 := h.keep hb h.lt
  have hE1 := hE.keep hb
  have hgn : g ≠ w.heap.size := by have := h.lt; omega
  have c0 := hA.cell 0
  go_enter Try.func26, Try.ntmps26
  go_upto_region 1 with fail
  generalize w.alloc (.cells #[.slice a n ac, .slice b n bc] 33) = w0 at *
  go_wp2_with fail
  refine (markInt64S_c ac h1 hs ha hn hK hK2).mono ?_
  rintro e w1 ⟨rfl, hM, hOn⟩
  have hA1 := hOn.own hA (fun e => hgn e.symm)
  have hE2 := hE1.only hOn h1
  have c1 := hA1.cell 1
  clear c0 hgn hA hE1
  go_wp2_with fail
  refine (markFormS0_c bc _ hE2.frms hn).mono ?_
  rintro e w2 ⟨rfl, hb2⟩
  go_wp2_with fail
  go_ret
  exact ⟨rfl, hM.keep hb2 hM.lt, hE2.keep hb2, (Touch.of_below hb).trans ((Touch.of_only hOn).trans (Touch.of_below hb2))⟩
set_option maxRecDepth 100000 in
theorem heldAlgebra0_c {w : World} {lo hi n g : Nat} {a b : Option Addr} {cs : Array Value} {K : Int} (ac bc : Nat) (h : Own w g 2 (markA (mkI K) cs n)) (hs : n ≤ cs.size) (ha : 0 < n → a = some ⟨g, 0, none⟩) (hE : OwnE w lo hi b n) (hn : n ≤ 1048576) (hK : 0 ≤ K) (hK2 : K ≤ 100000000) :
    Calls Try.prog 59 #[.agg #[.slice a n ac, .slice b n bc], .int .i64 K] w fun e w' => e = .returned (.int .i64 (K + n)) ∧ Below w.heap.size w w' := by
  have hb := below_alloc1 w (.cells #[.slice a n ac, .slice b n bc] 33)
  have hA := Own.new w 33 #[.slice a n ac, .slice b n bc]
  have h1 := h.keep hb h.lt
  have hE1 := hE.keep hb
  have c0 := hA.cell 0
  go_enter Try.func59, Try.ntmps59
  go_upto_region 1 with fail
  generalize w.alloc (.cells #[.slice a n ac, .slice b n bc] 33) = w0 at *
  go_wp2_with fail
  refine (heldInt64S_c ac h1 hs ha hn hK hK2).mono ?_
  rintro e w1 ⟨rfl, hb1⟩
  have hA1 := hA.keep hb1 hA.lt
  have hE2 := hE1.keep hb1
  have hb2 := below_trans' hb hb1 hb.size
  have c1 := hA1.cell 1
  clear c0 hA hE1 hb hb1
  have hkn : 0 ≤ K + (n : Int) := by omega
  generalize hKn : K + (n : Int) = K2 at *
  go_wp2_with fail
  refine (heldFormS0_c bc _ hkn hE2.frms hn).mono ?_
  rintro e w2 ⟨rfl, hb3⟩
  go_wp2_with fail
  go_ret
  exact ⟨ret_i hKn.symm, below_trans' hb2 hb3 hb2.size⟩
set_option maxHeartbeats 8000000 in
set_option maxRecDepth 100000 in
theorem lawFree_walk (da : Option Addr) (dn dc : Nat) (zs : List Int) (w : World) (hd : Ints w da dn zs)
    (V : List Int) (E : Int) (nV : Nat) (hnV : V.length = nV) (hVl : nV ≤ 1048576)
    (CS : ∀ (w' : World) (g' dc' : Nat), dn ≤ 1048576 → Own w' g' 2 ((zs.map (Value.int .i64)).toArray) → Calls Try.prog 56 #[.slice (some ⟨g', 0, none⟩) dn dc'] w' fun e w'' => ∃ a an ac b bc, e = .returned (.tuple #[.agg #[.slice a an ac, .slice b an bc], .int .i64 E]) ∧ OwnV w'' w'.heap.size w''.heap.size a an V ∧ OwnE w'' w'.heap.size w''.heap.size b an ∧ Below w'.heap.size w' w'')
    (CC : ∀ (w' : World) (g' dc' : Nat), dn ≤ 1048576 → Own w' g' 2 ((zs.map (Value.int .i64)).toArray) → Calls Try.prog 58 #[.slice (some ⟨g', 0, none⟩) dn dc'] w' fun e w'' => ∃ a an ac b bc, e = .returned (.tuple #[.agg #[.slice a an ac, .slice b an bc], .int .i64 E]) ∧ OwnV w'' w'.heap.size w''.heap.size a an V ∧ OwnE w'' w'.heap.size w''.heap.size b an ∧ Below w'.heap.size w' w'') :
    Calls Try.prog 13 #[.slice da dn dc] w fun e w' => e = .returned (.bool true) ∧ Below w.heap.size w w' := by
  have HL := Lib.hid hd.len
  have HD := Lib.hid hd
  have HCS := Lib.hid CS
  have HCC := Lib.hid CC
  have HnV := Lib.hid hnV
  clear CS CC hnV
  by_cases hdn : dn ≤ 1048576
  rotate_left
  · have hgt : (dn : Int) > 1048576 := by omega
    go_enter Try.func13, Try.ntmps13
    go_wp2_with fail
    go_ret
    exact ⟨rfl, Below.refl _ _⟩
  have hE0 : ∀ ts ∈ List.replicate nV ([] : List Tm), (ts.length : Int) ≤ 1048576 := by
    intro ts h
    rw [List.mem_replicate] at h
    rw [h.2]
    simp
  have HE0 := Lib.hid hE0
  clear hE0
  have hsz : dn ≤ ((zs.map (Value.int .i64)).toArray).size := by have := HL.out; simp; omega
  have HSZ := Lib.hid hsz
  clear hsz
  go_enter Try.func13, Try.ntmps13
  go_wp2_with fail
  refine (toInt64S_b dc hd hdn).mono ?_
  rintro e w1 ⟨g1, rfl, hg1, hi1, hb⟩
  go_wp2_with fail
  refine (HCS.out _ _ _ hdn hi1).mono ?_
  rintro e wS ⟨sa, sn, sc, sb, sbc, rfl, hvS0, heS0, hbS⟩
  have hsn : nV = sn := by rw [← HnV.out, hvS0.1]
  subst hsn
  have hvS := hvS0.weaken (lo' := w.heap.size) hb.size (Nat.le_refl _)
  have heS := heS0.weaken (lo' := w.heap.size) hb.size (Nat.le_refl _)
  replace hb := below_trans' hb hbS hb.size
  clear hi1 hbS hvS0 heS0 hg1
  go_upto_region 4 with fail
  have hba := below_alloc1 wS (.cells #[.slice sa nV sc, .slice sb nV sbc] 33)
  have hS := Own.new wS 33 #[.slice sa nV sc, .slice sb nV sbc]
  have hGS : w.heap.size ≤ wS.heap.size := hb.size
  replace hb := below_trans' hb hba hb.size
  replace hvS := hvS.keep hba
  replace heS := heS.keep hba
  generalize wS.alloc (.cells #[.slice sa nV sc, .slice sb nV sbc] 33) = wx at *
  generalize wS.heap.size = gS at *
  clear hba
  have hSx := hS.lt
  go_wp2_with fail
  refine (toInt64S_b dc (HD.out.keep hb) hdn).mono ?_
  rintro e w2 ⟨kd, rfl, hkd, hi0, hb2⟩
  have hi : Own w2 kd 2 ((zs.map (Value.int .i64)).toArray) := hi0
  replace hb := below_trans' hb hb2 hb.size
  replace hvS := hvS.keep hb2
  replace heS := heS.keep hb2
  replace hS := hS.keep hb2 hS.lt
  have hSk : gS < kd := by omega
  clear hb2 hi0 hSx hkd
  have hil := hi.lt
  go_wp2_with fail
  refine (HCC.out _ _ _ hdn hi).mono ?_
  rintro e wR ⟨ra, rn, rc, rb, rbc, rfl, hvR0, heR0, hbR⟩
  have hrn : nV = rn := by rw [← HnV.out, hvR0.1]
  subst hrn
  have hvR := hvR0.weaken (lo' := kd + 1) (by omega) (Nat.le_refl _)
  have heR := heR0.weaken (lo' := kd + 1) (by omega) (Nat.le_refl _)
  replace hb := below_trans' hb hbR hb.size
  replace hvS := hvS.keep hbR
  replace heS := heS.keep hbR
  replace hS := hS.keep hbR hS.lt
  replace hi := hi.keep hbR hil
  have hkR : kd < wR.heap.size := hi.lt
  clear hbR hvR0 heR0 hil
  go_upto_region 6 with fail
  have hba := below_alloc1 wR (.cells #[.slice ra nV rc, .slice rb nV rbc] 33)
  have hR := Own.new wR 33 #[.slice ra nV rc, .slice rb nV rbc]
  replace hb := below_trans' hb hba hb.size
  replace hvS := hvS.keep hba
  replace heS := heS.keep hba
  replace hS := hS.keep hba hS.lt
  replace hi := hi.keep hba hi.lt
  replace hvR := hvR.keep hba
  replace heR := heR.keep hba
  generalize wR.alloc (.cells #[.slice ra nV rc, .slice rb nV rbc] 33) = wy at *
  generalize wR.heap.size = gR at *
  clear hba
  have hne1 : (E != E) = false := by simp
  have s0 := hS.cell 0
  have s1 := hS.cell 1
  have r0 := hR.cell 0
  have r1 := hR.cell 1
  go_wp2_with fail
  clear s0 s1 r0 r1
  refine (eqAlgebra_c _ _ _ _ hvR.ints hvS.ints hVl heR.frms heS.frms hVl HE0.out).mono ?_
  rintro e w3 ⟨rfl, hbE⟩
  replace hb := below_trans' hb hbE hb.size
  replace hvS := hvS.keep hbE
  replace heS := heS.keep hbE
  replace hS := hS.keep hbE hS.lt
  replace hi := hi.keep hbE hi.lt
  replace hvR := hvR.keep hbE
  replace heR := heR.keep hbE
  replace hR := hR.keep hbE hR.lt
  clear hbE
  go_wp2_with fail
  refine (toInt64S_b dc (HD.out.keep hb) hdn).mono ?_
  rintro e w4 ⟨md, rfl, hmd, mi, hbE⟩
  replace hb := below_trans' hb hbE hb.size
  replace hvS := hvS.keep hbE
  replace heS := heS.keep hbE
  replace hS := hS.keep hbE hS.lt
  replace hi := hi.keep hbE hi.lt
  replace hvR := hvR.keep hbE
  replace heR := heR.keep hbE
  replace hR := hR.keep hbE hR.lt
  clear hbE hmd
  go_wp2_with fail
  refine (eqInts_c _ _ (IntBlk.ints' hi HL.out) (IntBlk.ints' mi HL.out) hdn).mono ?_
  rintro e w5 ⟨rfl, hbE⟩
  replace hb := below_trans' hb hbE hb.size
  replace hvS := hvS.keep hbE
  replace heS := heS.keep hbE
  replace hS := hS.keep hbE hS.lt
  replace hi := hi.keep hbE hi.lt
  replace hvR := hvR.keep hbE
  replace heR := heR.keep hbE
  replace hR := hR.keep hbE hR.lt
  clear hbE mi
  go_wp2_with fail
  refine (markInt64S_c dn hi HSZ.out (fun _ => rfl) hdn (by omega) (by omega)).mono ?_
  rintro e w6 ⟨rfl, hK, ho⟩
  have hTo := Touch.of_only ho
  replace hb := hb.trans (ho.below w.heap.size (by omega))
  replace hvS := hvS.touch hTo (fun q h1 h2 => by omega)
  replace heS := heS.touch hTo (fun q h1 h2 => by omega)
  replace hS := hTo.own hS (by omega)
  replace hvR := hvR.touch hTo (fun q h1 h2 => by omega)
  replace heR := heR.touch hTo (fun q h1 h2 => by omega)
  replace hR := hTo.own hR (by omega)
  clear ho hTo hi
  generalize hK1 : (1 : Int) + (dn : Nat) = K1 at *
  have hK1a : ¬ K1 < 0 := by omega
  clear hK1
  have s0 := hS.cell 0
  have s1 := hS.cell 1
  have r0 := hR.cell 0
  have r1 := hR.cell 1
  go_wp2_with fail
  clear s0 s1 r0 r1
  refine (eqAlgebra_c _ _ _ _ hvR.ints hvS.ints hVl heR.frms heS.frms hVl HE0.out).mono ?_
  rintro e w7 ⟨rfl, hbE⟩
  replace hb := below_trans' hb hbE hb.size
  replace hvS := hvS.keep hbE
  replace heS := heS.keep hbE
  replace hS := hS.keep hbE hS.lt
  replace hK := hK.keep hbE hK.lt
  replace hvR := hvR.keep hbE
  replace heR := heR.keep hbE
  replace hR := hR.keep hbE hR.lt
  clear hbE
  obtain ⟨gv, csv, hOv, hszv, hav, hgv⟩ := hvR.block hK
  have r0 := hR.cell 0
  have r1 := hR.cell 1
  go_wp2_with fail
  clear r0 r1
  refine (markAlgebra0_c rc rbc hOv hszv hav heR hVl (by omega) (by omega)).mono ?_
  rintro e w8 ⟨rfl, hOw, heR2, hTo⟩
  replace hb := hb.trans (hTo.bel (B := w.heap.size) (fun k hk => by omega) hb.size)
  replace hvS := hvS.touch hTo (fun q h1 h2 => by omega)
  replace heS := heS.touch hTo (fun q h1 h2 => by omega)
  replace hS := hTo.own hS (by omega)
  replace hR := hTo.own hR (by omega)
  clear hTo hOv hvR heR hK
  generalize hM : (1 : Int) + (nV : Nat) = M at *
  have HM := Lib.hid hM
  have hmn : ¬ (M < 0) := by omega
  clear hM
  have r0 := hR.cell 0
  have r1 := hR.cell 1
  go_wp2_with fail
  clear r0 r1
  refine (heldAlgebra0_c rc rbc hOw hszv hav heR2 hVl (by omega) (by omega)).mono ?_
  rintro e w9 ⟨rfl, hbE⟩
  rw [HM.out]
  replace hb := below_trans' hb hbE hb.size
  replace hvS := hvS.keep hbE
  replace heS := heS.keep hbE
  replace hS := hS.keep hbE hS.lt
  replace hOw := hOw.keep hbE hOw.lt
  replace heR2 := heR2.keep hbE
  replace hR := hR.keep hbE hR.lt
  clear hbE
  go_wp2_with fail
  refine (toInt64S_b dc (HD.out.keep hb) hdn).mono ?_
  rintro e w10 ⟨md, rfl, hmd, mi, hbE⟩
  replace hb := below_trans' hb hbE hb.size
  replace hvS := hvS.keep hbE
  replace heS := heS.keep hbE
  replace hS := hS.keep hbE hS.lt
  replace hOw := hOw.keep hbE hOw.lt
  replace heR2 := heR2.keep hbE
  replace hR := hR.keep hbE hR.lt
  clear hbE hmd
  go_wp2_with fail
  refine (HCC.out _ _ _ hdn mi).mono ?_
  rintro e w11 ⟨ta, tn, tc, tb, tbc, rfl, hvT, heT, hbE⟩
  have htn : nV = tn := by rw [← HnV.out, hvT.1]
  subst htn
  replace hb := below_trans' hb hbE hb.size
  replace hvS := hvS.keep hbE
  replace heS := heS.keep hbE
  replace hS := hS.keep hbE hS.lt
  replace hOw := hOw.keep hbE hOw.lt
  replace heR2 := heR2.keep hbE
  replace hR := hR.keep hbE hR.lt
  clear hbE mi
  go_upto_region 23 with fail
  have hba := below_alloc1 w11 (.cells #[.slice ta nV tc, .slice tb nV tbc] 33)
  have hX := Own.new w11 33 #[.slice ta nV tc, .slice tb nV tbc]
  replace hb := below_trans' hb hba hb.size
  replace hvS := hvS.keep hba
  replace heS := heS.keep hba
  replace hS := hS.keep hba hS.lt
  replace hOw := hOw.keep hba hOw.lt
  replace heR2 := heR2.keep hba
  replace hR := hR.keep hba hR.lt
  replace hvT := hvT.keep hba
  replace heT := heT.keep hba
  generalize w11.alloc (.cells #[.slice ta nV tc, .slice tb nV tbc] 33) = wz at *
  generalize w11.heap.size = gT at *
  clear hba
  have s0 := hS.cell 0
  have s1 := hS.cell 1
  have r0 := hX.cell 0
  have r1 := hX.cell 1
  go_wp2_with fail
  clear s0 s1 r0 r1
  refine (eqAlgebra_c _ _ _ _ hvT.ints hvS.ints hVl heT.frms heS.frms hVl HE0.out).mono ?_
  rintro e w12 ⟨rfl, hbE⟩
  replace hb := below_trans' hb hbE hb.size
  replace hOw := hOw.keep hbE hOw.lt
  replace heR2 := heR2.keep hbE
  replace hR := hR.keep hbE hR.lt
  clear hbE hvT heT hX hS hvS heS
  have r0 := hR.cell 0
  have r1 := hR.cell 1
  go_wp2_with fail
  clear r0 r1
  refine (heldAlgebra0_c rc rbc hOw hszv hav heR2 hVl (by omega) (by omega)).mono ?_
  rintro e w13 ⟨rfl, hbE⟩
  rw [HM.out]
  replace hb := below_trans' hb hbE hb.size
  clear hbE
  go_wp2_with fail
  go_ret
  exact ⟨rfl, hb⟩
theorem frV_len (zs : List Int) : (frV zs).length ≤ 1048576 := by
  unfold frV
  split
  · rename_i h
    have := degsOk_len h
    omega
  · simp
theorem freeAlgebra_walk (da : Option Addr) (dn dc : Nat) (zs : List Int) (w : World) (hd : Ints w da dn zs) :
    Calls Try.prog 13 #[.slice da dn dc] w fun e w' => e = .returned (.bool true) ∧ Below w.heap.size w w' :=
  lawFree_walk da dn dc zs w hd (frV zs) (frE zs) _ rfl (frV_len zs) (fun _ _ dc' h1 h2 => FreeAlgebra_s dc' h2 hd.len h1) (fun _ _ dc' h1 h2 => FreeAlgebra_c dc' h2 hd.len h1)
end Go.Proofs.Ytikldofmpkidbaa
