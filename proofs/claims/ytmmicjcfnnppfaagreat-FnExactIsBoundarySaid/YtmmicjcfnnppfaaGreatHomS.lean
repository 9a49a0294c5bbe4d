
import Derived.Test.YtmmicjcfnnppfaaGreatBasV
import Derived.Test.YtmmicjcfnnppfaaGreatTabOf
import Derived.Test.YtmmicjcfnnppfaaGreatMatP
import Derived.Test.YtmmicjcfnnppfaaGreatElimC
import Derived.Test.YtmmicjcfnnppfaaGreatHeld
import Derived.Test.YtmmicjcfnnppfaaGreatBin
import Derived.Test.YtmmicjcfnnppfaaGreatDiffD
namespace Go.Proofs.YtmmicjcfnnppfaaGreat
set_option maxRecDepth 100000
open Go.RowKit Go.Deep
set_option maxHeartbeats 4000000 in
theorem reduce_c {w : World} {lo hi W p : Nat} {e : Value} {R : List (List Int)} {r : List Int} (rc : Nat) (hB : BasV w lo hi e W R) (hh : hi ≤ w.heap.size) (hR : RedI W R) (hr : RowOk W r) (hp : RowAt w p r) (hpn : ¬ (lo ≤ p ∧ p < hi)) (hW : W ≤ 1000) (hRn : R.length ≤ 1000) :
    Calls Tryz.prog 78 #[e, .slice (some ⟨p, 0, none⟩) W rc] w fun e w' => ∃ g, e = .returned (.slice (some ⟨g, 0, none⟩) R.length R.length) ∧ w.heap.size ≤ g ∧ Own w' g 106 (ofI (facR r R)) ∧ RowAt w' p (byR r R) ∧ Touch (fun k => k = p) w w' := by
 obtain ⟨a, c, fa, fc, rfl, hE⟩ := hB
 have HE := Lib.hid hE
 have HRR := Lib.hid hR
 have HRO := Lib.hid hr
 have HH := Lib.hid hh
 have HPN := Lib.hid hpn
 have hpl := hp.lt
 obtain ⟨N, hN⟩ : ∃ N, R.length = N := ⟨_, rfl⟩
 rw [hN] at hRn ⊢
 have HN := Lib.hid hN
 have hbx := Own.new w 81 #[.slice a N c, .slice fa N fc]
 have hb1 := bA1 w (.cells #[.slice a N c, .slice fa N fc] 81)
 have hmk1 := make_num3 N (by omega) (w.alloc (.cells #[.slice a N c, .slice fa N fc] 81))
 rw [size_alloc] at hmk1
 have hF := Own.new (w.alloc (.cells #[.slice a N c, .slice fa N fc] 81)) 106 (Array.replicate N (Value.int .i64 0))
 rw [size_alloc] at hF
 have hba := bA1 (w.alloc (.cells #[.slice a N c, .slice fa N fc] 81)) (.cells (Array.replicate N (Value.int .i64 0)) 106)
 have hb3 := bT' hb1 hba hb1.size
 have hbx2 := hbx.keep hba hbx.lt
 have hp2 := hp.keep hb3 hpl
 have ht0 : Touch (fun k => k = p) w ((w.alloc (.cells #[.slice a N c, .slice fa N fc] 81)).alloc (.cells (Array.replicate N (Value.int .i64 0)) 106)) := Touch.of_below hb3
 have cx := hbx.cell 0
 clear hE hR hr hh hpn hN hba hb1 hb3 hp
 go_enter Tryz.func78, Tryz.ntmps78
 go_upto_region 2 with fail
 clear hmk1 cx hbx
 generalize (w.alloc (.cells #[.slice a N c, .slice fa N fc] 81)).alloc (.cells (Array.replicate N (Value.int .i64 0)) 106) = w2 at *
 obtain ⟨gF, hgF⟩ : ∃ gF, w.heap.size + 1 = gF := ⟨_, rfl⟩
 rw [hgF] at hF
 have hl1 : w.heap.size < gF := by omega
 try rw [hgF]
 clear hgF
 have hF0 : Own w2 gF 106 (ofI (copyTo (facR r R) 0)) := by
  rw [copyTo, List.take_zero, Nat.sub_zero, facR_len, HN.out, List.nil_append, ← ofI_rep]
  exact hF
 have hR0 : RowAt w2 p (byR r (R.take 0)) := by rw [List.take_zero]; exact hp2
 have cx := hbx2.cell 0
 clear hF hp2
 go_upto_region 3 with fail
 clear cx
 go_loopw [15] (fun y wr => ∃ k : Nat, k ≤ N ∧ y = .int .i64 k ∧ Touch (fun k => k = p) w wr ∧ Own wr w.heap.size 81 #[.slice a N c, .slice fa N fc] ∧ Own wr gF 106 (ofI (copyTo (facR r R) k)) ∧ RowAt wr p (byR r (R.take k))) (fun y _ => N - (intOf y).toNat)
 case atStart => exact ⟨0, Nat.zero_le _, rfl, ht0, hbx2, hF0, hR0⟩
 case round =>
  clear ht0 hbx2 hF0 hR0
  obtain ⟨k, hk, rfl, ht, hbx, hF, hP⟩ := hrel
  by_cases hin : k < N
  · have hk0 : (0 : Int) ≤ (k : Int) := by omega
    have hkn : (k : Int) < (N : Int) := by omega
    obtain ⟨s, hs⟩ : ∃ s, R[k]? = some s := ⟨_, List.getElem?_eq_getElem (by rw [HN.out]; exact hin)⟩
    have hsm := List.mem_of_getElem? hs
    obtain ⟨g, q, off, cap, gf, rfl, rfl, g1, g2, q1, q2, f1, f2, c1, c2, c3⟩ := HE.out k s hs
    have hhh := HH.out
    have hne := HPN.out
    have c1' := (World.cell?_of_block (a := ⟨g, k, none⟩) (ht.other g (by omega) (fun e => hne (by omega)))).trans c1
    have c3' := (World.cell?_of_block (a := ⟨gf, k, none⟩) (ht.other gf (by omega) (fun e => hne (by omega)))).trans c3
    have hfs := HRR.out.fst s hsm
    have hcur : RowOk W (byR r (R.take k)) := byR_ok HRO.out (fun t ht => HRR.out.ok t (List.mem_of_mem_take ht))
    obtain ⟨f, hf⟩ : ∃ f, (byR r (R.take k)).getD (fstN s) 0 = f := ⟨_, rfl⟩
    have HFE := Lib.hid hf
    have hfb := hcur.at_ (fstN s)
    rw [hf] at hfb
    have hcf := hP.cell (getD_get hcur.len hfs)
    rw [hf] at hcf
    obtain ⟨j, hj⟩ : ∃ j, fstN s = j := ⟨_, rfl⟩
    rw [hj] at hcf c3' hfs HFE
    have HJ := Lib.hid hj
    have hj0 : (0 : Int) ≤ (j : Int) := by omega
    have hjw : (j : Int) < (W : Int) := by omega
    have HFA : Hid ((facR r R)[k]? = some f) := Lib.hid (by
     rw [facR, List.getElem?_map, hs, Option.map_some, ← byR_fac HRR.out HRO.out hs, hj, HFE.out])
    have HST := Lib.hid (copyTo_set HFA.out)
    obtain ⟨ov, hcv⟩ := hF.has (i := k) (by rw [ofI, List.size_toArray, List.length_map, copyTo_len (by rw [facR_len, HN.out]; omega), facR_len, HN.out]; exact hin)
    have hfz := hF.frozen k
    have cx0 := hbx.cell 0
    have cx1 := hbx.cell 1
    have HS := Lib.hid (HRR.out.ok s hsm)
    have HCU := Lib.hid hcur
    have HSN := Lib.hid (take_sn hs)
    have hpg : ¬ p = gF := by have := hpl; omega
    have HRD : Hid (∀ w', Touch (fun k => k = p) w w' → RdAt w' q off s) := Lib.hid (fun w' h => c2.block (h.other q (by omega) (fun e => hne (by omega))))
    clear hs hsm hf hcur hj c1 c2 c3 hne hhh
    go_upto_region 6 with fail
    clear c1' c3' hcf cx0 cx1 hcv hfz
    have hF5 := hF.set k (.int .i64 f)
    rw [ofI_set, HST.out] at hF5
    have hbx5 := hbx.far (p := ⟨gF, k, none⟩) (by dsimp only; omega) (.int .i64 f)
    have hP5 := hP.far (p := ⟨gF, k, none⟩) (by dsimp only; exact hpg) (.int .i64 f)
    have ht5 := ht.setNew (b := gF) (by omega) k (.int .i64 f)
    clear hF hbx hP ht
    generalize wr.setCell ⟨gF, k, none⟩ (.int .i64 f) = w5 at *
    have cF : w5.cell? ⟨gF, k, none⟩ = some (.int .i64 f) := by
     rw [hF5.cell k, ofI_get]
     rw [copyTo, List.getElem?_append_left (by rw [List.length_take, facR_len, HN.out]; omega), List.getElem?_take, if_pos (by omega)]
     exact HFA.out
    go_wp2_with fail
    refine (opposite3_c f _ hfb).mono ?_
    rintro e w6 ⟨rfl, rfl⟩
    clear cF
    have hnf : 0 ≤ num (-f) ∧ num (-f) ≤ 10006 := by unfold num; omega
    go_wp2_with fail
    refine (addA_c (off := off) rc cap (num (-f)) HCU.out.len HS.out.len hW hP5 HCU.out.bd HS.out.bd hnf (fun w' h => HRD.out w' (ht5.trans h))).mono ?_
    rintro e w7 ⟨rfl, hP7, ht7⟩
    have ht8 := ht5.trans ht7
    have hF7 := ht7.own hF5 (fun e => hpg e.symm)
    have hbx7 := ht7.own hbx5 (by omega)
    clear ht5 ht7 hF5 hbx5 hP5
    go_wp2_with fail
    go_roundw
    case rel =>
     refine ⟨k + 1, by omega, by go_num, ht8, hbx7, hF7, ?_⟩
     have hst := byR_step (r := r) (L := R.take k) HCU.out HS.out
     rw [HJ.out, HFE.out] at hst
     rw [HSN.out, hst]
     exact hP7
    case measure => simp [intOf] <;> omega
  · have he : k = N := by omega
    subst he
    go_wp2_with fail
    go_ret
    refine ⟨gF, rfl, by omega, ?_, ?_, ht⟩
    · rw [copyTo, facR_len, HN.out, Nat.sub_self, List.replicate_zero, List.append_nil, List.take_of_length_le (by rw [facR_len, HN.out]; exact Nat.le_refl _)] at hF
      exact hF
    · rwa [List.take_of_length_le (by rw [HN.out]; exact Nat.le_refl _)] at hP
set_option maxHeartbeats 1000000 in
theorem rowC_c {w : World} {ca fa : Option Addr} {n fn : Nat} {V : List (List Int)} {ts : List Tm} (cc fc : Nat) (hM : Mos w ca n V) (ho : Ord V) (hn : n ≤ 1000) (hT : Terms w fa fn ts) (hfn : fn ≤ 1048576) (hs : Srt ts) (hmem : ∀ t ∈ ts, t.m ∈ V) :
    Calls Tryz.prog 73 #[.slice ca n cc, .agg #[.slice fa fn fc]] w fun e w' => ∃ g, e = .returned (.slice (some ⟨g, 0, none⟩) n n) ∧ w.heap.size ≤ g ∧ Own w' g 106 (ofI (rowT V ts)) ∧ Below w.heap.size w w' := by
 have HM := Lib.hid hM
 have HO := Lib.hid ho
 have HT := Lib.hid hT
 have HS := Lib.hid hs
 have HME := Lib.hid hmem
 have HVL := Lib.hid hM.1
 have hG := Own.new w 46 #[.slice fa fn fc]
 have hb1 := bA1 w (.cells #[.slice fa fn fc] 46)
 have hmk := make_num3 n (by omega) (w.alloc (.cells #[.slice fa fn fc] 46))
 rw [size_alloc] at hmk
 have hR := Own.new (w.alloc (.cells #[.slice fa fn fc] 46)) 106 (Array.replicate n (Value.int .i64 0))
 rw [size_alloc] at hR
 have hba := bA1 (w.alloc (.cells #[.slice fa fn fc] 46)) (.cells (Array.replicate n (Value.int .i64 0)) 106)
 have hb2 := bT' hb1 hba hb1.size
 have hG2 := hG.keep hba hG.lt
 clear hM ho hT hs hmem hb1 hba hG
 go_enter Tryz.func73, Tryz.ntmps73
 go_upto_region 2 with fail
 clear hmk
 generalize (w.alloc (.cells #[.slice fa fn fc] 46)).alloc (.cells (Array.replicate n (Value.int .i64 0)) 106) = w2 at *
 obtain ⟨g, hg⟩ : ∃ g, w.heap.size + 1 = g := ⟨_, rfl⟩
 rw [hg] at hR
 try rw [hg]
 have hgw : w.heap.size ≤ g := by omega
 clear hg
 have hR0 : Own w2 g 106 (ofI ([] ++ rowT V [] ++ [])) := by
  rw [rowT_nil, HVL.out, List.nil_append, List.append_nil, ← ofI_rep]
  exact hR
 have cg := hG2.cell 0
 clear hR
 go_wp2_with fail
 refine (write_c (A := []) (B := []) (off := 0) cc n fc (fun w' h => HM.out.keep (hb2.trans (h.bel3 hgw hb2.size))) HO.out (by omega) (fun w' h => HT.out.keep (hb2.trans (h.bel3 hgw hb2.size))) hfn HS.out HME.out hR0 rfl).mono ?_
 rintro e w3 ⟨rfl, hR3, ht3⟩
 have hb3 := hb2.trans (ht3.bel3 hgw hb2.size)
 rw [List.nil_append, List.append_nil] at hR3
 clear hb2 ht3 hR0 hG2 cg
 go_wp2_with fail
 go_ret
 exact ⟨g, rfl, hgw, hR3, hb3⟩
def zeroR (R : List Int) : Bool := !decide (fstN R < R.length)
theorem zeroR_no {R : List Int} {k : Nat} (h : ∀ c, c < k → R.getD c 0 = 0) (h2 : ¬ R.getD k 0 = 0) (hk : k < R.length) : zeroR R = false := by
 rw [zeroR, fstN_eq h h2]
 simpa using hk
theorem zeroR_yes {R : List Int} (h : ∀ c, c < R.length → R.getD c 0 = 0) : zeroR R = true := by
 rw [zeroR]
 by_cases e : fstN R < R.length
 · exact absurd (h _ e) (fstN_at e)
 · simpa using e
set_option maxHeartbeats 1000000 in
theorem isZeroR_c {w : World} {p off W : Nat} {R : List Int} (c : Nat) (hW : R.length = W) (hn : W ≤ 1000) (hR : RdAt w p off R) :
    Calls Tryz.prog 79 #[.slice (some ⟨p, off, none⟩) W c] w fun e w' => e = .returned (.bool (zeroR R)) ∧ w = w' := by
 have HW := Lib.hid hW
 have HR := Lib.hid hR
 clear hW hR
 go_enter Tryz.func79, Tryz.ntmps79
 go_upto_region 2 with fail
 go_loopw [7] (fun y wr => ∃ k : Nat, k ≤ W ∧ y = .int .i64 k ∧ w = wr ∧ Hid (∀ c, c < k → R.getD c 0 = 0)) (fun y _ => W - (intOf y).toNat)
 case atStart => exact ⟨0, Nat.zero_le _, rfl, rfl, Lib.hid (fun c hc => absurd hc (by omega))⟩
 case round =>
  obtain ⟨k, hk, rfl, rfl, HZ⟩ := hrel
  by_cases hkn : k < W
  · have hki : (k : Int) < (W : Int) := by omega
    have hk0 : (0 : Int) ≤ (k : Int) := by omega
    obtain ⟨x, hx⟩ : ∃ x, R[k]? = some x := ⟨_, List.getElem?_eq_getElem (by rw [HW.out]; exact hkn)⟩
    have hc := HR.out k x hx
    have HX := Lib.hid (show R.getD k 0 = x by rw [List.getD_eq_getElem?_getD, hx]; rfl)
    clear hx
    by_cases hx0 : x = 0
    · subst hx0
      go_wp2_with fail
      go_roundw
      case rel => exact ⟨k + 1, by omega, by go_num, trivial, Lib.hid (fun c hc => by
       by_cases e : c = k
       · rw [e]; exact HX.out
       · exact HZ.out c (by omega))⟩
      case measure => simp [intOf] <;> omega
    · have hxb : (x != 0) = true := by simpa using hx0
      have HF := Lib.hid (zeroR_no HZ.out (by rw [HX.out]; exact hx0) (by rw [HW.out]; exact hkn))
      go_wp2_with fail
      go_ret
      exact ⟨ret_b (by rw [HF.out]), rfl⟩
  · have he : k = W := by omega
    subst he
    have HF := Lib.hid (zeroR_yes (R := R) (fun c hc => HZ.out c (by rw [HW.out] at hc; exact hc)))
    go_wp2_with fail
    go_ret
    exact ⟨ret_b (by rw [HF.out]), rfl⟩
def RwB (w : World) (lo hi : Nat) (v : Value) (W : Nat) (R : List (List Int)) : Prop :=
 ∃ a c, v = .slice a R.length c ∧ ∀ (i : Nat) r, R[i]? = some r → ∃ g p off cap, a = some ⟨g, 0, none⟩ ∧ lo ≤ g ∧ g < hi ∧ w.cell? ⟨g, i, none⟩ = some (.slice (some ⟨p, off, none⟩) W cap) ∧ lo ≤ p ∧ p < hi ∧ RdAt w p off r
theorem RwB.of {w : World} {lo W : Nat} {v : Value} {R : List (List Int)} (h : RwsV w lo v W R) : RwB w lo w.heap.size v W R := h
theorem RwB.touch {w w' : World} {lo hi W : Nat} {v : Value} {R : List (List Int)} {q : Nat → Prop} (h : RwB w lo hi v W R) (ht : Touch q w w') (hq : ∀ k, lo ≤ k → k < hi → ¬ q k) (hh : hi ≤ w.heap.size) : RwB w' lo hi v W R := by
 obtain ⟨a, c, hv, h1⟩ := h
 refine ⟨a, c, hv, fun i r hr => ?_⟩
 obtain ⟨g, p, off, cap, e1, e2, e3, e4, e5, e6, e7⟩ := h1 i r hr
 exact ⟨g, p, off, cap, e1, e2, e3, (World.cell?_of_block (a := ⟨g, i, none⟩) (ht.other g (by omega) (hq g e2 e3))).trans e4, e5, e6, e7.block (ht.other p (by omega) (hq p e5 e6))⟩
theorem RwB.keep {w w' : World} {lo hi W : Nat} {v : Value} {R : List (List Int)} (h : RwB w lo hi v W R) (hb : Below w.heap.size w w') (hh : hi ≤ w.heap.size) : RwB w' lo hi v W R :=
 h.touch (Touch.of_below (p := fun _ => False) hb) (fun _ _ _ h => h) hh
def sumTo (N : Nat) (F : List Int) (P : List (List Int)) : Nat → List Int
 | 0 => List.replicate N 0
 | k + 1 => addR (sumTo N F P k) (F.getD k 0) (P.getD k [])
theorem sumTo_zero {N : Nat} {F : List Int} {P : List (List Int)} : sumTo N F P 0 = List.replicate N 0 := rfl
theorem sumTo_step {N k : Nat} {F : List Int} {P : List (List Int)} {x : Int} {r : List Int} (hx : F[k]? = some x) (hr : P[k]? = some r) : sumTo N F P (k + 1) = addR (sumTo N F P k) x r := by
 rw [sumTo, List.getD_eq_getElem?_getD, List.getD_eq_getElem?_getD, hx, hr]
 rfl
theorem sumTo_ok {N : Nat} {F : List Int} {P : List (List Int)} (hP : ∀ r ∈ P, RowOk N r) : ∀ k, k ≤ P.length → RowOk N (sumTo N F P k)
 | 0, _ => ⟨List.length_replicate, fun x hx => by rw [List.eq_of_mem_replicate hx]; omega⟩
 | k + 1, hk => by
   have ih := sumTo_ok (F := F) hP k (by omega)
   have hr : P[k]? = some (P[k]'(by omega)) := List.getElem?_eq_getElem (by omega)
   have hrk := hP _ (List.getElem_mem (show k < P.length by omega))
   rw [sumTo, List.getD_eq_getElem?_getD (l := P), hr]
   refine ⟨by rw [addR, List.length_zipWith, ih.len, Option.getD_some, hrk.len, Nat.min_self], fun x hx => ?_⟩
   obtain ⟨i, hi, rfl⟩ := List.mem_iff_getElem.1 hx
   simp only [addR, List.getElem_zipWith]
   unfold num
   omega
theorem priR_len (W : Nat) (L : List (List Int)) : (priR W L).length = (bndR W L).length := by rw [priR, bndR, List.length_map, List.length_map]
theorem priR_ok {W N : Nat} {L : List (List Int)} (h : ∀ r ∈ L, RowOk (W + N) r) : ∀ r ∈ priR W L, RowOk N r := fun r hr => by
 obtain ⟨s, hs, rfl⟩ := List.mem_map.1 hr
 exact (h s (List.mem_filter.1 hs).1).drop
def loS (zs : List Int) (m : Nat) : List (List Int) := if m = 0 then [] else side zs (m - 1)
theorem loS_len (zs : List Int) (m : Nat) : (loS zs m).length = nbR zs m := by
 rw [loS, nbR]
 split
 · rfl
 · exact side_len ..
def pzB (zs : List Int) (ims : List (List Tm)) (ts : List Tm) : Bool := zeroR (byR (rowT (side zs (headW zs ts).toNat) ts) (bdR zs ims (headW zs ts).toNat)) || decide (headW zs ts < 0)
def pmR (zs : List Int) (ims : List (List Tm)) (ts : List Tm) (m : Nat) : List Tm := fmR (loS zs m) (sumTo (nbR zs m) (facR (rowT (side zs m) ts) (bdR zs ims m)) (priR (cnt zs m) (lgR zs ims m)) (priR (cnt zs m) (lgR zs ims m)).length)
def poC (zs : List Int) (ims : List (List Tm)) (ts : List Tm) : Int := if hoC false zs ims ts = 0 then (if pzB zs ims ts = true then 0 else 4) else hoC false zs ims ts
def pmV (zs : List Int) (ims : List (List Tm)) (ts : List Tm) : List Tm := if poC zs ims ts = 0 then pmR zs ims ts (headW zs ts).toNat else []
section
variable {zs : List Int} {ims : List (List Tm)} {ts : List Tm}
theorem poC_no (h : ¬ hoC false zs ims ts = 0) : poC zs ims ts = hoC false zs ims ts ∧ pmV zs ims ts = [] := by
 have e : poC zs ims ts = hoC false zs ims ts := by rw [poC, if_neg h]
 exact ⟨e, by rw [pmV, if_neg (by rw [e]; exact h)]⟩
theorem poC_4 (h : hoC false zs ims ts = 0) (hp : pzB zs ims ts = false) : poC zs ims ts = 4 ∧ pmV zs ims ts = [] := by
 have e : poC zs ims ts = 4 := by rw [poC, if_pos h, if_neg (by simp [hp])]
 exact ⟨e, by rw [pmV, if_neg (by rw [e]; omega)]⟩
theorem poC_0 (h : hoC false zs ims ts = 0) (hp : pzB zs ims ts = true) : poC zs ims ts = 0 ∧ pmV zs ims ts = pmR zs ims ts (headW zs ts).toNat := by
 have e : poC zs ims ts = 0 := by rw [poC, if_pos h, if_pos hp]
 exact ⟨e, by rw [pmV, if_pos e]⟩
theorem hoC_ne4 {cl : Bool} : ¬ hoC cl zs ims ts = 4 := by
 unfold hoC
 repeat' split
 all_goals omega
end
theorem l01Mons_m {w : World} {da : Option Addr} {dn m : Nat} {zs : List Int} (dc : Nat) (hd : Ints w da dn zs) (hz : degsOk zs = true) (hm : m ≤ 40) (hc : cnt zs m ≤ 120) :
    Calls Tryz.prog 55 #[.slice da dn dc, .int .i64 m] w fun e w' => ∃ la lc, e = .returned (.slice la (cnt zs m) lc) ∧ Mos w' la (cnt zs m) (side zs m) ∧ Below w.heap.size w w' := by
 refine (l01Monomials_c (r := m) dc hd hz (by omega)).mono ?_
 rintro e w' ⟨ra, rn, rc, rfl, hM, hb⟩
 rw [side_take (by omega)] at hM
 obtain rfl : cnt zs m = rn := by rw [← hM.1, side_len]
 exact ⟨ra, rc, rfl, hM.mos, hb⟩
theorem nbR_lt2 {zs : List Int} {m : Nat} (h : ¬ m = 0 → cnt zs (m - 1) ≤ 120) : nbR zs m ≤ 120 := by
 rw [nbR]
 split
 · omega
 · rename_i h0
   exact h h0
set_option maxHeartbeats 1000000 in
theorem l03Bounds_c {w : World} {da : Option Addr} {dn : Nat} {zs : List Int} {a : Option Addr} {k : Nat} {ims : List (List Tm)} {m : Nat} (dc c : Nat) (hd : Ints w da dn zs) (hF : Frms w a k ims) (HA : AlgOk zs ims) (hA : isAlg zs ims = true) (hz : degsOk zs = true) (hm : m ≤ 20) (hc1 : cnt zs m ≤ 120) (_hc2 : cnt zs (m + 1) ≤ 120) (hl : ¬ m = 0 → cnt zs (m - 1) ≤ 120) :
    Calls Tryz.prog 63 #[.agg #[.slice da dn dc, .slice a k c], .int .i64 m] w fun e w' => ∃ ra rn rc, e = .returned (.slice ra rn rc) ∧ Tab w' ra rn (bdR zs ims m) ∧ Below w.heap.size w w' := by
 have hO := Own.new w 31 #[.slice da dn dc, .slice a k c]
 have hb := bA1 w (.cells #[.slice da dn dc, .slice a k c] 31)
 by_cases h0 : m = 0
 · subst h0
   go_enter Tryz.func63, Tryz.ntmps63
   go_wp2_with fail
   go_ret
   exact ⟨_, 0, ⟨_, rfl⟩, ⟨by rw [bdR, if_pos rfl]; rfl, fun h => absurd h (by omega)⟩, below_then hb (bA1 _ _)⟩
 · have hmb : ((m : Int) == 0) = false := by simpa using h0
   have hw1 : IntKind.i64.wrap ((m : Int) - 1) = ((m - 1 : Nat) : Int) := by rw [IntWalk.i64_in _ (by omega)]; omega
   have hl2 := hl h0
   have hHd := Lib.hid hd
   have hHF := Lib.hid hF
   have HL2 := Lib.hid hl2
   have HC1 := Lib.hid hc1
   have HV := Lib.hid (mrR_low HA hz h0)
   have HB : Hid (bdR zs ims m = redR (mrR zs ims (m - 1))) := Lib.hid (by rw [bdR, if_neg h0])
   have HM1 : Hid (m - 1 + 1 = m) := Lib.hid (by omega)
   have c0 := hO.cell 0
   have c1 := hO.cell 1
   clear hd hF hl hl2
   go_enter Tryz.func63, Tryz.ntmps63
   go_wp2_with fail
   refine (l03Matrix_c (m := m - 1) dc c (hHd.out.keep hb) (hHF.out.keep hb) HA hA hz (degs_one hz) (by omega) HL2.out (by rw [HM1.out]; exact HC1.out)).mono ?_
   rintro e w1 ⟨ra, rc, rfl, hT, hb1⟩
   have hb2 := bT' hb hb1 hb.size
   have hTb : Tab w1 ra (cnt zs (m - 1)) (mrR zs ims (m - 1)) := hT.tab
   clear hT hb hb1 c0 c1 hO
   go_wp2_with fail
   refine (l03Reduce_c (m := cnt zs m) rc hTb (by have := HC1.out; omega) (by have := HL2.out; omega) HV.out).mono ?_
   rintro e w2 ⟨b', N', c', rfl, hT2, hb3⟩
   have hb4 := bT' hb2 hb3 hb2.size
   clear hb2 hb3 hTb
   go_wp2_with fail
   go_ret
   exact ⟨b', N', c', rfl, by rw [HB.out]; exact hT2.1, hb4⟩
set_option maxHeartbeats 4000000 in
theorem l03Homogeneous_c {w : World} {da : Option Addr} {dn : Nat} {zs : List Int} {a : Option Addr} {n : Nat} {ims : List (List Tm)} {a2 : Option Addr} {n2 : Nat} {fs : List Tm} (cl : Bool) (dc c c2 : Nat) (hd : Ints w da dn zs) (hdn : dn ≤ 1048576) (hF : Frms w a n ims) (hn : n ≤ 1048576) (hL : ∀ im ∈ ims, (im.length : Int) ≤ 1048576) (h : Terms w a2 n2 fs) (hn2 : n2 ≤ 1048576) :
    Calls Tryz.prog 67 #[.agg #[.slice da dn dc, .slice a n c], .agg #[.slice a2 n2 c2], .bool cl] w fun e w' => e = .returned (.tuple #[.int .i64 (hoN cl zs ims fs), .int .i64 (hoC cl zs ims fs)]) ∧ Below w.heap.size w w' := by
 have HLL := Lib.hid hL
 have HD := Lib.hid hd
 have HF := Lib.hid hF
 have HH := Lib.hid h
 have HTM := Lib.hid h.2.1
 have HT := Lib.hid hF.tm
 have HL2 := Lib.hid h.len
 have HDL := Lib.hid hd.len
 have hA := (Own.new w 31 #[.slice da dn dc, .slice a n c]).alloc (.cells #[.slice a2 n2 c2] 46)
 have hG := Own.new (w.alloc (.cells #[.slice da dn dc, .slice a n c] 31)) 46 #[.slice a2 n2 c2]
 rw [size_alloc] at hG
 have hb := below_then (bA1 w (.cells #[.slice da dn dc, .slice a n c] 31)) (bA1 _ (.cells #[.slice a2 n2 c2] 46))
 have c0 := hA.cell 0
 have c1 := hA.cell 1
 have hfld := field_form
 clear hL hd hF h
 cases hal : isAlg zs ims with
 | false =>
   have HA := Lib.hid hal
   have HC := Lib.hid (hoC_1 (cl := cl) (zs := zs) (ims := ims) (ts := fs) (by rw [hal]; rfl))
   clear hal
   go_enter Tryz.func67, Tryz.ntmps67
   go_upto_region 1 with fail
   generalize (w.alloc (.cells #[.slice da dn dc, .slice a n c] 31)).alloc (.cells #[.slice a2 n2 c2] 46) = w0 at *
   go_wp2_with fail
   refine (l02Is_c dc c (HD.out.keep hb) hdn (HF.out.keep hb) hn HLL.out).mono ?_
   rintro e w1 ⟨rfl, hb1⟩
   rw [HA.out]
   have hb2 := bT' hb hb1 hb.size
   clear hb hb1 c0 c1
   go_wp2_with fail
   go_ret2
   exact ⟨by rw [hoN_no (by rw [HC.out]; omega), HC.out]; rfl, hb2⟩
 | true =>
   have HA := Lib.hid hal
   have hz := isAlg_dg hal
   have HIF : Hid (isForm zs fs = (listOk zs fs && decide (fs.length ≤ 400))) := Lib.hid (by rw [isForm, hz, Bool.true_and])
   have hd8 : dn ≤ 8 := by have := degsOk_len hz; have := HDL.out; omega
   have HZ := Lib.hid hz
   clear hal hz
   cases hq : (listOk zs fs && decide (fs.length ≤ 400)) with
   | false =>
     have HQ := Lib.hid hq
     have HC := Lib.hid (hoC_1 (cl := cl) (zs := zs) (ims := ims) (ts := fs) (by rw [HA.out, HIF.out, hq]; rfl))
     clear hq
     go_enter Tryz.func67, Tryz.ntmps67
     go_upto_region 1 with fail
     generalize (w.alloc (.cells #[.slice da dn dc, .slice a n c] 31)).alloc (.cells #[.slice a2 n2 c2] 46) = w0 at *
     go_wp2_with fail
     refine (l02Is_c dc c (HD.out.keep hb) hdn (HF.out.keep hb) hn HLL.out).mono ?_
     rintro e w1 ⟨rfl, hb1⟩
     rw [HA.out]
     have hA1 := hA.keep hb1 hA.lt
     have hG1 := hG.keep hb1 hG.lt
     have hb2 := bT' hb hb1 hb.size
     clear hA hG hb hb1 c0 c1
     have c0 := hA1.cell 0
     have cg := hG1.cell 0
     go_wp2_with fail
     refine (l01Is_c dc c2 (HD.out.keep hb2) hdn (HH.out.keep hb2) hn2).mono ?_
     rintro e w2 ⟨rfl, hb3⟩
     rw [HQ.out]
     have hb4 := bT' hb2 hb3 hb2.size
     clear hb2 hb3 hA1 hG1 c0 cg
     go_wp2_with fail
     go_ret2
     exact ⟨by rw [hoN_no (by rw [HC.out]; omega), HC.out]; rfl, hb4⟩
   | true =>
     have HQ := Lib.hid hq
     have H1 : Hid ((isAlg zs ims && isForm zs fs) = true) := Lib.hid (by rw [HA.out, HIF.out, hq]; rfl)
     have hif : isForm zs fs = true := by rw [HIF.out, hq]
     have HAO := Lib.hid (isAlg_ok HA.out HT.out)
     have HK := Lib.hid (isForm_fit hif)
     have HFB := Lib.hid (isForm_f hif)
     have hn4 : n2 ≤ 400 := by have := isForm_400 hif; have := HL2.out; omega
     have HMI := Lib.hid (degsOk_mild HZ.out)
     have HLO := Lib.hid (headW_lo HZ.out HTM.out)
     obtain ⟨N, hN⟩ : ∃ N, (diffT zs ims [] fs).length = N := ⟨_, rfl⟩
     have HN := Lib.hid hN
     have HCL := Lib.hid (show closedB zs ims fs = (N == 0) by rw [closedB, hN])
     clear hq hif hN
     go_enter Tryz.func67, Tryz.ntmps67
     go_upto_region 1 with fail
     generalize (w.alloc (.cells #[.slice da dn dc, .slice a n c] 31)).alloc (.cells #[.slice a2 n2 c2] 46) = w0 at *
     go_wp2_with fail
     refine (l02Is_c dc c (HD.out.keep hb) hdn (HF.out.keep hb) hn HLL.out).mono ?_
     rintro e w1 ⟨rfl, hb1⟩
     rw [HA.out]
     have hA1 := hA.keep hb1 hA.lt
     have hG1 := hG.keep hb1 hG.lt
     have hb2 := bT' hb hb1 hb.size
     clear hA hG hb hb1 c0 c1
     have c0 := hA1.cell 0
     have cg := hG1.cell 0
     go_wp2_with fail
     refine (l01Is_c dc c2 (HD.out.keep hb2) hdn (HH.out.keep hb2) hn2).mono ?_
     rintro e w2 ⟨rfl, hb3⟩
     rw [HQ.out]
     have hA2 := hA1.keep hb3 hA1.lt
     have hG2 := hG1.keep hb3 hG1.lt
     have hb4 := bT' hb2 hb3 hb2.size
     clear hA1 hG1 hb2 hb3 c0 cg
     have c0 := hA2.cell 0
     have cg := hG2.cell 0
     go_wp2_with fail
     refine (l01Degree_c dc c2 (HD.out.keep hb4) hd8 HMI.out (HH.out.keep hb4) hn2).mono ?_
     rintro e w3 ⟨rfl, hb5⟩
     have hA3 := hA2.keep hb5 hA2.lt
     have hG3 := hG2.keep hb5 hG2.lt
     have hb6 := bT' hb4 hb5 hb4.size
     clear hA2 hG2 hb4 hb5 c0 cg
     cases hw : allW zs fs with
     | false =>
       have HC := Lib.hid (hoC_5 (cl := cl) H1.out (by rw [hw]; rfl))
       go_wp2_with fail
       go_ret2
       exact ⟨by rw [hoN_no (by rw [HC.out]; omega), HC.out]; rfl, hb6⟩
     | true =>
       obtain ⟨v, hv⟩ : ∃ v, degA zs fs = v := ⟨_, rfl⟩
       have hvh : headW zs fs = v := by rw [degA, if_pos hw] at hv; exact hv
       rw [hv]
       have HVH := Lib.hid hvh
       have HW := Lib.hid hw
       have hlo := HLO.out
       rw [hvh] at hlo
       have HLV := Lib.hid hlo
       clear hw hv hvh hlo
       cases cl with
       | false =>
         have H2 : Hid ((allW zs fs && (!false || closedB zs ims fs)) = true) := Lib.hid (by rw [HW.out]; rfl)
         by_cases hv2 : 20 < v
         · have HC := Lib.hid (hoC_2 (cl := false) H1.out H2.out (by rw [HVH.out]; exact hv2))
           go_wp2_with fail
           go_ret2
           exact ⟨by rw [hoN_no (by rw [HC.out]; omega), HC.out]; rfl, hb6⟩
         · obtain ⟨H, hH⟩ : ∃ H : Nat, (v + 1).toNat = H := ⟨_, rfl⟩
           have hw1 : IntKind.i64.wrap (v + 1) = (H : Int) := by have := HLV.out; rw [IntWalk.i64_in _ (by omega)]; omega
           have hw2 : IntKind.i64.wrap (v - 1) = v - 1 := by have := HLV.out; rw [IntWalk.i64_in _ (by omega)]
           have HMF : Hid (Calls Tryz.prog 113 #[.agg #[.slice da dn dc, .slice a n c], .int .i64 (v - 1), .int .i64 H] w3 fun e w' => e = .returned (.bool (!many zs (low1 v) (H - low1 v))) ∧ Below w3.heap.size w3 w') := Lib.hid (by
            have h1 := HLV.out
            refine within3_c dc c (HD.out.keep hb6) HZ.out ?_ (by unfold low1; omega) (by omega)
            unfold low1
            by_cases h3 : v - 1 < 0
            · exact Or.inr ⟨h3, by omega⟩
            · exact Or.inl ⟨h3, by omega⟩)
           have HHH := Lib.hid hH
           have c0 := hA3.cell 0
           have c1 := hA3.cell 1
           clear hH
           cases hm : many zs (low1 v) (H - low1 v)
           all_goals
            have HM := Lib.hid hm
            rw [hm] at HMF
            clear hm
            go_wp2_with fail
            try rw [hw2]
            refine HMF.out.mono ?_
            rintro e w9 ⟨rfl, hb9⟩
            have hb10 := bT' hb6 hb9 hb6.size
            go_wp2_with fail
            go_ret2
           · have HC := hoC_0 (cl := false) H1.out H2.out (by rw [HVH.out]; omega) (by rw [HVH.out, HHH.out]; exact HM.out)
             exact ⟨by rw [hoN_yes HC, HC, HVH.out]; rfl, hb10⟩
           · have HC := hoC_3 (cl := false) H1.out H2.out (by rw [HVH.out]; omega) (by rw [HVH.out, HHH.out]; exact HM.out)
             exact ⟨by rw [hoN_no (by rw [HC]; omega), HC]; rfl, hb10⟩
       | true =>
         have c0 := hA3.cell 0
         have c1 := hA3.cell 1
         have cg := hG3.cell 0
         go_wp2_with fail
         refine (l02D_c dc c c2 (HD.out.keep hb6) (HF.out.keep hb6) (HH.out.keep hb6) HAO.out HMI.out HK.out HFB.out hn4).mono ?_
         rintro e w4 ⟨u, rfl, hU, hb7⟩
         obtain ⟨ua, un, uc, rfl⟩ := hU.isSlice
         have hul : un = N := by
          have h2 := HN.out
          rcases hU.1.2 with ⟨h0, h1⟩ | ⟨g', cap, cur, hv', -⟩
          · simp only [Value.slice.injEq] at h0; omega
          · simp only [Value.slice.injEq] at hv'; omega
         subst hul
         have hb8 := bT' hb6 hb7 hb6.size
         have hA4 := hA3.keep hb7 hA3.lt
         have hG4 := hG3.keep hb7 hG3.lt
         clear hb6 hb7 hA3 hG3 c0 c1 cg hU
         by_cases hN0 : un = 0
         · subst hN0
           have H2 : Hid ((allW zs fs && (!true || closedB zs ims fs)) = true) := Lib.hid (by rw [HW.out, HCL.out]; rfl)
           by_cases hv2 : 20 < v
           · have HC := Lib.hid (hoC_2 (cl := true) H1.out H2.out (by rw [HVH.out]; exact hv2))
             go_wp2_with fail
             go_ret2
             exact ⟨by rw [hoN_no (by rw [HC.out]; omega), HC.out]; rfl, hb8⟩
           · obtain ⟨H, hH⟩ : ∃ H : Nat, (v + 1).toNat = H := ⟨_, rfl⟩
             have hw1 : IntKind.i64.wrap (v + 1) = (H : Int) := by have := HLV.out; rw [IntWalk.i64_in _ (by omega)]; omega
             have hw2 : IntKind.i64.wrap (v - 1) = v - 1 := by have := HLV.out; rw [IntWalk.i64_in _ (by omega)]
             have HMF : Hid (Calls Tryz.prog 113 #[.agg #[.slice da dn dc, .slice a n c], .int .i64 (v - 1), .int .i64 H] w4 fun e w' => e = .returned (.bool (!many zs (low1 v) (H - low1 v))) ∧ Below w4.heap.size w4 w') := Lib.hid (by
              have h1 := HLV.out
              refine within3_c dc c (HD.out.keep hb8) HZ.out ?_ (by unfold low1; omega) (by omega)
              unfold low1
              by_cases h3 : v - 1 < 0
              · exact Or.inr ⟨h3, by omega⟩
              · exact Or.inl ⟨h3, by omega⟩)
             have HHH := Lib.hid hH
             have c0 := hA4.cell 0
             have c1 := hA4.cell 1
             clear hH
             cases hm : many zs (low1 v) (H - low1 v)
             all_goals
              have HM := Lib.hid hm
              rw [hm] at HMF
              clear hm
              go_wp2_with fail
              try rw [hw2]
              refine HMF.out.mono ?_
              rintro e w9 ⟨rfl, hb9⟩
              have hb10 := bT' hb8 hb9 hb8.size
              go_wp2_with fail
              go_ret2
             · have HC := hoC_0 (cl := true) H1.out H2.out (by rw [HVH.out]; omega) (by rw [HVH.out, HHH.out]; exact HM.out)
               exact ⟨by rw [hoN_yes HC, HC, HVH.out]; rfl, hb10⟩
             · have HC := hoC_3 (cl := true) H1.out H2.out (by rw [HVH.out]; omega) (by rw [HVH.out, HHH.out]; exact HM.out)
               exact ⟨by rw [hoN_no (by rw [HC]; omega), HC]; rfl, hb10⟩
         · have hN1 : (0 : Int) < (un : Int) := by omega
           have HC := Lib.hid (hoC_5 (cl := true) H1.out (by rw [HW.out, HCL.out]; simpa using hN0))
           go_wp2_with fail
           go_ret2
           exact ⟨by rw [hoN_no (by rw [HC.out]; omega), HC.out]; rfl, hb8⟩
end Go.Proofs.YtmmicjcfnnppfaaGreat
