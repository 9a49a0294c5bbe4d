
import Derived.Test.YtikldofmpkidbaaLawWord
import Derived.Test.YtikldofmpkidbaaClosed
namespace Go.Proofs.Ytikldofmpkidbaa
open Go.RowKit Go.Deep
theorem leastTo_max {fs : List Tm} {k : Nat} {x l : Int} (hx : wlAt fs k = x) (hl : leastTo fs (max k 1) = l) : leastTo fs (max (k + 1) 1) = min l x := by
  by_cases h : k = 0
  · subst h
    have h1 : leastTo fs 1 = wlAt fs 0 := leastTo_one fs
    have h2 : leastTo fs (max 0 1) = leastTo fs 1 := rfl
    have h3 : leastTo fs (max (0 + 1) 1) = leastTo fs 1 := rfl
    rw [h3]
    omega
  · have h2 : max k 1 = k := by omega
    have h3 : max (k + 1) 1 = k + 1 := by omega
    rw [h2] at hl
    rw [h3, leastTo_succ h, hx, hl]
set_option maxHeartbeats 2000000 in
set_option maxRecDepth 100000 in
theorem WordLengthOf_c {w : World} {da : Option Addr} {dn : Nat} {zs : List Int} {a : Option Addr} {n : Nat} {ims : List (List Tm)} {a2 : Option Addr} {n2 : Nat} {fs : List Tm} (dc c c2 : Nat) (hd : Ints w da dn zs) (hdn : dn ≤ 1048576) (hF : Frms w a n ims) (hn : n ≤ 1048576) (hL : ∀ im ∈ ims, (im.length : Int) ≤ 1048576) (h : Terms w a2 n2 fs) (hn2 : n2 ≤ 1048576) :
    Calls Try.prog 43 #[.agg #[.slice da dn dc, .slice a n c], .agg #[.slice a2 n2 c2]] w fun e w' => e = .returned (.tuple #[.int .i64 (wordV zs ims fs), .int .i64 (algE zs ims fs)]) ∧ Below w.heap.size w w' := by
  have HLL := Lib.hid hL
  have HL2 := Lib.hid h.len
  clear hL
  have hA := (Own.new w 33 #[.slice da dn dc, .slice a n c]).alloc (.cells #[.slice a2 n2 c2] 61)
  have hG := Own.new (w.alloc (.cells #[.slice da dn dc, .slice a n c] 33)) 61 #[.slice a2 n2 c2]
  rw [size_alloc] at hG
  have hb := below_then (below_alloc1 w (.cells #[.slice da dn dc, .slice a n c] 33)) (below_alloc1 _ (.cells #[.slice a2 n2 c2] 61))
  have c0 := hA.cell 0
  have c1 := hA.cell 1
  have cg := hG.cell 0
  cases hal : algF zs ims fs
  all_goals
    have HA := Lib.hid hal
    clear hal
    go_enter Try.func43, Try.ntmps43
    go_upto_region 1 with fail
    generalize (w.alloc (.cells #[.slice da dn dc, .slice a n c] 33)).alloc (.cells #[.slice a2 n2 c2] 61) = w0 at *
    go_wp2_with fail
    refine (isAlgebraWithForm_c dc c c2 (hd.keep hb) hdn (hF.keep hb) hn HLL.out (h.keep hb) hn2).mono ?_
    rintro e w1 ⟨rfl, hb1⟩
    rw [HA.out]
    have hG1 := hG.keep hb1 hG.lt
    have hb2 := below_trans' hb hb1 hb.size
    clear hA hG hb hb1 c0 c1 cg
    have cg := hG1.cell 0
  · go_wp2_with fail
    go_ret2
    exact ⟨by rw [(algE_no HA.out).1, (algE_no HA.out).2.2]; rfl, hb2⟩
  · by_cases hn0 : n2 = 0
    · subst hn0
      go_wp2_with fail
      go_ret2
      refine ⟨?_, hb2⟩
      rw [(algE_yes HA.out).1, (algE_yes HA.out).2.2, leastW, HL2.out]
      rfl
    · have hne : ((n2 : Int) == 0) = false := by simp; omega
      have hpos : 0 < n2 := by omega
      have hnz : (0 : Int) < (n2 : Int) := by omega
      clear hn0
      obtain ⟨b0, off0, t0, rfl, hbl0, hr0, ht0, hx0⟩ := (h.keep hb2).at_ (k := 0) hpos
      have HW0 := Lib.hid (wlAt_of hx0.out)
      obtain ⟨m, f⟩ := t0
      have hm : IsMono m := ht0.1
      obtain ⟨m0, m1, m2, m3, m4, m5, m6, m7, rfl⟩ := mono8 hm
      rw [Nat.zero_mul, Nat.add_zero] at hr0
      obtain ⟨x0, x1, x2, x3, x4, x5, x6, x7, x8⟩ := nine hr0
      obtain ⟨v0, hv0⟩ : ∃ v0, wlen [m0, m1, m2, m3, m4, m5, m6, m7] = v0 := ⟨_, rfl⟩
      have HV0 := Lib.hid hv0
      have HL0 : Hid (leastTo fs (max 0 1) = v0) := Lib.hid ((leastTo_one fs).trans (HW0.out.trans hv0))
      clear hv0
      go_wp2_with fail
      refine (wordLength8 hm HV0.out).mono ?_
      rintro e w2 ⟨rfl, hb3⟩
      have hG2 := hG1.keep hb3 hG1.lt
      have hb4 := below_trans' hb2 hb3 hb2.size
      clear x0 x1 x2 x3 x4 x5 x6 x7 x8 cg hr0 hbl0 hG1 hb2 hb3
      have cg := hG2.cell 0
      go_wp2_with fail
      clear cg hG2
      go_loopw [6, 26] (fun l i wr => ∃ k : Nat, k ≤ n2 ∧ i = .int .i64 k ∧ l = .int .i64 (leastTo fs (max k 1)) ∧ Below w.heap.size w wr) (fun _ i _ => n2 - (intOf i).toNat)
      case atStart => exact ⟨0, Nat.zero_le _, rfl, by rw [HL0.out], hb4⟩
      case round =>
        clear hb4
        obtain ⟨k, hk, rfl, rfl, hb⟩ := hrel
        by_cases hlt : k < n2
        · obtain ⟨b, off, t, he2, hbl, hr, ht, hx⟩ := (h.keep hb).at_ hlt
          obtain ⟨rfl, rfl⟩ : b0 = b ∧ off0 = off := by injection he2 with he2; injection he2 with h1 h2; exact ⟨h1, h2⟩
          have HW := Lib.hid (wlAt_of hx.out)
          obtain ⟨mt, ft⟩ := t
          have hmt : IsMono mt := ht.1
          obtain ⟨p0, p1, p2, p3, p4, p5, p6, p7, rfl⟩ := mono8 hmt
          obtain ⟨y0, y1, y2, y3, y4, y5, y6, y7, y8⟩ := nine hr
          obtain ⟨x, hxe⟩ : ∃ x, wlen [p0, p1, p2, p3, p4, p5, p6, p7] = x := ⟨_, rfl⟩
          have HX := Lib.hid hxe
          have HWX : Hid (wlAt fs k = x) := Lib.hid (HW.out.trans hxe)
          obtain ⟨l, hl⟩ : ∃ l, leastTo fs (max k 1) = l := ⟨_, rfl⟩
          have HLT := Lib.hid hl
          have HNX := Lib.hid (leastTo_max HWX.out hl)
          rw [hl]
          clear hxe hl
          have hba := below_alloc1 wr (.cells #[.int .u8 p0, .int .u8 p1, .int .u8 p2, .int .u8 p3, .int .u8 p4, .int .u8 p5, .int .u8 p6, .int .u8 p7, .int .i64 ft] 88)
          have hb3 := below_trans' hb hba hb.size
          have hkl : (k : Int) < (n2 : Int) := by omega
          have hk0 : (0 : Int) ≤ (k : Int) := by omega
          go_wp2_with fail
          generalize wr.alloc (.cells #[.int .u8 p0, .int .u8 p1, .int .u8 p2, .int .u8 p3, .int .u8 p4, .int .u8 p5, .int .u8 p6, .int .u8 p7, .int .i64 ft] 88) = w4 at *
          refine (wordLength8 hmt HX.out).mono ?_
          rintro e w5 ⟨rfl, hb5⟩
          go_wp2_with fail
          go_roundw
          case rel => exact ⟨k + 1, by omega, by go_num, by rw [HNX.out, Int.min_def]; first | rfl | (congr 1; split <;> split <;> omega), below_trans' hb3 hb5 hb3.size⟩
          case measure => simp [intOf] <;> omega
        · have he : k = n2 := by omega
          subst he
          go_wp2_with fail
          go_ret2
          refine ⟨?_, hb⟩
          rw [(algE_yes HA.out).1, (algE_yes HA.out).2.2, leastW, HL2.out, show max k 1 = k by omega]
          rfl
set_option maxHeartbeats 1000000 in
set_option maxRecDepth 100000 in
theorem WordLengthOf_s {w : World} {da : Option Addr} {dn : Nat} {zs : List Int} {a : Option Addr} {n : Nat} {ims : List (List Tm)} {a2 : Option Addr} {n2 : Nat} {fs : List Tm} (dc c c2 : Nat) (hd : Ints w da dn zs) (hdn : dn ≤ 1048576) (hF : Frms w a n ims) (hn : n ≤ 1048576) (hL : ∀ im ∈ ims, (im.length : Int) ≤ 1048576) (h : Terms w a2 n2 fs) (hn2 : n2 ≤ 1048576) :
    Calls Try.prog 42 #[.agg #[.slice da dn dc, .slice a n c], .agg #[.slice a2 n2 c2]] w fun e w' => e = .returned (.tuple #[.int .i64 (wordV zs ims fs), .int .i64 (algE zs ims fs)]) ∧ Below w.heap.size w w' := by
  have HLL := Lib.hid hL
  clear hL
  have hA := (Own.new w 33 #[.slice da dn dc, .slice a n c]).alloc (.cells #[.slice a2 n2 c2] 61)
  have hG := Own.new (w.alloc (.cells #[.slice da dn dc, .slice a n c] 33)) 61 #[.slice a2 n2 c2]
  rw [size_alloc] at hG
  have hb := below_then (below_alloc1 w (.cells #[.slice da dn dc, .slice a n c] 33)) (below_alloc1 _ (.cells #[.slice a2 n2 c2] 61))
  have c0 := hA.cell 0
  have c1 := hA.cell 1
  have cg := hG.cell 0
  cases hal : algF zs ims fs
  case false =>
    have HA := Lib.hid hal
    have HE := Lib.hid (algE_no hal).1
    clear hal
    go_enter Try.func42, Try.ntmps42
    go_upto_region 1 with fail
    generalize (w.alloc (.cells #[.slice da dn dc, .slice a n c] 33)).alloc (.cells #[.slice a2 n2 c2] 61) = w0 at *
    go_wp2_with fail
    refine (l02Both_c dc c c2 (hd.keep hb) hdn (hF.keep hb) hn HLL.out (h.keep hb) hn2).mono ?_
    rintro e w1 ⟨rfl, hb1⟩
    rw [HE.out]
    go_wp2_with fail
    go_ret2
    exact ⟨by rw [(algE_no HA.out).1, (algE_no HA.out).2.2]; rfl, below_trans' hb hb1 hb.size⟩
  case true =>
    have HA := Lib.hid hal
    have HE := Lib.hid (algE_yes hal).1
    clear hal
    go_enter Try.func42, Try.ntmps42
    go_upto_region 1 with fail
    generalize (w.alloc (.cells #[.slice da dn dc, .slice a n c] 33)).alloc (.cells #[.slice a2 n2 c2] 61) = w0 at *
    go_wp2_with fail
    refine (l02Both_c dc c c2 (hd.keep hb) hdn (hF.keep hb) hn HLL.out (h.keep hb) hn2).mono ?_
    rintro e w1 ⟨rfl, hb1⟩
    rw [HE.out]
    have hG1 := hG.keep hb1 hG.lt
    have hb2 := below_trans' hb hb1 hb.size
    clear hA hG hb hb1 c0 c1 cg
    have cg := hG1.cell 0
    go_wp2_with fail
    refine (l02Least_c c2 (h.keep hb2) hn2).mono ?_
    rintro e w2 ⟨rfl, hb3⟩
    go_wp2_with fail
    go_ret2
    exact ⟨by rw [(algE_yes HA.out).1, (algE_yes HA.out).2.2]; rfl, below_trans' hb2 hb3 hb2.size⟩
theorem wordLengthOf_walk (da : Option Addr) (dn dc : Nat) (zs : List Int) (a : Option Addr) (n c : Nat) (fss : List (List Tm)) (a2 : Option Addr) (n2 c2 : Nat) (fs : List Tm) (w : World) (hd : Ints w da dn zs) (hdm : (dn : Int) ≤ 9223372036854775807) (hF : Frms w a n fss) (hnm : (n : Int) ≤ 9223372036854775807) (h2 : Terms w a2 n2 fs) (hm2 : (n2 : Int) ≤ 9223372036854775807) :
    Calls Try.prog 9 #[.agg #[.slice da dn dc, .slice a n c], .agg #[.slice a2 n2 c2]] w fun e w' => e = .returned (.bool true) ∧ Below w.heap.size w w' :=
  word_walk0 da dn dc zs a n c fss a2 n2 c2 fs w hd hdm hF hnm h2 hm2 (wordV zs fss fs) (algE zs fss fs) (fun _ _ dc' _ c' _ q h1 h2 h3 h4 h5 h6 h7 => WordLengthOf_s dc' c' q h5 h1 h6 h2 h3 h7 h4) (fun _ _ dc' _ c' _ q h1 h2 h3 h4 h5 h6 h7 => WordLengthOf_c dc' c' q h5 h1 h6 h2 h3 h7 h4)
end Go.Proofs.Ytikldofmpkidbaa
