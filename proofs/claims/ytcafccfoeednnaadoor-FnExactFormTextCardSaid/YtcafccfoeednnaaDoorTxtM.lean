/- The text of a monomial: the model's. -/
import Derived.Test.YtcafccfoeednnaaDoorTxtD
namespace Go.Proofs.YtcafccfoeednnaaDoor
open Go.RowKit Go.Deep

/-- The letter of place i. -/
def ltr (i : Nat) : UInt8 := UInt8.ofNat (97 + i)
/-- What place i adds. -/
def piece (i : Nat) (e : Int) : List UInt8 := (if 0 < e then [ltr i] else []) ++ (if 1 < e then Lib.decDigits e.toNat else [])
/-- The text of the first k places. -/
def pre (m : List Int) : Nat → List UInt8
  | 0 => []
  | k + 1 => pre m k ++ piece k (m.getD k 0)
/-- The text of a monomial. -/
def nameM (m : List Int) : List UInt8 := if pre m 8 = [] then [49] else pre m 8

theorem piece_len (i : Nat) {e : Int} (h : e ≤ 255) : (piece i e).length ≤ 4 := by
  have := dec_len e.toNat 2 (by omega)
  unfold piece
  split <;> split <;> simp <;> omega
theorem pre_len {m : List Int} (hm : IsMono m) : ∀ k, (pre m k).length ≤ 4 * k := by
  intro k
  induction k with
  | zero => simp [pre]
  | succ k ih =>
    have h1 : m.getD k 0 ≤ 255 := by
      rw [List.getD_eq_getElem?_getD]
      cases h : m[k]? with
      | none => simp
      | some x => exact (hm.2 x (List.mem_of_getElem? h)).2
    have := piece_len k h1
    simp only [pre, List.length_append]
    omega
theorem pre_step {m : List Int} {k : Nat} {e : Int} (h : m[k]? = some e) : pre m (k + 1) = pre m k ++ piece k e := by
  simp [pre, List.getD_eq_getElem?_getD, h]
theorem nameM_len {m : List Int} (hm : IsMono m) : (nameM m).length ≤ 32 := by
  have := pre_len hm 8
  unfold nameM
  split <;> simp <;> omega

set_option maxHeartbeats 4000000 in
set_option maxRecDepth 100000 in
theorem l01Name_c {w : World} {m : List Int} (hm : IsMono m) (h20 : ∀ x ∈ m, x ≤ 20) :
    Calls Tryd.prog 35 #[monoV m] w fun e w' => e = .returned (str (nameM m)) ∧ Below w.heap.size w w' := by
  have hO := Own.new w 62 (mcells m).toArray
  have hb := below_alloc1 w (.cells (mcells m).toArray 62)
  have HP := Lib.hid (fun k => pre_len hm k)
  unfold monoV
  go_enter Tryd.func35, Tryd.ntmps35
  go_wp2_with fail
  generalize w.alloc (.cells (mcells m).toArray 62) = w1 at *
  generalize hg : w.heap.size = g at *
  have HG := Lib.hid hg
  clear hg
  go_loopw [3, 4] (fun s i wr => ∃ k : Nat, k ≤ 8 ∧ i = .int .i64 k ∧ s = str (pre m k) ∧ Below w1.heap.size w1 wr) (fun _ i _ => 8 - (intOf i).toNat)
  case atStart => exact ⟨0, Nat.zero_le _, rfl, rfl, Below.refl _ _⟩
  case round =>
    obtain ⟨k, hk, rfl, rfl, hbr⟩ := hrel
    by_cases hlt : k < 8
    · obtain ⟨e, he0, he1, hce, HE⟩ := mono_at hm hlt
      have he2 : e ≤ 20 := h20 e (List.mem_of_getElem? HE.out)
      have HS := Lib.hid (pre_step HE.out)
      have hOr := hO.keep hbr hO.lt
      have c0 := hOr.cell k
      rw [List.getElem?_toArray, hce] at c0
      have hlp := HP.out k
      obtain ⟨p, hp⟩ : ∃ p, pre m k = p := ⟨_, rfl⟩
      rw [hp] at HS hlp
      have HPP := Lib.hid hp
      rw [hp]
      clear hp hce
      by_cases h0 : 0 < e
      · obtain ⟨l, hl⟩ : ∃ l, ltr k = l := ⟨_, rfl⟩
        have HL := Lib.hid hl
        have hw : IntKind.u8.wrap (97 + (k : Int)) = 97 + (k : Int) := IntWalk.u8_in _ (by omega)
        have hw2 : IntKind.i64.wrap (97 + (k : Int)) = 97 + (k : Int) := IntWalk.i64_in _ (by omega)
        have hx : UInt8.ofNat (97 + (k : Int)).toNat = l := by rw [← hl]; unfold ltr; congr 1
        have hcv := conv1 ((Own.new wr 5 #[.int .u8 (97 + (k : Int))]).cell 0) (by omega) (by omega)
        rw [hx] at hcv
        have hct := cat (w := wr.alloc (.cells #[.int .u8 (97 + (k : Int))] 5)) p [l] (by simp; omega)
        have hb2 := below_trans' hbr (below_alloc1 wr (.cells #[.int .u8 (97 + (k : Int))] 5)) hbr.size
        have c1 := (hO.keep hb2 hO.lt).cell k
        have c0' := c0
        rw [hOr.cell k] at c0'
        rw [c0'] at c1
        clear hl hx
        by_cases h1 : 1 < e
        · have h1' : 1 < e := h1
          go_wp2_with (go_at_call 34; refine (l01Dec_c e.toNat e _ rfl (by omega) (by omega)).mono ?_; rintro e9 w9 ⟨rfl, hb9⟩; have hct9 := cat (w := w9) (p ++ [l]) (Lib.decDigits e.toNat) (by have := dec_len e.toNat 1 (by omega); simp; omega))
          have hb3 := below_trans' hb2 hb9 hb2.size
          go_roundw
          case rel => exact ⟨k + 1, by omega, by go_num, by rw [HS.out]; simp [piece, h0, h1, HL.out], hb3⟩
          case measure => simp [intOf]; omega
        · go_wp2_with fail
          go_roundw
          case rel => exact ⟨k + 1, by omega, by go_num, by rw [HS.out]; simp [piece, h0, h1, HL.out], hb2⟩
          case measure => simp [intOf]; omega
      · have h1 : ¬ 1 < e := by omega
        go_wp2_with fail
        go_roundw
        case rel => exact ⟨k + 1, by omega, by go_num, by rw [HS.out]; simp [piece, h0, h1], hbr⟩
        case measure => simp [intOf]; omega
    · have hk8 : k = 8 := by omega
      subst hk8
      have hnm : nameM m = if pre m 8 = [] then [49] else pre m 8 := rfl
      generalize pre m 8 = p at *
      have HNM := Lib.hid hnm
      have hgs := Nat.le_of_lt hO.lt
      clear hnm
      by_cases hp : p = []
      · subst hp
        go_wp2_with fail
        go_ret
        exact ⟨by rw [HNM.out]; rfl, by rw [HG.out]; exact hb.trans (hbr.mono hgs)⟩
      · have hq : p.isEmpty = false := by simpa using hp
        go_wp2_with fail
        go_ret
        exact ⟨by rw [HNM.out, if_neg hp]; rfl, by rw [HG.out]; exact hb.trans (hbr.mono hgs)⟩

end Go.Proofs.YtcafccfoeednnaaDoor
