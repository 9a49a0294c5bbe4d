
import Derived.Test.YtndnkeijddagiaaHeld
import Derived.Test.YtndnkeijddagiaaLawMono
import Derived.Test.YtndnkeijddagiaaTerm
import Derived.Test.YtndnkeijddagiaaWord
namespace Go.Proofs.Ytndnkeijddagiaa
open Go.RowKit Go.Deep
def hasT (i : Nat) (t : Tm) : Bool := decide (0 < t.m.getD i 0)
def hasG (ts : List Tm) (i : Nat) : Bool := ts.any (hasT i)
theorem any_yes {α : Type} {p : α → Bool} {l : List α} {k : Nat} {x : α} (h : l[k]? = some x) (hp : p x = true) : l.any p = true := List.any_eq_true.2 ⟨x, List.mem_of_getElem? h, hp⟩
theorem any_no {α : Type} {p : α → Bool} {l : List α} {n : Nat} (hl : l.length ≤ n) (h : ∀ k, k < n → ∀ x, l[k]? = some x → p x = false) : l.any p = false := by
  rw [List.any_eq_false]
  intro x hx
  obtain ⟨k, hk, rfl⟩ := List.mem_iff_getElem.1 hx
  have := h k (by omega) _ (List.getElem?_eq_getElem hk)
  simpa using this
theorem nine_get {p0 p1 p2 p3 p4 p5 p6 p7 f y : Int} {i : Nat} (hy : ([p0, p1, p2, p3, p4, p5, p6, p7] : List Int)[i]? = some y) : (#[Value.int .u8 p0, .int .u8 p1, .int .u8 p2, .int .u8 p3, .int .u8 p4, .int .u8 p5, .int .u8 p6, .int .u8 p7, .int .i64 f] : Array Value)[i]? = some (Value.int .u8 y) := by
  have hi := (List.getElem?_eq_some_iff.1 hy).1
  match i, hi, hy with
  | 0, _, hy => injection hy with hy; subst hy; rfl
  | 1, _, hy => injection hy with hy; subst hy; rfl
  | 2, _, hy => injection hy with hy; subst hy; rfl
  | 3, _, hy => injection hy with hy; subst hy; rfl
  | 4, _, hy => injection hy with hy; subst hy; rfl
  | 5, _, hy => injection hy with hy; subst hy; rfl
  | 6, _, hy => injection hy with hy; subst hy; rfl
  | 7, _, hy => injection hy with hy; subst hy; rfl
  | i + 8, hi, _ => simp at hi; omega
theorem tcell_get {m : List Int} {f y : Int} {i : Nat} (hm : m.length = 8) (hi : i < 8) (hy : m[i]? = some y) : (tcells ⟨m, f⟩)[i]? = some (.int .u8 y) := by
  rw [tcells, List.getElem?_append_left (by simp [mcells]; omega)]
  simp [mcells, hy]
set_option maxRecDepth 100000 in
theorem hasT_c {w : World} {p0 p1 p2 p3 p4 p5 p6 p7 f : Int} {gi i : Nat} (hi : i < 8) (hc : w.cell? ⟨gi, 0, none⟩ = some (.int .i64 i)) (hm : IsMono [p0, p1, p2, p3, p4, p5, p6, p7]) (r : Bool) (hr : hasT i ⟨[p0, p1, p2, p3, p4, p5, p6, p7], f⟩ = r) :
    Calls Try.prog 124 #[.agg #[.int .u8 p0, .int .u8 p1, .int .u8 p2, .int .u8 p3, .int .u8 p4, .int .u8 p5, .int .u8 p6, .int .u8 p7, .int .i64 f], .pointer (some ⟨gi, 0, none⟩)] w fun e w' => e = .returned (.bool r) ∧ Below w.heap.size w w' := by
  have HR := Lib.hid hr
  clear hr
  obtain ⟨y, hy⟩ : ∃ y, ([p0, p1, p2, p3, p4, p5, p6, p7] : List Int)[i]? = some y := ⟨_, List.getElem?_eq_getElem (by simpa using hi)⟩
  have hy0 : 0 ≤ y := (hm.2 y (List.mem_of_getElem? hy)).1
  have hT := Own.new w 76 #[.int .u8 p0, .int .u8 p1, .int .u8 p2, .int .u8 p3, .int .u8 p4, .int .u8 p5, .int .u8 p6, .int .u8 p7, .int .i64 f]
  have hb := below_alloc1 w (.cells #[.int .u8 p0, .int .u8 p1, .int .u8 p2, .int .u8 p3, .int .u8 p4, .int .u8 p5, .int .u8 p6, .int .u8 p7, .int .i64 f] 76)
  have c1 := hT.cell i
  rw [nine_get hy] at c1
  have c2 := (hb.cell (p := ⟨gi, 0, none⟩) (World.block_lt_of_cell? w ⟨gi, 0, none⟩ hc)).trans hc
  have hi0 : (0 : Int) ≤ (i : Int) := by omega
  have hi8 : (i : Int) < 8 := by omega
  have hyd : hasT i ⟨[p0, p1, p2, p3, p4, p5, p6, p7], f⟩ = decide (0 < y) := by rw [hasT, List.getD_eq_getElem?_getD, hy]; rfl
  rw [HR.out] at hyd
  have HY := Lib.hid hyd
  clear hyd hy hc hm
  go_enter Try.func124, Try.ntmps124
  go_upto_region 1 with fail
  generalize w.alloc (.cells #[.int .u8 p0, .int .u8 p1, .int .u8 p2, .int .u8 p3, .int .u8 p4, .int .u8 p5, .int .u8 p6, .int .u8 p7, .int .i64 f] 76) = w1 at *
  go_wp2_with fail
  go_ret
  exact ⟨ret_b (by rw [HY.out]), hb⟩
set_option maxHeartbeats 1000000 in
set_option maxRecDepth 100000 in
theorem indexT_c {w : World} {a : Option Addr} {n gi i : Nat} {ts : List Tm} (c : Nat) (h : Terms w a n ts) (hn : n ≤ 1048576) (hi : i < 8) (hc : w.cell? ⟨gi, 0, none⟩ = some (.int .i64 i)) :
    Calls Try.prog 137 #[.slice a n c, .func (.func 124) #[] #[.pointer (some ⟨gi, 0, none⟩)]] w fun e w' => ∃ r : Int, e = .returned (.int .i64 r) ∧ Hid (decide (0 ≤ r) = hasG ts i) ∧ Below w.heap.size w w' := by
  have HH := Lib.hid h
  have HL := Lib.hid h.len
  have HC := Lib.hid hc
  have hlt := World.block_lt_of_cell? w ⟨gi, 0, none⟩ hc
  clear h hc
  go_enter Try.func137, Try.ntmps137
  go_upto_region 2 with fail
  go_loopw [8] (fun y wr => ∃ k : Nat, k ≤ n ∧ y = .int .i64 k ∧ Below w.heap.size w wr ∧ Hid (∀ p, p < k → ∀ t, ts[p]? = some t → hasT i t = false)) (fun y _ => n - (intOf y).toNat)
  case atStart => exact ⟨0, Nat.zero_le _, rfl, Below.refl _ _, Lib.hid (fun p hp => absurd hp (by omega))⟩
  case round =>
    obtain ⟨k, hk, rfl, hb, HN⟩ := hrel
    by_cases hkn : k < n
    · obtain ⟨b, off, t, rfl, hbl, hro, ht, hx⟩ := (HH.out.keep hb).at_ hkn
      obtain ⟨mt, ft⟩ := t
      have hmt : IsMono mt := ht.1
      obtain ⟨p0, p1, p2, p3, p4, p5, p6, p7, rfl⟩ := mono8 hmt
      obtain ⟨y0, y1, y2, y3, y4, y5, y6, y7, y8⟩ := nine hro
      have hk0 : (0 : Int) ≤ (k : Int) := by omega
      have hki : (k : Int) < (n : Int) := by omega
      have hc2 := (hb.cell (p := ⟨gi, 0, none⟩) hlt).trans HC.out
      have HC2 := Lib.hid hc2
      clear hro hc2
      cases hr : hasT i ⟨[p0, p1, p2, p3, p4, p5, p6, p7], ft⟩ with
      | false =>
        have HR := Lib.hid hr
        clear hr
        go_wp2_with (go_at_call 124; refine (hasT_c hi HC2.out hmt false HR.out).mono ?_; rintro e w2 ⟨rfl, hb2⟩)
        go_roundw
        case rel =>
          refine ⟨k + 1, by omega, by go_num, below_trans' hb hb2 hb.size, Lib.hid (fun p hp t ht => ?_)⟩
          by_cases e : p = k
          · subst e
            rw [hx.out, Option.some.injEq] at ht
            subst ht
            exact HR.out
          · exact HN.out p (by omega) t ht
        case measure => simp [intOf] <;> omega
      | true =>
        have HR := Lib.hid hr
        clear hr
        go_wp2_with (go_at_call 124; refine (hasT_c hi HC2.out hmt true HR.out).mono ?_; rintro e w2 ⟨rfl, hb2⟩)
        go_ret
        exact ⟨_, rfl, Lib.hid (by rw [hasG, any_yes hx.out HR.out]; simp), below_trans' hb hb2 hb.size⟩
    · have he : k = n := by omega
      subst he
      go_wp2_with fail
      go_ret
      exact ⟨_, rfl, Lib.hid (by rw [hasG, any_no (Nat.le_of_eq HL.out) HN.out]; rfl), hb⟩
set_option maxRecDepth 100000 in
theorem containsT_c {w : World} {a : Option Addr} {n gi i : Nat} {ts : List Tm} (c : Nat) (h : Terms w a n ts) (hn : n ≤ 1048576) (hi : i < 8) (hc : w.cell? ⟨gi, 0, none⟩ = some (.int .i64 i)) :
    Calls Try.prog 123 #[.slice a n c, .func (.func 124) #[] #[.pointer (some ⟨gi, 0, none⟩)]] w fun e w' => e = .returned (.bool (hasG ts i)) ∧ Below w.heap.size w w' := by
  go_enter Try.func123, Try.ntmps123
  go_wp2_with fail
  refine (indexT_c c h hn hi hc).mono ?_
  rintro e w1 ⟨r, rfl, hr, hb⟩
  go_wp2_with fail
  go_ret
  exact ⟨ret_b (by rw [← hr.out]), hb⟩
set_option maxRecDepth 100000 in
theorem hasGenerator_c {w : World} {a : Option Addr} {n i : Nat} {ts : List Tm} (c : Nat) (h : Terms w a n ts) (hn : n ≤ 1048576) (hi : i < 8) :
    Calls Try.prog 98 #[.agg #[.slice a n c], .int .i64 i] w fun e w' => e = .returned (.bool (hasG ts i)) ∧ Below w.heap.size w w' := by
  have hmf : ∀ (fn : Fn) (first cap : Array Value) (w : World), (Instr.makeFunc fn first cap).run Try.prog w = .ok (.func fn first cap) w := fun _ _ _ _ => rfl
  have hF := (Own.new w 47 #[.slice a n c]).alloc (.cells #[.int .i64 i] 2)
  have hI := Own.new (w.alloc (.cells #[.slice a n c] 47)) 2 #[.int .i64 i]
  rw [size_alloc] at hI
  have hb := below_then (below_alloc1 w (.cells #[.slice a n c] 47)) (below_alloc1 _ (.cells #[.int .i64 i] 2))
  have c0 := hF.cell 0
  have c1 := hI.cell 0
  go_enter Try.func98, Try.ntmps98
  go_upto_region 1 with fail
  generalize (w.alloc (.cells #[.slice a n c] 47)).alloc (.cells #[.int .i64 i] 2) = w1 at *
  go_wp2_with fail
  refine (containsT_c c (h.keep hb) hn hi c1).mono ?_
  rintro e w2 ⟨rfl, hb2⟩
  go_wp2_with fail
  go_ret
  exact ⟨rfl, below_trans' hb hb2 hb.size⟩
set_option maxHeartbeats 1000000 in
set_option maxRecDepth 100000 in
theorem l06Has_c {w : World} {a : Option Addr} {n i : Nat} {ts : List Tm} (c : Nat) (h : Terms w a n ts) (hn : n ≤ 1048576) (hi : i < 8) :
    Calls Try.prog 63 #[.agg #[.slice a n c], .int .i64 i] w fun e w' => e = .returned (.bool (hasG ts i)) ∧ Below w.heap.size w w' := by
  have HH := Lib.hid h
  have HL := Lib.hid h.len
  have hF := Own.new w 47 #[.slice a n c]
  have hb0 := below_alloc1 w (.cells #[.slice a n c] 47)
  have hi0 : (0 : Int) ≤ (i : Int) := by omega
  have hi8 : (i : Int) < 8 := by omega
  clear h
  go_enter Try.func63, Try.ntmps63
  go_upto_region 2 with fail
  generalize w.alloc (.cells #[.slice a n c] 47) = w0 at *
  go_loopw [5] (fun y wr => ∃ k : Nat, k ≤ n ∧ y = .int .i64 k ∧ wr = w0 ∧ Hid (∀ p, p < k → ∀ t, ts[p]? = some t → hasT i t = false)) (fun y _ => n - (intOf y).toNat)
  case atStart => exact ⟨0, Nat.zero_le _, rfl, rfl, Lib.hid (fun p hp => absurd hp (by omega))⟩
  case round =>
    obtain ⟨k, hk, rfl, rfl, HN⟩ := hrel
    have c0 := hF.cell 0
    by_cases hkn : k < n
    · obtain ⟨b, off, t, rfl, hbl, hro, ht, hx⟩ := (HH.out.keep hb0).at_ hkn
      obtain ⟨mt, ft⟩ := t
      have hmt : IsMono mt := ht.1
      obtain ⟨y, hy⟩ : ∃ y, mt[i]? = some y := ⟨_, List.getElem?_eq_getElem (by rw [hmt.1]; exact hi)⟩
      have hyc := hro i (.int .u8 y) (tcell_get hmt.1 hi hy)
      have hyr : hasT i ⟨mt, ft⟩ = decide (0 < y) := by rw [hasT, List.getD_eq_getElem?_getD, hy]; rfl
      have HY := Lib.hid hyr
      have hk0 : (0 : Int) ≤ (k : Int) := by omega
      have hki : (k : Int) < (n : Int) := by omega
      clear hro hy hyr
      by_cases hp : 0 < y
      · go_wp2_with fail
        go_ret
        exact ⟨ret_b (by rw [hasG, any_yes hx.out (by rw [HY.out]; simpa using hp)]), hb0⟩
      · go_wp2_with fail
        go_roundw
        case rel =>
          refine ⟨k + 1, by omega, by go_num, by trivial, Lib.hid (fun p hp2 t ht => ?_)⟩
          by_cases e : p = k
          · subst e
            rw [hx.out, Option.some.injEq] at ht
            subst ht
            rw [HY.out]
            simpa using hp
          · exact HN.out p (by omega) t ht
        case measure => simp [intOf] <;> omega
    · have he : k = n := by omega
      subst he
      go_wp2_with fail
      go_ret
      exact ⟨ret_b (by rw [hasG, any_no (Nat.le_of_eq HL.out) HN.out]), hb0⟩
end Go.Proofs.Ytndnkeijddagiaa
