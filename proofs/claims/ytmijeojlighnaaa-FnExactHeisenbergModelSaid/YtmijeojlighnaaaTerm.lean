
import Derived.Test.YtmijeojlighnaaaMonoB
import Derived.Lib.Bytealg
import Derived.Lib.Bytes
import Derived.Lib.BytesEntry
import Derived.Laws.MakeOwn
import Derived.Deep.DeepCutAuto
namespace Go.Proofs.Ytmijeojlighnaaa
open Go.RowKit Go.Deep
def cmpM : List Int → List Int → Int
  | a :: l1, b :: l2 => if b < a then -1 else if a < b then 1 else cmpM l1 l2
  | _, _ => 0
def before (m k : List Int) : Bool := decide (cmpM m k = -1)
theorem cmpM_take : ∀ (i : Nat) (m k : List Int), m.take i = k.take i → cmpM m k = cmpM (m.drop i) (k.drop i)
  | 0, m, k, _ => by simp
  | i + 1, [], k, h => by
    cases k with
    | nil => rfl
    | cons b l2 => simp at h
  | i + 1, a :: l1, [], h => by simp at h
  | i + 1, a :: l1, b :: l2, h => by
    simp only [List.take_succ_cons, List.cons.injEq] at h
    obtain ⟨rfl, h⟩ := h
    rw [cmpM, if_neg (by omega), if_neg (by omega), cmpM_take i l1 l2 h, List.drop_succ_cons, List.drop_succ_cons]
theorem cmpM_at {m k : List Int} {i : Nat} {y z : Int} (hy : m[i]? = some y) (hz : k[i]? = some z) (h : m.take i = k.take i) (hne : y ≠ z) : cmpM m k = if z < y then -1 else 1 := by
  obtain ⟨h1, e1⟩ := List.getElem?_eq_some_iff.1 hy
  obtain ⟨h2, e2⟩ := List.getElem?_eq_some_iff.1 hz
  rw [cmpM_take i m k h, List.drop_eq_getElem_cons h1, List.drop_eq_getElem_cons h2, e1, e2, cmpM]
  split
  · rfl
  · rw [if_pos (by omega)]
theorem cmpM_self (m : List Int) : cmpM m m = 0 := by
  induction m with
  | nil => rfl
  | cons a l1 ih => rw [cmpM, if_neg (by omega), if_neg (by omega), ih]
theorem before_at {m k : List Int} {i : Nat} {y z : Int} (hy : m[i]? = some y) (hz : k[i]? = some z) (h : m.take i = k.take i) (hne : y ≠ z) : before m k = decide (z < y) := by
  rw [before, cmpM_at hy hz h hne]
  by_cases hh : z < y <;> simp [hh]
theorem before_self (m : List Int) : before m m = false := by rw [before, cmpM_self]; rfl
set_option maxRecDepth 100000 in
theorem l01Before_c {w : World} {m k : List Int} (hm : IsMono m) (hk : IsMono k) :
    Calls Try.prog 60 #[monoV m, monoV k] w fun e w' => e = .returned (.bool (before m k)) ∧ Below w.heap.size w w' := by
  unfold monoV
  go_enter Try.func60, Try.ntmps60
  go_wp2
  have o1 := (Own.new w 56 (mcells m).toArray).alloc (.cells (mcells k).toArray 56)
  have o2 := Own.new (w.alloc (.cells (mcells m).toArray 56)) 56 (mcells k).toArray
  have hb : Below w.heap.size w ((w.alloc (.cells (mcells m).toArray 56)).alloc (.cells (mcells k).toArray 56)) := below_then (below_alloc1 w _) (below_alloc1 _ _)
  rw [size_alloc] at o2
  generalize (w.alloc (.cells (mcells m).toArray 56)).alloc (.cells (mcells k).toArray 56) = w0 at *
  go_loopw [5] (fun i wr => ∃ j q : Nat, j ≤ 8 ∧ i = .int .i64 j ∧ wr = w0.drewN q ∧ Hid (m.take j = k.take j)) (fun i _ => 8 - (intOf i).toNat)
  case atStart => exact ⟨0, 0, Nat.zero_le _, rfl, rfl, rfl⟩
  case round =>
    obtain ⟨j, q, hj, rfl, rfl, H⟩ := hrel
    by_cases hlt : j < 8
    · obtain ⟨y, hy0, hy1, hy, HY⟩ := mono_at hm hlt
      obtain ⟨z, hz0, hz1, hz, HZ⟩ := mono_at hk hlt
      have c1 := o1.cell j
      have c2 := o2.cell j
      rw [List.getElem?_toArray, hy] at c1
      rw [List.getElem?_toArray, hz] at c2
      have h8 : (j : Int) < 8 := by omega
      by_cases hxy : y = z
      · subst hxy
        go_wp2
        go_quiet (fail)
        go_wp2
        go_roundw
        case rel => exact ⟨j + 1, _, by omega, by go_num, rfl, take_eq HY.out HZ.out H.out⟩
        case measure => simp [intOf] <;> omega
      · have hq : (y == z) = false := by simpa using hxy
        have hq' : (y != z) = true := by simpa using hxy
        go_wp2
        go_quiet (fail)
        go_wp2
        go_quiet (fail)
        go_wp2
        go_ret
        exact ⟨ret_b (before_at HY.out HZ.out H.out hxy).symm, below_drewN (below_drewN (below_drewN hb _) _) _⟩
    · go_wp2
      go_ret
      have he : m = k := by
        have := H.out
        rwa [List.take_of_length_le (by have := hm.1; omega), List.take_of_length_le (by have := hk.1; omega)] at this
      exact ⟨ret_b (by rw [he, before_self]), below_drewN hb _⟩
end Go.Proofs.Ytmijeojlighnaaa
namespace Go.Proofs.Ytmijeojlighnaaa
open Go.RowKit Go.Deep
theorem rcells_append (xs ys : List Tm) : rcells (xs ++ ys) = rcells xs ++ rcells ys := by simp [rcells]
theorem rcells_cons (t : Tm) (ys : List Tm) : rcells (t :: ys) = tcells t ++ rcells ys := by simp [rcells]
theorem Terms.len {w : World} {a : Option Addr} {n : Nat} {ts : List Tm} (h : Terms w a n ts) : ts.length = n := h.1
theorem Terms.drewN {w : World} {a : Option Addr} {n : Nat} {ts : List Tm} (h : Terms w a n ts) (k : Nat) : Terms (w.drewN k) a n ts := h
theorem Terms.drew {w : World} {a : Option Addr} {n : Nat} {ts : List Tm} (h : Terms w a n ts) : Terms w.drew a n ts := h
theorem Terms.at_ {w : World} {a : Option Addr} {n : Nat} {ts : List Tm} (h : Terms w a n ts) {k : Nat} (hk : k < n) :
    ∃ b off t, a = some ⟨b, off, none⟩ ∧ b < w.heap.size ∧ w.rangeAt b (off + k * 9) (tcells t) ∧ IsTm t ∧ Hid (ts[k]? = some t) := by
  obtain ⟨hl, hT, hc⟩ := h
  obtain ⟨b, off, ha, hlt, hr⟩ := hc (by omega)
  have hkl : k < ts.length := by omega
  refine ⟨b, off, ts[k], ha, hlt, fun j v hv => ?_, hT _ (List.getElem_mem hkl), List.getElem?_eq_getElem hkl⟩
  have hpre : (rcells (ts.take k)).length = k * 9 := by
    rw [rcells_length (fun t ht => hT t (List.mem_of_mem_take ht)), List.length_take]
    congr 1
    omega
  have hsplit : rcells ts = rcells (ts.take k) ++ (tcells ts[k] ++ rcells (ts.drop (k + 1))) := by
    rw [← rcells_cons, ← rcells_append, ← List.drop_eq_getElem_cons hkl, List.take_append_drop]
  have hj : j < (tcells ts[k]).length := (List.getElem?_eq_some_iff.1 hv).1
  have := hr (k * 9 + j) v (by
    rw [hsplit, List.getElem?_append_right (by omega), hpre, show k * 9 + j - k * 9 = j by omega, List.getElem?_append_left hj]
    exact hv)
  rw [show off + k * 9 + j = off + (k * 9 + j) by omega]
  exact this
theorem Terms.of_own {w : World} {g : Nat} {t : TypeId} {ts : List Tm} {n : Nat} (h : Own w g t (rcells ts).toArray) (hT : ∀ t ∈ ts, IsTm t) (hn : ts.length = n) : Terms w (some ⟨g, 0, none⟩) n ts :=
  ⟨hn, hT, fun _ => ⟨g, 0, rfl, h.lt, by simpa using h.range⟩⟩
def zero9 : List Value := [.int .u8 0, .int .u8 0, .int .u8 0, .int .u8 0, .int .u8 0, .int .u8 0, .int .u8 0, .int .u8 0, .int .i64 0]
theorem Try.info_term3 : (Try.prog.info? 75).map (fun i => (i.zero, i.size, i.bytes)) = some (some (.agg zero9.toArray), 9, 16) := by kernel_rfl
end Go.Proofs.Ytmijeojlighnaaa
