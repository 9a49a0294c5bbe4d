/- Lists of terms sorted by the order of monomials: what the call does. -/
import Derived.Test.YthcaiagnmmjooaaSortT
namespace Go.Proofs.Ythcaiagnmmjooaa
open Go.RowKit Go.Deep

theorem tsOf_mk {ts : List Tm} (hT : ∀ t ∈ ts, IsTm t) : ∃ d : Array TmS, tsOf d = ts ∧ d.size = ts.length := by
  refine ⟨(ts.pmap (fun t h => (⟨t, h⟩ : TmS)) hT).toArray, ?_, by simp⟩
  simp [tsOf, List.map_pmap]
theorem holdsT {w : World} {g _cap : Nat} {t : TypeId} {cur : Array Value} {d : Array TmS} (h : Own w g t cur) (hx : cur.toList.take (d.size * 9) = rcells (tsOf d)) (_hc : d.size * 9 ≤ cur.size) : Go.Sort.HoldsK encT 9 w g 0 d := by
  unfold Go.Sort.HoldsK
  rw [flat_rcells]
  intro j hj
  refine ⟨?_, h.frozen _⟩
  rw [Nat.zero_add, h.cell j]
  have hl : (rcells (tsOf d)).length = d.size * 9 := by rw [rcells_length (tsOf_tm d)]; simp [tsOf]
  have hj' : j < d.size * 9 := by
    have : j < (rcells (tsOf d)).length := by simpa using hj
    omega
  rw [getElem!_pos _ j hj]
  simp only [id, List.getElem_toArray]
  have h2 : (rcells (tsOf d))[j]? = cur[j]? := by
    rw [← hx, List.getElem?_take_of_lt hj', Array.getElem?_toList]
  rw [← h2, List.getElem?_eq_getElem (by omega)]
/-- The row behind the sort. -/
theorem own_put {w : World} {g m : Nat} {t : TypeId} {cur : Array Value} {d : Array TmS} {os : Array Obj} (h : Own w g t cur) (hc : d.size * 9 ≤ cur.size) :
    ∃ cur' : Array Value, Own (sortWorldK encT 9 w g 0 m d os) g t cur' ∧ cur'.size = cur.size ∧ cur'.toList.take (d.size * 9) = rcells (tsOf d) := by
  have hl : (rcells (tsOf d)).length = d.size * 9 := by rw [rcells_length (tsOf_tm d)]; simp [tsOf]
  refine ⟨Go.Sort.putCells id 0 (Go.Sort.flatK encT 9 d) cur, ?_, by simp [Go.Sort.putCells], ?_⟩
  · unfold Own sortWorldK Go.Sort.grow Go.Sort.putRowK Go.Sort.putRow Go.Sort.mapBlock Go.Sort.ahead
    have hg := h.lt
    have h0 : w.heap[g]? = some (.cells cur t (0, 0)) := h
    rw [Array.getElem?_append_left (by simpa using hg), Array.getElem?_modify, if_pos rfl, h0]
    rfl
  · rw [flat_rcells]
    apply List.ext_getElem?
    intro i
    by_cases hi : i < d.size * 9
    · rw [List.getElem?_take_of_lt hi, Array.getElem?_toList]
      simp only [Go.Sort.putCells, Array.getElem?_mapIdx, List.size_toArray]
      rw [Array.getElem?_eq_getElem (by omega), Option.map_some, if_pos ⟨by omega, by omega⟩, Nat.sub_zero, List.getElem?_eq_getElem (by omega)]
      rw [getElem!_pos _ i (by simp; omega)]
      simp
    · rw [List.getElem?_eq_none (by simp; omega), List.getElem?_eq_none (by omega)]
theorem below_put {w : World} {B g m : Nat} {d : Array TmS} {os : Array Obj} (hB : B ≤ g) (hg : g < w.heap.size) : Below B w (sortWorldK encT 9 w g 0 m d os) := by
  refine ⟨rfl, rfl, rfl, ?_, fun k hk => ?_⟩
  · unfold sortWorldK Go.Sort.grow Go.Sort.putRowK Go.Sort.putRow Go.Sort.mapBlock Go.Sort.ahead
    simp
  · unfold sortWorldK Go.Sort.grow Go.Sort.putRowK Go.Sort.putRow Go.Sort.mapBlock Go.Sort.ahead
    have hs : k < w.heap.size := by omega
    rw [Array.getElem?_append_left (by simpa using hs), Array.getElem?_modify, if_neg (by omega)]
set_option maxHeartbeats 1000000 in
theorem SortFunc_some {w : World} {B g n cap : Nat} {ts : List Tm} (h : OwnR w B (.slice (some ⟨g, 0, none⟩) n cap) ts) (hT : ∀ t ∈ ts, IsTm t) (hn : ts.length ≤ 1000000) :
    Calls Try.prog 164 #[.slice (some ⟨g, 0, none⟩) n cap, .func (.func 165) #[] #[]] w fun e w' => e = .returned (.tuple #[]) ∧ ∃ ts', OwnR w' B (.slice (some ⟨g, 0, none⟩) n cap) ts' ∧ ts'.Perm ts ∧ (∀ t ∈ ts', IsTm t) ∧ (ts'.Pairwise fun s t => before t.m s.m = false) ∧ Below B w w' := by
  obtain ⟨hl, h1⟩ := h
  rcases h1 with ⟨h0, _⟩ | ⟨g', cap', cur, hv, hB, hg, hc, hm, hs, hx⟩
  · cases h0
  · simp only [Value.slice.injEq, Option.some.injEq, Addr.mk.injEq, and_true] at hv
    obtain ⟨rfl, rfl, rfl⟩ := hv
    obtain ⟨d, rfl, hd⟩ := tsOf_mk hT
    have hlt : (tsOf d).length = d.size := by simp [tsOf]
    rw [hlt] at hx hn hc ⊢
    have hOw : Own w g 65 cur := hg
    have hcs : d.size * 9 ≤ cur.size := by rw [hs]; exact Nat.mul_le_mul_right 9 hc
    have hH := holdsT (_cap := cap) hOw hx hcs
    have eg : ∀ args w, (callFunc 165 args).run Try.prog w = .ok (.enter 165 args) w := enters_of Try.func165 (by kernel_rfl) rfl
    have hcon := AnyQ.slices_SortFunc Try.sortT 9 Try.isAggT Try.sizeT encT (fun x => tcells_length x.2) (fun x v hv => tcells_one' x.1 v hv) cfT swoT 165 #[] g 0 cap d w eg (cmpLaysT g 0 d.size w) hH hOw.lt (by omega)
    change Calls Try.prog 164 _ _ _ at hcon
    refine hcon.mono ?_
    rintro e w' ⟨rfl, d', m, os, hp, hsd, rfl⟩
    have hds : d'.size = d.size := hp.1
    obtain ⟨cur', hO', hsz, hx'⟩ := own_put (m := m) (os := os) hOw (by rw [hds]; exact hcs)
    have hl' : (tsOf d').length = d.size := by simp [tsOf, hds]
    refine ⟨rfl, tsOf d', ⟨?_, Or.inr ⟨g, cap, cur', by rw [hl'], hB, hO', by rw [hl']; exact hc, hm, by rw [hsz]; exact hs, by rw [hl', ← hds]; exact hx'⟩⟩, ?_, tsOf_tm d', ?_, below_put hB hOw.lt⟩
    · rw [rcells_length (tsOf_tm d')]
    · have := hp.2.2
      rw [show d'.extract 0 d.size = d' by rw [← hds]; simp, show d.extract 0 d.size = d by simp] at this
      exact this.map _
    · rw [List.pairwise_iff_getElem]
      intro i j hi hj hij
      rw [hl'] at hi hj
      have := hsd i j (Nat.zero_le _) hij hj
      rw [ltT] at this
      have e1 := tsOf_get d' (i := i) (by omega)
      have e2 := tsOf_get d' (i := j) (by omega)
      rw [List.getElem?_eq_getElem (by omega)] at e1 e2
      injection e1 with e1
      injection e2 with e2
      rw [e1, e2]
      exact this

/-! No terms: nothing is done. -/
theorem bitsLen0 (w : World) : ∃ l : Int, Calls Try.prog 182 #[.int .u64 0] w fun e w' => e = .returned (.int .i64 l) ∧ w' = w := by
  have h := Any.bits_Len (SlLaysF0.n15.bits (P := Try.prog) { Try.sortT with }) 0 w (by omega) (by omega)
  exact ⟨_, h⟩
theorem insertion_nil (w : World) (cb : Value) : Calls Try.prog 187 #[.slice none 0 0, .int .i64 0, .int .i64 0, cb] w fun e w' => e = .returned (.tuple #[]) ∧ w' = w := by
  go_enter Try.func187, Try.ntmps187
  go_wp2
  refine wp_loop_rounds 1 ?_
  rw [rounds_succ]
  go_wp2
  go_end0
  exact ⟨rfl, rfl⟩
set_option maxRecDepth 100000 in
theorem pdq_nil (w : World) (l : Int) (cb : Value) : Calls Try.prog 181 #[.slice none 0 0, .int .i64 0, .int .i64 0, .int .i64 l, cb] w fun e w' => e = .returned (.tuple #[]) ∧ w' = w := by
  go_enter Try.func181, Try.ntmps181
  go_wp2_with fail
  refine wp_loop_rounds 1 ?_
  rw [rounds_succ]
  go_wp2_with fail
  refine (insertion_nil w cb).mono ?_
  rintro e w' ⟨rfl, rfl⟩
  go_wp2_with fail
  exact bodyPost_ret (results_none rfl _ _ _) rfl ⟨rfl, rfl⟩
theorem SortFunc_nil (w : World) : Calls Try.prog 164 #[.slice none 0 0, .func (.func 165) #[] #[]] w fun e w' => e = .returned (.tuple #[]) ∧ w' = w := by
  obtain ⟨l, hl⟩ := bitsLen0 w
  go_enter Try.func164, Try.ntmps164
  go_wp2_with fail
  refine hl.mono ?_
  rintro e w' ⟨rfl, rfl⟩
  go_wp2_with fail
  refine (pdq_nil _ _ _).mono ?_
  rintro e w' ⟨rfl, rfl⟩
  go_wp2_with fail
  go_end0
  exact ⟨rfl, rfl⟩
theorem SortFunc_c {w : World} {B : Nat} {v : Value} {ts : List Tm} (h : OwnR w B v ts) (hT : ∀ t ∈ ts, IsTm t) (hn : ts.length ≤ 1000000) :
    Calls Try.prog 164 #[v, .func (.func 165) #[] #[]] w fun e w' => e = .returned (.tuple #[]) ∧ ∃ ts', OwnR w' B v ts' ∧ ts'.Perm ts ∧ (∀ t ∈ ts', IsTm t) ∧ (ts'.Pairwise fun s t => before t.m s.m = false) ∧ Below B w w' := by
  rcases h.2 with ⟨rfl, h0⟩ | ⟨g, cap, cur, rfl, r⟩
  · obtain rfl : ts = [] := List.length_eq_zero_iff.1 h0
    exact (SortFunc_nil w).mono fun e w' ⟨he, hw⟩ => ⟨he, [], by rw [hw]; exact h, List.Perm.refl _, by simp, List.Pairwise.nil, by rw [hw]; exact Below.refl _ _⟩
  · exact SortFunc_some h hT hn

end Go.Proofs.Ythcaiagnmmjooaa
