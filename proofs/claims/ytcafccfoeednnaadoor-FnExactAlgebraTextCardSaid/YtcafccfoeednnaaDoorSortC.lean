/- Lists of terms sorted by the order of monomials: what the call does. Lists of terms sorted by the order of monomials: the library's sort with the program's comparison. -/
import Derived.Test.YtcafccfoeednnaaDoorSortL
import Derived.Test.YtcafccfoeednnaaDoorResult
import Derived.Test.YtcafccfoeednnaaDoorAddM
namespace Go.Proofs.YtcafccfoeednnaaDoor
open Go.RowKit Go.Deep

/-- The comparison, in whatever world: blocks are laid, nothing else. -/
theorem compareMonomials_g {w : World} {m k : List Int} (hm : IsMono m) (hk : IsMono k) :
    Calls Tryd.prog 39 #[monoV m, monoV k] w fun e w' => e = .returned (.int .i64 (cmpM m k)) ∧ ∃ q os', w' = Go.Sort.grow (w.drewN q) os' := by
  unfold monoV
  go_enter Tryd.func39, Tryd.ntmps39
  go_wp2
  have o1 := (Own.new w 62 (mcells m).toArray).alloc (.cells (mcells k).toArray 62)
  have o2 := Own.new (w.alloc (.cells (mcells m).toArray 62)) 62 (mcells k).toArray
  have hb : ∃ os', (w.alloc (.cells (mcells m).toArray 62)).alloc (.cells (mcells k).toArray 62) = Go.Sort.grow w os' := ⟨_, by rw [Go.Sort.alloc_eq_grow, Go.Sort.alloc_eq_grow, Go.Sort.grow_grow]⟩
  rw [size_alloc] at o2
  generalize (w.alloc (.cells (mcells m).toArray 62)).alloc (.cells (mcells k).toArray 62) = w0 at *
  obtain ⟨os', rfl⟩ := hb
  go_quiet ((go_at_call 57; exact Calls.quiet_of_same (Compare_c hm hk (o1.drewN _) (o2.drewN _))))
  go_wp2
  go_ret
  exact ⟨rfl, _, os', rfl⟩
theorem compareM8 {w : World} {p0 p1 p2 p3 p4 p5 p6 p7 q0 q1 q2 q3 q4 q5 q6 q7 v : Int} (hm : IsMono [p0, p1, p2, p3, p4, p5, p6, p7]) (hk : IsMono [q0, q1, q2, q3, q4, q5, q6, q7]) (hv : cmpM [p0, p1, p2, p3, p4, p5, p6, p7] [q0, q1, q2, q3, q4, q5, q6, q7] = v) :
    Calls Tryd.prog 39 #[.agg #[.int .u8 p0, .int .u8 p1, .int .u8 p2, .int .u8 p3, .int .u8 p4, .int .u8 p5, .int .u8 p6, .int .u8 p7], .agg #[.int .u8 q0, .int .u8 q1, .int .u8 q2, .int .u8 q3, .int .u8 q4, .int .u8 q5, .int .u8 q6, .int .u8 q7]] w fun e w' => e = .returned (.int .i64 v) ∧ ∃ q os', w' = Go.Sort.grow (w.drewN q) os' := by
  have := compareMonomials_g (w := w) hm hk
  rw [hv] at this
  exact this
/-- Terms, as the sort has them. -/
abbrev TmS := {t : Tm // IsTm t}
theorem tm0_is : IsTm ⟨nul8, 0⟩ := ⟨⟨rfl, by decide⟩, by decide, by decide⟩
instance : Inhabited TmS := ⟨⟨⟨nul8, 0⟩, tm0_is⟩⟩
def encT (x : TmS) : List Value := tcells x.1
def cfT (x y : TmS) : Int := cmpM x.1.m y.1.m
theorem Tryd.isAggT : ∀ w, (isAgg 64).run Tryd.prog w = .ok true w := fun w => by kernel_rfl
theorem Tryd.sizeT : ∀ w, (Go.sizeOf 64).run Tryd.prog w = .ok 9 w := fun w => by kernel_rfl
theorem tcells_one' (t : Tm) : ∀ v ∈ tcells t, v.oneCell' = true := by
  intro v hv
  simp only [tcells, mcells, List.mem_append, List.mem_map, List.mem_singleton] at hv
  rcases hv with ⟨x, _, rfl⟩ | rfl <;> rfl

theorem rcells_get : ∀ {ts : List Tm}, (∀ t ∈ ts, IsTm t) → ∀ {q r : Nat} {t : Tm}, ts[q]? = some t → r < 9 → (rcells ts)[q * 9 + r]? = (tcells t)[r]?
  | [], _, q, r, t, h, _ => by simp at h
  | u :: ts, hT, 0, r, t, h, hr => by
    simp only [List.getElem?_cons_zero, Option.some.injEq] at h
    subst h
    rw [rcells_cons, Nat.zero_mul, Nat.zero_add, List.getElem?_append_left (by rw [tcells_length (hT u (by simp))]; exact hr)]
  | u :: ts, hT, q + 1, r, t, h, hr => by
    rw [List.getElem?_cons_succ] at h
    have h9 := tcells_length (hT u (by simp))
    rw [rcells_cons, List.getElem?_append_right (by omega), h9, show (q + 1) * 9 + r - 9 = q * 9 + r by omega]
    exact rcells_get (fun t ht => hT t (by simp [ht])) h hr
/-- The terms of an array. -/
def tsOf (d : Array TmS) : List Tm := d.toList.map (·.1)
theorem tsOf_tm (d : Array TmS) : ∀ t ∈ tsOf d, IsTm t := by
  intro t ht
  simp only [tsOf, List.mem_map] at ht
  obtain ⟨x, _, rfl⟩ := ht
  exact x.2
theorem tsOf_get (d : Array TmS) {i : Nat} (h : i < d.size) : (tsOf d)[i]? = some d[i]!.1 := by
  rw [getElem!_pos d i h, tsOf, List.getElem?_map, Array.getElem?_toList, Array.getElem?_eq_getElem h]
  rfl
end Go.Proofs.YtcafccfoeednnaaDoor

namespace Go.Proofs.YtcafccfoeednnaaDoor
open Go.RowKit Go.Deep

theorem tsOf_mk {ts : List Tm} (hT : ∀ t ∈ ts, IsTm t) : ∃ d : Array TmS, tsOf d = ts ∧ d.size = ts.length := by
  refine ⟨(ts.pmap (fun t h => (⟨t, h⟩ : TmS)) hT).toArray, ?_, by simp⟩
  simp [tsOf, List.map_pmap]
/-! No terms: nothing is done. -/
end Go.Proofs.YtcafccfoeednnaaDoor
