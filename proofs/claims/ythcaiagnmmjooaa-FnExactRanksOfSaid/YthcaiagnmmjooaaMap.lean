/- Sums as maps from monomials to numbers: what a map reads as, and one more number at a monomial. -/
import Derived.Test.YthcaiagnmmjooaaAddM
import Derived.Test.YthcaiagnmmjooaaHeld
import Derived.Maps.RangeWalk
import Derived.Maps.OwnOps
import Derived.Maps.Views
import Derived.DeepKeys4
namespace Go.Proofs.Ythcaiagnmmjooaa
open Go.RowKit Go.Deep Go.Maps

theorem Try.laidMap : laidOutB Try.prog = true := by kernel_rfl
theorem Try.cellsM : Try.prog.cellsOf 26 = 8 := by kernel_rfl
theorem Try.cellsU8 : Try.prog.cellsOf 5 = 1 := by kernel_rfl
theorem Try.keyTypeM : Try.prog.keyType 26 = true := by kernel_rfl
theorem Try.keyM : Keyed Try.prog 26 :=
  Keyed.of_law (deep_law_laid Try.laidMap (m := 2) (by omega) (of_decide_eq_true (by kernel_rfl)) (by kernel_rfl) (by rw [Try.underlying26]))
theorem Try.zeroI (w : World) : (zeroValue 2).run Try.prog w = .ok (.int .i64 0) w := by kernel_rfl

/-- What a monomial reads as, as a key. -/
def kM (m : List Int) : Lit := .string (keyBytes (m.map (Lit.int .u8)))
theorem keyLits_u8 {d : Nat} {x : Int} (h : 0 ≤ x ∧ x ≤ 255) : Try.prog.keyLits (d + 1) 5 [.int .u8 x] = some [.int .u8 x] := by
  have hw : (Lit.int .u8 x).wf = true := WalkArith.wf_u8 h
  unfold Program.keyLits
  rw [Try.underlying5]
  simp [hw]
theorem keyLits_M {m : List Int} (h : IsMono m) : Try.prog.keyLits (Try.prog.types.size + 1) 26 (mcells m) = some (m.map (Lit.int .u8)) := by
  obtain ⟨f, hf⟩ : ∃ f, Try.prog.types.size = f + 1 := ⟨Try.prog.types.size - 1, by have : 0 < Try.prog.types.size := of_decide_eq_true (by kernel_rfl); omega⟩
  rw [hf]
  unfold Program.keyLits
  rw [Try.underlying26]
  simp only [Try.cellsM, Try.cellsU8, mcells_length, h.1, if_true]
  obtain ⟨m0, m1, m2, m3, m4, m5, m6, m7, rfl⟩ := mono8 h
  have q : ∀ x ∈ [m0, m1, m2, m3, m4, m5, m6, m7], Try.prog.keyLits (f + 1) 5 [.int .u8 x] = some [.int .u8 x] := fun x hx => keyLits_u8 (h.2 x hx)
  simp only [List.mem_cons, List.not_mem_nil, or_false, forall_eq_or_imp, forall_eq] at q
  obtain ⟨q0, q1, q2, q3, q4, q5, q6, q7⟩ := q
  simp [mcells, List.range_succ, q0, q1, q2, q3, q4, q5, q6, q7]
theorem keyOf_M {m : List Int} (h : IsMono m) : keyOf Try.prog 26 (.agg (mcells m).toArray) = some (kM m) := by
  have hf : (Value.agg (mcells m).toArray).formed Try.prog 26 = true := by
    simp [Value.formed, Try.underlying26, Try.cellsM, h.1, mcells]
  unfold keyOf
  rw [Try.underlying26]
  simp only [Try.keyTypeM, hf, Bool.and_self, if_true]
  have : (Value.agg (mcells m).toArray).cells.toList = mcells m := by simp [Value.cells]
  rw [this, keyLits_M h]
  rfl
theorem kM_inj {m k : List Int} (hm : IsMono m) (hk : IsMono k) (h : kM m = kM k) : m = k := by
  have h1 := keyOf_M hm
  rw [h] at h1
  have h2 := Try.keyM.inj h1 (keyOf_M hk)
  simp only [Value.agg.injEq, List.toArray_eq_iff, mcells] at h2
  have : ∀ l : List Int, (l.map (Value.int .u8)).map intOf = l := fun l => by
    rw [List.map_map]
    conv => rhs; rw [← List.map_id l]
    apply List.map_congr_left
    intro x _
    rfl
  rw [← this m, ← this k]
  have h3 : (List.map (Value.int IntKind.u8) m) = (List.map (Value.int IntKind.u8) k) := by simpa using h2
  rw [h3]

/-- Block b is a map of at most n entries; at each monomial m it has the number S m (0 where there is none). -/
def MapIs (w : World) (b n : Nat) (S : List Int → Int) : Prop :=
  ∃ D : DataW Unit, w.ownsMap Try.prog 26 (plainElem Try.prog 2) b n D ∧ IsMap D ∧ ∀ m, IsMono m → D.atKey (kM m) (.lit (.int .i64 0)) = .lit (.int .i64 (S m))
theorem MapIs.lt {w : World} {b n : Nat} {S : List Int → Int} (h : MapIs w b n S) : b < w.heap.size := by obtain ⟨D, h1, _⟩ := h; exact h1.lt
theorem MapIs.keep {w w' : World} {b n : Nat} {S : List Int → Int} (h : MapIs w b n S) (hb : Below w.heap.size w w') : MapIs w' b n S := by
  obtain ⟨D, h1, h2⟩ := h
  exact ⟨D, h1.kept (row := none) ⟨hb.os, hb.tape, hb.output, hb.size, fun k hk _ => hb.block k hk⟩ (by simp), h2⟩
theorem MapIs.far {w : World} {b n : Nat} {S : List Int → Int} (h : MapIs w b n S) {p : Addr} (hp : b ≠ p.block) (u : Value) : MapIs (w.setCell p u) b n S := by
  obtain ⟨D, h1, h2⟩ := h
  have hb := (Below.refl p.block w).setCell (p := p) (Nat.le_refl _) u
  exact ⟨D, h1.kept (row := some p.block) ⟨hb.os, hb.tape, hb.output, hb.size, fun k _ hk => Below.heap_setCell w p u k (fun e => hk (by rw [e]))⟩ (by simpa using hp), h2⟩
theorem MapIs.mono {w : World} {b n n' : Nat} {S : List Int → Int} (h : MapIs w b n S) (hn : n ≤ n') : MapIs w b n' S := by
  obtain ⟨D, h1, h2⟩ := h
  exact ⟨D, h1.mono hn, h2⟩
theorem mapIs_made (w : World) : MapIs (w.alloc (.map #[] 0)) w.heap.size 0 (fun _ => 0) :=
  ⟨.map [], World.ownsMap_made _ _ _ _, isMap_empty, fun _m _ => rfl⟩
def updS (S : List Int → Int) (m : List Int) (x : Int) : List Int → Int := fun k => if k = m then x else S k
theorem MapIs.lookup {w : World} {b n : Nat} {S : List Int → Int} {m : List Int} (h : MapIs w b n S) (hm : IsMono m) : (Instr.lookup 133 (.map (some b)) (.agg (mcells m).toArray) false).run Try.prog w = .ok (.int .i64 (S m)) w := by
  obtain ⟨D, h1, _, h3⟩ := h
  obtain ⟨c, hrun, hat, _⟩ := h1.lookup_int Try.keyM Try.underlying133 Try.underlying2 (Try.zeroI w) (keyOf_M hm)
  rw [h3 m hm] at hat
  simp only [DataW.lit.injEq, Lit.int.injEq, true_and] at hat
  rw [hat]
  exact hrun
theorem MapIs.update {w : World} {b n : Nat} {S : List Int → Int} {m : List Int} {x : Int} (h : MapIs w b n S) (hn : n < maxLen) (hm : IsMono m) (hx : 0 ≤ x ∧ x ≤ 10006) : ∃ w', (Instr.mapUpdate 133 (.map (some b)) (.agg (mcells m).toArray) (.int .i64 x)).run Try.prog w = .ok () w' ∧ MapIs w' b (n + 1) (updS S m x) ∧ w.grownBy w' (some b) := by
  obtain ⟨D, h1, h2, h3⟩ := h
  have hw : (Lit.int .i64 x).wf = true := WalkArith.wf_i64 (by omega)
  obtain ⟨w', hrun, hown, hg⟩ := h1.update Try.keyM Try.underlying133 hn (keyOf_M hm) (plainElem_int Try.underlying2 hw)
  refine ⟨w', hrun, ⟨_, hown, h2.put _ _, fun k hk => ?_⟩, hg⟩
  unfold updS
  split
  · rename_i e
    rw [e, atKey_put_same h2 (Try.keyM.key (keyOf_M hm))]
  · rename_i e
    rw [atKey_put_other (fun e2 => e (kM_inj hk hm e2)), h3 k hk]

end Go.Proofs.Ythcaiagnmmjooaa
