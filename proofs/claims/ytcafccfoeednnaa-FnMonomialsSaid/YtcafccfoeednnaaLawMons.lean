/- The walk of the law FnExactMonomialsOf: for every list of numbers and every number it returns true and leaves the argument as it was. -/
import Derived.Test.YtcafccfoeednnaaMonsOf
import Derived.Test.YtcafccfoeednnaaAlgS
namespace Go.Proofs.Ytcafccfoeednnaa
open Go.RowKit Go.Deep

/-- A list of monomials, read. -/
def Mos (w : World) (a : Option Addr) (n : Nat) (V : List (List Int)) : Prop :=
  V.length = n ∧ (∀ m ∈ V, IsMono m) ∧ (0 < n → ∃ b off, a = some ⟨b, off, none⟩ ∧ b < w.heap.size ∧ w.rangeAt b off (mrowsV V))
theorem OwnM.mos {w : World} {lo hi n : Nat} {a : Option Addr} {V : List (List Int)} (h : OwnM w lo hi a n V) : Mos w a n V :=
  ⟨h.1, h.2.1, fun hn => by
    obtain ⟨g, cs, rfl, h2, h3, h4, h5, h6⟩ := h.2.2 hn
    exact ⟨g, 0, rfl, h4.lt, fun j v hv => by rw [Nat.zero_add, h4.cell j]; exact h6 j v hv⟩⟩
theorem Mos.keep {w w' : World} {a : Option Addr} {n : Nat} {V : List (List Int)} (h : Mos w a n V) (hb : Below w.heap.size w w') : Mos w' a n V :=
  ⟨h.1, h.2.1, fun hn => by
    obtain ⟨b, off, ha, hlt, hc⟩ := h.2.2 hn
    exact ⟨b, off, ha, Nat.lt_of_lt_of_le hlt hb.size, rangeAt_keep hc (hb.block b hlt)⟩⟩
theorem mrowsV_get {V : List (List Int)} (h : ∀ m ∈ V, IsMono m) : ∀ {k j : Nat} {m : List Int} {v : Value}, V[k]? = some m → (mcells m)[j]? = some v → (mrowsV V)[k * 8 + j]? = some v := by
  induction V with
  | nil => intro k j m v hm _; simp at hm
  | cons x V ih =>
    intro k j m v hm hv
    have h8 := (h x (by simp)).1
    rw [show x :: V = [x] ++ V from rfl, mrowsV_app, mrowsV_one]
    cases k with
    | zero =>
      simp only [List.getElem?_cons_zero, Option.some.injEq] at hm
      subst hm
      rw [Nat.zero_mul, Nat.zero_add, List.getElem?_append_left (List.getElem?_eq_some_iff.1 hv).1]
      exact hv
    | succ k =>
      rw [List.getElem?_cons_succ] at hm
      rw [List.getElem?_append_right (by rw [mcells_length]; omega), mcells_length, h8, show (k + 1) * 8 + j - 8 = k * 8 + j by omega]
      exact ih (fun y hy => h y (by simp [hy])) hm hv
theorem Mos.at_ {w : World} {a : Option Addr} {n : Nat} {V : List (List Int)} (h : Mos w a n V) {k : Nat} (hk : k < n) : ∃ b off m, a = some ⟨b, off, none⟩ ∧ b < w.heap.size ∧ w.rangeAt b (off + k * 8) (mcells m) ∧ IsMono m ∧ Hid (V[k]? = some m) := by
  obtain ⟨b, off, ha, hb, hr⟩ := h.2.2 (by omega)
  have hx : V[k]? = some (V[k]'(by have := h.1; omega)) := List.getElem?_eq_getElem (by have := h.1; omega)
  refine ⟨b, off, _, ha, hb, fun j v hv => ?_, h.2.1 _ (List.mem_of_getElem? hx), hx⟩
  have := hr (k * 8 + j) v (mrowsV_get h.2.1 hx hv)
  rwa [← Nat.add_assoc] at this
theorem eight {w : World} {b o : Nat} {m0 m1 m2 m3 m4 m5 m6 m7 : Int} (h : w.rangeAt b o (mcells [m0, m1, m2, m3, m4, m5, m6, m7])) : w.cell? ⟨b, o, none⟩ = some (.int .u8 m0) ∧ w.cell? ⟨b, o + 1, none⟩ = some (.int .u8 m1) ∧ w.cell? ⟨b, o + 2, none⟩ = some (.int .u8 m2) ∧ w.cell? ⟨b, o + 3, none⟩ = some (.int .u8 m3) ∧ w.cell? ⟨b, o + 4, none⟩ = some (.int .u8 m4) ∧ w.cell? ⟨b, o + 5, none⟩ = some (.int .u8 m5) ∧ w.cell? ⟨b, o + 6, none⟩ = some (.int .u8 m6) ∧ w.cell? ⟨b, o + 7, none⟩ = some (.int .u8 m7) :=
  ⟨h 0 _ rfl, h 1 _ rfl, h 2 _ rfl, h 3 _ rfl, h 4 _ rfl, h 5 _ rfl, h 6 _ rfl, h 7 _ rfl⟩
theorem eqMono8M {w : World} {m0 m1 m2 m3 m4 m5 m6 m7 : Int} (hm : IsMono [m0, m1, m2, m3, m4, m5, m6, m7]) :
    Calls Try.prog 76 #[.agg #[.int .u8 m0, .int .u8 m1, .int .u8 m2, .int .u8 m3, .int .u8 m4, .int .u8 m5, .int .u8 m6, .int .u8 m7], .agg #[.int .u8 m0, .int .u8 m1, .int .u8 m2, .int .u8 m3, .int .u8 m4, .int .u8 m5, .int .u8 m6, .int .u8 m7]] w fun e w' => e = .returned (.bool true) ∧ Below w.heap.size w w' := by
  have := eqMonomial_c (w := w) hm hm
  rwa [show decide ([m0, m1, m2, m3, m4, m5, m6, m7] = [m0, m1, m2, m3, m4, m5, m6, m7]) = true from decide_eq_true rfl] at this

def mkB (K : Int) (i : Nat) : Value := .int .u8 ((K + i) % 256)
theorem OwnM.block {w : World} {lo hi n : Nat} {a : Option Addr} {V : List (List Int)} {gx : Nat} {tx : TypeId} {csx : Array Value} (h : OwnM w lo hi a n V) (hx : Own w gx tx csx) :
    ∃ g t cs, Own w g t cs ∧ n * 8 ≤ cs.size ∧ (0 < n → a = some ⟨g, 0, none⟩) ∧ (g = gx ∨ (lo ≤ g ∧ g < hi)) := by
  by_cases hn : 0 < n
  · obtain ⟨g, cs, e, h1, h2, h3, h4, -⟩ := h.2.2 hn
    exact ⟨g, _, cs, h3, h4, fun _ => e, Or.inr ⟨h1, h2⟩⟩
  · exact ⟨gx, _, csx, hx, by omega, fun hh => absurd hh hn, Or.inl rfl⟩

theorem moV_len (zs : List Int) (x : Int) : (moV zs x).length ≤ 400 := by
  by_cases h : moE zs x = 0
  · rw [moV, if_pos h, ext_len]
    unfold moE at h
    split at h
    · omega
    · split at h
      · omega
      · split at h
        · omega
        · rename_i h3
          have : (mons zs x.toNat).length = cnt zs x.toNat := rfl
          omega
  · rw [moV, if_neg h]
    simp

end Go.Proofs.Ytcafccfoeednnaa
