
import Derived.Test.YtndnkeijddagiaaIsAlgS
import Derived.Test.YtndnkeijddagiaaWord
import Derived.Test.YtndnkeijddagiaaAlgS
namespace Go.Proofs.Ytndnkeijddagiaa
open Go.RowKit Go.Deep
theorem isAlg_degs {zs : List Int} {ims : List (List Tm)} (h : isAlg zs ims = true) : degsOk zs = true := by
  simp only [isAlg, Bool.and_eq_true] at h
  exact h.1
end Go.Proofs.Ytndnkeijddagiaa

namespace Go.Proofs.Ytndnkeijddagiaa
open Go.RowKit Go.Deep
def Tab (w : World) (a : Option Addr) (n : Nat) (T : List (List Int)) : Prop :=
  T.length = n ∧ (0 < n → ∃ b off, a = some ⟨b, off, none⟩ ∧ b < w.heap.size ∧ ∀ i r, T[i]? = some r → ∃ ai ci, w.cell? ⟨b, off + i, none⟩ = some (.slice ai r.length ci) ∧ Ints w ai r.length r)
theorem Tab.keep {w w' : World} {a : Option Addr} {n : Nat} {T : List (List Int)} (h : Tab w a n T) (hb : Below w.heap.size w w') : Tab w' a n T :=
  ⟨h.1, fun hn => by
    obtain ⟨b, off, ha, hlt, hc⟩ := h.2 hn
    refine ⟨b, off, ha, Nat.lt_of_lt_of_le hlt hb.size, fun i r hi => ?_⟩
    obtain ⟨ai, ci, h1, h2⟩ := hc i r hi
    exact ⟨ai, ci, (hb.cell (p := ⟨b, off + i, none⟩) hlt).trans h1, h2.keep hb⟩⟩
theorem Tab.at_ {w : World} {a : Option Addr} {n : Nat} {T : List (List Int)} (h : Tab w a n T) {k : Nat} (hk : k < n) :
    ∃ b off r ai mi ci, a = some ⟨b, off, none⟩ ∧ b < w.heap.size ∧ w.cell? ⟨b, off + k, none⟩ = some (.slice ai mi ci) ∧ Ints w ai mi r ∧ Hid (T[k]? = some r) := by
  obtain ⟨b, off, ha, hlt, hc⟩ := h.2 (by omega)
  have hk2 : k < T.length := by have := h.1; omega
  have hx : T[k]? = some T[k] := List.getElem?_eq_getElem hk2
  obtain ⟨ai, ci, h1, h2⟩ := hc k _ hx
  exact ⟨b, off, _, ai, _, ci, ha, hlt, h1, h2, hx⟩
structure Rw where
  a : Option Addr
  m : Nat
  c : Nat
  g : Nat
  cs : Array Value
structure Tbl (w : World) (g n : Nat) (R : List Rw) : Prop where
  len : R.length = n
  own : ∃ os : Array Value, Own w g 22 os ∧ ∀ (i : Nat) r, R[i]? = some r → os[i]? = some (Value.slice r.a r.m r.c)
  each : ∀ (i : Nat) r, R[i]? = some r → 0 < r.m → r.a = some ⟨r.g, 0, none⟩ ∧ Own w r.g 2 r.cs ∧ r.m ≤ r.cs.size
  apart : ∀ (i j : Nat) r s, i < j → R[i]? = some r → R[j]? = some s → 0 < r.m → 0 < s.m → r.g ≠ s.g
theorem Tbl.keep {w w' : World} {g n : Nat} {R : List Rw} (h : Tbl w g n R) (hb : Below w.heap.size w w') : Tbl w' g n R :=
  ⟨h.len, by obtain ⟨os, h1, h2⟩ := h.own; exact ⟨os, h1.keep hb h1.lt, h2⟩, fun i r h1 h2 => by obtain ⟨h3, h4, h5⟩ := h.each i r h1 h2; exact ⟨h3, h4.keep hb h4.lt, h5⟩, h.apart⟩
theorem Tbl.touch {p : Nat → Prop} {w w' : World} {g n : Nat} {R : List Rw} (h : Tbl w g n R) (ht : Touch p w w') (hg : ¬ p g) (hp : ∀ r ∈ R, 0 < r.m → ¬ p r.g) : Tbl w' g n R :=
  ⟨h.len, by obtain ⟨os, h1, h2⟩ := h.own; exact ⟨os, ht.own h1 hg, h2⟩, fun i r h1 h2 => by obtain ⟨h3, h4, h5⟩ := h.each i r h1 h2; exact ⟨h3, ht.own h4 (hp r (List.mem_of_getElem? h1) h2), h5⟩, h.apart⟩
def totR (R : List Rw) : Nat := (R.map Rw.m).sum
def mkR (K : Int) (r : Rw) : Rw := { r with cs := markA (mkI K) r.cs r.m }
def markT (K : Int) (R : List Rw) : Nat → List Rw
  | 0 => R
  | k + 1 => match R[k]? with
    | some r => (markT K R k).set k (mkR (K + totR (R.take k)) r)
    | none => markT K R k
theorem Tbl.row {w : World} {g n : Nat} {R : List Rw} (h : Tbl w g n R) {k : Nat} {r : Rw} (hr : R[k]? = some r) : w.cell? ⟨g, k, none⟩ = some (.slice r.a r.m r.c) := by
  obtain ⟨os, h1, h2⟩ := h.own
  rw [h1.cell k]
  exact h2 k r hr
def OwnT (w : World) (lo hi : Nat) (a : Option Addr) (n : Nat) (V : List (List Int)) : Prop :=
  V.length = n ∧ (0 < n → ∃ g R, a = some ⟨g, 0, none⟩ ∧ lo ≤ g ∧ g < hi ∧ Tbl w g n R ∧ (∀ r ∈ R, 0 < r.m → lo ≤ r.g ∧ r.g < hi) ∧ R.map Rw.m = V.map List.length ∧ ∀ (i : Nat) r row, R[i]? = some r → V[i]? = some row → Ints w r.a r.m row)
section
variable {w w' : World} {lo hi n : Nat} {a : Option Addr} {V : List (List Int)}
theorem OwnT.none_ : OwnT w lo hi none 0 [] := ⟨rfl, fun h => absurd h (by omega)⟩
theorem OwnT.keep (h : OwnT w lo hi a n V) (hb : Below w.heap.size w w') : OwnT w' lo hi a n V :=
  ⟨h.1, fun hn => by
    obtain ⟨g, R, h1, h2, h3, h4, h5, h6, h7⟩ := h.2 hn
    exact ⟨g, R, h1, h2, h3, h4.keep hb, h5, h6, fun i r row hr hv => (h7 i r row hr hv).keep hb⟩⟩
theorem OwnT.weaken {lo' hi' : Nat} (h : OwnT w lo hi a n V) (k1 : lo' ≤ lo) (k2 : hi ≤ hi') : OwnT w lo' hi' a n V :=
  ⟨h.1, fun hn => by
    obtain ⟨g, R, h1, h2, h3, h4, h5, h6⟩ := h.2 hn
    exact ⟨g, R, h1, by omega, by omega, h4, fun r hr hm => by have := h5 r hr hm; omega, h6⟩⟩
theorem OwnT.touch {p : Nat → Prop} (h : OwnT w lo hi a n V) (ht : Touch p w w') (hp : ∀ g, lo ≤ g → g < hi → ¬ p g) : OwnT w' lo hi a n V :=
  ⟨h.1, fun hn => by
    obtain ⟨g, R, h1, h2, h3, h4, h5, h6, h7⟩ := h.2 hn
    refine ⟨g, R, h1, h2, h3, h4.touch ht (hp g h2 h3) (fun r hr hm => hp r.g (h5 r hr hm).1 (h5 r hr hm).2), h5, h6, fun i r row hr hv => ?_⟩
    have hI := h7 i r row hr hv
    refine ⟨hI.1, fun hm => ?_⟩
    obtain ⟨b, off, e, hb, hc⟩ := hI.2 hm
    obtain ⟨e2, h8, -⟩ := h4.each i r hr hm
    have hbg : b = r.g := by rw [e] at e2; injection e2 with e2; injection e2
    have hq := h5 r (List.mem_of_getElem? hr) hm
    exact ⟨b, off, e, Nat.lt_of_lt_of_le hb ht.below.size, fun k hk => (World.cell?_of_block (a := ⟨b, off + k, none⟩) (ht.other b hb (by rw [hbg]; exact hp r.g hq.1 hq.2))).trans (hc k hk)⟩⟩
theorem OwnT.tab (h : OwnT w lo hi a n V) : Tab w a n V :=
  ⟨h.1, fun hn => by
    obtain ⟨g, R, rfl, h2, h3, h4, h5, h6, h7⟩ := h.2 hn
    obtain ⟨os, ho, -⟩ := h4.own
    refine ⟨g, 0, rfl, ho.lt, fun i row hi => ?_⟩
    have hl : R.length = V.length := by rw [h4.len, h.1]
    have hiv := (List.getElem?_eq_some_iff.1 hi).1
    have hr : R[i]? = some (R[i]'(by omega)) := List.getElem?_eq_getElem (by omega)
    have hm : (R[i]'(by omega)).m = row.length := by
      have e := congrArg (fun l => l[i]?) h6
      simp only [List.getElem?_map, hr, hi, Option.map_some] at e
      injection e
    refine ⟨_, (R[i]'(by omega)).c, ?_, hm ▸ h7 i _ row hr hi⟩
    rw [Nat.zero_add, h4.row hr, hm]⟩
end
def MarkedT (w : World) (a : Option Addr) (n : Nat) (K : Int) (tot : Nat) : Prop :=
  (n = 0 ∧ tot = 0) ∨ ∃ g R, a = some ⟨g, 0, none⟩ ∧ Tbl w g n (markT K R n) ∧ R.length = n ∧ (∀ (i : Nat) r, R[i]? = some r → r.m ≤ r.cs.size) ∧ (∀ r ∈ R, r.m ≤ 1048576) ∧ totR R = tot
theorem MarkedT.keep {w w' : World} {a : Option Addr} {n : Nat} {K : Int} {tot : Nat} (h : MarkedT w a n K tot) (hb : Below w.heap.size w w') : MarkedT w' a n K tot := by
  rcases h with h | ⟨g, R, h1, h2, h3⟩
  · exact Or.inl h
  · exact Or.inr ⟨g, R, h1, h2.keep hb, h3⟩
end Go.Proofs.Ytndnkeijddagiaa
