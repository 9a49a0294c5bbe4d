
import Derived.Test.YtndnkeijddagiaaNewA
import Derived.Test.YtndnkeijddagiaaClosed
namespace Go.Proofs.Ytndnkeijddagiaa
open Go.RowKit Go.Deep
theorem row_weaken {w : World} {B B' sz n : Nat} {t : TypeId} {v : Value} {xs : List Value} (h : w.ownsRow B t sz v n xs) (hB : B' ≤ B) : w.ownsRow B' t sz v n xs := by
  obtain ⟨hl, h1⟩ := h
  refine ⟨hl, ?_⟩
  rcases h1 with h0 | ⟨g, cap, cur, hv, hb, r⟩
  · exact Or.inl h0
  · exact Or.inr ⟨g, cap, cur, hv, by omega, r⟩
end Go.Proofs.Ytndnkeijddagiaa
namespace Go.Proofs.Ytndnkeijddagiaa
open Go.RowKit Go.Deep
theorem FrmsN.frms {w : World} {a : Option Addr} {n : Nat} {fss : List (List Tm)} (h : FrmsN w a n fss) (hL : ∀ ts ∈ fss, (ts.length : Int) ≤ 1048576) : Frms w a n fss :=
  ⟨h.1, fun hn => by
    obtain ⟨b, off, ha, hlt, hc⟩ := h.2 hn
    refine ⟨b, off, ha, hlt, fun i ts hi => ?_⟩
    obtain ⟨ai, ni, ci, h1, h2, -⟩ := hc i ts hi
    exact ⟨ai, ni, ci, h1, h2, by have := hL ts (List.mem_of_getElem? hi); have := h2.len; omega⟩⟩
def SlN (w : World) (v : Value) (ts : List Tm) : Prop := ∃ ai ni ci, v = .slice ai ni ci ∧ Terms w ai ni ts ∧ ((ai = none ∧ ni = 0 ∧ ci = 0) ∨ ∃ bi oi, ai = some ⟨bi, oi, none⟩)
theorem FrmsN.cells {w : World} {gi oi n : Nat} {fss : List (List Tm)} (h : FrmsN w (some ⟨gi, oi, none⟩) n fss) : ∃ vs : List Value, vs.length = n ∧ (∀ (j : Nat) v, vs[j]? = some v → w.cell? ⟨gi, oi + j, none⟩ = some v) ∧ (∀ (j : Nat) v ts, vs[j]? = some v → fss[j]? = some ts → SlN w v ts) := by
  have hl := h.1
  have hx : ∀ j, j < n → ∃ v, w.cell? ⟨gi, oi + j, none⟩ = some v ∧ ∀ ts, fss[j]? = some ts → SlN w v ts := by
    intro j hj
    obtain ⟨b, off, e, hb, hc⟩ := h.2 (by omega)
    injection e with e
    injection e with e1 e2
    subst e1 e2
    obtain ⟨ai, ni, ci, h1, h2, h3⟩ := hc j _ (List.getElem?_eq_getElem (show j < fss.length by omega))
    exact ⟨_, h1, fun ts hts => by
      rw [List.getElem?_eq_getElem (show j < fss.length by omega)] at hts
      injection hts with hts
      subst hts
      exact ⟨ai, ni, ci, rfl, h2, h3⟩⟩
  obtain ⟨f, hf⟩ := choose_lt (α := Value) (n := n) (p := fun j v => w.cell? ⟨gi, oi + j, none⟩ = some v ∧ ∀ ts, fss[j]? = some ts → SlN w v ts) hx
  refine ⟨(List.range n).map f, by simp, fun j v hv => ?_, fun j v ts hv hts => ?_⟩
  all_goals
    have hj := (List.getElem?_eq_some_iff.1 hv).1
    rw [List.length_map, List.length_range] at hj
    rw [List.getElem?_map, List.getElem?_range hj] at hv
    injection hv with hv
    subst hv
  · exact (hf j hj).1
  · exact (hf j hj).2 ts hts
theorem SlN.keep {w w' : World} {v : Value} {ts : List Tm} (h : SlN w v ts) (hb : Below w.heap.size w w') : SlN w' v ts := by
  obtain ⟨ai, ni, ci, h1, h2, h3⟩ := h
  exact ⟨ai, ni, ci, h1, h2.keep hb, h3⟩
theorem SlN.one {w : World} {v : Value} {ts : List Tm} (h : SlN w v ts) : v.oneCell' = true := by
  obtain ⟨ai, ni, ci, rfl, -⟩ := h
  rfl
theorem frmsN_row {w : World} {B n : Nat} {v : Value} {vs : List Value} {fss : List (List Tm)} (h : w.ownsRow B 47 1 v n vs) (hl : fss.length = n) (hs : ∀ (j : Nat) u ts, vs[j]? = some u → fss[j]? = some ts → SlN w u ts) (hn : 0 < n) : ∃ g c, v = .slice (some ⟨g, 0, none⟩) n c ∧ FrmsN w (some ⟨g, 0, none⟩) n fss := by
  have hc := fun g => World.ownsRow.cells (g := g) h
  have hvl : vs.length = n := by have := h.1; omega
  rcases h.2 with ⟨hv, h0⟩ | ⟨g, cap, cur, hv, hb, hg, hnc, _⟩
  · omega
  · refine ⟨g, cap, hv, hl, fun _ => ⟨g, 0, rfl, (Array.getElem?_eq_some_iff.1 hg).1, fun i ts hi => ?_⟩⟩
    have hii := (List.getElem?_eq_some_iff.1 hi).1
    have hu : vs[i]? = some (vs[i]'(by omega)) := List.getElem?_eq_getElem (by omega)
    obtain ⟨ai, ni, ci, h1, h2, h3⟩ := hs i _ ts hu hi
    have h4 := hc g (by rw [hv]; rfl) i _ hu
    rw [Addr.add_mid] at h4
    exact ⟨ai, ni, ci, by rw [h4, h1], h2, h3⟩
theorem ints_row {w : World} {B n : Nat} {v : Value} {zs : List Int} (h : w.ownsRow B 2 1 v n (zs.map (Value.int .i64))) (hn : 0 < n) : ∃ g c, v = .slice (some ⟨g, 0, none⟩) n c ∧ Ints w (some ⟨g, 0, none⟩) n zs := by
  obtain ⟨a, c, hv, hO⟩ := OwnV.of_row h
  have hi := hO.ints
  obtain ⟨g, cs, e, -⟩ := hO.2 hn
  subst e
  exact ⟨g, c, hv, hi⟩
theorem isAlg_lenQ2 {zs : List Int} {ims : List (List Tm)} (h : isAlg zs ims = true) : ims.length = zs.length := by
  simp only [isAlg, Bool.and_eq_true, decide_eq_true_eq] at h
  exact h.2.1
theorem isAlg_400b {zs : List Int} {ims : List (List Tm)} (h : isAlg zs ims = true) : ∀ ts ∈ ims, ts.length ≤ 400 := by
  intro ts hts
  obtain ⟨k, hk, rfl⟩ := List.mem_iff_getElem.1 hts
  have hl := isAlg_lenQ2 h
  simp only [isAlg, Bool.and_eq_true] at h
  have h4 := List.all_eq_true.1 h.2.2.1 k (List.mem_range.2 hk)
  have h5 := okIm_of (z := zs[k]'(by omega)) (List.getElem?_eq_getElem (show k < zs.length by omega)) (List.getElem?_eq_getElem hk) rfl
  rw [h4] at h5
  have h6 := zeroOr_form h5.symm
  simp only [isForm, Bool.and_eq_true, decide_eq_true_eq] at h6
  omega
theorem sumLen_bdB {V : List (List Tm)} {B : Nat} (h : ∀ ts ∈ V, ts.length ≤ B) : sumLen V ≤ V.length * B := by
  induction V with
  | nil => simp [sumLen]
  | cons x l ih =>
    have h1 := h x (by simp)
    have h2 := ih (fun y hy => h y (by simp [hy]))
    have h3 : sumLen (x :: l) = x.length + sumLen l := by simp [sumLen]
    rw [h3, List.length_cons, Nat.succ_mul]
    omega
end Go.Proofs.Ytndnkeijddagiaa
namespace Go.Proofs.Ytndnkeijddagiaa
open Go.RowKit Go.Deep
end Go.Proofs.Ytndnkeijddagiaa
