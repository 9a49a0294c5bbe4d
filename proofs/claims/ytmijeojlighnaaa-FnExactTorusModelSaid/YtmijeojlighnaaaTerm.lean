
import Derived.Test.YtmijeojlighnaaaMonoB
import Derived.Lib.Bytealg
import Derived.Lib.Bytes
import Derived.Lib.BytesEntry
import Derived.Laws.MakeOwn
import Derived.Deep.DeepCutAuto
namespace Go.Proofs.Ytmijeojlighnaaa
open Go.RowKit Go.Deep
def cmpM : List Int → List Int → Int
  | a :: l1, b :: l2 => if b < a then -1 else if a < b then 1 else cmpM l1 l2
  | _, _ => 0
def before (m k : List Int) : Bool := decide (cmpM m k = -1)
end Go.Proofs.Ytmijeojlighnaaa
namespace Go.Proofs.Ytmijeojlighnaaa
open Go.RowKit Go.Deep
theorem rcells_append (xs ys : List Tm) : rcells (xs ++ ys) = rcells xs ++ rcells ys := by simp [rcells]
theorem rcells_cons (t : Tm) (ys : List Tm) : rcells (t :: ys) = tcells t ++ rcells ys := by simp [rcells]
theorem Terms.len {w : World} {a : Option Addr} {n : Nat} {ts : List Tm} (h : Terms w a n ts) : ts.length = n := h.1
theorem Terms.drewN {w : World} {a : Option Addr} {n : Nat} {ts : List Tm} (h : Terms w a n ts) (k : Nat) : Terms (w.drewN k) a n ts := h
theorem Terms.drew {w : World} {a : Option Addr} {n : Nat} {ts : List Tm} (h : Terms w a n ts) : Terms w.drew a n ts := h
theorem Terms.at_ {w : World} {a : Option Addr} {n : Nat} {ts : List Tm} (h : Terms w a n ts) {k : Nat} (hk : k < n) :
    ∃ b off t, a = some ⟨b, off, none⟩ ∧ b < w.heap.size ∧ w.rangeAt b (off + k * 9) (tcells t) ∧ IsTm t ∧ Hid (ts[k]? = some t) := by
  obtain ⟨hl, hT, hc⟩ := h
  obtain ⟨b, off, ha, hlt, hr⟩ := hc (by omega)
  have hkl : k < ts.length := by omega
  refine ⟨b, off, ts[k], ha, hlt, fun j v hv => ?_, hT _ (List.getElem_mem hkl), List.getElem?_eq_getElem hkl⟩
  have hpre : (rcells (ts.take k)).length = k * 9 := by
    rw [rcells_length (fun t ht => hT t (List.mem_of_mem_take ht)), List.length_take]
    congr 1
    omega
  have hsplit : rcells ts = rcells (ts.take k) ++ (tcells ts[k] ++ rcells (ts.drop (k + 1))) := by
    rw [← rcells_cons, ← rcells_append, ← List.drop_eq_getElem_cons hkl, List.take_append_drop]
  have hj : j < (tcells ts[k]).length := (List.getElem?_eq_some_iff.1 hv).1
  have := hr (k * 9 + j) v (by
    rw [hsplit, List.getElem?_append_right (by omega), hpre, show k * 9 + j - k * 9 = j by omega, List.getElem?_append_left hj]
    exact hv)
  rw [show off + k * 9 + j = off + (k * 9 + j) by omega]
  exact this
theorem Terms.of_own {w : World} {g : Nat} {t : TypeId} {ts : List Tm} {n : Nat} (h : Own w g t (rcells ts).toArray) (hT : ∀ t ∈ ts, IsTm t) (hn : ts.length = n) : Terms w (some ⟨g, 0, none⟩) n ts :=
  ⟨hn, hT, fun _ => ⟨g, 0, rfl, h.lt, by simpa using h.range⟩⟩
end Go.Proofs.Ytmijeojlighnaaa
