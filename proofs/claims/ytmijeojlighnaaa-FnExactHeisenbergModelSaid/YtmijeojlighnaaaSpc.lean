
import Derived.Test.YtmijeojlighnaaaFree
import Derived.Test.YtmijeojlighnaaaKeep
import Derived.Test.YtmijeojlighnaaaGen
namespace Go.Proofs.Ytmijeojlighnaaa
open Go.RowKit Go.Deep
def SpM (VD : List Int) (VI : List (List Tm)) (w : World) (e : Ending) (w' : World) : Prop := ∃ (ra : Option Addr) (an ac : Nat) (rb : Option Addr) (bn bc : Nat), e = .returned (.agg #[.slice ra an ac, .slice rb bn bc]) ∧ OwnV w' w.heap.size w'.heap.size ra an VD ∧ OwnF w' w.heap.size w'.heap.size rb bn VI ∧ Below w.heap.size w w'
def SpO (VD : List Int) (VI : List (List Tm)) (E : Int) (w : World) (e : Ending) (w' : World) : Prop := ∃ (ra : Option Addr) (an ac : Nat) (rb : Option Addr) (bn bc : Nat), e = .returned (.tuple #[.agg #[.slice ra an ac, .slice rb bn bc], .int .i64 E]) ∧ OwnV w' w.heap.size w'.heap.size ra an VD ∧ OwnF w' w.heap.size w'.heap.size rb bn VI ∧ Below w.heap.size w w'
theorem ownV_blk {w : World} {lo hi g n : Nat} {V : List Int} (h : Own w g 2 ((V.map (Value.int .i64)).toArray)) (hl : V.length = n) (h1 : lo ≤ g) (h2 : g < hi) : OwnV w lo hi (some ⟨g, 0, none⟩) n V :=
  ⟨hl, fun _ => ⟨g, _, rfl, h1, h2, h, by simp; omega, fun i hi => by
    have : V[i]? = some V[i] := List.getElem?_eq_getElem (by omega)
    simp [List.getD_eq_getElem?_getD, this]⟩⟩
theorem vals_nils {w : World} {B : Nat} {vs : List Value} {V : List (List Tm)} (h : Vals w B vs V) (hn : B ≤ w.heap.size) : ∀ j, Vals w B (vs ++ List.replicate j (.slice none 0 0)) (V ++ List.replicate j [])
  | 0 => by simpa using h
  | j + 1 => by
    rw [List.replicate_succ', List.replicate_succ', ← List.append_assoc, ← List.append_assoc]
    exact (vals_nils h hn j).snoc (vals_nils h hn j).lt hn ⟨rfl, Or.inl ⟨rfl, rfl⟩⟩
theorem news1s (w : World) (v : Value) (t : TypeId) : ∀ j u, ([v] : List Value)[j]? = some u → (w.alloc (.cells #[v] t)).cell? ((⟨w.heap.size, 0, none⟩ : Addr).add j) = some u := fun j u hu => by
  rw [Addr.add_mid]
  exact (Own.new w t #[v]).range j u hu
theorem ownF_nils {w : World} {lo g n : Nat} (h : Own w g 47 (Array.replicate n (.slice none 0 0))) (hlo : lo ≤ g) : OwnF w lo w.heap.size (some ⟨g, 0, none⟩) n (List.replicate n []) := by
  have h1 := vals_nils (Vals.nil w lo) (by have := h.lt; omega) n
  simp only [List.nil_append] at h1
  refine h1.ownF (by simp) h (fun i v hi => ?_) hlo (fun ts hts t ht => by rw [List.eq_of_mem_replicate hts] at ht; simp at ht)
  rw [List.getElem?_replicate] at hi
  rw [Array.getElem?_replicate]
  exact hi
set_option maxHeartbeats 1000000 in
set_option maxRecDepth 100000 in
theorem withZero_c {w : World} {a : Option Addr} {n : Nat} (c : Nat) (hn : n ≤ 1048576) :
    Calls Try.prog 90 #[.slice a n c] w fun e w' => ∃ g, e = .returned (.agg #[.slice a n c, .slice (some ⟨g, 0, none⟩) n n]) ∧ w.heap.size ≤ g ∧ Own w' g 47 (Array.replicate n (.slice none 0 0)) ∧ Below w.heap.size w w' := by
  have hX := Own.new w 25 #[.slice none 0 0, .slice none 0 0]
  have hb := below_alloc1 w (.cells #[.slice none 0 0, .slice none 0 0] 25)
  have hmk := make_forms n hn
  go_enter Try.func90, Try.ntmps90
  go_upto_region 1 with fail
  generalize w.alloc (.cells #[.slice none 0 0, .slice none 0 0] 25) = w1 at *
  obtain ⟨gX, hgX⟩ : ∃ g, w.heap.size = g := ⟨_, rfl⟩
  rw [hgX] at hX
  try rw [hgX]
  have hwX : w.heap.size ≤ gX := by omega
  clear hgX
  have hmk1 := hmk w1
  have hF := Own.new w1 47 (Array.replicate n (Value.slice none 0 0))
  have hba := below_alloc1 w1 (.cells (Array.replicate n (Value.slice none 0 0)) 47)
  have hlX := hX.lt
  have hs1 := hb.size
  have hX2 := hX.keep hba hX.lt
  have hb2 := below_trans' hb hba hb.size
  clear hmk hX hb hba
  generalize w1.alloc (.cells (Array.replicate n (Value.slice none 0 0)) 47) = w2 at *
  obtain ⟨gF, hgF⟩ : ∃ g, w1.heap.size = g := ⟨_, rfl⟩
  rw [hgF] at hmk1 hF hlX hs1
  have c0 := hX2.cell 0
  have c1 := hX2.cell 1
  have f0 := hX2.frozen 0
  have f1 := hX2.frozen 1
  go_wp2_with fail
  have s2 := (hX2.set 0 (.slice a n c)).set 1 (.slice (some ⟨gF, 0, none⟩) n n)
  have ht : Touch (fun k => k = gX) w2 ((w2.setCell ⟨gX, 0, none⟩ (.slice a n c)).setCell ⟨gX, 1, none⟩ (.slice (some ⟨gF, 0, none⟩) n n)) := Touch.of_only (((Only.refl gX _).set 0 _).set 1 _)
  exact bodyPost_ret (results_cell_row rfl _ _ gX 25 #[.slice a n c, .slice (some ⟨gF, 0, none⟩) n n] (0, 0) _ rfl s2 Try.underlying25 rfl Try.info_alg) rfl ⟨gF, rfl, hs1, ht.own hF (by omega), (hb2.setCell (p := ⟨gX, 0, none⟩) hwX _).setCell (p := ⟨gX, 1, none⟩) hwX _⟩
end Go.Proofs.Ytmijeojlighnaaa
