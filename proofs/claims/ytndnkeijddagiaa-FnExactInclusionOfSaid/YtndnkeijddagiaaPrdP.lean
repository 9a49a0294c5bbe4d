
import Derived.Test.YtndnkeijddagiaaWithP
namespace Go.Proofs.Ytndnkeijddagiaa
open Go.RowKit Go.Deep
def shFs (s : Nat) (fss : List (List Tm)) : List (List Tm) := fss.map (fun ts => ts.map (shT s))
theorem shFs_take {s k : Nat} {fss : List (List Tm)} {ts : List Tm} (h : fss[k]? = some ts) : shFs s (fss.take (k + 1)) = shFs s (fss.take k) ++ [ts.map (shT s)] := by
  rw [shFs, List.take_add_one, h, List.map_append]
  rfl
theorem shFs_tm {s : Nat} {fss : List (List Tm)} (h : ∀ ts ∈ fss, ∀ t ∈ ts, IsTm t) (hs : s ≤ 8) : ∀ ts ∈ shFs s fss, ∀ t ∈ ts, IsTm t := by
  intro ts hts t ht
  obtain ⟨us, hu, rfl⟩ := List.mem_map.1 hts
  obtain ⟨v, hv, rfl⟩ := List.mem_map.1 ht
  exact shT_tm (h us hu v hv) hs
theorem tm_app {V U : List (List Tm)} (h : ∀ ts ∈ V, ∀ t ∈ ts, IsTm t) (hf : ∀ ts ∈ U, ∀ t ∈ ts, IsTm t) : ∀ ts ∈ V ++ U, ∀ t ∈ ts, IsTm t := by
  intro ts hts
  rcases List.mem_append.1 hts with h1 | h1
  · exact h ts h1
  · exact hf ts h1
def prE (zs : List Int) (ims : List (List Tm)) (ys : List Int) (jms : List (List Tm)) : Int :=
  if isAlg zs ims = false ∨ isAlg ys jms = false then 1 else if zs.length + ys.length > 8 then 3 else 0
def prD (zs : List Int) (ims : List (List Tm)) (ys : List Int) (jms : List (List Tm)) : List Int := if prE zs ims ys jms = 0 then zs ++ ys else []
def prI (zs : List Int) (ims : List (List Tm)) (ys : List Int) (jms : List (List Tm)) : List (List Tm) := if prE zs ims ys jms = 0 then ims ++ shFs zs.length jms else []
theorem pr_err {zs : List Int} {ims : List (List Tm)} {ys : List Int} {jms : List (List Tm)} {e : Int} (h : prE zs ims ys jms = e) (h0 : ¬ e = 0) : prE zs ims ys jms = e ∧ prD zs ims ys jms = [] ∧ prI zs ims ys jms = [] :=
  ⟨h, by rw [prD, if_neg (by rw [h]; exact h0)], by rw [prI, if_neg (by rw [h]; exact h0)]⟩
theorem pr_1 {zs : List Int} {ims : List (List Tm)} {ys : List Int} {jms : List (List Tm)} (h : isAlg zs ims = false ∨ isAlg ys jms = false) : prE zs ims ys jms = 1 := by rw [prE, if_pos h]
theorem pr_3 {zs : List Int} {ims : List (List Tm)} {ys : List Int} {jms : List (List Tm)} (h1 : isAlg zs ims = true) (h2 : isAlg ys jms = true) (h3 : zs.length + ys.length > 8) : prE zs ims ys jms = 3 := by
  rw [prE, if_neg (by simp [h1, h2]), if_pos h3]
theorem pr_0 {zs : List Int} {ims : List (List Tm)} {ys : List Int} {jms : List (List Tm)} (h1 : isAlg zs ims = true) (h2 : isAlg ys jms = true) (h3 : ¬ zs.length + ys.length > 8) : prE zs ims ys jms = 0 ∧ prD zs ims ys jms = zs ++ ys ∧ prI zs ims ys jms = ims ++ shFs zs.length jms := by
  have e : prE zs ims ys jms = 0 := by rw [prE, if_neg (by simp [h1, h2]), if_neg h3]
  exact ⟨e, by rw [prD, if_pos e], by rw [prI, if_pos e]⟩
end Go.Proofs.Ytndnkeijddagiaa
namespace Go.Proofs.Ytndnkeijddagiaa
open Go.RowKit Go.Deep
end Go.Proofs.Ytndnkeijddagiaa
