/- The walk of the law FnExactQuadraticParts. -/
import Derived.Test.YtchonljgpdekjaaLawQuad
import Derived.Test.YtchonljgpdekjaaQuad
namespace Go.Proofs.Ytchonljgpdekjaa
open Go.RowKit Go.Deep

theorem sumLen_bd {V : List (List Tm)} {B : Nat} (h : ∀ ts ∈ V, ts.length ≤ B) : sumLen V ≤ V.length * B := by
  induction V with
  | nil => simp [sumLen]
  | cons x l ih =>
    have h1 := h x (by simp)
    have h2 := ih (fun y hy => h y (by simp [hy]))
    have h3 : sumLen (x :: l) = x.length + sumLen l := by simp [sumLen]
    rw [h3, List.length_cons, Nat.succ_mul]
    omega
theorem qpV_len (zs : List Int) (ims : List (List Tm)) : (qpV zs ims).length ≤ 8 ∧ ∀ ts ∈ qpV zs ims, ts.length ≤ 400 := by
  cases h : isAlg zs ims with
  | false => rw [(qp_no h).1]; simp
  | true =>
    have h1 := degsOk_len (isAlg_degs h)
    have h2 := isAlg_lenQ h
    rw [(qp_yes h).1, List.length_map]
    refine ⟨by omega, fun ts hts => ?_⟩
    obtain ⟨us, hu, rfl⟩ := List.mem_map.1 hts
    exact Nat.le_trans (wordsOf_len 2 us) (isAlg_400 h us hu)
theorem quadraticParts_walk (da : Option Addr) (dn dc : Nat) (zs : List Int) (a : Option Addr) (n c : Nat) (fss : List (List Tm)) (w : World) (hd : Ints w da dn zs) (hdm : (dn : Int) ≤ 9223372036854775807) (hF : Frms w a n fss) (hnm : (n : Int) ≤ 9223372036854775807) :
    Calls Try.prog 9 #[.agg #[.slice da dn dc, .slice a n c]] w fun e w' => e = .returned (.bool true) ∧ Below w.heap.size w w' :=
  lawQuad_walk da dn dc zs a n c fss w hd hdm hF hnm (qpV zs fss) (qpE zs fss) _ rfl (by have := (qpV_len zs fss).1; omega) (fun ts hts => by have := (qpV_len zs fss).2 ts hts; omega) (by have := sumLen_bd (qpV_len zs fss).2; have := (qpV_len zs fss).1; omega) (fun _ _ dc' _ c' h1 h2 h3 h4 h5 => QuadraticParts_s dc' c' h4 h1 h5 h2 h3) (fun _ _ dc' _ c' h1 h2 h3 h4 h5 => QuadraticParts_c dc' c' h4 h1 h5 h2 h3)

end Go.Proofs.Ytchonljgpdekjaa
