/- The walk of the law FnExactLinearTable. -/
import Derived.Test.YtchonljgpdekjaaLawTbl
import Derived.Test.YtchonljgpdekjaaLinS
namespace Go.Proofs.Ytchonljgpdekjaa
open Go.RowKit Go.Deep

theorem ltV_len (zs : List Int) (ims : List (List Tm)) : (ltV zs ims).length ≤ 8 ∧ (∀ r ∈ ltV zs ims, r.length ≤ 8) := by
  cases h : isAlg zs ims with
  | false => rw [(lt_no h).1]; simp
  | true =>
    have h1 := degsOk_len (isAlg_degs h)
    have h2 := isAlg_len2 h
    rw [(lt_yes h).1, List.length_map]
    refine ⟨by omega, fun r hr => ?_⟩
    obtain ⟨ts, -, rfl⟩ := List.mem_map.1 hr
    rw [show (linRow zs.length ts).length = zs.length from linTo_len _ _ _]
    omega
theorem sum_le {l : List Nat} {B : Nat} (h : ∀ x ∈ l, x ≤ B) : l.sum ≤ l.length * B := by
  induction l with
  | nil => simp
  | cons x l ih =>
    have h1 := h x (by simp)
    have h2 := ih (fun y hy => h y (by simp [hy]))
    rw [List.sum_cons, List.length_cons, Nat.succ_mul]
    omega
theorem ltV_tot (zs : List Int) (ims : List (List Tm)) : totV (ltV zs ims) ≤ 10000000 := by
  obtain ⟨h1, h2⟩ := ltV_len zs ims
  have h3 := sum_le (l := (ltV zs ims).map List.length) (B := 8) (by
    intro x hx
    obtain ⟨r, hr, rfl⟩ := List.mem_map.1 hx
    exact h2 r hr)
  rw [List.length_map] at h3
  rw [totV]
  omega
theorem linearTable_walk (da : Option Addr) (dn dc : Nat) (zs : List Int) (a : Option Addr) (n c : Nat) (fss : List (List Tm)) (w : World) (hd : Ints w da dn zs) (hdm : (dn : Int) ≤ 9223372036854775807) (hF : Frms w a n fss) (hnm : (n : Int) ≤ 9223372036854775807) :
    Calls Try.prog 8 #[.agg #[.slice da dn dc, .slice a n c]] w fun e w' => e = .returned (.bool true) ∧ Below w.heap.size w w' :=
  lawTbl_walk da dn dc zs a n c fss w hd hdm hF hnm (ltV zs fss) (ltE zs fss) _ rfl (by have := (ltV_len zs fss).1; omega) (fun r hr => by have := (ltV_len zs fss).2 r hr; omega) (ltV_tot _ _) (fun _ _ dc' _ c' h1 h2 h3 h4 h5 => LinearTable_s dc' c' h4 h1 h5 h2 h3) (fun _ _ dc' _ c' h1 h2 h3 h4 h5 => LinearTable_c dc' c' h4 h1 h5 h2 h3)

end Go.Proofs.Ytchonljgpdekjaa
