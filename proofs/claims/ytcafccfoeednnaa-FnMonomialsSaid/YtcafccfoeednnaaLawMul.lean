/- The walk of the law on products of monomials: for every list of numbers and two arrays of eight bytes it returns true and leaves the arguments as they were. -/
import Derived.Test.YtcafccfoeednnaaMulM
import Derived.Test.YtcafccfoeednnaaLawMono
namespace Go.Proofs.Ytcafccfoeednnaa
open Go.RowKit Go.Deep

theorem ints_of_own {w : World} {g n : Nat} {zs : List Int} (h : Own w g 2 ((zs.map (Value.int .i64)).toArray)) (hn : zs.length = n) : Ints w (some ⟨g, 0, none⟩) n zs := IntBlk.ints' h hn
theorem Ints.drew {w : World} {a : Option Addr} {n : Nat} {zs : List Int} (h : Ints w a n zs) : Ints w.drew a n zs := h
theorem own16 {w' : World} {G : Nat} {t u : TypeId} {m0 m1 m2 m3 m4 m5 m6 m7 k0 k1 k2 k3 k4 k5 k6 k7 : Int} (h : Own w' G t (mcells [m0, m1, m2, m3, m4, m5, m6, m7]).toArray) (h' : Own w' (G + 1) u (mcells [k0, k1, k2, k3, k4, k5, k6, k7]).toArray) : w'.cell? ⟨G, 0, none⟩ = some (.int .u8 m0) ∧ w'.cell? ⟨G, 1, none⟩ = some (.int .u8 m1) ∧ w'.cell? ⟨G, 2, none⟩ = some (.int .u8 m2) ∧ w'.cell? ⟨G, 3, none⟩ = some (.int .u8 m3) ∧ w'.cell? ⟨G, 4, none⟩ = some (.int .u8 m4) ∧ w'.cell? ⟨G, 5, none⟩ = some (.int .u8 m5) ∧ w'.cell? ⟨G, 6, none⟩ = some (.int .u8 m6) ∧ w'.cell? ⟨G, 7, none⟩ = some (.int .u8 m7) ∧ w'.cell? ⟨G + 1, 0, none⟩ = some (.int .u8 k0) ∧ w'.cell? ⟨G + 1, 1, none⟩ = some (.int .u8 k1) ∧ w'.cell? ⟨G + 1, 2, none⟩ = some (.int .u8 k2) ∧ w'.cell? ⟨G + 1, 3, none⟩ = some (.int .u8 k3) ∧ w'.cell? ⟨G + 1, 4, none⟩ = some (.int .u8 k4) ∧ w'.cell? ⟨G + 1, 5, none⟩ = some (.int .u8 k5) ∧ w'.cell? ⟨G + 1, 6, none⟩ = some (.int .u8 k6) ∧ w'.cell? ⟨G + 1, 7, none⟩ = some (.int .u8 k7) :=
  ⟨h.cell 0, h.cell 1, h.cell 2, h.cell 3, h.cell 4, h.cell 5, h.cell 6, h.cell 7, h'.cell 0, h'.cell 1, h'.cell 2, h'.cell 3, h'.cell 4, h'.cell 5, h'.cell 6, h'.cell 7⟩

theorem MulM8_s {w : World} {a : Option Addr} {n : Nat} {zs R : List Int} {m0 m1 m2 m3 m4 m5 m6 m7 k0 k1 k2 k3 k4 k5 k6 k7 : Int} (c : Nat) (h : Ints w a n zs) (hn : n ≤ 1048576) (hm : IsMono [m0, m1, m2, m3, m4, m5, m6, m7]) (hk : IsMono [k0, k1, k2, k3, k4, k5, k6, k7]) (hr : mulM zs [m0, m1, m2, m3, m4, m5, m6, m7] [k0, k1, k2, k3, k4, k5, k6, k7] = R) :
    Calls Try.prog 9 #[.slice a n c, .agg #[.int .u8 m0, .int .u8 m1, .int .u8 m2, .int .u8 m3, .int .u8 m4, .int .u8 m5, .int .u8 m6, .int .u8 m7], .agg #[.int .u8 k0, .int .u8 k1, .int .u8 k2, .int .u8 k3, .int .u8 k4, .int .u8 k5, .int .u8 k6, .int .u8 k7]] w fun e w' => e = .returned (.tuple #[.agg (mcells R).toArray, .int .i64 (mulS zs [m0, m1, m2, m3, m4, m5, m6, m7] [k0, k1, k2, k3, k4, k5, k6, k7]), .int .i64 (mulE zs [m0, m1, m2, m3, m4, m5, m6, m7] [k0, k1, k2, k3, k4, k5, k6, k7])]) ∧ Below w.heap.size w w' := by
  have h1 := MultiplyMonomials_s c h hn hm hk
  rw [hr] at h1
  exact h1

theorem MulM8_c {w : World} {a : Option Addr} {n : Nat} {zs R : List Int} {m0 m1 m2 m3 m4 m5 m6 m7 k0 k1 k2 k3 k4 k5 k6 k7 : Int} (c : Nat) (h : Ints w a n zs) (hn : n ≤ 1048576) (hm : IsMono [m0, m1, m2, m3, m4, m5, m6, m7]) (hk : IsMono [k0, k1, k2, k3, k4, k5, k6, k7]) (hr : mulM zs [m0, m1, m2, m3, m4, m5, m6, m7] [k0, k1, k2, k3, k4, k5, k6, k7] = R) :
    Calls Try.prog 8 #[.slice a n c, .agg #[.int .u8 m0, .int .u8 m1, .int .u8 m2, .int .u8 m3, .int .u8 m4, .int .u8 m5, .int .u8 m6, .int .u8 m7], .agg #[.int .u8 k0, .int .u8 k1, .int .u8 k2, .int .u8 k3, .int .u8 k4, .int .u8 k5, .int .u8 k6, .int .u8 k7]] w fun e w' => e = .returned (.tuple #[.agg (mcells R).toArray, .int .i64 (mulS zs [m0, m1, m2, m3, m4, m5, m6, m7] [k0, k1, k2, k3, k4, k5, k6, k7]), .int .i64 (mulE zs [m0, m1, m2, m3, m4, m5, m6, m7] [k0, k1, k2, k3, k4, k5, k6, k7])]) ∧ Below w.heap.size w w' := by
  have h1 := MultiplyMonomials_c c h hn hm hk
  rw [hr] at h1
  exact h1

theorem storeCells_own {w : World} {g : Nat} {t : TypeId} {old : Array Value} {R : List Int} (h : Own w g t old) (hs : old.size = 8) (hR : IsMono R) :
    (storeCells ⟨g, 0, none⟩ (mcells R) 0).run Try.prog w = .ok () (w.setRow g (mcells R).toArray) := by
  have := run_storeCells_from (P := Try.prog) g t (mcells R) 0 old w h (by simp [mcells_length, hR.1, hs]) (fun v hv => by simp only [mcells, List.mem_map] at hv; obtain ⟨x, _, rfl⟩ := hv; rfl)
  simpa using this

theorem toMonomial8 {w : World} {m0 m1 m2 m3 m4 m5 m6 m7 : Int} (hm : IsMono [m0, m1, m2, m3, m4, m5, m6, m7]) :
    Calls Try.prog 74 #[.agg #[.int .u8 m0, .int .u8 m1, .int .u8 m2, .int .u8 m3, .int .u8 m4, .int .u8 m5, .int .u8 m6, .int .u8 m7]] w fun e w' => e = .returned (.agg #[.int .u8 m0, .int .u8 m1, .int .u8 m2, .int .u8 m3, .int .u8 m4, .int .u8 m5, .int .u8 m6, .int .u8 m7]) ∧ Below w.heap.size w w' := toMonomial_c hm

end Go.Proofs.Ytcafccfoeednnaa
