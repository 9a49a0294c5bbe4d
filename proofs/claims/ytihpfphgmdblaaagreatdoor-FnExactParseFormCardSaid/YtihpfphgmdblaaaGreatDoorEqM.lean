
import Derived.Test.YtihpfphgmdblaaaGreatDoorTerm
import Derived.Stop.BytesEq
namespace Go.Proofs.YtihpfphgmdblaaaGreatDoor
open Go.RowKit Go.Deep
theorem u8s_beq {m k : List Int} (hm : ∀ x ∈ m, 0 ≤ x ∧ x ≤ 255) (hk : ∀ x ∈ k, 0 ≤ x ∧ x ≤ 255) : (m.map (fun x => UInt8.ofNat x.toNat) == k.map (fun x => UInt8.ofNat x.toNat)) = decide (m = k) := by
  have back : ∀ l : List Int, (∀ x ∈ l, 0 ≤ x ∧ x ≤ 255) → (l.map (fun x => UInt8.ofNat x.toNat)).map (fun u => ((u.toNat : Nat) : Int)) = l := by
    intro l
    induction l with
    | nil => intro _; rfl
    | cons a l ih =>
      intro h
      have ha := h a (by simp)
      rw [List.map_cons, List.map_cons, ih (fun x hx => h x (by simp [hx]))]
      congr 1
      rw [UInt8.toNat_ofNat', Nat.mod_eq_of_lt (by omega)]
      omega
  rw [Bool.eq_iff_iff, beq_iff_eq, decide_eq_true_eq]
  constructor
  · intro h
    rw [← back m hm, ← back k hk, h]
  · intro h
    rw [h]
theorem mcells_u8 {m : List Int} (hm : ∀ x ∈ m, 0 ≤ x ∧ x ≤ 255) : mcells m = (m.map (fun x => UInt8.ofNat x.toNat)).map Extern.Stop.cell := by
  rw [mcells, List.map_map]
  apply List.map_congr_left
  intro x hx
  have ha := hm x hx
  simp only [Function.comp_def, Extern.Stop.cell, UInt8.toNat_ofNat']
  rw [Nat.mod_eq_of_lt (by omega)]
  congr 1
  exact (Int.toNat_of_nonneg ha.1).symm
theorem eqM_run {w : World} {m k : List Int} (hm : IsMono m) (hk : IsMono k) : (Op.equalIn 10000 60 (.agg (mcells m).toArray) (.agg (mcells k).toArray)).run Tryz.prog w = .ok (decide (m = k)) w := by
  rw [mcells_u8 hm.2, mcells_u8 hk.2, ← u8s_beq hm.2 hk.2]
  exact run_equalIn_bytes w 9998 60 5 8 Tryz.underlying60 Tryz.underlying5 (fun w => by kernel_rfl) _ _ (by rw [List.length_map, hm.1]) (by rw [List.length_map, hk.1])
end Go.Proofs.YtihpfphgmdblaaaGreatDoor
