
import Derived.Test.YtmijeojlighnaaaHeld
import Derived.Test.YtmijeojlighnaaaResult
import Derived.Test.YtmijeojlighnaaaKeep
import Derived.Test.YtmijeojlighnaaaFree
namespace Go.Proofs.Ytmijeojlighnaaa
open Go.RowKit Go.Deep
theorem row_keep {w w' : World} {B sz n : Nat} {t : TypeId} {v : Value} {xs : List Value} (h : w.ownsRow B t sz v n xs) (hb : Below w.heap.size w w') : w'.ownsRow B t sz v n xs :=
  World.ownsRow.kept h (row := none) ⟨hb.os, hb.tape, hb.output, hb.size, fun k hk _ => hb.block k hk⟩ (by cases h0 : v.ownBlock <;> simp)
end Go.Proofs.Ytmijeojlighnaaa
namespace Go.Proofs.Ytmijeojlighnaaa
open Go.RowKit Go.Deep
set_option maxRecDepth 100000 in
theorem l01OwnI_c {w : World} {g o n : Nat} {zs : List Int} (c : Nat) (h : Ints w (some ⟨g, o, none⟩) n zs) (hn : n ≤ 1048576) :
    Calls Try.prog 55 #[.slice (some ⟨g, o, none⟩) n c] w fun e w' => ∃ a c', e = .returned (.slice a n c') ∧ w'.ownsRow w.heap.size 2 1 (.slice a n c') n (zs.map (Value.int .i64)) ∧ Below w.heap.size w w' := by
  obtain ⟨ti, tz, hti, htz, hts, htb, htzs⟩ := Try.info_intA
  have hnews : ∀ j u, ((zs.map (Value.int .i64)) : List Value)[j]? = some u → (w.alloc (.cells #[] 2)).cell? ((⟨g, o, none⟩ : Addr).add j) = some u := fun j u hu => by
    have hl : (zs.map (Value.int .i64)).length = n := by rw [List.length_map]; exact h.1
    have hj := (List.getElem?_eq_some_iff.1 hu).1
    obtain ⟨b, off, e, hb, hc⟩ := h.2 (by omega)
    injection e with e
    injection e with e1 e2
    subst e1 e2
    rw [Addr.add_mid, World.cell?_alloc_lt _ _ _ hb, hc j (by omega)]
    rw [List.getElem?_map, getD_of (by rw [List.length_map] at hj; exact hj)] at hu
    exact hu
  have hone : ∀ u ∈ ((zs.map (Value.int .i64)) : List Value), u.oneCell' = true := by
    intro u hu
    obtain ⟨x, -, rfl⟩ := List.mem_map.1 hu
    rfl
  have hlen : ((zs.map (Value.int .i64)) : List Value).length = n * 1 := by rw [List.length_map, Nat.mul_one]; exact h.1
  have hro : (w.alloc (.cells #[] 2)).ownsRow w.heap.size 2 1 (.slice (some ⟨w.heap.size, 0, none⟩) 0 0) 0 [] := ⟨rfl, Or.inr ⟨w.heap.size, 0, #[], rfl, Nat.le_refl _, heap_alloc_new w _, Nat.le_refl _, by simp [maxLen], rfl, rfl⟩⟩
  have HN := Lib.hid hnews
  have HO := Lib.hid hone
  have HI := Lib.hid hti
  have HZ := Lib.hid htz
  have HS := Lib.hid hts
  have HBt := Lib.hid htb
  have HZs := Lib.hid htzs
  have HLN := Lib.hid hlen
  have HR := Lib.hid hro
  clear hnews hone hti htz hts htb htzs hlen hro h
  go_enter Try.func55, Try.ntmps55
  go_wp2_with (refine wpList_append_own_wide _ rfl (.tmp 3) (.tmp 4) 22 rfl w.heap.size 2 ti tz 1 8 Try.underlying22 HI.out HZ.out HS.out HBt.out HZs.out (by omega) (.slice (some ⟨w.heap.size, 0, none⟩) 0 0) 0 [] rfl HR.out ⟨g, o, none⟩ n c (zs.map (Value.int .i64)) rfl HLN.out HN.out HO.out (by simp only [maxLen]; omega) (by omega) (by rw [size_alloc]; omega) (fun v' w' h2 h3 h4 => ?_))
  rw [Nat.zero_add, List.nil_append] at h2
  obtain ⟨a', c', rfl⟩ := row_slice h2
  have hb := grown_below (below_alloc1 w (.cells #[] 2)) h3 (fun k e => by have : w.heap.size = k := (by simpa [Value.ownBlock] using e); omega) (by rw [size_alloc]; omega)
  have H2 := Lib.hid h2
  clear h2 h3 h4
  go_wp2_with fail
  go_ret
  exact ⟨a', c', rfl, H2.out, hb⟩
end Go.Proofs.Ytmijeojlighnaaa
