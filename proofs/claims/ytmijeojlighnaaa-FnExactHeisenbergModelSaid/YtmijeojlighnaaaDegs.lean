
import Derived.Test.YtmijeojlighnaaaNum
import Derived.Test.YtmijeojlighnaaaBase
import Derived.WalkKit
import Derived.WalkLawsBesides
import Derived.WalkSpells
import Derived.Lib.Hide
import Derived.Deep.QuietTactic
import Derived.BigQuiet
import Derived.Deep.Draws
import Derived.Deep.OwnRows
namespace Go.Proofs.Ytmijeojlighnaaa
open Go.RowKit
def Ints (w : World) (a : Option Addr) (n : Nat) (zs : List Int) : Prop :=
  zs.length = n ∧ (0 < n → ∃ b off, a = some ⟨b, off, none⟩ ∧ b < w.heap.size ∧ ∀ i, i < n → w.cell? ⟨b, off + i, none⟩ = some (.int .i64 (zs.getD i 0)))
theorem Ints.len {w : World} {a : Option Addr} {n : Nat} {zs : List Int} (h : Ints w a n zs) : zs.length = n := h.1
theorem Ints.keep {w w' : World} {a : Option Addr} {n : Nat} {zs : List Int} (h : Ints w a n zs) (hb : Below w.heap.size w w') : Ints w' a n zs :=
  ⟨h.1, fun hn => by
    obtain ⟨b, off, ha, hlt, hc⟩ := h.2 hn
    exact ⟨b, off, ha, Nat.lt_of_lt_of_le hlt hb.size, fun i hi => (hb.cell (p := ⟨b, off + i, none⟩) hlt).trans (hc i hi)⟩⟩
theorem Ints.drewN {w : World} {a : Option Addr} {n : Nat} {zs : List Int} (h : Ints w a n zs) (k : Nat) : Ints (w.drewN k) a n zs := h
theorem getD_of {zs : List Int} {k : Nat} (h : k < zs.length) : zs[k]? = some (zs.getD k 0) := by
  simp [List.getD, h]
theorem Ints.at_ {w : World} {a : Option Addr} {n : Nat} {zs : List Int} (h : Ints w a n zs) {k : Nat} (hk : k < n) :
    ∃ b off x, a = some ⟨b, off, none⟩ ∧ b < w.heap.size ∧ w.cell? ⟨b, off + k, none⟩ = some (.int .i64 x) ∧ Hid (zs[k]? = some x) := by
  obtain ⟨b, off, ha, hlt, hc⟩ := h.2 (by omega)
  exact ⟨b, off, _, ha, hlt, hc k hk, getD_of (by have := h.1; omega)⟩
def IntBlk (w : World) (g : Nat) (zs : List Int) : Prop := Own w g 2 ((zs.map (Value.int .i64)).toArray)
theorem IntBlk.lt {w : World} {g : Nat} {zs : List Int} (h : IntBlk w g zs) : g < w.heap.size := (Array.getElem?_eq_some_iff.1 h).1
theorem IntBlk.keep {w w' : World} {g : Nat} {zs : List Int} {B : Nat} (h : IntBlk w g zs) (hb : Below B w w') (hg : g < B) : IntBlk w' g zs := (hb.block g hg).trans h
theorem IntBlk.ints {w : World} {g : Nat} {zs : List Int} (h : IntBlk w g zs) : Ints w (some ⟨g, 0, none⟩) zs.length zs :=
  ⟨rfl, fun _ => ⟨g, 0, rfl, h.lt, fun i hi => by
    rw [cell_of_row w g (0 + i) _ _ _ h]
    simp [List.getD, hi]⟩⟩
theorem take_eq {xs ys : List Int} {k : Nat} {x : Int} (hx : xs[k]? = some x) (hy : ys[k]? = some x) (h : xs.take k = ys.take k) : xs.take (k + 1) = ys.take (k + 1) := by
  rw [List.take_add_one, List.take_add_one, h, hx, hy]
theorem eq_no {xs ys : List Int} {k : Nat} {x y : Int} (hx : xs[k]? = some x) (hy : ys[k]? = some y) (h : x ≠ y) : decide (xs = ys) = false := by
  simp only [decide_eq_false_iff_not]
  rintro rfl
  rw [hx] at hy
  exact h (by injection hy)
theorem eq_end {xs ys : List Int} {k : Nat} (h1 : xs.length ≤ k) (h2 : ys.length ≤ k) (h : xs.take k = ys.take k) : decide (xs = ys) = true := by
  rw [List.take_of_length_le h1, List.take_of_length_le h2] at h
  simp [h]
theorem eq_len {xs ys : List Int} (h : xs.length ≠ ys.length) : decide (xs = ys) = false := by
  simp only [decide_eq_false_iff_not]
  rintro rfl
  exact h rfl
theorem eqInt64S_c {w : World} {a a' : Option Addr} {n n' : Nat} {xs ys : List Int} (c c' : Nat) (h : Ints w a n xs) (h' : Ints w a' n' ys) (hn : n ≤ 1048576) (hn' : n' ≤ 1048576) :
    Calls Try.prog 37 #[.slice a n c, .slice a' n' c'] w fun e w' => e = .returned (.bool (decide (xs = ys))) ∧ ∃ m, w' = w.drewN m := by
  have hl := h.len
  have hl' := h'.len
  have HL := Lib.hid hl
  have HL' := Lib.hid hl'
  clear hl hl'
  by_cases hne : n = n'
  · subst hne
    go_enter Try.func37, Try.ntmps37
    go_wp2
    go_loopw [5] (fun i wr => ∃ k m : Nat, k ≤ n ∧ i = .int .i64 k ∧ wr = w.drewN m ∧ Hid (xs.take k = ys.take k)) (fun i _ => n - (intOf i).toNat)
    case atStart => exact ⟨0, 0, Nat.zero_le _, rfl, rfl, rfl⟩
    case round =>
      obtain ⟨k, m, hk, rfl, rfl, H⟩ := hrel
      by_cases hlt : k < n
      · obtain ⟨b, off, x, rfl, hb, hc, hx⟩ := h.at_ hlt
        obtain ⟨b', off', y, rfl, hb', hc', hy⟩ := h'.at_ hlt
        by_cases hxy : x = y
        · subst hxy
          go_wp2
          go_quiet (fail)
          go_wp2
          go_roundw
          case rel => exact ⟨k + 1, _, by omega, by go_num, rfl, take_eq hx.out hy.out H.out⟩
          case measure => simp [intOf]; omega
        · have hq : (x == y) = false := by simpa using hxy
          have hq' : (x != y) = true := by simpa using hxy
          go_wp2
          go_quiet (fail)
          go_wp2
          go_ret
          exact ⟨ret_b (eq_no hx.out hy.out hxy).symm, _, World.drewN_drewN ..⟩
      · go_wp2
        go_ret
        exact ⟨ret_b (eq_end (by have := HL.out; omega) (by have := HL'.out; omega) H.out).symm, _, rfl⟩
  · have hq : ((n : Int) == (n' : Int)) = false := by simp; omega
    have hq' : ((n : Int) != (n' : Int)) = true := by simp; omega
    go_enter Try.func37, Try.ntmps37
    go_wp2
    go_ret
    exact ⟨ret_b (eq_len (by rw [HL.out, HL'.out]; exact hne)).symm, 0, rfl⟩
theorem Try.info_int64 : (Try.prog.info? 2).map (fun i => (i.zero, i.size, i.bytes)) = some (some (.int .i64 0), 1, 8) := by kernel_rfl
end Go.Proofs.Ytmijeojlighnaaa
