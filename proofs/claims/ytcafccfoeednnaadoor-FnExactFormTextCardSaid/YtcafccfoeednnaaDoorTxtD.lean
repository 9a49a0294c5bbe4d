/- A number's decimal text: the model's. -/
import Derived.Test.YtcafccfoeednnaaDoorNum
import Derived.Test.YtcafccfoeednnaaDoorTxtB
import Derived.Test.YtcafccfoeednnaaDoorForm
import Derived.Lib.ItoaNum
import Derived.Lib.UnsafeStr
import Derived.Lib.Strings
import Derived.Laws.IdiomStrings
import Derived.Laws.Concat
import Derived.BigQuiet
import Derived.Deep.RegionWith
namespace Go.Proofs.YtcafccfoeednnaaDoor
open Go.RowKit Go.Deep

/-- A list of bytes as a string. -/
abbrev str (l : List UInt8) : Value := .string ⟨l.toArray⟩

theorem conv1 {w : World} {g : Nat} {x : Int} (h : w.cell? ⟨g, 0, none⟩ = some (.int .u8 x)) (h0 : 0 ≤ x) (h1 : x < 256) :
    (convert 72 9 (.slice (some ⟨g, 0, none⟩) 1 1)).run Tryd.prog w = .ok (.string ⟨[UInt8.ofNat x.toNat].toArray⟩) w := by
  refine run_convert_bytes_back w 72 9 5 ⟨g, 0, none⟩ 1 [UInt8.ofNat x.toNat] Tryd.underlying72 Tryd.underlying5 Tryd.underlying9 (fun j hj => ?_)
  simp only [List.length_cons, List.length_nil] at hj
  obtain rfl : j = 0 := by omega
  rw [show (⟨g, 0, none⟩ : Addr).add 0 = ⟨g, 0, none⟩ from rfl, h]
  simp only [List.getElem_cons_zero, UInt8.toNat_ofNat']
  rw [Nat.mod_eq_of_lt (by omega)]
  congr 2
  omega

theorem cat {w : World} (a b : List UInt8) (h : a.length + b.length ≤ 1000000000) : (Op.stringOp .add ⟨a.toArray⟩ ⟨b.toArray⟩).run Tryd.prog w = .ok (str (a ++ b)) w := by
  rw [run_string_add_sum w _ _ (by show a.toArray.size + b.toArray.size ≤ _; simp; omega), ByteArray.mk_append_mk]
  try simp

theorem dec_len : ∀ (n k : Nat), n < 10 ^ (k + 1) → (Lib.decDigits n).length ≤ k + 1 := by
  intro n k
  induction k generalizing n with
  | zero => intro h; rw [Lib.decDigits, dif_pos (by omega)]; simp
  | succ k ih =>
    intro h
    rw [Lib.decDigits]
    split
    · simp
    · have := ih (n / 10) (by rw [Nat.pow_succ] at h; omega)
      simp
      omega

set_option maxHeartbeats 2000000 in
set_option maxRecDepth 100000 in
theorem l01Dec_c (n : Nat) : ∀ (x : Int) (w : World), x.toNat = n → 0 ≤ x → x < 1000000 → Calls Tryd.prog 34 #[.int .i64 x] w fun e w' => e = .returned (str (Lib.decDigits n)) ∧ Below w.heap.size w w' := by
  induction n using Nat.strongRecOn with
  | _ n ih =>
    intro x w hxn h0 hn
    by_cases h : x < 10
    · have hD : Lib.decDigits n = [UInt8.ofNat (48 + n)] := by rw [Lib.decDigits, dif_pos (by omega)]
      have hO := Own.new w 5 #[.int .u8 (48 + x)]
      have hcv := conv1 (hO.cell 0) (by omega) (by omega)
      have hb := below_alloc1 w (.cells #[.int .u8 (48 + x)] 5)
      have hx : (48 + x).toNat = 48 + n := by omega
      obtain ⟨c, hc⟩ : ∃ c, UInt8.ofNat (48 + n) = c := ⟨_, rfl⟩
      rw [hx, hc] at hcv
      rw [hc] at hD
      have HD := Lib.hid hD
      have hm : (48 + x) % 256 = 48 + x := by omega
      have hq : IntKind.i64.wrap (48 + x) = 48 + x := IntWalk.i64_in _ (by omega)
      clear ih hx hc hD
      go_enter Tryd.func34, Tryd.ntmps34
      go_wp2_with fail
      go_ret
      exact ⟨by rw [HD.out]; rfl, hb⟩
    · have hD : Lib.decDigits n = Lib.decDigits (n / 10) ++ [UInt8.ofNat (48 + n % 10)] := by rw [Lib.decDigits, dif_neg (by omega)]
      have ih1 := fun w => ih (n / 10) (by omega) (x / 10) w (by omega) (by omega) (by omega)
      have hl := dec_len (n / 10) 5 (by omega)
      obtain ⟨d, hd⟩ : ∃ d, Lib.decDigits (n / 10) = d := ⟨_, rfl⟩
      obtain ⟨y, hy⟩ : ∃ y, 48 + x % 10 = y := ⟨_, rfl⟩
      have hyb : 0 ≤ y ∧ y < 256 := by omega
      have hyn : UInt8.ofNat (48 + n % 10) = UInt8.ofNat y.toNat := by congr 1; omega
      obtain ⟨c, hc⟩ : ∃ c, UInt8.ofNat y.toNat = c := ⟨_, rfl⟩
      rw [hd] at ih1 hl hD
      rw [hyn, hc] at hD
      have hw1 : IntKind.i64.wrap (x / 10) = x / 10 := IntWalk.i64_in _ (by omega)
      have hw2 : IntKind.i64.wrap y = y := IntWalk.i64_in _ (by omega)
      have hw3 : IntKind.u8.wrap y = y := by show y % 256 = y; omega
      have ht : x.tdiv 10 = x / 10 := Int.tdiv_eq_ediv_of_nonneg h0
      have hr : x.tmod 10 = x % 10 := Int.tmod_eq_emod_of_nonneg h0
      have hO := Own.drew (Own.new w 5 #[.int .u8 y])
      have HCV : ∀ (w : World) (g : Nat), w.cell? ⟨g, 0, none⟩ = some (.int .u8 y) → (convert 72 9 (.slice (some ⟨g, 0, none⟩) 1 1)).run Tryd.prog w = .ok (str [c]) w := fun w g h => by
        have := conv1 h hyb.1 hyb.2
        rwa [hc] at this
      have hcv := HCV _ _ (hO.cell 0)
      replace HCV := Lib.hid HCV
      have hb := (below_alloc1 w (.cells #[.int .u8 y] 5)).drew
      have IH := Lib.hid ih1
      have HB := Lib.hid hyb
      have HL := Lib.hid hl
      have HD := Lib.hid hD
      clear ih hd hyn hD hl ih1 hyb hc
      go_enter Tryd.func34, Tryd.ntmps34
      go_upto_region 3 with fail
      go_region_with (go_at_call 34; (first
        | (with_reducible refine (IH.out w.drew).mono ?_
           rintro e w2 ⟨rfl, hb2⟩
           have hcv2 := HCV.out (w2.alloc (.cells #[.int .u8 y] 5)) _ ((Own.new w2 5 #[.int .u8 y]).cell 0)
           have hct2 := cat (w := w2.alloc (.cells #[.int .u8 y] 5)) d [c] (by have := HL.out; simp; omega)
           have hb3 := below_then (below_then (Below.refl _ w).drew hb2) (below_alloc1 w2 (.cells #[.int .u8 y] 5))
           clear hcv)
        | (with_reducible refine (IH.out (w.alloc (.cells #[.int .u8 y] 5)).drew).mono ?_
           rintro e w2 ⟨rfl, hb2⟩
           have hcv2 := HCV.out w2 _ ((hO.keep hb2 hO.lt).cell 0)
           have hct2 := cat (w := w2) d [c] (by have := HL.out; simp; omega)
           have hb3 := below_then hb hb2)))
      all_goals (go_wp2_with fail; go_ret; exact ⟨by rw [HD.out]; rfl, hb3⟩)

end Go.Proofs.YtcafccfoeednnaaDoor
