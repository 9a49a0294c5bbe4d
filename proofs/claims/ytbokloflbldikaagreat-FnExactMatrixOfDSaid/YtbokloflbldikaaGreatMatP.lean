
import Derived.Test.YtbokloflbldikaaGreatMatD
import Derived.Test.YtbokloflbldikaaGreatRows3
import Derived.Test.YtbokloflbldikaaGreatMonsOf
import Derived.Test.YtbokloflbldikaaGreatBin
import Derived.Test.YtbokloflbldikaaGreatIsAlg
import Derived.Test.YtbokloflbldikaaGreatSumF
namespace Go.Proofs.YtbokloflbldikaaGreat
open Go.RowKit Go.Deep
theorem coef_nz3 {ts : List Tm} {m : List Int} (h : ¬ coef ts m = 0) : ∃ t ∈ ts, t.m = m := by
  by_cases h1 : ∃ t ∈ ts, t.m = m
  · exact h1
  · exact absurd (coef_none fun t ht e => h1 ⟨t, ht, e⟩) h
theorem len_nodup3 {α : Type} [DecidableEq α] : ∀ {K l : List α}, K.Nodup → (∀ x ∈ K, x ∈ l) → K.length ≤ l.length
  | [], _, _, _ => Nat.zero_le _
  | x :: K, l, hn, h => by
    rw [List.nodup_cons] at hn
    have hx := h x (by simp)
    have h1 := len_nodup3 (K := K) (l := l.erase x) hn.2 (fun y hy => (List.mem_erase_of_ne (fun e => hn.1 (by rw [← e]; exact hy))).2 (h y (by simp [hy])))
    rw [List.length_erase_of_mem hx] at h1
    have := List.length_pos_of_mem hx
    rw [List.length_cons]
    omega
theorem srt_len {ts : List Tm} {V : List (List Int)} (hs : Srt ts) (h : ∀ t ∈ ts, t.m ∈ V) : ts.length ≤ V.length := by
  have hn : (ts.map (·.m)).Nodup := by
    rw [List.Nodup, List.pairwise_map]
    refine hs.imp fun hb e => ?_
    rw [e, before_self] at hb
    cases hb
  have := len_nodup3 hn (l := V) (fun x hx => by
    obtain ⟨t, ht, rfl⟩ := List.mem_map.1 hx
    exact h t ht)
  rwa [List.length_map] at this
theorem FormOf.told3 {w w' : World} {S : List Int → Int} {e : Ending} {T : List Tm} (h : FormOf w S e w') (hg : Good T) (ht : ∀ x ∈ T, IsTm x) (hw : ∀ x ∈ T, within x.m = true) (hl : T.length ≤ 400) (hc : ∀ m, S m = coef T m) :
    ∃ v, e = .returned (.tuple #[.agg #[v], .int .i64 0]) ∧ OwnR w' w.heap.size v T := by
  rcases h with ⟨v, L, rfl, hO, hs, hT, hF, -, -, hco⟩ | ⟨-, hbad⟩
  · have hLR : L = T := srt_ext L _ hs hg.srt (fun t h => (hT t h).1) (fun x hx => (ht x hx).1) (fun t h => by have := hF t h; omega) (fun t h => by have := hg.nz t h; omega) (fun m hm => by rw [hco m hm, hc m])
    subst hLR
    exact ⟨v, rfl, hO⟩
  · exfalso
    rcases hbad with ⟨m, hm, hne, hw2⟩ | ⟨K, hK, h4, hk⟩
    · rw [hc m] at hne
      obtain ⟨t, ht', rfl⟩ := coef_nz3 hne
      rw [hw t ht'] at hw2
      cases hw2
    · have := len_nodup3 hK (l := T.map (·.m)) (fun m hm => by
        have h := (hk m hm).2
        rw [hc m] at h
        obtain ⟨t, ht', rfl⟩ := coef_nz3 h
        exact List.mem_map.2 ⟨t, ht', rfl⟩)
      rw [List.length_map] at this
      omega
theorem monoOk_within {zs m : List Int} (hm : IsMono m) (h : monoOk zs m = true) : within m = true := by
  rw [within, List.all_eq_true]
  intro x hx
  have := ok_in hm h x hx
  simpa using this.2
def dRow (zs : List Int) (ims : List (List Tm)) (V : List (List Int)) (u : List Int) : List Int := rowT V (diffT zs ims [] [⟨u, 1⟩])
def flat3 (zs : List Int) (ims : List (List Tm)) (V U : List (List Int)) : List Int := U.flatMap (dRow zs ims V)
theorem flat3_len {zs : List Int} {ims : List (List Tm)} {V : List (List Int)} : ∀ {U : List (List Int)}, (flat3 zs ims V U).length = U.length * V.length
  | [] => by simp [flat3]
  | u :: U => by
    have ih := flat3_len (zs := zs) (ims := ims) (V := V) (U := U)
    rw [flat3] at ih ⊢
    rw [List.flatMap_cons, List.length_append, ih, dRow, rowT_len, List.length_cons, Nat.succ_mul]
    omega
theorem flat3_step {zs : List Int} {ims : List (List Tm)} {V U : List (List Int)} {k : Nat} {u : List Int} (h : U[k]? = some u) : flat3 zs ims V (U.take (k + 1)) = flat3 zs ims V (U.take k) ++ dRow zs ims V u := by
  rw [flat3, flat3, List.take_add_one, h, Option.toList_some, List.flatMap_append]
  simp
def numbers3 (zs : List Int) (ims : List (List Tm)) (V U : List (List Int)) (k : Nat) : List Int := flat3 zs ims V (U.take k) ++ List.replicate ((U.length - k) * V.length) 0
theorem rowT_nil (V : List (List Int)) : rowT V [] = List.replicate V.length 0 := by
  rw [rowT, List.eq_replicate_iff]
  refine ⟨by simp, fun x hx => ?_⟩
  obtain ⟨m, _, rfl⟩ := List.mem_map.1 hx
  rfl
theorem numbers3_split {zs : List Int} {ims : List (List Tm)} {V U : List (List Int)} {k : Nat} (h : k < U.length) : numbers3 zs ims V U k = flat3 zs ims V (U.take k) ++ rowT V [] ++ List.replicate ((U.length - (k + 1)) * V.length) 0 := by
  rw [numbers3, rowT_nil, List.append_assoc, List.replicate_append_replicate, show V.length + (U.length - (k + 1)) * V.length = (U.length - k) * V.length by
    rw [show U.length - k = (U.length - (k + 1)) + 1 by omega, Nat.succ_mul]; omega]
theorem numbers3_step {zs : List Int} {ims : List (List Tm)} {V U : List (List Int)} {k : Nat} {u : List Int} (h : U[k]? = some u) : flat3 zs ims V (U.take k) ++ dRow zs ims V u ++ List.replicate ((U.length - (k + 1)) * V.length) 0 = numbers3 zs ims V U (k + 1) := by
  rw [numbers3, flat3_step h]
theorem diff_facts {zs : List Int} {ims : List (List Tm)} (hA : isAlg zs ims = true) (h : AlgOk zs ims) (hz : ∀ z ∈ zs, 1 ≤ z) {n : Nat} (hn : n ≤ 40) (hc : cnt zs (n + 1) ≤ 400) {u : List Int} (hu : u ∈ ext [] (mons zs n)) (hm : IsMono u) :
    monoOk zs u = true ∧ (∀ x ∈ diffT zs ims [] [⟨u, 1⟩], IsTm x) ∧ Good (diffT zs ims [] [⟨u, 1⟩]) ∧ (∀ x ∈ diffT zs ims [] [⟨u, 1⟩], x.m ∈ ext [] (mons zs (n + 1))) ∧ (∀ x ∈ diffT zs ims [] [⟨u, 1⟩], within x.m = true) ∧ (diffT zs ims [] [⟨u, 1⟩]).length ≤ 400 ∧ ∀ m, diffS zs ims zeroL [⟨u, 1⟩] m = coef (diffT zs ims [] [⟨u, 1⟩]) m := by
  obtain ⟨ok, hw⟩ := ext_ok h.h8 hz hu
  have ht : IsTm ⟨u, 1⟩ := ⟨hm, by dsimp only; omega, by dsimp only; omega⟩
  have one : ∀ t ∈ [(⟨u, 1⟩ : Tm)], t = ⟨u, 1⟩ := fun t h => by simpa using h
  have hs := h.diff [⟨u, 1⟩] [] 0 (fun t h => by rw [one t h]; exact ht) (fun t h => by rw [one t h]; exact ok) sum9_nil
  have hmem := diff_mem hA h hz ht ok hw hn
  have hco := (diff_coef h.ims h.ln h.h8 [⟨u, 1⟩] [] zeroL (fun t h => by rw [one t h]; exact hm) (fun t h => by rw [one t h]; exact ok) (fun _ => rfl) good_nil).1
  refine ⟨ok, hs.tm, hs.good, hmem, fun x hx => monoOk_within (hs.tm x hx).1 (ext_ok h.h8 hz (hmem x hx)).1, ?_, hco⟩
  have := srt_len hs.good.srt hmem
  rw [ext_len] at this
  rw [cnt] at hc
  omega
set_option maxHeartbeats 4000000 in
set_option maxRecDepth 100000 in
theorem columnsOf_c {w : World} {da : Option Addr} {dn : Nat} {zs : List Int} {a : Option Addr} {n : Nat} {x : Int} (dc c : Nat) (hd : Ints w da dn zs) (hdn : dn ≤ 1048576) :
    Calls Tryz.prog 43 #[.agg #[.slice da dn dc, .slice a n c], .int .i64 x] w fun e w' => ∃ ra rn rc, e = .returned (.slice ra rn rc) ∧ OwnM w' w.heap.size w'.heap.size ra rn (moV zs x) ∧ Below w.heap.size w w' := by
  have hb := below_alloc1 w (.cells #[.slice da dn dc, .slice a n c] 32)
  have HD := Lib.hid (hd.keep hb)
  have hs := Lib.hid hb.size
  clear hd
  go_enter Tryz.func43, Tryz.ntmps43
  go_wp2_with fail
  refine (MonomialsOf_c dc x HD.out hdn).mono ?_
  rintro e w1 ⟨ra, rn, rc, rfl, hM, hb1⟩
  have hM1 := hM.weaken hs.out (Nat.le_refl _)
  have hb2 := below_then hb hb1
  clear hM hb hb1
  go_wp2_with fail
  go_ret
  exact ⟨ra, rn, rc, rfl, hM1, hb2⟩
end Go.Proofs.YtbokloflbldikaaGreat
