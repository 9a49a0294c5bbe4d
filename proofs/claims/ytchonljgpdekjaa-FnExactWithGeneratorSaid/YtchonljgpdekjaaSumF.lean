/- The form of a sum: the terms of a map, sorted, or the error. -/
import Derived.Test.YtchonljgpdekjaaMulF
import Derived.Test.YtchonljgpdekjaaSortC
namespace Go.Proofs.Ytchonljgpdekjaa
open Go.RowKit Go.Deep Go.Maps

theorem mapM_all {α β : Type} {f : α → Option β} : ∀ {l : List α} {r : List β}, l.mapM f = some r → ∀ a ∈ l, ∃ y, f a = some y
  | [], _, _, a, h => by simp at h
  | x :: l, r, h, a, ha => by
    rw [List.mapM_cons] at h
    simp only [Option.bind_eq_bind, Option.bind_eq_some_iff] at h
    obtain ⟨y, hy, ys, hys, _⟩ := h
    rw [List.mem_cons] at ha
    rcases ha with rfl | ha
    · exact ⟨y, hy⟩
    · exact mapM_all hys a ha
theorem keyLits_int_inv {P : Program} {t : TypeId} {q : IntKind} {d : Nat} {cs : List Value} {ls : List Lit} (ht : P.underlying t = some (.int q)) (h : P.keyLits (d + 1) t cs = some ls) : ∃ x : Int, cs = [.int q x] ∧ (Lit.int q x).wf = true := by
  unfold Program.keyLits at h
  rw [ht] at h
  cases cs with
  | nil => simp at h
  | cons v vs =>
    cases vs with
    | cons u us => simp at h
    | nil =>
      cases v <;> simp at h
      rename_i q' x
      obtain ⟨⟨rfl, hw⟩, _⟩ := h
      exact ⟨x, rfl, hw⟩
theorem keyLits_array_inv {P : Program} {t e : TypeId} {n d : Nat} {cs : List Value} {ls : List Lit} (ht : P.underlying t = some (.array n e)) (h : P.keyLits (d + 1) t cs = some ls) : cs.length = P.cellsOf t ∧ ∃ r, ((List.range n).mapM fun i => P.keyLits d e ((cs.drop (i * P.cellsOf e)).take (P.cellsOf e))) = some r := by
  unfold Program.keyLits at h
  rw [ht] at h
  simp only at h
  split at h
  · rename_i hl
    rw [Option.map_eq_some_iff] at h
    obtain ⟨r, hr, _⟩ := h
    exact ⟨hl, r, hr⟩
  · cases h
theorem keyOf_array_inv {P : Program} {k e : TypeId} {n : Nat} {v : Value} {l : Lit} (hk : P.underlying k = some (.array n e)) (h : keyOf P k v = some l) : ∃ cs : Array Value, v = .agg cs ∧ ∃ ls, P.keyLits (P.types.size + 1) k cs.toList = some ls := by
  unfold keyOf at h
  rw [hk] at h
  simp only at h
  split at h
  · rename_i hc
    rw [Bool.and_eq_true] at hc
    rw [Option.map_eq_some_iff] at h
    obtain ⟨ls, hls, -⟩ := h
    have hag : ∃ cs : Array Value, v = .agg cs := by
      have hf := hc.2
      cases v <;> simp [Value.formed, hk] at hf
      exact ⟨_, rfl⟩
    obtain ⟨cs, rfl⟩ := hag
    exact ⟨cs, rfl, ls, by simpa [Value.cells] using hls⟩
  · cases h
theorem u8_of_wf {x : Int} (h : (Lit.int .u8 x).wf = true) : 0 ≤ x ∧ x ≤ 255 := by
  simp only [Lit.wf, Bool.and_eq_true, decide_eq_true_eq] at h
  exact h
theorem keyOf_M_inv {key : Value} {kl : Lit} (h : keyOf Try.prog 26 key = some kl) : ∃ m, IsMono m ∧ key = .agg (mcells m).toArray ∧ kl = kM m := by
  obtain ⟨cs, rfl, ls, hls⟩ := keyOf_array_inv Try.underlying26 h
  obtain ⟨f, hsz⟩ : ∃ f, Try.prog.types.size = f + 1 := ⟨Try.prog.types.size - 1, by have : 0 < Try.prog.types.size := of_decide_eq_true (by kernel_rfl); omega⟩
  rw [hsz] at hls
  obtain ⟨hlen, r, hr⟩ := keyLits_array_inv Try.underlying26 hls
  rw [Try.cellsM] at hlen
  rw [Try.cellsU8] at hr
  have hall := mapM_all hr
  obtain ⟨g, hg⟩ := choose_lt (α := Int) (n := 8) (p := fun i x => cs.toList[i]? = some (Value.int .u8 x) ∧ 0 ≤ x ∧ x ≤ 255) (fun i hi => by
    obtain ⟨y, hy⟩ := hall i (List.mem_range.2 hi)
    obtain ⟨x, hx, hx2⟩ := keyLits_int_inv Try.underlying5 hy
    rw [Nat.mul_one, one_drop _ i (by omega)] at hx
    simp only [List.cons.injEq, and_true] at hx
    exact ⟨x, by rw [List.getElem?_eq_getElem (by omega), hx], u8_of_wf hx2⟩)
  have hm : IsMono ((List.range 8).map g) := ⟨by simp, fun x hx => by
    simp only [List.mem_map, List.mem_range] at hx
    obtain ⟨i, hi, rfl⟩ := hx
    exact (hg i hi).2⟩
  have e : cs = (mcells ((List.range 8).map g)).toArray := by
    apply Array.ext_getElem?
    intro i
    by_cases hi : i < 8
    · rw [← Array.getElem?_toList, (hg i hi).1]
      simp [mcells, hi]
    · rw [← Array.getElem?_toList, List.getElem?_eq_none (by omega), Array.getElem?_eq_none (by simp [mcells]; omega)]
  refine ⟨_, hm, by rw [e], ?_⟩
  rw [e, keyOf_M hm] at h
  exact (Option.some.inj h).symm

/-- What has come up of a sum: those monomials that are not still to come. -/
structure Part (S : List Int → Int) (left : Lit → Bool) (os : List Tm) : Prop where
  coef : ∀ m, IsMono m → coef os m = if left (kM m) = true then 0 else S m
  tm : ∀ t ∈ os, IsTm t
  val : ∀ t ∈ os, t.f = S t.m ∧ ¬ t.f = 0
  win : ∀ t ∈ os, within t.m = true
  nd : (os.map (·.m)).Nodup
  len : os.length ≤ 400
theorem coef_mem {ts : List Tm} {t : Tm} (h : t ∈ ts) : ∃ u ∈ ts, u.m = t.m ∧ coef ts t.m = u.f := by
  induction ts with
  | nil => simp at h
  | cons x xs ih =>
    by_cases hx : x.m = t.m
    · exact ⟨x, by simp, hx, coef_hit hx⟩
    · rw [List.mem_cons] at h
      rcases h with rfl | h
      · exact absurd rfl hx
      · obtain ⟨u, hu, h1, h2⟩ := ih h
        exact ⟨u, by simp [hu], h1, by rw [coef_miss hx, h2]⟩
theorem coef_append {os : List Tm} {t : Tm} {m : List Int} : coef (os ++ [t]) m = if (∃ u ∈ os, u.m = m) then coef os m else coef [t] m := by
  induction os with
  | nil => simp
  | cons x xs ih =>
    by_cases hx : x.m = m
    · rw [List.cons_append, coef_hit hx, if_pos ⟨x, by simp, hx⟩, coef_hit hx]
    · rw [List.cons_append, coef_miss hx, ih, coef_miss hx]
      by_cases h : ∃ u ∈ xs, u.m = m
      · rw [if_pos h, if_pos (by obtain ⟨u, hu, e⟩ := h; exact ⟨u, by simp [hu], e⟩)]
      · rw [if_neg h, if_neg (fun ⟨u, hu, e⟩ => by
          rw [List.mem_cons] at hu
          rcases hu with rfl | hu
          · exact hx e
          · exact h ⟨u, hu, e⟩)]
theorem strike_self {left : Lit → Bool} {m : List Int} (hm : IsMono m) : (left (kM m) && !(kM m).sameKey (kM m)) = false := by
  rw [WideAt.sameKey_self (Try.keyM.key (keyOf_M hm))]; simp
theorem strike_other {left : Lit → Bool} {m k : List Int} (hm : IsMono m) (hk : IsMono k) (h : ¬ k = m) : (left (kM k) && !(kM k).sameKey (kM m)) = left (kM k) := by
  rw [sameKey_ne (fun e => h (kM_inj hk hm e))]; simp
theorem Part.fresh {S : List Int → Int} {left : Lit → Bool} {os : List Tm} {m : List Int} (h : Part S left os) (hm : IsMono m) (hl : left (kM m) = true) : ∀ t ∈ os, ¬ t.m = m := by
  intro t ht e
  have h1 := h.coef m hm
  rw [if_pos hl] at h1
  obtain ⟨u, hu, e1, e2⟩ := coef_mem ht
  rw [e] at e2
  rw [h1] at e2
  exact (h.val u hu).2 e2.symm
theorem Part.skip {S : List Int → Int} {left : Lit → Bool} {os : List Tm} {m : List Int} (h : Part S left os) (hm : IsMono m) (hl : left (kM m) = true) (h0 : S m = 0) : Part S (fun z => left z && !z.sameKey (kM m)) os :=
  ⟨fun k hk => by
    by_cases e : k = m
    · subst e
      rw [strike_self hm, h.coef k hk, if_pos hl, h0]; rfl
    · rw [strike_other hm hk e]; exact h.coef k hk, h.tm, h.val, h.win, h.nd, h.len⟩
theorem Part.put {S : List Int → Int} {left : Lit → Bool} {os : List Tm} {m : List Int} (h : Part S left os) (hm : IsMono m) (hl : left (kM m) = true) (h0 : ¬ S m = 0) (hS : 0 ≤ S m ∧ S m ≤ 10006) (hw : within m = true) (hlen : os.length < 400) : Part S (fun z => left z && !z.sameKey (kM m)) (os ++ [⟨m, S m⟩]) := by
  have hf := h.fresh hm hl
  refine ⟨fun k hk => ?_, ?_, ?_, ?_, ?_, by simp; omega⟩
  · rw [coef_append]
    by_cases e : k = m
    · subst e
      rw [strike_self hm, if_neg (fun ⟨u, hu, e⟩ => hf u hu e)]
      exact coef_hit rfl
    · rw [strike_other hm hk e, ← h.coef k hk]
      split
      · rfl
      · rename_i hno
        rw [coef_miss (t := ⟨m, S m⟩) (fun e2 => e e2.symm), coef_none (fun t ht e2 => hno ⟨t, ht, e2⟩)]
        rfl
  · intro t ht
    rw [List.mem_append, List.mem_singleton] at ht
    rcases ht with ht | rfl
    · exact h.tm t ht
    · exact ⟨hm, by dsimp only; omega, by dsimp only; omega⟩
  · intro t ht
    rw [List.mem_append, List.mem_singleton] at ht
    rcases ht with ht | rfl
    · exact h.val t ht
    · exact ⟨rfl, h0⟩
  · intro t ht
    rw [List.mem_append, List.mem_singleton] at ht
    rcases ht with ht | rfl
    · exact h.win t ht
    · exact hw
  · rw [List.map_append, List.nodup_append]
    refine ⟨h.nd, by simp, fun a ha b hb => ?_⟩
    simp only [List.mem_map, List.mem_singleton, List.map_cons, List.map_nil] at ha hb
    obtain ⟨t, ht, rfl⟩ := ha
    rw [hb]
    exact hf t ht
theorem coef_perm {xs ys : List Tm} (h : xs.Perm ys) (hn : (ys.map (·.m)).Nodup) (m : List Int) : coef xs m = coef ys m := by
  have hn2 : (xs.map (·.m)).Nodup := (h.map _).nodup_iff.2 hn
  have key : ∀ zs : List Tm, (zs.map (·.m)).Nodup → ∀ t ∈ zs, coef zs t.m = t.f := by
    intro zs hz t ht
    induction zs with
    | nil => simp at ht
    | cons x zs ih =>
      simp only [List.map_cons, List.nodup_cons] at hz
      rw [List.mem_cons] at ht
      rcases ht with rfl | ht
      · exact coef_hit rfl
      · rw [coef_miss (fun e => hz.1 (by rw [e]; exact List.mem_map.2 ⟨t, ht, rfl⟩))]
        exact ih hz.2 ht
  by_cases hm : ∃ t ∈ ys, t.m = m
  · obtain ⟨t, ht, rfl⟩ := hm
    rw [key ys hn t ht, key xs hn2 t (h.mem_iff.2 ht)]
  · rw [coef_none (fun t ht e => hm ⟨t, ht, e⟩), coef_none (fun t ht e => hm ⟨t, h.mem_iff.1 ht, e⟩)]
theorem srt_of {ts os : List Tm} (h : ts.Pairwise fun s t => before t.m s.m = false) (hp : ts.Perm os) (hn : (os.map (·.m)).Nodup) (hT : ∀ t ∈ ts, IsTm t) : Srt ts := by
  have hn2 : (ts.map (·.m)).Nodup := (hp.map _).nodup_iff.2 hn
  rw [Srt, List.pairwise_iff_getElem]
  rw [List.pairwise_iff_getElem] at h
  rw [List.Nodup, List.pairwise_iff_getElem] at hn2
  intro i j hi hj hij
  have h1 := h i j hi hj hij
  have h2 := hn2 i j (by simpa using hi) (by simpa using hj) hij
  simp only [List.getElem_map] at h2
  cases hb : before ts[i].m ts[j].m with
  | true => rfl
  | false => exact absurd (before_tri (by rw [(hT _ (List.getElem_mem hi)).1.1, (hT _ (List.getElem_mem hj)).1.1]) hb h1) h2
theorem withinP8 {w : World} {p0 p1 p2 p3 p4 p5 p6 p7 : Int} {v : Bool} (hm : IsMono [p0, p1, p2, p3, p4, p5, p6, p7]) (hv : within [p0, p1, p2, p3, p4, p5, p6, p7] = v) :
    Calls Try.prog 77 #[.agg #[.int .u8 p0, .int .u8 p1, .int .u8 p2, .int .u8 p3, .int .u8 p4, .int .u8 p5, .int .u8 p6, .int .u8 p7]] w fun e w' => e = .returned (.bool v) ∧ Below w.heap.size w w' := by
  have := withinPowers_c (w := w) hm
  rw [hv] at this
  exact this
theorem ranges_keep {w w' : World} {b r n cnt : Nat} {D : DataW Unit} {left : Lit → Bool} (h : w.ranges Try.prog 26 (plainElem Try.prog 2) b r n D left cnt) (hb : Below w.heap.size w w') : w'.ranges Try.prog 26 (plainElem Try.prog 2) b r n D left cnt :=
  h.kept (row := none) ⟨hb.os, hb.tape, hb.output, hb.size, fun k hk _ => hb.block k hk⟩ (by simp) (by simp)
theorem ranges_far {w : World} {b r n cnt : Nat} {D : DataW Unit} {left : Lit → Bool} (h : w.ranges Try.prog 26 (plainElem Try.prog 2) b r n D left cnt) {p : Addr} (h1 : b ≠ p.block) (h2 : r ≠ p.block) (u : Value) : (w.setCell p u).ranges Try.prog 26 (plainElem Try.prog 2) b r n D left cnt := by
  have hb := (Below.refl p.block w).setCell (p := p) (Nat.le_refl _) u
  exact h.kept (row := some p.block) ⟨hb.os, hb.tape, hb.output, hb.size, fun k _ hk => Below.heap_setCell w p u k (fun e => hk (by rw [e]))⟩ (by simpa using h1) (by simpa using h2)
theorem OwnForm.grownR {w w' : World} {B r : Nat} {v : Value} {ts : List Tm} (h : OwnForm w B v ts) (hg : w.grownBy w' (some r)) (hr : r < B) : OwnForm w' B v ts :=
  ⟨World.ownsRow.kept h.1 hg (Or.inr (fun e => by have := (World.ownsRow.lt h.1 _ e).1; omega)), h.2⟩

set_option maxHeartbeats 8000000 in
set_option maxRecDepth 100000 in
theorem form_c {w : World} {b n : Nat} {S : List Int → Int} (h : MapIs w b n S) (_hn : n ≤ 2000000) (hS : ∀ m, 0 ≤ S m ∧ S m ≤ 10006) :
    Calls Try.prog 106 #[.map (some b)] w fun e w' => FormOf w S e w' ∧ Below w.heap.size w w' := by
  have hbw := h.lt
  have HSB := Lib.hid hS
  clear hS
  obtain ⟨D, hown, hD, hat⟩ := h.keep (below_then (below_alloc1 w (.cells #[.slice none 0 0] 48)) (below_alloc1 _ (.cells #[.slice none 0 0] 48)))
  have HAT := Lib.hid hat
  clear hat
  have hR := (Own.new w 48 #[.slice none 0 0]).alloc (.cells #[.slice none 0 0] 48)
  have hT := Own.new (w.alloc (.cells #[.slice none 0 0] 48)) 48 #[.slice none 0 0]
  rw [size_alloc] at hT
  have hb := below_then (below_alloc1 w (.cells #[.slice none 0 0] 48)) (below_alloc1 _ (.cells #[.slice none 0 0] 48))
  have hs0 : ((w.alloc (.cells #[.slice none 0 0] 48)).alloc (.cells #[.slice none 0 0] 48)).heap.size = w.heap.size + 1 + 1 := by rw [size_alloc, size_alloc]
  obtain ⟨ti, tz, hti, htz, hts, htb, htzs⟩ := Try.info_termA
  have HI := Lib.hid hti
  have HZ := Lib.hid htz
  have HS := Lib.hid hts
  have HBt := Lib.hid htb
  have HZs := Lib.hid htzs
  clear hti htz hts htb htzs
  go_enter Try.func106, Try.ntmps106
  go_upto_region 2 with fail
  generalize (w.alloc (.cells #[.slice none 0 0] 48)).alloc (.cells #[.slice none 0 0] 48) = wa at *
  generalize hg4 : w.heap.size + 1 = g4 at *
  go_wp2_with (first
    | (at_range; refine wpList_range_own _ rfl _ 123 rfl 26 2 Try.keyM Try.underlying123 _ b n D rfl hown ?_; intro w0 hrg0 hg0 hs1)
    | go_in)
  go_frame
  rw [hs0] at hrg0 hs1
  try rw [hs0]
  have hP0 : Part S (Maps.has D) [] := ⟨fun m hm => by
    show (0 : Int) = _
    by_cases hh : Maps.has D (kM m) = true
    · rw [if_pos hh]
    · rw [if_neg hh]
      have := HAT.out m hm
      rw [atKey_of_not_has (by simpa using hh)] at this
      simp only [DataW.lit.injEq, Lit.int.injEq, true_and] at this
      exact this, by simp, by simp, by simp, by simp, by simp⟩
  have hb0 : Below w.heap.size w w0 := grown_below hb hg0 (fun k e => by cases e) hb.size
  have hR0 := hR.grown hg0 (by simp)
  have hT0 := hT.grown hg0 (by simp)
  clear hb hR hT
  go_loopw [6] (fun _ wr => ∃ (left : Lit → Bool) (cnt : Nat) (v : Value) (os : List Tm), wr.ranges Try.prog 26 (plainElem Try.prog 2) b (g4 + 1) n D left cnt ∧ Own wr w.heap.size 48 #[.slice none 0 0] ∧ Own wr g4 48 #[v] ∧ OwnForm wr (g4 + 1 + 1) v os ∧ Below w.heap.size w wr ∧ Hid (Part S left os)) (fun _ wr => wr.rangeLeft b (g4 + 1))
  case atStart => exact ⟨_, _, .slice none 0 0, [], hrg0, hR0, hT0, ⟨World.ownsRow_nil _ _ _ _, by simp⟩, hb0, hP0⟩
  case round =>
    clear hrg0 hR0 hT0 hb0 hP0 hg0 hs1 hown
    obtain ⟨left, cnt, v, os, hrg, hR, hT, hO, hb, hP⟩ := hrel
    obtain ⟨nO, hnO⟩ : ∃ nO, os.length = nO := ⟨_, rfl⟩
    obtain ⟨va, vc, rfl, -⟩ := hO.r.terms hP.out.tm hnO
    have HNO := Lib.hid hnO
    have cT := hT.cell 0
    go_wp2_with (first
      | (at_next; refine wpList_next_ranges (α := {m : List Int // IsMono m}) (β := Int) _ rfl _ rfl 26 Try.keyM (plainElem Try.prog 2) (fun m => .agg (mcells m.1).toArray) (Value.int .i64) (fun key kl hk => by obtain ⟨m, hm, e, _⟩ := keyOf_M_inv hk; exact ⟨⟨m, hm⟩, e⟩) (fun v y hy => by obtain ⟨c, e, _⟩ := plainElem_int_inv Try.underlying2 hy; exact ⟨c, e⟩) b (g4 + 1) n D _ _ rfl hrg ?_ ?_)
      | go_in)
    · intro _ hl0
      clear hnO
      have hPP := hP.out
      have hl5 := hPP.len
      go_wp2_with fail
      refine (SortFunc_c (ts := os) hO.r hPP.tm (by omega)).mono ?_
      rintro e w5 ⟨rfl, ts', hR', hperm, hT', hsrt, hb5⟩
      replace hR := hR.keep hb5 (by omega)
      replace hT := hT.keep hb5 (by omega)
      replace hb := hb.trans (hb5.mono (by omega))
      have HP := Lib.hid hPP
      have HL := Lib.hid hl0
      have HPM := Lib.hid hperm
      have HT2 := Lib.hid hT'
      have HSR := Lib.hid hsrt
      clear hPP hl0 hperm hT' hsrt hP cT hb5
      have cT := hT.cell 0
      have cR := hR.cell 0
      have fR := hR.frozen 0
      go_wp2_with fail
      have q := hR.set 0 (.slice va nO vc)
      refine bodyPost_ret (results_row2 rfl _ _ w.heap.size 48 #[.slice va nO vc] (0, 0) _ rfl q Try.underlying48 rfl Try.info_form) rfl ⟨Or.inl ⟨.slice va nO vc, ts', rfl, (hR'.set (p := ⟨w.heap.size, 0, none⟩) (by dsimp only; omega) _).weaken (by omega), srt_of HSR.out HPM.out HP.out.nd HT2.out, HT2.out, fun t ht => ?_, fun t ht => HP.out.win t (HPM.out.mem_iff.1 ht), by rw [HPM.out.length_eq]; exact HP.out.len, fun m hm => ?_⟩, hb.setCell (p := ⟨w.heap.size, 0, none⟩) (Nat.le_refl _) _⟩
      · have h1 := HP.out.val t (HPM.out.mem_iff.1 ht)
        have h2 := HSB.out t.m
        omega
      · rw [coef_perm HPM.out HP.out.nd, HP.out.coef m hm, HL.out (kM m)]
        rfl
    · intro m hm c kl y yp w1 cnt1 hkey hlk hRv hat hrg1 hlt hg1 hs1 hen
      obtain rfl : kl = kM m := by
        have := keyOf_M hm
        rw [hkey] at this
        exact Option.some.inj this
      have hc : c = S m := by
        obtain ⟨c', e1, e2, _⟩ := plainElem_int_inv Try.underlying2 hRv
        have h1 := hat (.lit (.int .i64 0))
        simp only [Prod.mk.injEq] at e2
        rw [e2.1, HAT.out m hm] at h1
        simp only [DataW.lit.injEq, Lit.int.injEq, true_and] at h1
        simp only [Value.int.injEq, true_and] at e1
        omega
      clear hkey hRv hat
      replace hR := hR.grown hg1 (by simp only [ne_eq, Option.some.injEq]; omega)
      replace hT := hT.grown hg1 (by simp only [ne_eq, Option.some.injEq]; omega)
      replace hO := hO.grownR hg1 (by omega)
      replace hb := grown_below hb hg1 (fun k e => by cases e; omega) hb.size
      have hSm := HSB.out m
      have hPP := hP.out
      obtain ⟨p0, p1, p2, p3, p4, p5, p6, p7, rfl⟩ := mono8 hm
      simp only [mcells, List.map_cons, List.map_nil] at hen
      have hX := Own.new w1 26 #[.int .u8 p0, .int .u8 p1, .int .u8 p2, .int .u8 p3, .int .u8 p4, .int .u8 p5, .int .u8 p6, .int .u8 p7]
      have hba := below_alloc1 w1 (.cells #[.int .u8 p0, .int .u8 p1, .int .u8 p2, .int .u8 p3, .int .u8 p4, .int .u8 p5, .int .u8 p6, .int .u8 p7] 26)
      have hrg2 := ranges_keep hrg1 hba
      replace hR := hR.alloc (.cells #[.int .u8 p0, .int .u8 p1, .int .u8 p2, .int .u8 p3, .int .u8 p4, .int .u8 p5, .int .u8 p6, .int .u8 p7] 26)
      replace hT := hT.alloc (.cells #[.int .u8 p0, .int .u8 p1, .int .u8 p2, .int .u8 p3, .int .u8 p4, .int .u8 p5, .int .u8 p6, .int .u8 p7] 26)
      replace hO := hO.keep hba
      replace hb := below_trans' hb hba hb.size
      have HL := Lib.hid hlk
      have HM := Lib.hid hrg.left_eq
      clear hba cT hlk hrg hrg1 hg1 hs1 hnO
      by_cases hc0 : c = 0
      · subst hc0
        go_wp2_with fail
        go_roundw
        case rel => exact ⟨_, cnt1, .slice va nO vc, os, hrg2, hR, hT, hO, hb, Lib.hid (hPP.skip hm HL.out hc.symm)⟩
        case measure => rw [hrg2.left_eq, HM.out]; exact hlt
      · have hcb : (c == 0) = false := by simpa using hc0
        have hS0 : ¬ S [p0, p1, p2, p3, p4, p5, p6, p7] = 0 := by rw [← hc]; exact hc0
        have HC := Lib.hid hc
        have HP := Lib.hid hPP
        clear hc hPP hP
        have v0 := hX.cell 0
        have v1 := hX.cell 1
        have v2 := hX.cell 2
        have v3 := hX.cell 3
        have v4 := hX.cell 4
        have v5 := hX.cell 5
        have v6 := hX.cell 6
        have v7 := hX.cell 7
        cases hwi : within [p0, p1, p2, p3, p4, p5, p6, p7] with
        | false =>
          have HW := Lib.hid hwi
          clear hwi
          go_wp2_with fail
          clear v0 v1 v2 v3 v4 v5 v6 v7
          generalize w1.alloc (.cells #[.int .u8 p0, .int .u8 p1, .int .u8 p2, .int .u8 p3, .int .u8 p4, .int .u8 p5, .int .u8 p6, .int .u8 p7] 26) = wn at *
          refine (withinP8 hm HW.out).mono ?_
          rintro e w2 ⟨rfl, hb2⟩
          replace hR := hR.keep hb2 hR.lt
          replace hb := below_trans' hb hb2 hb.size
          have cR := hR.cell 0
          have fR := hR.frozen 0
          go_wp2_with fail
          have q := hR.set 0 (.slice none 0 0)
          exact bodyPost_ret (results_row2 rfl _ _ w.heap.size 48 #[.slice none 0 0] (0, 0) _ rfl q Try.underlying48 rfl Try.info_form) rfl ⟨Or.inr ⟨rfl, Or.inl ⟨[p0, p1, p2, p3, p4, p5, p6, p7], hm, hS0, HW.out⟩⟩, hb.setCell (p := ⟨w.heap.size, 0, none⟩) (Nat.le_refl _) _⟩
        | true =>
          have HW := Lib.hid hwi
          clear hwi
          go_wp2_with fail
          clear v0 v1 v2 v3 v4 v5 v6 v7
          generalize w1.alloc (.cells #[.int .u8 p0, .int .u8 p1, .int .u8 p2, .int .u8 p3, .int .u8 p4, .int .u8 p5, .int .u8 p6, .int .u8 p7] 26) = wn at *
          generalize hg5 : w1.heap.size = g5 at *
          refine (withinP8 hm HW.out).mono ?_
          rintro e w2 ⟨rfl, hb2⟩
          replace hX := hX.keep hb2 hX.lt
          replace hR := hR.keep hb2 hR.lt
          replace hT := hT.keep hb2 hT.lt
          replace hO := hO.keep hb2
          have hrg3 := ranges_keep hrg2 hb2
          replace hb := below_trans' hb hb2 hb.size
          clear hrg2 hb2
          have cT := hT.cell 0
          by_cases h400 : nO = 400
          · have h4b : ((nO : Int) == 400) = true := by rw [h400]; rfl
            have cR := hR.cell 0
            have fR := hR.frozen 0
            go_wp2_with fail
            have q := hR.set 0 (.slice none 0 0)
            refine bodyPost_ret (results_row2 rfl _ _ w.heap.size 48 #[.slice none 0 0] (0, 0) _ rfl q Try.underlying48 rfl Try.info_form) rfl ⟨Or.inr ⟨rfl, Or.inr ⟨[p0, p1, p2, p3, p4, p5, p6, p7] :: os.map (·.m), ?_, ?_, ?_⟩⟩, hb.setCell (p := ⟨w.heap.size, 0, none⟩) (Nat.le_refl _) _⟩
            · rw [List.nodup_cons]
              refine ⟨fun hin => ?_, HP.out.nd⟩
              obtain ⟨t, ht, e⟩ := List.mem_map.1 hin
              exact HP.out.fresh hm HL.out t ht e
            · rw [List.length_cons, List.length_map, HNO.out]; omega
            · intro k hk
              rw [List.mem_cons] at hk
              rcases hk with rfl | hk
              · exact ⟨hm, hS0⟩
              · obtain ⟨t, ht, rfl⟩ := List.mem_map.1 hk
                exact ⟨(HP.out.tm t ht).1, by have := HP.out.val t ht; rw [← this.1]; exact this.2⟩
          · have h4b : ((nO : Int) == 400) = false := by simp; omega
            have hn4 : nO < 400 := by have := HP.out.len; have := HNO.out; omega
            have v0 := hX.cell 0
            have v1 := hX.cell 1
            have v2 := hX.cell 2
            have v3 := hX.cell 3
            have v4 := hX.cell 4
            have v5 := hX.cell 5
            have v6 := hX.cell 6
            have v7 := hX.cell 7
            have hOa := (hO.keep (below_alloc1 w2 (.cells #[.int .u8 p0, .int .u8 p1, .int .u8 p2, .int .u8 p3, .int .u8 p4, .int .u8 p5, .int .u8 p6, .int .u8 p7, .int .i64 c] 116))).1
            have hba := below_trans' hb (below_alloc1 w2 (.cells #[.int .u8 p0, .int .u8 p1, .int .u8 p2, .int .u8 p3, .int .u8 p4, .int .u8 p5, .int .u8 p6, .int .u8 p7, .int .i64 c] 116)) hb.size
            have hrg4 := ranges_keep hrg3 (below_alloc1 w2 (.cells #[.int .u8 p0, .int .u8 p1, .int .u8 p2, .int .u8 p3, .int .u8 p4, .int .u8 p5, .int .u8 p6, .int .u8 p7, .int .i64 c] 116))
            have hRa := hR.alloc (.cells #[.int .u8 p0, .int .u8 p1, .int .u8 p2, .int .u8 p3, .int .u8 p4, .int .u8 p5, .int .u8 p6, .int .u8 p7, .int .i64 c] 116)
            have hTa := hT.alloc (.cells #[.int .u8 p0, .int .u8 p1, .int .u8 p2, .int .u8 p3, .int .u8 p4, .int .u8 p5, .int .u8 p6, .int .u8 p7, .int .i64 c] 116)
            have hTl := hTa.lt
            have hnews : ∀ z u, ([Value.int .u8 p0, .int .u8 p1, .int .u8 p2, .int .u8 p3, .int .u8 p4, .int .u8 p5, .int .u8 p6, .int .u8 p7, .int .i64 c] : List Value)[z]? = some u → (w2.alloc (.cells #[.int .u8 p0, .int .u8 p1, .int .u8 p2, .int .u8 p3, .int .u8 p4, .int .u8 p5, .int .u8 p6, .int .u8 p7, .int .i64 c] 116)).cell? ((⟨w2.heap.size, 0, none⟩ : Addr).add z) = some u := fun z u hu => by
              rw [Addr.add_mid]
              exact (Own.new w2 116 #[.int .u8 p0, .int .u8 p1, .int .u8 p2, .int .u8 p3, .int .u8 p4, .int .u8 p5, .int .u8 p6, .int .u8 p7, .int .i64 c]).range z u hu
            have hone : ∀ u ∈ ([Value.int .u8 p0, .int .u8 p1, .int .u8 p2, .int .u8 p3, .int .u8 p4, .int .u8 p5, .int .u8 p6, .int .u8 p7, .int .i64 c] : List Value), u.oneCell' = true := by simp [Value.oneCell']
            have HN := Lib.hid hnews
            have HO := Lib.hid hone
            have hrl := hrg3.lt
            clear hnews hone hR hT hb hrg3 hO
            go_wp2_with (first
              | (refine wpList_append_own_wide _ rfl (.tmp 27) (.tmp 31) 46 rfl (g4 + 1 + 1) 116 ti tz 9 16 Try.underlying46 HI.out HZ.out HS.out HBt.out HZs.out (by omega) (.slice va nO vc) _ _ rfl hOa ⟨w2.heap.size, 0, none⟩ 1 1 [Value.int .u8 p0, .int .u8 p1, .int .u8 p2, .int .u8 p3, .int .u8 p4, .int .u8 p5, .int .u8 p6, .int .u8 p7, .int .i64 c] rfl rfl HN.out HO.out (by have := HNO.out; simp only [maxLen]; omega) (by have := HNO.out; omega) (by rw [size_alloc]; omega) (fun v' w' h2 h3 h4 => ?_)
                 obtain ⟨gg, vk, cp, rfl⟩ : ∃ gg vk cp, v' = .slice gg vk cp := by
                   rcases h2.2 with ⟨h0, _⟩ | ⟨g, cap, cur, hv, _⟩
                   · exact ⟨_, _, _, h0⟩
                   · exact ⟨_, _, _, hv⟩
                 have hT7 := hTa.grown h3 (fun e => by have := (hOa.lt _ e.symm).1; omega)
                 have hR7 := hRa.grown h3 (fun e => by have := (hOa.lt _ e.symm).1; omega)
                 have hb7 := grown_below hba h3 (fun q e => by have := (hOa.lt q e).1; omega) hba.size
                 have hrg7 := hrg4.kept h3 (fun e => by have := (hOa.lt _ e.symm).1; omega) (fun e => by have := (hOa.lt _ e.symm).1; omega)
                 have c7 := hT7.cell 0
                 have f7 := hT7.frozen 0
                 have H2 := Lib.hid h2
                 have H4 := Lib.hid h4
                 clear h2 h3 h4 hOa hTa hRa hba hrg4 HN HO v0 v1 v2 v3 v4 v5 v6 v7 cT))
            have hrg8 := ranges_far (p := ⟨g4, 0, none⟩) hrg7 (by dsimp only; omega) (by dsimp only; omega) (.slice gg vk cp)
            go_roundw
            case rel =>
              refine ⟨_, cnt1, .slice gg vk cp, os ++ [⟨[p0, p1, p2, p3, p4, p5, p6, p7], c⟩], hrg8, hR7.far (p := ⟨g4, 0, none⟩) (by dsimp only; omega) _, hT7.set 0 _, OwnForm.set (p := ⟨g4, 0, none⟩) (OwnForm.of H2.out (by simp) (by rw [rcells_append]; rfl) ⟨fun e => absurd (H4.out.1 e).2 (by omega), fun e => by omega⟩) (by dsimp only; omega) _, hb7.setCell (p := ⟨g4, 0, none⟩) (by dsimp only; omega) _, Lib.hid ?_⟩
              rw [HC.out]
              exact HP.out.put hm HL.out hS0 hSm HW.out (by rw [HNO.out]; exact hn4)
            case measure => rw [hrg8.left_eq, HM.out]; exact hlt

end Go.Proofs.Ytchonljgpdekjaa
