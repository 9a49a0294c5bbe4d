
import Derived.Test.YtndnkeijddagiaaHeld
import Derived.Test.YtndnkeijddagiaaResult
import Derived.Test.YtndnkeijddagiaaKeep
import Derived.Test.YtndnkeijddagiaaFree
namespace Go.Proofs.Ytndnkeijddagiaa
open Go.RowKit Go.Deep
def shM (s : Nat) (m : List Int) : List Int := List.replicate s 0 ++ m.take (8 - s)
def shT (s : Nat) (t : Tm) : Tm := ⟨shM s t.m, t.f⟩
theorem shM_mono {s : Nat} {m : List Int} (h : IsMono m) (hs : s ≤ 8) : IsMono (shM s m) := by
  refine ⟨by simp [shM, h.1]; omega, fun x hx => ?_⟩
  rcases List.mem_append.1 hx with hx | hx
  · have := List.eq_of_mem_replicate hx
    omega
  · exact h.2 x (List.mem_of_mem_take hx)
theorem shT_tm {s : Nat} {t : Tm} (h : IsTm t) (hs : s ≤ 8) : IsTm (shT s t) := ⟨shM_mono h.1 hs, h.2⟩
theorem sh_take {s k : Nat} {ts : List Tm} {t : Tm} (h : ts[k]? = some t) : (ts.take (k + 1)).map (shT s) = (ts.take k).map (shT s) ++ [shT s t] := by
  rw [List.take_add_one, h, List.map_append]
  rfl
theorem row_keep {w w' : World} {B sz n : Nat} {t : TypeId} {v : Value} {xs : List Value} (h : w.ownsRow B t sz v n xs) (hb : Below w.heap.size w w') : w'.ownsRow B t sz v n xs :=
  World.ownsRow.kept h (row := none) ⟨hb.os, hb.tape, hb.output, hb.size, fun k hk _ => hb.block k hk⟩ (by cases h0 : v.ownBlock <;> simp)
theorem row_grown {w w' : World} {B B' sz sz' n n' : Nat} {t t' : TypeId} {v v' : Value} {xs xs' : List Value} (h : w.ownsRow B t sz v n xs) (h' : w.ownsRow B' t' sz' v' n' xs') (ht : t ≠ t') (hg : w.grownBy w' v'.ownBlock) : w'.ownsRow B t sz v n xs :=
  World.ownsRow.kept h hg (by
    cases hv : v.ownBlock with
    | none => exact Or.inl rfl
    | some q =>
      obtain ⟨os, ho⟩ := row_own h hv
      exact Or.inr (own_ne_row ho h' ht))
end Go.Proofs.Ytndnkeijddagiaa
namespace Go.Proofs.Ytndnkeijddagiaa
open Go.RowKit Go.Deep
theorem eq_nil_someF {x : Addr} {n c : Nat} (w : World) : (binOp BinOp.eql 27 (.slice (some x) n c) (.slice none 0 0)).run Try.prog w = .ok (.bool false) w := by kernel_rfl
set_option maxRecDepth 100000 in
theorem cloneI_c {w : World} {g o n : Nat} {zs : List Int} (c : Nat) (h : Ints w (some ⟨g, o, none⟩) n zs) (hn : n ≤ 1048576) :
    Calls Try.prog 79 #[.slice (some ⟨g, o, none⟩) n c] w fun e w' => ∃ a c', e = .returned (.slice a n c') ∧ w'.ownsRow w.heap.size 2 1 (.slice a n c') n (zs.map (Value.int .i64)) ∧ Below w.heap.size w w' := by
  obtain ⟨ti, tz, hti, htz, hts, htb, htzs⟩ := Try.info_intA
  have hnews : ∀ j u, ((zs.map (Value.int .i64)) : List Value)[j]? = some u → (w.alloc (.cells #[] 2)).cell? ((⟨g, o, none⟩ : Addr).add j) = some u := fun j u hu => by
    have hl : (zs.map (Value.int .i64)).length = n := by rw [List.length_map]; exact h.1
    have hj := (List.getElem?_eq_some_iff.1 hu).1
    obtain ⟨b, off, e, hb, hc⟩ := h.2 (by omega)
    injection e with e
    injection e with e1 e2
    subst e1 e2
    rw [Addr.add_mid, World.cell?_alloc_lt _ _ _ hb, hc j (by omega)]
    rw [List.getElem?_map, getD_of (by rw [List.length_map] at hj; exact hj)] at hu
    exact hu
  have hone : ∀ u ∈ ((zs.map (Value.int .i64)) : List Value), u.oneCell' = true := by
    intro u hu
    obtain ⟨x, -, rfl⟩ := List.mem_map.1 hu
    rfl
  have hlen : ((zs.map (Value.int .i64)) : List Value).length = n * 1 := by rw [List.length_map, Nat.mul_one]; exact h.1
  have hro : (w.alloc (.cells #[] 2)).ownsRow w.heap.size 2 1 (.slice (some ⟨w.heap.size, 0, none⟩) 0 0) 0 [] := ⟨rfl, Or.inr ⟨w.heap.size, 0, #[], rfl, Nat.le_refl _, heap_alloc_new w _, Nat.le_refl _, by simp [maxLen], rfl, rfl⟩⟩
  have HN := Lib.hid hnews
  have HO := Lib.hid hone
  have HI := Lib.hid hti
  have HZ := Lib.hid htz
  have HS := Lib.hid hts
  have HBt := Lib.hid htb
  have HZs := Lib.hid htzs
  have HLN := Lib.hid hlen
  have HR := Lib.hid hro
  have HEQ := eq_nil_some (x := ⟨g, o, none⟩) (n := n) (c := c) w
  clear hnews hone hti htz hts htb htzs hlen hro h
  go_enter Try.func79, Try.ntmps79
  go_wp2_with (refine wpList_append_own_wide _ rfl (.tmp 5) (.tmp 6) 22 rfl w.heap.size 2 ti tz 1 8 Try.underlying22 HI.out HZ.out HS.out HBt.out HZs.out (by omega) (.slice (some ⟨w.heap.size, 0, none⟩) 0 0) 0 [] rfl HR.out ⟨g, o, none⟩ n c (zs.map (Value.int .i64)) rfl HLN.out HN.out HO.out (by simp only [maxLen]; omega) (by omega) (by rw [size_alloc]; omega) (fun v' w' h2 h3 h4 => ?_))
  rw [Nat.zero_add, List.nil_append] at h2
  obtain ⟨a', c', rfl⟩ := row_slice h2
  have hb := grown_below (below_alloc1 w (.cells #[] 2)) h3 (fun k e => by have : w.heap.size = k := (by simpa [Value.ownBlock] using e); omega) (by rw [size_alloc]; omega)
  have H2 := Lib.hid h2
  clear h2 h3 h4
  go_wp2_with fail
  go_ret
  exact ⟨a', c', rfl, H2.out, hb⟩
set_option maxRecDepth 100000 in
theorem cloneF_c {w : World} {g o n : Nat} {vs : List Value} (c : Nat) (h : ∀ (j : Nat) v, vs[j]? = some v → w.cell? ⟨g, o + j, none⟩ = some v) (h1 : ∀ v ∈ vs, v.oneCell' = true) (hl : vs.length = n) (hn : n ≤ 1048576) :
    Calls Try.prog 80 #[.slice (some ⟨g, o, none⟩) n c] w fun e w' => ∃ a c', e = .returned (.slice a n c') ∧ w'.ownsRow w.heap.size 47 1 (.slice a n c') n vs ∧ Below w.heap.size w w' := by
  obtain ⟨ti, tz, hti, htz, hts, htb, htzs⟩ := Try.info_formA
  have hnews : ∀ j u, (vs : List Value)[j]? = some u → (w.alloc (.cells #[] 47)).cell? ((⟨g, o, none⟩ : Addr).add j) = some u := fun j u hu => by
    have hb := h j u hu
    rw [Addr.add_mid, World.cell?_alloc_lt _ _ _ (World.block_lt_of_cell? w ⟨g, o + j, none⟩ hb)]
    exact hb
  have hone : ∀ u ∈ (vs : List Value), u.oneCell' = true := by
    exact h1
  have hlen : (vs : List Value).length = n * 1 := by rw [Nat.mul_one]; exact hl
  have hro : (w.alloc (.cells #[] 47)).ownsRow w.heap.size 47 1 (.slice (some ⟨w.heap.size, 0, none⟩) 0 0) 0 [] := ⟨rfl, Or.inr ⟨w.heap.size, 0, #[], rfl, Nat.le_refl _, heap_alloc_new w _, Nat.le_refl _, by simp [maxLen], rfl, rfl⟩⟩
  have HN := Lib.hid hnews
  have HO := Lib.hid hone
  have HI := Lib.hid hti
  have HZ := Lib.hid htz
  have HS := Lib.hid hts
  have HBt := Lib.hid htb
  have HZs := Lib.hid htzs
  have HLN := Lib.hid hlen
  have HR := Lib.hid hro
  have HEQ := eq_nil_someF (x := ⟨g, o, none⟩) (n := n) (c := c) w
  clear h1 hl
  clear hnews hone hti htz hts htb htzs hlen hro h
  go_enter Try.func80, Try.ntmps80
  go_wp2_with (refine wpList_append_own_wide _ rfl (.tmp 5) (.tmp 6) 27 rfl w.heap.size 47 ti tz 1 24 Try.underlying27 HI.out HZ.out HS.out HBt.out HZs.out (by omega) (.slice (some ⟨w.heap.size, 0, none⟩) 0 0) 0 [] rfl HR.out ⟨g, o, none⟩ n c vs rfl HLN.out HN.out HO.out (by simp only [maxLen]; omega) (by omega) (by rw [size_alloc]; omega) (fun v' w' h2 h3 h4 => ?_))
  rw [Nat.zero_add, List.nil_append] at h2
  obtain ⟨a', c', rfl⟩ := row_slice h2
  have hb := grown_below (below_alloc1 w (.cells #[] 47)) h3 (fun k e => by have : w.heap.size = k := (by simpa [Value.ownBlock] using e); omega) (by rw [size_alloc]; omega)
  have H2 := Lib.hid h2
  clear h2 h3 h4
  go_wp2_with fail
  go_ret
  exact ⟨a', c', rfl, H2.out, hb⟩
set_option maxHeartbeats 2000000 in
set_option maxRecDepth 100000 in
theorem newAlgebra_c {w : World} {gd od dn gi oi n : Nat} {zs : List Int} {fss : List (List Tm)} (dc c : Nat) (hd : Ints w (some ⟨gd, od, none⟩) dn zs) (hdn : dn ≤ 1048576) (h : FrmsN w (some ⟨gi, oi, none⟩) n fss) (hn : n ≤ 1048576) (hT : ∀ ts ∈ fss, ∀ t ∈ ts, IsTm t) (hS : sumLen fss ≤ 1048576) :
    Calls Try.prog 59 #[.slice (some ⟨gd, od, none⟩) dn dc, .slice (some ⟨gi, oi, none⟩) n c] w fun e w' => ∃ a ac b, e = .returned (.agg #[.slice a dn ac, .slice b n n]) ∧ OwnV w' w.heap.size w'.heap.size a dn zs ∧ OwnF w' w.heap.size w'.heap.size b n fss ∧ Below w.heap.size w w' := by
  have HTT := Lib.hid hT
  have HSS := Lib.hid hS
  clear hT hS
  have hO := Own.new w 29 #[.slice none 0 0, .slice none 0 0]
  have hb := below_alloc1 w (.cells #[.slice none 0 0, .slice none 0 0] 29)
  have hd1 := hd.keep hb
  have h1 := h.keep hb
  go_enter Try.func59, Try.ntmps59
  go_upto_region 1 with fail
  generalize w.alloc (.cells #[.slice none 0 0, .slice none 0 0] 29) = w0 at *
  generalize hg : w.heap.size = G at *
  have HG := Lib.hid hg
  clear hg hd h
  have hl0 := hO.lt
  go_wp2_with fail
  refine (cloneI_c dc hd1 hdn).mono ?_
  rintro e w1 ⟨a, ac, rfl, hVr, hb1⟩
  obtain ⟨a', ac', hvv, hV⟩ := OwnV.of_row hVr
  simp only [Value.slice.injEq] at hvv
  obtain ⟨rfl, -, rfl⟩ := hvv
  clear hVr
  have hO1 := hO.keep hb1 hO.lt
  have h2 := h1.keep hb1
  have hb2 := below_trans' hb hb1 (by omega)
  have hV1 := hV.weaken (lo' := G + 1) (by omega) (Nat.le_refl _)
  clear hO hb1 h1 hd1 hV hb
  have hl1 := hO1.lt
  go_wp2_with fail
  refine (keepForms_c c h2 hn HTT.out HSS.out).mono ?_
  rintro e w2 ⟨gb, rfl, hE, hb3⟩
  have hO2 := hO1.keep hb3 hO1.lt
  have hV2 := (hV1.keep hb3).weaken (Nat.le_refl _) hb3.size
  have hb4 := below_trans' hb2 hb3 (by omega)
  have hE1 := hE.weaken (lo' := G + 1) (by omega) (Nat.le_refl _)
  clear hO1 hb2 hV1 hb3 h2 hE
  have k0 := hO2.cell 0
  have k1 := hO2.cell 1
  have f0 := hO2.frozen 0
  have f1 := hO2.frozen 1
  go_wp2_with fail
  have s2 := ((hO2.set 0 (.slice a dn ac)).set 1 (.slice (some ⟨gb, 0, none⟩) n n))
  have ht : Touch (fun k => k = G) w2 ((w2.setCell ⟨G, 0, none⟩ (.slice a dn ac)).setCell ⟨G, 1, none⟩ (.slice (some ⟨gb, 0, none⟩) n n)) := Touch.of_only (((Only.refl G w2).set 0 _).set 1 _)
  refine bodyPost_ret (results_cell_row rfl _ _ G 29 #[.slice a dn ac, .slice (some ⟨gb, 0, none⟩) n n] (0, 0) _ rfl s2 Try.underlying29 rfl Try.info_alg) rfl ⟨a, ac, some ⟨gb, 0, none⟩, rfl, ?_, ?_, ?_⟩
  · rw [HG.out]; exact (hV2.touch ht (fun g h1 h2 => by omega)).weaken (by omega) (by simp)
  · rw [HG.out]; exact (hE1.touch ht (fun g h1 h2 => by omega)).weaken (by omega) (by simp)
  · rw [HG.out]; exact (hb4.setCell (p := ⟨G, 0, none⟩) (by dsimp only; omega) _).setCell (p := ⟨G, 1, none⟩) (by dsimp only; omega) _
end Go.Proofs.Ytndnkeijddagiaa
