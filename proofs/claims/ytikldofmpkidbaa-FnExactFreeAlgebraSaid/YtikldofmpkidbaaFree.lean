
import Derived.Test.YtikldofmpkidbaaAlgS
import Derived.Deep.DeepAppendWide
import Derived.Deep.RegionWith
namespace Go.Proofs.Ytikldofmpkidbaa
open Go.RowKit Go.Deep
theorem Try.info_intA : ∃ i z, Try.prog.info? 2 = some i ∧ i.zero = some z ∧ i.size = 1 ∧ i.bytes = 8 ∧ z.cells.size = 1 := by
  obtain ⟨i, hi, hzz⟩ := Option.map_eq_some_iff.1 Try.info_int64
  simp only [Prod.mk.injEq] at hzz
  obtain ⟨hz, hs, hb⟩ := hzz
  exact ⟨i, _, hi, hz, hs, hb, rfl⟩
theorem empty_row (w : World) : (w.alloc (.cells #[] 2)).ownsRow w.heap.size 2 1 (.slice (some ⟨w.heap.size, 0, none⟩) 0 0) 0 [] :=
  ⟨rfl, Or.inr ⟨w.heap.size, 0, #[], rfl, Nat.le_refl _, heap_alloc_new w _, Nat.le_refl _, by simp [maxLen], rfl, rfl⟩⟩
def OwnV (w : World) (lo hi : Nat) (a : Option Addr) (n : Nat) (V : List Int) : Prop := V.length = n ∧ (0 < n → ∃ g cs, a = some ⟨g, 0, none⟩ ∧ lo ≤ g ∧ g < hi ∧ Own w g 2 cs ∧ n ≤ cs.size ∧ ∀ i, i < n → cs[i]? = some (.int .i64 (V.getD i 0)))
section
variable {w w' : World} {lo hi n : Nat} {a : Option Addr} {V : List Int}
theorem OwnV.none_ : OwnV w lo hi none 0 [] := ⟨rfl, fun h => absurd h (by omega)⟩
theorem OwnV.keep (h : OwnV w lo hi a n V) (hb : Below w.heap.size w w') : OwnV w' lo hi a n V :=
  ⟨h.1, fun hn => by obtain ⟨g, cs, h1, h2, h3, h4, h5⟩ := h.2 hn; exact ⟨g, cs, h1, h2, h3, h4.keep hb h4.lt, h5⟩⟩
theorem OwnV.touch {p : Nat → Prop} (h : OwnV w lo hi a n V) (ht : Touch p w w') (hp : ∀ g, lo ≤ g → g < hi → ¬ p g) : OwnV w' lo hi a n V :=
  ⟨h.1, fun hn => by obtain ⟨g, cs, h1, h2, h3, h4, h5⟩ := h.2 hn; exact ⟨g, cs, h1, h2, h3, ht.own h4 (hp g h2 h3), h5⟩⟩
theorem OwnV.ints (h : OwnV w lo hi a n V) : Ints w a n V :=
  ⟨h.1, fun hn => by
    obtain ⟨g, cs, rfl, h2, h3, h4, h5, h6⟩ := h.2 hn
    exact ⟨g, 0, rfl, h4.lt, fun i hi => by rw [Nat.zero_add, h4.cell i]; exact h6 i hi⟩⟩
theorem OwnV.weaken {lo' hi' : Nat} (h : OwnV w lo hi a n V) (h1 : lo' ≤ lo) (h2 : hi ≤ hi') : OwnV w lo' hi' a n V :=
  ⟨h.1, fun hn => by obtain ⟨g, cs, e, h3, h4, h5⟩ := h.2 hn; exact ⟨g, cs, e, by omega, by omega, h5⟩⟩
theorem OwnV.block {gx : Nat} {csx : Array Value} (h : OwnV w lo hi a n V) (hx : Own w gx 2 csx) :
    ∃ g cs, Own w g 2 cs ∧ n ≤ cs.size ∧ (0 < n → a = some ⟨g, 0, none⟩) ∧ (g = gx ∨ (lo ≤ g ∧ g < hi)) := by
  by_cases hn : 0 < n
  · obtain ⟨g, cs, e, h1, h2, h3, h4, -⟩ := h.2 hn
    exact ⟨g, cs, h3, h4, fun _ => e, Or.inr ⟨h1, h2⟩⟩
  · exact ⟨gx, csx, hx, by omega, fun hh => absurd hh hn, Or.inl rfl⟩
theorem OwnV.of_row {B : Nat} {v : Value} (h : w.ownsRow B 2 1 v n (V.map (Value.int .i64))) : ∃ a c, v = .slice a n c ∧ OwnV w B w.heap.size a n V := by
  have hl : V.length = n := by simpa using h.1
  have hc := fun g => World.ownsRow.cells (g := g) h
  rcases h.2 with ⟨hv, h0⟩ | ⟨g, cap, cur, hv, hb, hg, hn, _, hs, _⟩
  · have h00 : n = 0 := by simpa using h0
    subst h00
    exact ⟨none, 0, hv, hl, fun hp => absurd hp (by omega)⟩
  · have ho : Own w g 2 cur := hg
    refine ⟨some ⟨g, 0, none⟩, cap, hv, hl, fun _ => ⟨g, cur, rfl, hb, ho.lt, ho, by omega, fun i hi => ?_⟩⟩
    have h1 := hc g (by rw [hv]; rfl) i (.int .i64 (V.getD i 0)) (by rw [List.getElem?_map, getD_of (by omega)]; rfl)
    rw [Addr.add_mid, ho.cell] at h1
    rwa [Nat.zero_add] at h1
end
theorem eq_nil_some {x : Addr} {n c : Nat} (w : World) : (binOp BinOp.eql 22 (.slice (some x) n c) (.slice none 0 0)).run Try.prog w = .ok (.bool false) w := by kernel_rfl
set_option maxRecDepth 100000 in
theorem clone_c {w : World} {g n : Nat} {zs : List Int} (c : Nat) (h : Own w g 2 ((zs.map (Value.int .i64)).toArray)) (hz : zs.length = n) (hn : n ≤ 1048576) :
    Calls Try.prog 116 #[.slice (some ⟨g, 0, none⟩) n c] w fun e w' => ∃ a c', e = .returned (.slice a n c') ∧ OwnV w' w.heap.size w'.heap.size a n zs ∧ Below w.heap.size w w' := by
  obtain ⟨ti, tz, hti, htz, hts, htb, htzs⟩ := Try.info_intA
  have hnews : ∀ j u, (zs.map (Value.int .i64))[j]? = some u → (w.alloc (.cells #[] 2)).cell? ((⟨g, 0, none⟩ : Addr).add j) = some u := fun j u hu => by
    rw [Addr.add_mid]
    exact (h.alloc _).range j u hu
  have hone : ∀ u ∈ zs.map (Value.int .i64), u.oneCell' = true := by
    intro u hu
    obtain ⟨x, -, rfl⟩ := List.mem_map.1 hu
    rfl
  have hlen : (zs.map (Value.int .i64)).length = n * 1 := by simp [hz]
  have HN := Lib.hid hnews
  have HO := Lib.hid hone
  have HI := Lib.hid hti
  have HZ := Lib.hid htz
  have HS := Lib.hid hts
  have HBt := Lib.hid htb
  have HZs := Lib.hid htzs
  have HLN := Lib.hid hlen
  have HEQ := eq_nil_some (x := ⟨g, 0, none⟩) (n := n) (c := c) w
  clear hnews hone hti htz hts htb htzs hlen hz h
  go_enter Try.func116, Try.ntmps116
  go_wp2_with (refine wpList_append_own_wide _ rfl (.tmp 5) (.tmp 6) 22 rfl w.heap.size 2 ti tz 1 8 Try.underlying22 HI.out HZ.out HS.out HBt.out HZs.out (by omega) (.slice (some ⟨w.heap.size, 0, none⟩) 0 0) 0 [] rfl (empty_row w) ⟨g, 0, none⟩ n c (zs.map (Value.int .i64)) rfl HLN.out HN.out HO.out (by simp only [maxLen]; omega) (by omega) (by rw [size_alloc]; omega) (fun v' w' h2 h3 h4 => ?_))
  rw [Nat.zero_add, List.nil_append] at h2
  obtain ⟨a', c', rfl, hV⟩ := OwnV.of_row h2
  have hb := grown_below (below_alloc1 w (.cells #[] 2)) h3 (fun k e => by have : w.heap.size = k := (by simpa [Value.ownBlock] using e); omega) (by rw [size_alloc]; omega)
  clear h2 h3 h4 HEQ
  go_wp2_with fail
  go_ret
  exact ⟨a', c', rfl, hV, hb⟩
set_option maxRecDepth 100000 in
theorem l01Own_c {w : World} {g n : Nat} {zs : List Int} (c : Nat) (h : Own w g 2 ((zs.map (Value.int .i64)).toArray)) (hz : zs.length = n) (hn : n ≤ 1048576) :
    Calls Try.prog 115 #[.slice (some ⟨g, 0, none⟩) n c] w fun e w' => ∃ a c', e = .returned (.slice a n c') ∧ OwnV w' w.heap.size w'.heap.size a n zs ∧ Below w.heap.size w w' := by
  obtain ⟨ti, tz, hti, htz, hts, htb, htzs⟩ := Try.info_intA
  have hnews : ∀ j u, (zs.map (Value.int .i64))[j]? = some u → (w.alloc (.cells #[] 2)).cell? ((⟨g, 0, none⟩ : Addr).add j) = some u := fun j u hu => by
    rw [Addr.add_mid]
    exact (h.alloc _).range j u hu
  have hone : ∀ u ∈ zs.map (Value.int .i64), u.oneCell' = true := by
    intro u hu
    obtain ⟨x, -, rfl⟩ := List.mem_map.1 hu
    rfl
  have hlen : (zs.map (Value.int .i64)).length = n * 1 := by simp [hz]
  have HN := Lib.hid hnews
  have HO := Lib.hid hone
  have HI := Lib.hid hti
  have HZ := Lib.hid htz
  have HS := Lib.hid hts
  have HBt := Lib.hid htb
  have HZs := Lib.hid htzs
  have HLN := Lib.hid hlen
  clear hnews hone hti htz hts htb htzs hlen hz h
  go_enter Try.func115, Try.ntmps115
  go_wp2_with (refine wpList_append_own_wide _ rfl (.tmp 3) (.tmp 4) 22 rfl w.heap.size 2 ti tz 1 8 Try.underlying22 HI.out HZ.out HS.out HBt.out HZs.out (by omega) (.slice (some ⟨w.heap.size, 0, none⟩) 0 0) 0 [] rfl (empty_row w) ⟨g, 0, none⟩ n c (zs.map (Value.int .i64)) rfl HLN.out HN.out HO.out (by simp only [maxLen]; omega) (by omega) (by rw [size_alloc]; omega) (fun v' w' h2 h3 h4 => ?_))
  rw [Nat.zero_add, List.nil_append] at h2
  obtain ⟨a', c', rfl, hV⟩ := OwnV.of_row h2
  have hb := grown_below (below_alloc1 w (.cells #[] 2)) h3 (fun k e => by have : w.heap.size = k := (by simpa [Value.ownBlock] using e); omega) (by rw [size_alloc]; omega)
  clear h2 h3 h4
  go_wp2_with fail
  go_ret
  exact ⟨a', c', rfl, hV, hb⟩
theorem rep_get (n i : Nat) (h : i < n) (v : Value) : (Array.replicate n v)[i]? = some v := by simp [h]
theorem rep_set (n i : Nat) (v : Value) : (Array.replicate n v).setIfInBounds i v = Array.replicate n v := by
  apply Array.ext_getElem?
  intro j
  rw [Array.getElem?_setIfInBounds]
  by_cases h : i = j
  · subst h
    by_cases hi : i < n
    · simp [hi]
    · simp [hi]
  · simp [h]
def OwnE (w : World) (lo hi : Nat) (a : Option Addr) (n : Nat) : Prop := 0 < n → ∃ g, a = some ⟨g, 0, none⟩ ∧ lo ≤ g ∧ g < hi ∧ Own w g 61 (Array.replicate n (Value.slice none 0 0))
theorem OwnE.keep {w w' : World} {lo hi n : Nat} {a : Option Addr} (h : OwnE w lo hi a n) (hb : Below w.heap.size w w') : OwnE w' lo hi a n :=
  fun hn => by obtain ⟨g, h1, h2, h3, h4⟩ := h hn; exact ⟨g, h1, h2, h3, h4.keep hb h4.lt⟩
theorem OwnE.weaken {w : World} {lo hi lo' hi' n : Nat} {a : Option Addr} (h : OwnE w lo hi a n) (h1 : lo' ≤ lo) (h2 : hi ≤ hi') : OwnE w lo' hi' a n :=
  fun hn => by obtain ⟨g, e, h3, h4, h5⟩ := h hn; exact ⟨g, e, by omega, by omega, h5⟩
theorem OwnE.touch {p : Nat → Prop} {w w' : World} {lo hi n : Nat} {a : Option Addr} (h : OwnE w lo hi a n) (ht : Touch p w w') (hp : ∀ g, lo ≤ g → g < hi → ¬ p g) : OwnE w' lo hi a n :=
  fun hn => by obtain ⟨g, h1, h2, h3, h4⟩ := h hn; exact ⟨g, h1, h2, h3, ht.own h4 (hp g h2 h3)⟩
theorem OwnE.frms {w : World} {lo hi n : Nat} {a : Option Addr} (h : OwnE w lo hi a n) : Frms w a n (List.replicate n []) := by
  refine ⟨by simp, fun hn => ?_⟩
  obtain ⟨g, rfl, -, -, ho⟩ := h hn
  refine ⟨g, 0, rfl, ho.lt, fun i ts hi => ?_⟩
  have hl : i < n := by have := (List.getElem?_eq_some_iff.1 hi).1; simpa using this
  obtain rfl : ts = [] := by rw [List.getElem?_replicate, if_pos hl] at hi; injection hi with hi; exact hi.symm
  refine ⟨none, 0, 0, ?_, ⟨rfl, fun t ht => absurd ht (by simp), fun hp => absurd hp (by omega)⟩, by omega⟩
  rw [Nat.zero_add, ho.cell i]
  exact rep_get n i hl _
set_option maxHeartbeats 2000000 in
set_option maxRecDepth 100000 in
theorem keepForms0_c {w : World} {gi n : Nat} (c : Nat) (h : Own w gi 61 (Array.replicate n (Value.slice none 0 0))) (hn : n ≤ 1048576) :
    Calls Try.prog 117 #[.slice (some ⟨gi, 0, none⟩) n c] w fun e w' => ∃ a, e = .returned (.slice a n n) ∧ OwnE w' w.heap.size w'.heap.size a n ∧ Below w.heap.size w w' := by
  have HH := Lib.hid h
  have hmk := make_forms n hn
  clear h
  go_enter Try.func117, Try.ntmps117
  go_upto_region 3 with fail
  go_loopw [3, 13] (fun v y wr => ∃ i : Nat, i ≤ n ∧ v = .slice none 0 0 ∧ y = .int .i64 i ∧ Below w.heap.size w wr) (fun _ y _ => n - (intOf y).toNat)
  case atStart => exact ⟨0, Nat.zero_le _, rfl, rfl, Below.refl _ _⟩
  case round =>
    obtain ⟨i, hi, rfl, rfl, hb⟩ := hrel
    by_cases hin : i < n
    · have hc : wr.cell? ⟨gi, i, none⟩ = some (.slice none 0 0) := by
        rw [(HH.out.keep hb HH.out.lt).cell i]
        exact rep_get n i hin _
      have hi0 : (0 : Int) ≤ (i : Int) := by omega
      have hini : (i : Int) < (n : Int) := by omega
      have hE := Own.new wr 61 #[.slice none 0 0]
      have hba := below_alloc1 wr (.cells #[.slice none 0 0] 61)
      have hb4 := below_trans' hb hba hb.size
      go_upto_region 5 with fail
      generalize wr.alloc (.cells #[.slice none 0 0] 61) = w3 at *
      generalize wr.heap.size = gE at *
      clear hc hba hb
      have cE := hE.cell 0
      go_wp2_with fail
      go_roundw
      case rel => exact ⟨i + 1, by omega, rfl, by go_num, hb4⟩
      case measure => simp [intOf] <;> omega
    · have he : i = n := by omega
      subst he
      go_upto_region 10 with fail
      have hR := Own.new wr 61 (Array.replicate i (Value.slice none 0 0))
      have hba := below_alloc1 wr (.cells (Array.replicate i (Value.slice none 0 0)) 61)
      have hb3 := below_trans' hb hba hb.size
      have hgR : w.heap.size ≤ wr.heap.size := hb.size
      generalize wr.alloc (.cells (Array.replicate i (Value.slice none 0 0)) 61) = w2 at *
      generalize wr.heap.size = gR at *
      clear hmk hba hb
      go_loopw [7, 27] (fun v y wx => ∃ k : Nat, k ≤ i ∧ v = .int .i64 0 ∧ y = .int .i64 k ∧ Below w.heap.size w wx ∧ Own wx gR 61 (Array.replicate i (Value.slice none 0 0))) (fun _ y _ => i - (intOf y).toNat)
      case atStart => exact ⟨0, Nat.zero_le _, rfl, rfl, hb3, hR⟩
      case round =>
        clear hb3 hR
        obtain ⟨k, hk, rfl, rfl, hb, hR⟩ := hrel
        by_cases hkn : k < i
        · have hc : wr.cell? ⟨gi, k, none⟩ = some (.slice none 0 0) := by
            rw [(HH.out.keep hb HH.out.lt).cell k]
            exact rep_get i k hkn _
          have hi0 : (0 : Int) ≤ (k : Int) := by omega
          have hini : (k : Int) < (i : Int) := by omega
          have hE := Own.new wr 61 #[.slice none 0 0]
          have hba := below_alloc1 wr (.cells #[.slice none 0 0] 61)
          have hb4 := below_trans' hb hba hb.size
          have hR4 := hR.keep hba hR.lt
          go_upto_region 12 with fail
          generalize wr.alloc (.cells #[.slice none 0 0] 61) = w3 at *
          generalize wr.heap.size = gE at *
          clear hc hba hb hR
          have cE := hE.cell 0
          have hfz := hR4.frozen k
          obtain ⟨ov, hcv⟩ := hR4.has (i := k) (by simp; omega)
          go_wp2_with fail
          go_roundw
          case rel =>
            refine ⟨k + 1, by omega, rfl, by go_num, hb4.setCell (p := ⟨gR, k, none⟩) (by dsimp only; omega) _, ?_⟩
            have := hR4.set k (.slice none 0 0)
            rwa [rep_set] at this
          case measure => simp [intOf] <;> omega
        · have he : k = i := by omega
          subst he
          go_wp2_with fail
          go_ret
          exact ⟨_, rfl, fun _ => ⟨gR, rfl, hgR, hR.lt, hR⟩, hb⟩
set_option maxHeartbeats 2000000 in
set_option maxRecDepth 100000 in
theorem newAlgebra0_c {w : World} {gd dn gi n : Nat} {zs : List Int} (dc c : Nat) (hd : Own w gd 2 ((zs.map (Value.int .i64)).toArray)) (hz : zs.length = dn) (hdn : dn ≤ 1048576) (h : Own w gi 61 (Array.replicate n (Value.slice none 0 0))) (hn : n ≤ 1048576) :
    Calls Try.prog 96 #[.slice (some ⟨gd, 0, none⟩) dn dc, .slice (some ⟨gi, 0, none⟩) n c] w fun e w' => ∃ a ac b, e = .returned (.agg #[.slice a dn ac, .slice b n n]) ∧ OwnV w' w.heap.size w'.heap.size a dn zs ∧ OwnE w' w.heap.size w'.heap.size b n ∧ Below w.heap.size w w' := by
  have HZ := Lib.hid hz
  clear hz
  have hO := Own.new w 33 #[.slice none 0 0, .slice none 0 0]
  have hb := below_alloc1 w (.cells #[.slice none 0 0, .slice none 0 0] 33)
  have hd1 := hd.keep hb hd.lt
  have h1 := h.keep hb h.lt
  go_enter Try.func96, Try.ntmps96
  go_upto_region 1 with fail
  generalize w.alloc (.cells #[.slice none 0 0, .slice none 0 0] 33) = w0 at *
  generalize hg : w.heap.size = G at *
  have HG := Lib.hid hg
  clear hg hd h
  have hl0 := hO.lt
  go_wp2_with fail
  refine (clone_c dc hd1 HZ.out hdn).mono ?_
  rintro e w1 ⟨a, ac, rfl, hV, hb1⟩
  have hO1 := hO.keep hb1 hO.lt
  have h2 := h1.keep hb1 h1.lt
  have hb2 := below_trans' hb hb1 (by omega)
  have hV1 := hV.weaken (lo' := G + 1) (by omega) (Nat.le_refl _)
  clear hO hb1 h1 hd1 hV hb
  have hl1 := hO1.lt
  go_wp2_with fail
  refine (keepForms0_c c h2 hn).mono ?_
  rintro e w2 ⟨b, rfl, hE, hb3⟩
  have hO2 := hO1.keep hb3 hO1.lt
  have hV2 := (hV1.keep hb3).weaken (Nat.le_refl _) hb3.size
  have hb4 := below_trans' hb2 hb3 (by omega)
  have hE1 := hE.weaken (lo' := G + 1) (by omega) (Nat.le_refl _)
  clear hO1 hb2 hV1 hb3 h2 hE
  have k0 := hO2.cell 0
  have k1 := hO2.cell 1
  have f0 := hO2.frozen 0
  have f1 := hO2.frozen 1
  go_wp2_with fail
  have s2 := ((hO2.set 0 (.slice a dn ac)).set 1 (.slice b n n))
  have ht : Touch (fun k => k = G) w2 ((w2.setCell ⟨G, 0, none⟩ (.slice a dn ac)).setCell ⟨G, 1, none⟩ (.slice b n n)) := Touch.of_only (((Only.refl G w2).set 0 _).set 1 _)
  refine bodyPost_ret (results_cell_row rfl _ _ G 33 #[.slice a dn ac, .slice b n n] (0, 0) _ rfl s2 Try.underlying33 rfl Try.info_alg) rfl ⟨a, ac, b, rfl, ?_, ?_, ?_⟩
  · rw [HG.out]; exact (hV2.touch ht (fun g h1 h2 => by omega)).weaken (by omega) (by simp)
  · rw [HG.out]; exact (hE1.touch ht (fun g h1 h2 => by omega)).weaken (by omega) (by simp)
  · rw [HG.out]; exact (hb4.setCell (p := ⟨G, 0, none⟩) (by dsimp only; omega) _).setCell (p := ⟨G, 1, none⟩) (by dsimp only; omega) _
def frV (zs : List Int) : List Int := if degsOk zs = true then zs else []
def frE (zs : List Int) : Int := if degsOk zs = true then 0 else 1
theorem fr_no {zs : List Int} (h : degsOk zs = false) : frV zs = [] ∧ frE zs = 1 := by simp [frV, frE, h]
theorem fr_yes {zs : List Int} (h : degsOk zs = true) : frV zs = zs ∧ frE zs = 0 := by simp [frV, frE, h]
set_option maxHeartbeats 2000000 in
set_option maxRecDepth 100000 in
theorem FreeAlgebra_c {w : World} {gd dn : Nat} {zs : List Int} (dc : Nat) (hd : Own w gd 2 ((zs.map (Value.int .i64)).toArray)) (hz : zs.length = dn) (hdn : dn ≤ 1048576) :
    Calls Try.prog 58 #[.slice (some ⟨gd, 0, none⟩) dn dc] w fun e w' => ∃ a an ac b bc, e = .returned (.tuple #[.agg #[.slice a an ac, .slice b an bc], .int .i64 (frE zs)]) ∧ OwnV w' w.heap.size w'.heap.size a an (frV zs) ∧ OwnE w' w.heap.size w'.heap.size b an ∧ Below w.heap.size w w' := by
  have HZ := Lib.hid hz
  clear hz
  have hO := Own.new w 33 #[.slice none 0 0, .slice none 0 0]
  have hb := below_alloc1 w (.cells #[.slice none 0 0, .slice none 0 0] 33)
  have hd1 := hd.keep hb hd.lt
  have hmk := make_forms dn hdn
  cases hdg : degsOk zs
  all_goals
    have HDG := Lib.hid hdg
    clear hdg
    go_enter Try.func58, Try.ntmps58
    go_upto_region 1 with fail
    generalize w.alloc (.cells #[.slice none 0 0, .slice none 0 0] 33) = w0 at *
    generalize hg : w.heap.size = G at *
    have HG := Lib.hid hg
    clear hg hd
    have hl0 := hO.lt
    go_wp2_with fail
    refine (AreDegrees_c dc (IntBlk.ints' hd1 HZ.out) hdn).mono ?_
    rintro e w' ⟨rfl, rfl⟩
    rw [HDG.out]
    have k0 := hO.cell 0
    have k1 := hO.cell 1
    have f0 := hO.frozen 0
    have f1 := hO.frozen 1
  · go_wp2_with fail
    have s2 := ((hO.set 0 (.slice none 0 0)).set 1 (.slice none 0 0))
    refine bodyPost_ret (results_row2 rfl _ _ G 33 #[.slice none 0 0, .slice none 0 0] (0, 0) _ rfl s2 Try.underlying33 rfl Try.info_alg) rfl ⟨none, 0, 0, none, 0, by rw [(fr_no HDG.out).2]; rfl, by rw [(fr_no HDG.out).1]; exact OwnV.none_, fun h => absurd h (by omega), ?_⟩
    rw [HG.out]; exact (hb.setCell (p := ⟨G, 0, none⟩) (by dsimp only; omega) _).setCell (p := ⟨G, 1, none⟩) (by dsimp only; omega) _
  · clear k0 k1 f0 f1
    have hmk1 := hmk w0
    clear hmk
    have hR := Own.new w0 61 (Array.replicate dn (Value.slice none 0 0))
    have hba := below_alloc1 w0 (.cells (Array.replicate dn (Value.slice none 0 0)) 61)
    have hO1 := hO.keep hba hO.lt
    have hd2 := hd1.keep hba hd1.lt
    have hb2 := below_trans' hb hba (by omega)
    go_wp2_with (go_at_call 96; refine (newAlgebra0_c dc dn hd2 HZ.out hdn hR hdn).mono ?_)
    rintro e w2 ⟨a, ac, b, rfl, hV, hE, hb3⟩
    have hO2 := hO1.keep hb3 hO1.lt
    have hl1 := hO1.lt
    have hV2 := hV.weaken (lo' := G + 1) (by omega) (Nat.le_refl _)
    have hE2 := hE.weaken (lo' := G + 1) (by omega) (Nat.le_refl _)
    have hb4 := below_trans' hb2 hb3 (by omega)
    clear hO hO1 hV hE hb hb2 hb3 hd1 hd2 hR hba hmk1
    have k0 := hO2.cell 0
    have k1 := hO2.cell 1
    have f0 := hO2.frozen 0
    have f1 := hO2.frozen 1
    go_wp2_with fail
    have s2 := ((hO2.set 0 (.slice a dn ac)).set 1 (.slice b dn dn))
    have ht : Touch (fun k => k = G) w2 ((w2.setCell ⟨G, 0, none⟩ (.slice a dn ac)).setCell ⟨G, 1, none⟩ (.slice b dn dn)) := Touch.of_only (((Only.refl G w2).set 0 _).set 1 _)
    refine bodyPost_ret (results_row2 rfl _ _ G 33 #[.slice a dn ac, .slice b dn dn] (0, 0) _ rfl s2 Try.underlying33 rfl Try.info_alg) rfl ⟨a, dn, ac, b, dn, by rw [(fr_yes HDG.out).2]; rfl, ?_, ?_, ?_⟩
    · rw [(fr_yes HDG.out).1, HG.out]; exact (hV2.touch ht (fun g h1 h2 => by omega)).weaken (by omega) (by simp)
    · rw [HG.out]; exact (hE2.touch ht (fun g h1 h2 => by omega)).weaken (by omega) (by simp)
    · rw [HG.out]; exact (hb4.setCell (p := ⟨G, 0, none⟩) (by dsimp only; omega) _).setCell (p := ⟨G, 1, none⟩) (by dsimp only; omega) _
set_option maxHeartbeats 2000000 in
set_option maxRecDepth 100000 in
theorem l02Free_c {w : World} {gd dn : Nat} {zs : List Int} (dc : Nat) (hd : Own w gd 2 ((zs.map (Value.int .i64)).toArray)) (hz : zs.length = dn) (hdn : dn ≤ 1048576) :
    Calls Try.prog 95 #[.slice (some ⟨gd, 0, none⟩) dn dc] w fun e w' => ∃ a ac b, e = .returned (.agg #[.slice a dn ac, .slice b dn dn]) ∧ OwnV w' w.heap.size w'.heap.size a dn zs ∧ OwnE w' w.heap.size w'.heap.size b dn ∧ Below w.heap.size w w' := by
  have HZ := Lib.hid hz
  clear hz
  have hO := Own.new w 33 #[.slice none 0 0, .slice none 0 0]
  have hb := below_alloc1 w (.cells #[.slice none 0 0, .slice none 0 0] 33)
  have hd1 := hd.keep hb hd.lt
  have hmk := make_forms dn hdn
  go_enter Try.func95, Try.ntmps95
  go_upto_region 1 with fail
  generalize w.alloc (.cells #[.slice none 0 0, .slice none 0 0] 33) = w0 at *
  generalize hg : w.heap.size = G at *
  have HG := Lib.hid hg
  clear hg hd
  have hdr : Own w0.drew gd 2 ((zs.map (Value.int .i64)).toArray) := hd1
  have hOr : Own w0.drew G 33 #[.slice none 0 0, .slice none 0 0] := hO
  have hbr : Below G w w0.drew := hb.drew
  have hl0 : G < w0.drew.heap.size := hO.lt
  have hds : Own (w0.alloc (.cells (Array.replicate dn (Value.slice none 0 0)) 61)).drew gd 2 ((zs.map (Value.int .i64)).toArray) := hd1.alloc _
  have hOs : Own (w0.alloc (.cells (Array.replicate dn (Value.slice none 0 0)) 61)).drew G 33 #[.slice none 0 0, .slice none 0 0] := hO.alloc _
  have hbs : Below G w (w0.alloc (.cells (Array.replicate dn (Value.slice none 0 0)) 61)).drew := (below_trans' hb (below_alloc1 _ _) (Nat.le_of_lt hO.lt)).drew
  have hEs : Own (w0.alloc (.cells (Array.replicate dn (Value.slice none 0 0)) 61)).drew w0.heap.size 61 (Array.replicate dn (Value.slice none 0 0)) := Own.new w0 _ _
  have hls : w0.heap.size < (w0.alloc (.cells (Array.replicate dn (Value.slice none 0 0)) 61)).drew.heap.size := hEs.lt
  have HGL := Lib.hid hl0
  have HLS := Lib.hid hls
  clear hO hb hd1 hl0 hls
  go_region_with (go_at_call 115; (first
    | (with_reducible refine (l01Own_c dc hdr HZ.out hdn).mono ?_
       rintro e w2 ⟨a, ac, rfl, hV, hb3⟩
       have hO2 := hOr.keep hb3 hOr.lt
       have hV2 := hV.weaken (lo' := G + 1) HGL.out (Nat.le_refl _)
       have hb4 := below_trans' hbr hb3 (Nat.le_of_lt HGL.out)
       have HL2 := Lib.hid (Nat.lt_of_lt_of_le HGL.out hb3.size)
       clear hOr hbr hV hb3 hds hOs hbs hEs hdr
       have k0 := hO2.cell 0
       have k1 := hO2.cell 1
       have f0 := hO2.frozen 0
       have f1 := hO2.frozen 1
       have k2 := (hO2.alloc (.cells (Array.replicate dn (Value.slice none 0 0)) 61)).cell 0
       have k3 := (hO2.alloc (.cells (Array.replicate dn (Value.slice none 0 0)) 61)).cell 1
       have f2 := (hO2.alloc (.cells (Array.replicate dn (Value.slice none 0 0)) 61)).frozen 0
       have f3 := (hO2.alloc (.cells (Array.replicate dn (Value.slice none 0 0)) 61)).frozen 1)
    | (with_reducible refine (l01Own_c dc hds HZ.out hdn).mono ?_
       rintro e w2 ⟨a, ac, rfl, hV, hb3⟩
       have hO2 := hOs.keep hb3 hOs.lt
       have hE2 := hEs.keep hb3 hEs.lt
       have hV2 := hV.weaken (lo' := G + 1) hOs.lt (Nat.le_refl _)
       have hb4 := below_trans' hbs hb3 (Nat.le_of_lt hOs.lt)
       have HL2 := Lib.hid (Nat.lt_of_lt_of_le HLS.out hb3.size)
       clear hOr hbr hV hb3 hds hOs hbs hEs hdr
       have k0 := hO2.cell 0
       have k1 := hO2.cell 1
       have f0 := hO2.frozen 0
       have f1 := hO2.frozen 1)))
  all_goals go_wp2_with fail
  · skip
    have hO3 := hO2.alloc (.cells (Array.replicate dn (Value.slice none 0 0)) 61)
    have hE3 := Own.new w2 61 (Array.replicate dn (Value.slice none 0 0))
    have hV3 := hV2.keep (below_alloc1 w2 (.cells (Array.replicate dn (Value.slice none 0 0)) 61))
    have hb5 := below_trans' hb4 (below_alloc1 w2 (.cells (Array.replicate dn (Value.slice none 0 0)) 61)) (Nat.le_of_lt HL2.out)
    have s2 := (hO3.set 0 (.slice a dn ac)).set 1 (.slice (some ⟨w2.heap.size, 0, none⟩) dn dn)
    have ht : Touch (fun k => k = G) (w2.alloc (.cells (Array.replicate dn (Value.slice none 0 0)) 61)) (((w2.alloc (.cells (Array.replicate dn (Value.slice none 0 0)) 61)).setCell ⟨G, 0, none⟩ (.slice a dn ac)).setCell ⟨G, 1, none⟩ (.slice (some ⟨w2.heap.size, 0, none⟩) dn dn)) := Touch.of_only (((Only.refl G (w2.alloc (.cells (Array.replicate dn (Value.slice none 0 0)) 61))).set 0 _).set 1 _)
    have h9 := HL2.out
    refine bodyPost_ret (results_cell_row rfl _ _ G 33 #[.slice a dn ac, .slice (some ⟨w2.heap.size, 0, none⟩) dn dn] (0, 0) _ rfl s2 Try.underlying33 rfl Try.info_alg) rfl ⟨a, ac, some ⟨w2.heap.size, 0, none⟩, rfl, ?_, ?_, ?_⟩
    · rw [HG.out]; exact (hV3.touch ht (fun g h1 h2 => by omega)).weaken (by omega) (by simp)
    · rw [HG.out]; exact fun _ => ⟨w2.heap.size, rfl, by omega, by simp; try omega, ht.own hE3 (by omega)⟩
    · rw [HG.out]; exact (hb5.setCell (p := ⟨G, 0, none⟩) (by dsimp only; omega) _).setCell (p := ⟨G, 1, none⟩) (by dsimp only; omega) _
  · have h8 := HGL.out
    have h8' : w0.drew.heap.size = w0.heap.size := rfl
    rw [h8'] at h8
    have s2 := (hO2.set 0 (.slice a dn ac)).set 1 (.slice (some ⟨w0.heap.size, 0, none⟩) dn dn)
    have ht : Touch (fun k => k = G) w2 ((w2.setCell ⟨G, 0, none⟩ (.slice a dn ac)).setCell ⟨G, 1, none⟩ (.slice (some ⟨w0.heap.size, 0, none⟩) dn dn)) := Touch.of_only (((Only.refl G w2).set 0 _).set 1 _)
    have h9 := HL2.out
    refine bodyPost_ret (results_cell_row rfl _ _ G 33 #[.slice a dn ac, .slice (some ⟨w0.heap.size, 0, none⟩) dn dn] (0, 0) _ rfl s2 Try.underlying33 rfl Try.info_alg) rfl ⟨a, ac, some ⟨w0.heap.size, 0, none⟩, rfl, ?_, ?_, ?_⟩
    · rw [HG.out]; exact (hV2.touch ht (fun g h1 h2 => by omega)).weaken (by omega) (by simp)
    · rw [HG.out]; exact fun _ => ⟨w0.heap.size, rfl, by omega, by simp; try omega, ht.own hE2 (by omega)⟩
    · rw [HG.out]; exact (hb4.setCell (p := ⟨G, 0, none⟩) (by dsimp only; omega) _).setCell (p := ⟨G, 1, none⟩) (by dsimp only; omega) _
set_option maxHeartbeats 2000000 in
set_option maxRecDepth 100000 in
theorem FreeAlgebra_s {w : World} {gd dn : Nat} {zs : List Int} (dc : Nat) (hd : Own w gd 2 ((zs.map (Value.int .i64)).toArray)) (hz : zs.length = dn) (hdn : dn ≤ 1048576) :
    Calls Try.prog 56 #[.slice (some ⟨gd, 0, none⟩) dn dc] w fun e w' => ∃ a an ac b bc, e = .returned (.tuple #[.agg #[.slice a an ac, .slice b an bc], .int .i64 (frE zs)]) ∧ OwnV w' w.heap.size w'.heap.size a an (frV zs) ∧ OwnE w' w.heap.size w'.heap.size b an ∧ Below w.heap.size w w' := by
  have HZ := Lib.hid hz
  clear hz
  have hO := Own.new w 33 #[.slice none 0 0, .slice none 0 0]
  have hb := below_alloc1 w (.cells #[.slice none 0 0, .slice none 0 0] 33)
  have hd1 := hd.keep hb hd.lt
  cases hdg : degsOk zs
  all_goals
    have HDG := Lib.hid hdg
    clear hdg
    go_enter Try.func56, Try.ntmps56
    go_upto_region 1 with fail
    generalize w.alloc (.cells #[.slice none 0 0, .slice none 0 0] 33) = w0 at *
    generalize hg : w.heap.size = G at *
    have HG := Lib.hid hg
    clear hg hd
    have hl0 := hO.lt
    go_wp2_with fail
    refine (l01Degrees_c dc (IntBlk.ints' hd1 HZ.out) hdn).mono ?_
    rintro e w' ⟨rfl, rfl⟩
    rw [HDG.out]
    have k0 := hO.cell 0
    have k1 := hO.cell 1
    have f0 := hO.frozen 0
    have f1 := hO.frozen 1
  · go_wp2_with fail
    have s2 := ((hO.set 0 (.slice none 0 0)).set 1 (.slice none 0 0))
    refine bodyPost_ret (results_row2 rfl _ _ G 33 #[.slice none 0 0, .slice none 0 0] (0, 0) _ rfl s2 Try.underlying33 rfl Try.info_alg) rfl ⟨none, 0, 0, none, 0, by rw [(fr_no HDG.out).2]; rfl, by rw [(fr_no HDG.out).1]; exact OwnV.none_, fun h => absurd h (by omega), ?_⟩
    rw [HG.out]; exact (hb.setCell (p := ⟨G, 0, none⟩) (by dsimp only; omega) _).setCell (p := ⟨G, 1, none⟩) (by dsimp only; omega) _
  · clear k0 k1 f0 f1
    go_wp2_with fail
    refine (l02Free_c dc hd1 HZ.out hdn).mono ?_
    rintro e w2 ⟨a, ac, b, rfl, hV, hE, hb3⟩
    have hO2 := hO.keep hb3 hO.lt
    have hV2 := hV.weaken (lo' := G + 1) (by omega) (Nat.le_refl _)
    have hE2 := hE.weaken (lo' := G + 1) (by omega) (Nat.le_refl _)
    have hb4 := below_trans' hb hb3 (by omega)
    clear hO hV hE hb hb3 hd1
    have k0 := hO2.cell 0
    have k1 := hO2.cell 1
    have f0 := hO2.frozen 0
    have f1 := hO2.frozen 1
    go_wp2_with fail
    have s2 := ((hO2.set 0 (.slice a dn ac)).set 1 (.slice b dn dn))
    have ht : Touch (fun k => k = G) w2 ((w2.setCell ⟨G, 0, none⟩ (.slice a dn ac)).setCell ⟨G, 1, none⟩ (.slice b dn dn)) := Touch.of_only (((Only.refl G w2).set 0 _).set 1 _)
    refine bodyPost_ret (results_row2 rfl _ _ G 33 #[.slice a dn ac, .slice b dn dn] (0, 0) _ rfl s2 Try.underlying33 rfl Try.info_alg) rfl ⟨a, dn, ac, b, dn, by rw [(fr_yes HDG.out).2]; rfl, ?_, ?_, ?_⟩
    · rw [(fr_yes HDG.out).1, HG.out]; exact (hV2.touch ht (fun g h1 h2 => by omega)).weaken (by omega) (by simp)
    · rw [HG.out]; exact (hE2.touch ht (fun g h1 h2 => by omega)).weaken (by omega) (by simp)
    · rw [HG.out]; exact (hb4.setCell (p := ⟨G, 0, none⟩) (by dsimp only; omega) _).setCell (p := ⟨G, 1, none⟩) (by dsimp only; omega) _
end Go.Proofs.Ytikldofmpkidbaa
