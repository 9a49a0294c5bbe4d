
import Derived.Test.YtmijeojlighnaaaAlgS
import Derived.Deep.DeepAppendWide
import Derived.Deep.RegionWith
namespace Go.Proofs.Ytmijeojlighnaaa
open Go.RowKit Go.Deep
theorem Try.info_intA : ∃ i z, Try.prog.info? 2 = some i ∧ i.zero = some z ∧ i.size = 1 ∧ i.bytes = 8 ∧ z.cells.size = 1 := by
  obtain ⟨i, hi, hzz⟩ := Option.map_eq_some_iff.1 Try.info_int64
  simp only [Prod.mk.injEq] at hzz
  obtain ⟨hz, hs, hb⟩ := hzz
  exact ⟨i, _, hi, hz, hs, hb, rfl⟩
theorem empty_row (w : World) : (w.alloc (.cells #[] 2)).ownsRow w.heap.size 2 1 (.slice (some ⟨w.heap.size, 0, none⟩) 0 0) 0 [] :=
  ⟨rfl, Or.inr ⟨w.heap.size, 0, #[], rfl, Nat.le_refl _, heap_alloc_new w _, Nat.le_refl _, by simp [maxLen], rfl, rfl⟩⟩
def OwnV (w : World) (lo hi : Nat) (a : Option Addr) (n : Nat) (V : List Int) : Prop := V.length = n ∧ (0 < n → ∃ g cs, a = some ⟨g, 0, none⟩ ∧ lo ≤ g ∧ g < hi ∧ Own w g 2 cs ∧ n ≤ cs.size ∧ ∀ i, i < n → cs[i]? = some (.int .i64 (V.getD i 0)))
section
variable {w w' : World} {lo hi n : Nat} {a : Option Addr} {V : List Int}
theorem OwnV.none_ : OwnV w lo hi none 0 [] := ⟨rfl, fun h => absurd h (by omega)⟩
theorem OwnV.keep (h : OwnV w lo hi a n V) (hb : Below w.heap.size w w') : OwnV w' lo hi a n V :=
  ⟨h.1, fun hn => by obtain ⟨g, cs, h1, h2, h3, h4, h5⟩ := h.2 hn; exact ⟨g, cs, h1, h2, h3, h4.keep hb h4.lt, h5⟩⟩
theorem OwnV.touch {p : Nat → Prop} (h : OwnV w lo hi a n V) (ht : Touch p w w') (hp : ∀ g, lo ≤ g → g < hi → ¬ p g) : OwnV w' lo hi a n V :=
  ⟨h.1, fun hn => by obtain ⟨g, cs, h1, h2, h3, h4, h5⟩ := h.2 hn; exact ⟨g, cs, h1, h2, h3, ht.own h4 (hp g h2 h3), h5⟩⟩
theorem OwnV.ints (h : OwnV w lo hi a n V) : Ints w a n V :=
  ⟨h.1, fun hn => by
    obtain ⟨g, cs, rfl, h2, h3, h4, h5, h6⟩ := h.2 hn
    exact ⟨g, 0, rfl, h4.lt, fun i hi => by rw [Nat.zero_add, h4.cell i]; exact h6 i hi⟩⟩
theorem OwnV.weaken {lo' hi' : Nat} (h : OwnV w lo hi a n V) (h1 : lo' ≤ lo) (h2 : hi ≤ hi') : OwnV w lo' hi' a n V :=
  ⟨h.1, fun hn => by obtain ⟨g, cs, e, h3, h4, h5⟩ := h.2 hn; exact ⟨g, cs, e, by omega, by omega, h5⟩⟩
theorem OwnV.block {gx : Nat} {csx : Array Value} (h : OwnV w lo hi a n V) (hx : Own w gx 2 csx) :
    ∃ g cs, Own w g 2 cs ∧ n ≤ cs.size ∧ (0 < n → a = some ⟨g, 0, none⟩) ∧ (g = gx ∨ (lo ≤ g ∧ g < hi)) := by
  by_cases hn : 0 < n
  · obtain ⟨g, cs, e, h1, h2, h3, h4, -⟩ := h.2 hn
    exact ⟨g, cs, h3, h4, fun _ => e, Or.inr ⟨h1, h2⟩⟩
  · exact ⟨gx, csx, hx, by omega, fun hh => absurd hh hn, Or.inl rfl⟩
theorem OwnV.of_row {B : Nat} {v : Value} (h : w.ownsRow B 2 1 v n (V.map (Value.int .i64))) : ∃ a c, v = .slice a n c ∧ OwnV w B w.heap.size a n V := by
  have hl : V.length = n := by simpa using h.1
  have hc := fun g => World.ownsRow.cells (g := g) h
  rcases h.2 with ⟨hv, h0⟩ | ⟨g, cap, cur, hv, hb, hg, hn, _, hs, _⟩
  · have h00 : n = 0 := by simpa using h0
    subst h00
    exact ⟨none, 0, hv, hl, fun hp => absurd hp (by omega)⟩
  · have ho : Own w g 2 cur := hg
    refine ⟨some ⟨g, 0, none⟩, cap, hv, hl, fun _ => ⟨g, cur, rfl, hb, ho.lt, ho, by omega, fun i hi => ?_⟩⟩
    have h1 := hc g (by rw [hv]; rfl) i (.int .i64 (V.getD i 0)) (by rw [List.getElem?_map, getD_of (by omega)]; rfl)
    rw [Addr.add_mid, ho.cell] at h1
    rwa [Nat.zero_add] at h1
end
set_option maxRecDepth 100000 in
theorem l01Own_c {w : World} {g n : Nat} {zs : List Int} (c : Nat) (h : Own w g 2 ((zs.map (Value.int .i64)).toArray)) (hz : zs.length = n) (hn : n ≤ 1048576) :
    Calls Try.prog 55 #[.slice (some ⟨g, 0, none⟩) n c] w fun e w' => ∃ a c', e = .returned (.slice a n c') ∧ OwnV w' w.heap.size w'.heap.size a n zs ∧ Below w.heap.size w w' := by
  obtain ⟨ti, tz, hti, htz, hts, htb, htzs⟩ := Try.info_intA
  have hnews : ∀ j u, (zs.map (Value.int .i64))[j]? = some u → (w.alloc (.cells #[] 2)).cell? ((⟨g, 0, none⟩ : Addr).add j) = some u := fun j u hu => by
    rw [Addr.add_mid]
    exact (h.alloc _).range j u hu
  have hone : ∀ u ∈ zs.map (Value.int .i64), u.oneCell' = true := by
    intro u hu
    obtain ⟨x, -, rfl⟩ := List.mem_map.1 hu
    rfl
  have hlen : (zs.map (Value.int .i64)).length = n * 1 := by simp [hz]
  have HN := Lib.hid hnews
  have HO := Lib.hid hone
  have HI := Lib.hid hti
  have HZ := Lib.hid htz
  have HS := Lib.hid hts
  have HBt := Lib.hid htb
  have HZs := Lib.hid htzs
  have HLN := Lib.hid hlen
  clear hnews hone hti htz hts htb htzs hlen hz h
  go_enter Try.func55, Try.ntmps55
  go_wp2_with (refine wpList_append_own_wide _ rfl (.tmp 3) (.tmp 4) 22 rfl w.heap.size 2 ti tz 1 8 Try.underlying22 HI.out HZ.out HS.out HBt.out HZs.out (by omega) (.slice (some ⟨w.heap.size, 0, none⟩) 0 0) 0 [] rfl (empty_row w) ⟨g, 0, none⟩ n c (zs.map (Value.int .i64)) rfl HLN.out HN.out HO.out (by simp only [maxLen]; omega) (by omega) (by rw [size_alloc]; omega) (fun v' w' h2 h3 h4 => ?_))
  rw [Nat.zero_add, List.nil_append] at h2
  obtain ⟨a', c', rfl, hV⟩ := OwnV.of_row h2
  have hb := grown_below (below_alloc1 w (.cells #[] 2)) h3 (fun k e => by have : w.heap.size = k := (by simpa [Value.ownBlock] using e); omega) (by rw [size_alloc]; omega)
  clear h2 h3 h4
  go_wp2_with fail
  go_ret
  exact ⟨a', c', rfl, hV, hb⟩
theorem rep_get (n i : Nat) (h : i < n) (v : Value) : (Array.replicate n v)[i]? = some v := by simp [h]
def OwnE (w : World) (lo hi : Nat) (a : Option Addr) (n : Nat) : Prop := 0 < n → ∃ g, a = some ⟨g, 0, none⟩ ∧ lo ≤ g ∧ g < hi ∧ Own w g 47 (Array.replicate n (Value.slice none 0 0))
theorem OwnE.keep {w w' : World} {lo hi n : Nat} {a : Option Addr} (h : OwnE w lo hi a n) (hb : Below w.heap.size w w') : OwnE w' lo hi a n :=
  fun hn => by obtain ⟨g, h1, h2, h3, h4⟩ := h hn; exact ⟨g, h1, h2, h3, h4.keep hb h4.lt⟩
theorem OwnE.weaken {w : World} {lo hi lo' hi' n : Nat} {a : Option Addr} (h : OwnE w lo hi a n) (h1 : lo' ≤ lo) (h2 : hi ≤ hi') : OwnE w lo' hi' a n :=
  fun hn => by obtain ⟨g, e, h3, h4, h5⟩ := h hn; exact ⟨g, e, by omega, by omega, h5⟩
theorem OwnE.touch {p : Nat → Prop} {w w' : World} {lo hi n : Nat} {a : Option Addr} (h : OwnE w lo hi a n) (ht : Touch p w w') (hp : ∀ g, lo ≤ g → g < hi → ¬ p g) : OwnE w' lo hi a n :=
  fun hn => by obtain ⟨g, h1, h2, h3, h4⟩ := h hn; exact ⟨g, h1, h2, h3, ht.own h4 (hp g h2 h3)⟩
theorem OwnE.frms {w : World} {lo hi n : Nat} {a : Option Addr} (h : OwnE w lo hi a n) : Frms w a n (List.replicate n []) := by
  refine ⟨by simp, fun hn => ?_⟩
  obtain ⟨g, rfl, -, -, ho⟩ := h hn
  refine ⟨g, 0, rfl, ho.lt, fun i ts hi => ?_⟩
  have hl : i < n := by have := (List.getElem?_eq_some_iff.1 hi).1; simpa using this
  obtain rfl : ts = [] := by rw [List.getElem?_replicate, if_pos hl] at hi; injection hi with hi; exact hi.symm
  refine ⟨none, 0, 0, ?_, ⟨rfl, fun t ht => absurd ht (by simp), fun hp => absurd hp (by omega)⟩, by omega⟩
  rw [Nat.zero_add, ho.cell i]
  exact rep_get n i hl _
set_option maxHeartbeats 2000000 in
set_option maxRecDepth 100000 in
theorem l02Free_c {w : World} {gd dn : Nat} {zs : List Int} (dc : Nat) (hd : Own w gd 2 ((zs.map (Value.int .i64)).toArray)) (hz : zs.length = dn) (hdn : dn ≤ 1048576) :
    Calls Try.prog 33 #[.slice (some ⟨gd, 0, none⟩) dn dc] w fun e w' => ∃ a ac b, e = .returned (.agg #[.slice a dn ac, .slice b dn dn]) ∧ OwnV w' w.heap.size w'.heap.size a dn zs ∧ OwnE w' w.heap.size w'.heap.size b dn ∧ Below w.heap.size w w' := by
  have HZ := Lib.hid hz
  clear hz
  have hO := Own.new w 25 #[.slice none 0 0, .slice none 0 0]
  have hb := below_alloc1 w (.cells #[.slice none 0 0, .slice none 0 0] 25)
  have hd1 := hd.keep hb hd.lt
  have hmk := make_forms dn hdn
  go_enter Try.func33, Try.ntmps33
  go_upto_region 1 with fail
  generalize w.alloc (.cells #[.slice none 0 0, .slice none 0 0] 25) = w0 at *
  generalize hg : w.heap.size = G at *
  have HG := Lib.hid hg
  clear hg hd
  have hdr : Own w0.drew gd 2 ((zs.map (Value.int .i64)).toArray) := hd1
  have hOr : Own w0.drew G 25 #[.slice none 0 0, .slice none 0 0] := hO
  have hbr : Below G w w0.drew := hb.drew
  have hl0 : G < w0.drew.heap.size := hO.lt
  have hds : Own (w0.alloc (.cells (Array.replicate dn (Value.slice none 0 0)) 47)).drew gd 2 ((zs.map (Value.int .i64)).toArray) := hd1.alloc _
  have hOs : Own (w0.alloc (.cells (Array.replicate dn (Value.slice none 0 0)) 47)).drew G 25 #[.slice none 0 0, .slice none 0 0] := hO.alloc _
  have hbs : Below G w (w0.alloc (.cells (Array.replicate dn (Value.slice none 0 0)) 47)).drew := (below_trans' hb (below_alloc1 _ _) (Nat.le_of_lt hO.lt)).drew
  have hEs : Own (w0.alloc (.cells (Array.replicate dn (Value.slice none 0 0)) 47)).drew w0.heap.size 47 (Array.replicate dn (Value.slice none 0 0)) := Own.new w0 _ _
  have hls : w0.heap.size < (w0.alloc (.cells (Array.replicate dn (Value.slice none 0 0)) 47)).drew.heap.size := hEs.lt
  have HGL := Lib.hid hl0
  have HLS := Lib.hid hls
  clear hO hb hd1 hl0 hls
  go_region_with (go_at_call 55; (first
    | (with_reducible refine (l01Own_c dc hdr HZ.out hdn).mono ?_
       rintro e w2 ⟨a, ac, rfl, hV, hb3⟩
       have hO2 := hOr.keep hb3 hOr.lt
       have hV2 := hV.weaken (lo' := G + 1) HGL.out (Nat.le_refl _)
       have hb4 := below_trans' hbr hb3 (Nat.le_of_lt HGL.out)
       have HL2 := Lib.hid (Nat.lt_of_lt_of_le HGL.out hb3.size)
       clear hOr hbr hV hb3 hds hOs hbs hEs hdr
       have k0 := hO2.cell 0
       have k1 := hO2.cell 1
       have f0 := hO2.frozen 0
       have f1 := hO2.frozen 1
       have k2 := (hO2.alloc (.cells (Array.replicate dn (Value.slice none 0 0)) 47)).cell 0
       have k3 := (hO2.alloc (.cells (Array.replicate dn (Value.slice none 0 0)) 47)).cell 1
       have f2 := (hO2.alloc (.cells (Array.replicate dn (Value.slice none 0 0)) 47)).frozen 0
       have f3 := (hO2.alloc (.cells (Array.replicate dn (Value.slice none 0 0)) 47)).frozen 1)
    | (with_reducible refine (l01Own_c dc hds HZ.out hdn).mono ?_
       rintro e w2 ⟨a, ac, rfl, hV, hb3⟩
       have hO2 := hOs.keep hb3 hOs.lt
       have hE2 := hEs.keep hb3 hEs.lt
       have hV2 := hV.weaken (lo' := G + 1) hOs.lt (Nat.le_refl _)
       have hb4 := below_trans' hbs hb3 (Nat.le_of_lt hOs.lt)
       have HL2 := Lib.hid (Nat.lt_of_lt_of_le HLS.out hb3.size)
       clear hOr hbr hV hb3 hds hOs hbs hEs hdr
       have k0 := hO2.cell 0
       have k1 := hO2.cell 1
       have f0 := hO2.frozen 0
       have f1 := hO2.frozen 1)))
  all_goals go_wp2_with fail
  · skip
    have hO3 := hO2.alloc (.cells (Array.replicate dn (Value.slice none 0 0)) 47)
    have hE3 := Own.new w2 47 (Array.replicate dn (Value.slice none 0 0))
    have hV3 := hV2.keep (below_alloc1 w2 (.cells (Array.replicate dn (Value.slice none 0 0)) 47))
    have hb5 := below_trans' hb4 (below_alloc1 w2 (.cells (Array.replicate dn (Value.slice none 0 0)) 47)) (Nat.le_of_lt HL2.out)
    have s2 := (hO3.set 0 (.slice a dn ac)).set 1 (.slice (some ⟨w2.heap.size, 0, none⟩) dn dn)
    have ht : Touch (fun k => k = G) (w2.alloc (.cells (Array.replicate dn (Value.slice none 0 0)) 47)) (((w2.alloc (.cells (Array.replicate dn (Value.slice none 0 0)) 47)).setCell ⟨G, 0, none⟩ (.slice a dn ac)).setCell ⟨G, 1, none⟩ (.slice (some ⟨w2.heap.size, 0, none⟩) dn dn)) := Touch.of_only (((Only.refl G (w2.alloc (.cells (Array.replicate dn (Value.slice none 0 0)) 47))).set 0 _).set 1 _)
    have h9 := HL2.out
    refine bodyPost_ret (results_cell_row rfl _ _ G 25 #[.slice a dn ac, .slice (some ⟨w2.heap.size, 0, none⟩) dn dn] (0, 0) _ rfl s2 Try.underlying25 rfl Try.info_alg) rfl ⟨a, ac, some ⟨w2.heap.size, 0, none⟩, rfl, ?_, ?_, ?_⟩
    · rw [HG.out]; exact (hV3.touch ht (fun g h1 h2 => by omega)).weaken (by omega) (by simp)
    · rw [HG.out]; exact fun _ => ⟨w2.heap.size, rfl, by omega, by simp; try omega, ht.own hE3 (by omega)⟩
    · rw [HG.out]; exact (hb5.setCell (p := ⟨G, 0, none⟩) (by dsimp only; omega) _).setCell (p := ⟨G, 1, none⟩) (by dsimp only; omega) _
  · have h8 := HGL.out
    have h8' : w0.drew.heap.size = w0.heap.size := rfl
    rw [h8'] at h8
    have s2 := (hO2.set 0 (.slice a dn ac)).set 1 (.slice (some ⟨w0.heap.size, 0, none⟩) dn dn)
    have ht : Touch (fun k => k = G) w2 ((w2.setCell ⟨G, 0, none⟩ (.slice a dn ac)).setCell ⟨G, 1, none⟩ (.slice (some ⟨w0.heap.size, 0, none⟩) dn dn)) := Touch.of_only (((Only.refl G w2).set 0 _).set 1 _)
    have h9 := HL2.out
    refine bodyPost_ret (results_cell_row rfl _ _ G 25 #[.slice a dn ac, .slice (some ⟨w0.heap.size, 0, none⟩) dn dn] (0, 0) _ rfl s2 Try.underlying25 rfl Try.info_alg) rfl ⟨a, ac, some ⟨w0.heap.size, 0, none⟩, rfl, ?_, ?_, ?_⟩
    · rw [HG.out]; exact (hV2.touch ht (fun g h1 h2 => by omega)).weaken (by omega) (by simp)
    · rw [HG.out]; exact fun _ => ⟨w0.heap.size, rfl, by omega, by simp; try omega, ht.own hE2 (by omega)⟩
    · rw [HG.out]; exact (hb4.setCell (p := ⟨G, 0, none⟩) (by dsimp only; omega) _).setCell (p := ⟨G, 1, none⟩) (by dsimp only; omega) _
end Go.Proofs.Ytmijeojlighnaaa
