
import Derived.Test.YtmijeojlighnaaaAlg
import Derived.Test.YtmijeojlighnaaaResult
namespace Go.Proofs.Ytmijeojlighnaaa
open Go.RowKit Go.Deep
theorem Try.info_form3 : (Try.prog.info? 47).map (fun i => (i.zero, i.size, i.bytes)) = some (some (.agg #[.slice none 0 0]), 1, 24) := by kernel_rfl
theorem Try.info_alg : (Try.prog.info? 25).map (·.size) = some 2 := by kernel_rfl
theorem madeCells_one (v : Value) (n : Nat) : madeCells #[v] (n * 1) = Array.replicate n v := by
  apply Array.ext_getElem?
  intro i
  by_cases hi : i < n
  · simp [madeCells, hi, Nat.mod_one]
  · rw [Array.getElem?_eq_none (by simp [madeCells]; omega), Array.getElem?_eq_none (by simp; omega)]
theorem make_forms (n : Nat) (hn : n ≤ 1048576) (w : World) :
    (Instr.makeSlice 23 (.int .i64 (n : Int)) (.int .i64 (n : Int))).run Try.prog w = .ok (.slice (some ⟨w.heap.size, 0, none⟩) n n) (w.alloc (.cells (Array.replicate n (Value.slice none 0 0)) 47)) := by
  obtain ⟨i, hi, hzz⟩ := Option.map_eq_some_iff.1 Try.info_form3
  simp only [Prod.mk.injEq] at hzz
  obtain ⟨hz, hs, hb⟩ := hzz
  have hr := run_make (P := Try.prog) w 23 47 i _ Try.underlying23 hi hz .i64 .i64 n n (by omega) (Int.le_refl _) (by rw [hb]; omega) (by omega)
  simp only [Int.toNat_natCast, hs, Value.cells, madeCells_one] at hr
  exact hr
def slCells (fss : List (List Tm)) (gs : List Nat) : List Value := List.zipWith (fun ts g => Value.slice (some ⟨g, 0, none⟩) ts.length ts.length) fss gs
theorem slCells_get {fss : List (List Tm)} {gs : List Nat} {i g : Nat} {ts : List Tm} (hx : fss[i]? = some ts) (hg : gs[i]? = some g) : (slCells fss gs)[i]? = some (.slice (some ⟨g, 0, none⟩) ts.length ts.length) := by
  rw [slCells, List.getElem?_zipWith, hx, hg]
structure FrmsBlk (w : World) (g : Nat) (fss : List (List Tm)) (gs : List Nat) : Prop where
  len : gs.length = fss.length
  own : Own w g 47 (slCells fss gs).toArray
  each : ∀ (i gi : Nat) (ts : List Tm), gs[i]? = some gi → fss[i]? = some ts → Own w gi 75 (rcells ts).toArray
  up : (g :: gs).Pairwise (· < ·)
theorem FrmsBlk.lt {w : World} {g : Nat} {fss : List (List Tm)} {gs : List Nat} (h : FrmsBlk w g fss gs) : ∀ x ∈ gs, g < x ∧ x < w.heap.size := fun x hx => by
  refine ⟨(List.pairwise_cons.1 h.up).1 x hx, ?_⟩
  obtain ⟨i, hi, rfl⟩ := List.mem_iff_getElem.1 hx
  have := h.len
  exact (h.each i _ _ (List.getElem?_eq_getElem hi) (List.getElem?_eq_getElem (show i < fss.length by omega))).lt
theorem FrmsBlk.keep {w w' : World} {g : Nat} {fss : List (List Tm)} {gs : List Nat} (h : FrmsBlk w g fss gs) (hb : Below w.heap.size w w') : FrmsBlk w' g fss gs :=
  ⟨h.len, h.own.keep hb h.own.lt, fun i gi ts h1 h2 => (h.each i gi ts h1 h2).keep hb (h.each i gi ts h1 h2).lt, h.up⟩
theorem FrmsBlk.far {w : World} {g : Nat} {fss : List (List Tm)} {gs : List Nat} (h : FrmsBlk w g fss gs) {p : Addr} (hp : p.block < g) (u : Value) : FrmsBlk (w.setCell p u) g fss gs :=
  ⟨h.len, h.own.far (by omega) u, fun i gi ts h1 h2 => (h.each i gi ts h1 h2).far (by have := (List.pairwise_cons.1 h.up).1 gi (List.mem_of_getElem? h1); omega) u, h.up⟩
theorem FrmsBlk.frms {w : World} {g n : Nat} {fss : List (List Tm)} {gs : List Nat} (h : FrmsBlk w g fss gs) (hT : ∀ ts ∈ fss, ∀ t ∈ ts, IsTm t) (hL : ∀ ts ∈ fss, (ts.length : Int) ≤ 1048576) (hn : fss.length = n) : Frms w (some ⟨g, 0, none⟩) n fss := by
  refine ⟨hn, fun _ => ⟨g, 0, rfl, h.own.lt, fun i ts hi => ?_⟩⟩
  have hl : i < gs.length := by rw [h.len]; exact (List.getElem?_eq_some_iff.1 hi).1
  have hg : gs[i]? = some gs[i] := List.getElem?_eq_getElem hl
  have hm := List.mem_of_getElem? hi
  refine ⟨some ⟨gs[i], 0, none⟩, ts.length, ts.length, ?_, Terms.of_own (h.each i _ ts hg hi) (hT ts hm) rfl, by have := hL ts hm; omega⟩
  rw [Nat.zero_add, h.own.cell i, List.getElem?_toArray]
  exact slCells_get hi hg
set_option maxHeartbeats 1000000 in
set_option maxRecDepth 100000 in
theorem eqFormS_c {w : World} {a a' : Option Addr} {n : Nat} {fss : List (List Tm)} (c c' : Nat) (h : Frms w a n fss) (h' : Frms w a' n fss) (hn : n ≤ 1048576) (hL : ∀ ts ∈ fss, (ts.length : Int) ≤ 1048576) :
    Calls Try.prog 38 #[.slice a n c, .slice a' n c'] w fun e w' => e = .returned (.bool true) ∧ Below w.heap.size w w' := by
  have HLL := Lib.hid hL
  clear hL
  go_enter Try.func38, Try.ntmps38
  go_wp2_with fail
  go_loopw [5] (fun i wr => ∃ k : Nat, k ≤ n ∧ i = .int .i64 k ∧ Below w.heap.size w wr) (fun i _ => n - (intOf i).toNat)
  case atStart => exact ⟨0, Nat.zero_le _, rfl, Below.refl _ _⟩
  case round =>
    obtain ⟨k, hk, rfl, hb⟩ := hrel
    by_cases hlt : k < n
    · obtain ⟨b, off, ts, ai, ni, ci, rfl, hbl, hc, hT, hni, hx⟩ := (h.keep hb).at_ hlt
      obtain ⟨b', off', ts', ai', ni', ci', rfl, hbl', hc', hT', hni', hx'⟩ := (h'.keep hb).at_ hlt
      obtain rfl : ts = ts' := by
        have := hx.out.symm.trans hx'.out
        injection this
      obtain rfl : ni = ni' := hT.len.symm.trans hT'.len
      have hni2 : ni ≤ 1048576 := by have := HLL.out ts (List.mem_of_getElem? hx.out); have := hT.len; omega
      clear hx hx' hni hni'
      have hi0 : (0 : Int) ≤ (k : Int) := by omega
      have hin : (k : Int) < (n : Int) := by omega
      go_upto_region 6 with fail
      replace hc : wr.drew.cell? ⟨b, off + k, none⟩ = some (.slice ai ni ci) := hc
      replace hc' : wr.drew.cell? ⟨b', off' + k, none⟩ = some (.slice ai' ni ci') := hc'
      replace hT := hT.keep ((Below.refl _ _).drew : Below wr.heap.size wr wr.drew)
      replace hT' := hT'.keep ((Below.refl _ _).drew : Below wr.heap.size wr wr.drew)
      replace hb : Below w.heap.size w wr.drew := hb.drew
      replace hbl : b < wr.drew.heap.size := hbl
      replace hbl' : b' < wr.drew.heap.size := hbl'
      go_region_held3 (fun w' => w'.cell? ⟨b, off + k, none⟩ = some (.slice ai ni ci) ∧ w'.cell? ⟨b', off' + k, none⟩ = some (.slice ai' ni ci')) (exact ⟨hc, hc'⟩)
        (first | (go_at_call 57; refine (eqForm_c ci ci' hT hT' hni2).mono ?_; rintro e wv ⟨rfl, hbv⟩; have hb2 := below_trans' hb hbv hb.size; have hc2 := (World.cell?_of_block (a := ⟨b, off + k, none⟩) (hbv.block b hbl)).trans hc; have hc3 := (World.cell?_of_block (a := ⟨b', off' + k, none⟩) (hbv.block b' hbl')).trans hc'; clear hc hc'; have hc := hc2; have hc' := hc3))
      go_wp2_with fail
      go_roundw
      case rel => exact ⟨k + 1, by omega, by go_num, hb2⟩
      case measure => simp [intOf] <;> omega
    · go_wp2_with fail
      go_ret
      exact ⟨rfl, hb⟩
set_option maxRecDepth 100000 in
theorem eqAlgebra_c {w : World} {da da' : Option Addr} {dn : Nat} {zs : List Int} {a a' : Option Addr} {n : Nat} {fss : List (List Tm)} (dc dc' c c' : Nat) (hd : Ints w da dn zs) (hd' : Ints w da' dn zs) (hdn : dn ≤ 1048576) (h : Frms w a n fss) (h' : Frms w a' n fss) (hn : n ≤ 1048576) (hL : ∀ ts ∈ fss, (ts.length : Int) ≤ 1048576) :
    Calls Try.prog 13 #[.agg #[.slice da dn dc, .slice a n c], .agg #[.slice da' dn dc', .slice a' n c']] w fun e w' => e = .returned (.bool true) ∧ Below w.heap.size w w' := by
  have HLL := Lib.hid hL
  clear hL
  have hA := (Own.new w 25 #[.slice da dn dc, .slice a n c]).alloc (.cells #[.slice da' dn dc', .slice a' n c'] 25)
  have hB := Own.new (w.alloc (.cells #[.slice da dn dc, .slice a n c] 25)) 25 #[.slice da' dn dc', .slice a' n c']
  rw [size_alloc] at hB
  have hb := below_then (below_alloc1 w (.cells #[.slice da dn dc, .slice a n c] 25)) (below_alloc1 _ (.cells #[.slice da' dn dc', .slice a' n c'] 25))
  have a0 := hA.cell 0
  have b0 := hB.cell 0
  go_enter Try.func13, Try.ntmps13
  go_upto_region 1 with fail
  generalize (w.alloc (.cells #[.slice da dn dc, .slice a n c] 25)).alloc (.cells #[.slice da' dn dc', .slice a' n c'] 25) = w0 at *
  go_wp2_with fail
  refine (eqInt64S_c dc dc' (hd.keep hb) (hd'.keep hb) hdn hdn).mono ?_
  rintro e w1 ⟨rfl, q, rfl⟩
  have a1 := hA.cell 1
  have b1 := hB.cell 1
  have hb1 := below_drewN hb q
  go_wp2_with fail
  refine (eqFormS_c c c' (h.keep hb1) (h'.keep hb1) hn HLL.out).mono ?_
  rintro e w2 ⟨rfl, hb2⟩
  go_wp2_with fail
  go_ret
  exact ⟨rfl, below_trans' hb1 hb2 hb1.size⟩
structure Touch (p : Nat → Prop) (w w' : World) : Prop where
  below : Below 0 w w'
  other : ∀ k, k < w.heap.size → ¬ p k → w'.heap[k]? = w.heap[k]?
section
variable {p q : Nat → Prop} {w w' a b c : World}
theorem Touch.of_only {g : Nat} (h : Only g w w') : Touch (fun k => k = g) w w' := ⟨h.below 0 (Nat.zero_le _), fun k _ hk => h.other k hk⟩
theorem Touch.of_below (h : Below w.heap.size w w') : Touch p w w' := ⟨h.mono (Nat.zero_le _), fun k hk _ => h.block k hk⟩
theorem Touch.refl (p : Nat → Prop) (w : World) : Touch p w w := ⟨Below.refl _ _, fun _ _ _ => rfl⟩
theorem Touch.mono (h : Touch p w w') (hp : ∀ k, p k → q k) : Touch q w w' := ⟨h.below, fun k hk hq => h.other k hk (fun hh => hq (hp k hh))⟩
theorem Touch.trans (h : Touch p a b) (k : Touch p b c) : Touch p a c := ⟨h.below.trans k.below, fun i hi hp => (k.other i (Nat.lt_of_lt_of_le hi h.below.size) hp).trans (h.other i hi hp)⟩
theorem Touch.bel {B : Nat} (h : Touch p w w') (hB : ∀ k, p k → B ≤ k) (hs : B ≤ w.heap.size) : Below B w w' :=
  ⟨h.below.os, h.below.tape, h.below.output, h.below.size, fun k hk => h.other k (by omega) (fun hp => by have := hB k hp; omega)⟩
theorem Touch.own {g : Nat} {t : TypeId} {cs : Array Value} (h : Touch p w w') (o : Own w g t cs) (hg : ¬ p g) : Own w' g t cs := (h.other g o.lt hg).trans o
theorem Touch.frms {g : Nat} {fss : List (List Tm)} {gs : List Nat} (h : Touch p w w') (o : FrmsBlk w g fss gs) (hg : ¬ p g) (hgs : ∀ x ∈ gs, ¬ p x) : FrmsBlk w' g fss gs :=
  ⟨o.len, h.own o.own hg, fun i gi ts h1 h2 => h.own (o.each i gi ts h1 h2) (hgs gi (List.mem_of_getElem? h1)), o.up⟩
end
def sumLen (fss : List (List Tm)) : Nat := (fss.map List.length).sum
theorem heldInt64S_c {w : World} {g n : Nat} {t : TypeId} {cs : Array Value} {a : Option Addr} {K : Int} (c : Nat) (h : Own w g t (markA (mkI K) cs n)) (hs : n ≤ cs.size) (ha : 0 < n → a = some ⟨g, 0, none⟩) (hn : n ≤ 1048576) (hK : 0 ≤ K) (hK2 : K ≤ 100000000) :
    Calls Try.prog 41 #[.slice a n c, .int .i64 K] w fun e w' => e = .returned (.int .i64 (K + n)) ∧ Below w.heap.size w w' := by
  go_enter Try.func41, Try.ntmps41
  go_wp2
  go_loopw [5, 1] (fun i v wr => ∃ k q : Nat, k ≤ n ∧ i = .int .i64 k ∧ v = .int .i64 (K + k) ∧ wr = w.drewN q) (fun i _ _ => n - (intOf i).toNat)
  case atStart => exact ⟨0, 0, Nat.zero_le _, rfl, by simp, rfl⟩
  case round =>
    obtain ⟨k, q, hk, rfl, rfl, rfl⟩ := hrel
    by_cases hlt : k < n
    · obtain rfl := ha (by omega)
      have c0 := h.cell k
      rw [markA_get (by omega), if_pos (by omega), mkI] at c0
      have s1 : IntKind.i64.wrap (K + (k : Int) + 1) = K + (k : Int) + 1 := IntWalk.i64_in _ (by omega)
      generalize hx : K + (k : Int) = x at *
      go_wp2
      go_roundw
      case rel => exact ⟨k + 1, q, by omega, by go_num, by rw [← hx]; congr 1; omega, rfl⟩
      case measure => simp [intOf] <;> omega
    · have he : k = n := by omega
      subst he
      go_wp2
      go_ret
      exact ⟨rfl, below_drewN (Below.refl _ _) q⟩
end Go.Proofs.Ytmijeojlighnaaa
