
import Derived.Test.YtikldofmpkidbaaDer
import Derived.Test.YtikldofmpkidbaaNewA
namespace Go.Proofs.Ytikldofmpkidbaa
set_option maxRecDepth 100000
open Go.RowKit Go.Deep
def FrmsA (w:World) (a:Option Addr) (n:Nat) (fss:List (List Tm)):Prop:=
 fss.length=n∧(0<n→∃b off,a=some ⟨b,off,none⟩∧b<w.heap.size∧∀i ts,fss[i]? = some ts→∃bi oi ni ci,w.cell? ⟨b,off+i,none⟩=some (.slice (some ⟨bi,oi,none⟩) ni ci)∧Terms w (some ⟨bi,oi,none⟩) ni ts∧ni≤ci)
theorem FrmsA.keep {w w':World} {a:Option Addr} {n:Nat} {fss:List (List Tm)} (h:FrmsA w a n fss) (hb:Below w.heap.size w w'):FrmsA w' a n fss:=
 ⟨h.1,fun hn=>by
  obtain ⟨b,off,ha,hlt,hc⟩:=h.2 hn;refine ⟨b,off,ha,Nat.lt_of_lt_of_le hlt hb.size,fun i ts hi=>?_⟩;obtain ⟨bi,oi,ni,ci,h1,h2,h3⟩:=hc i ts hi
  exact ⟨bi,oi,ni,ci,(World.cell?_of_block (a:=⟨b,off+i,none⟩) (hb.block b hlt)).trans h1,h2.keep hb,h3⟩⟩
theorem FrmsA.at_ {w : World} {a : Option Addr} {n : Nat} {fss : List (List Tm)} (h : FrmsA w a n fss) {i : Nat} (hi : i < n) :
    ∃b off ts bi oi ni ci,a=some ⟨b,off,none⟩∧b<w.heap.size∧w.cell? ⟨b,off+i,none⟩=some (.slice (some ⟨bi,oi,none⟩) ni ci)∧Terms w (some ⟨bi,oi,none⟩) ni ts∧ni≤ci∧Hid (fss[i]? = some ts):=by
 obtain ⟨b,off,ha,hlt,hc⟩:=h.2 (by omega)
 have hl:=h.1
 have hx:fss[i]? = some fss[i]:=List.getElem?_eq_getElem (by omega)
 obtain ⟨bi,oi,ni,ci,h1,h2,h3⟩:=hc i _ hx
 exact ⟨b,off,_,bi,oi,ni,ci,ha,hlt,h1,h2,h3,hx⟩
theorem FrmsA.frms {w:World} {a:Option Addr} {n:Nat} {fss:List (List Tm)} (h:FrmsA w a n fss) (hL:∀ts∈fss,(ts.length:Int)≤1048576):Frms w a n fss:=
 ⟨h.1,fun hn=>by
  obtain ⟨b,off,ha,hlt,hc⟩:=h.2 hn;refine ⟨b,off,ha,hlt,fun i ts hi=>?_⟩;obtain ⟨bi,oi,ni,ci,h1,h2,h3⟩:=hc i ts hi
  exact ⟨_,ni,ci,h1,h2,by have:=hL ts (List.mem_of_getElem? hi);have:=h2.len;omega⟩⟩
theorem FrmsBlk.frmsA {w:World} {g n:Nat} {fss:List (List Tm)} {gs:List Nat} (h:FrmsBlk w g fss gs) (hT:∀ts∈fss,∀t∈ts,IsTm t) (hn:fss.length=n):FrmsA w (some ⟨g,0,none⟩) n fss:=by
 refine ⟨hn,fun _=>⟨g,0,rfl,h.own.lt,fun i ts hi=>?_⟩⟩
 have hl:i<gs.length:=by rw [h.len];exact (List.getElem?_eq_some_iff.1 hi).1
 have hg:gs[i]? = some gs[i]:=List.getElem?_eq_getElem hl
 have hm:=List.mem_of_getElem? hi
 refine ⟨gs[i],0,ts.length,ts.length,?_,Terms.of_own (h.each i _ ts hg hi) (hT ts hm) rfl,Nat.le_refl _⟩
 rw [Nat.zero_add,h.own.cell i,List.getElem?_toArray]
 exact slCells_get hi hg
theorem szFn_sum {L:Int} {n:Nat} {fss:List (List Tm)} (h:¬szFn L n fss=-1):(sumLen fss:Int)+szFn L n fss+n=L:=by
 unfold szFn at h ⊢
 split
 · rename_i h1;rw [if_pos h1] at h
   rcases szFs_sum fss (L - n) (by omega) with h3 | h3
   · exact absurd h3 h
   · omega
 · rename_i h1;rw [if_neg h1] at h;exact absurd rfl h
set_option maxHeartbeats 1000000 in
theorem markDerivation_c {w : World} {g n : Nat} {fss : List (List Tm)} {gs : List Nat} {K : Int} (k : Int) (c : Nat) (h : FrmsBlk w g fss gs) (hT : ∀ ts ∈ fss, ∀ t ∈ ts, IsTm t) (hl : fss.length = n) (hn : n ≤ 1048576) (hs : sumLen fss ≤ 1048576) (hK : 0 ≤ K) (hK2 : K ≤ 10000000) :
    Calls Try.prog 31 #[.agg #[.int .i64 k,.slice (some ⟨g,0,none⟩) n c],.int .i64 K] w fun e w'=>e=.returned (.int .i64 (K+(sumLen fss * 9:Nat)))∧Touch (fun k=>k∈gs) w w':=by
 have HT:=Lib.hid hT
 have HS:=Lib.hid hs
 obtain ⟨SL,hSL⟩:∃SL,sumLen fss=SL:=⟨_,rfl⟩
 have HSL:=Lib.hid hSL
 clear hT hSL hs
 have hA:=Own.new w 36 #[.int .i64 k,.slice (some ⟨g,0,none⟩) n c]
 have hb:=bA1 w (.cells #[.int .i64 k,.slice (some ⟨g,0,none⟩) n c] 36)
 have c1:=hA.cell 1
 go_enter Try.func31,Try.ntmps31
 go_upto_region 1 with fail
 generalize w.alloc (.cells #[.int .i64 k,.slice (some ⟨g,0,none⟩) n c] 36)=w0 at *
 go_wp2_with fail
 refine (markFormS_c c (h.keep hb) HT.out hl hn HS.out hK (by omega)).mono ?_
 rintro e w1 ⟨rfl,hT1⟩
 rw [HSL.out]
 go_wp2_with fail
 go_ret
 exact ⟨by rw [HSL.out];rfl,(Touch.of_below hb).trans hT1⟩
set_option maxHeartbeats 1000000 in
theorem markDerR_c {w : World} {lo hi n : Nat} {a : Option Addr} {V : List (List Tm)} {K : Int} (k : Int) (c : Nat) (h : OwnF w lo hi a n V) (hn : n ≤ 1048576) (hs : sumLen V ≤ 1048576) (hK : 0 ≤ K) (hK2 : K ≤ 10000000) :
    Calls Try.prog 31 #[.agg #[.int .i64 k,.slice a n c],.int .i64 K] w fun e w'=>e=.returned (.int .i64 (K+(sumLen V * 9:Nat)))∧MarkedF w' a n K (sumLen V)∧Touch (fun k=>lo≤k∧k<hi) w w':=by
 have HS:=Lib.hid hs
 obtain ⟨SL,hSL⟩:∃SL,sumLen V=SL:=⟨_,rfl⟩
 have HSL:=Lib.hid hSL
 clear hSL hs
 have hA:=Own.new w 36 #[.int .i64 k,.slice a n c]
 have hb:=bA1 w (.cells #[.int .i64 k,.slice a n c] 36)
 have c1:=hA.cell 1
 go_enter Try.func31,Try.ntmps31
 go_upto_region 1 with fail
 generalize w.alloc (.cells #[.int .i64 k,.slice a n c] 36)=w0 at *
 go_wp2_with fail
 refine (markFlsR_c c (h.keep hb) hn HS.out hK hK2).mono ?_
 rintro e w1 ⟨rfl,hM,hT1⟩
 rw [HSL.out] at hM
 rw [HSL.out]
 go_wp2_with fail
 go_ret
 exact ⟨by rw [HSL.out];rfl,by rw [HSL.out];exact hM,(Touch.of_below hb).trans hT1⟩
set_option maxHeartbeats 1000000 in
theorem heldDerR_c {w : World} {n tot : Nat} {a : Option Addr} {K : Int} (k : Int) (c : Nat) (h : MarkedF w a n K tot) (hn : n ≤ 1048576) (hs : tot ≤ 1048576) (hK : 0 ≤ K) (hK2 : K ≤ 10000000) :
    Calls Try.prog 32 #[.agg #[.int .i64 k,.slice a n c],.int .i64 K] w fun e w'=>e=.returned (.int .i64 (K+(tot * 9:Nat)))∧Below w.heap.size w w':=by
 have hA:=Own.new w 36 #[.int .i64 k,.slice a n c]
 have hb:=bA1 w (.cells #[.int .i64 k,.slice a n c] 36)
 have c1:=hA.cell 1
 have hk1:¬(K+((tot * 9:Nat):Int)<0):=by omega
 go_enter Try.func32,Try.ntmps32
 go_upto_region 1 with fail
 generalize w.alloc (.cells #[.int .i64 k,.slice a n c] 36)=w0 at *
 go_wp2_with fail
 refine (heldFlsR_c c (h.keep hb) hn hs hK hK2).mono ?_
 rintro e w1 ⟨rfl,hb1⟩
 go_wp2_with fail
 go_ret
 exact ⟨rfl,bT' hb hb1 hb.size⟩
end Go.Proofs.Ytikldofmpkidbaa
