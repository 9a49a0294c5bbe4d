
import Derived.Test.YtdppjlndcacfnaaGreatFree
import Derived.Test.YtdppjlndcacfnaaGreatKeep
import Derived.Test.YtdppjlndcacfnaaGreatIsFormB
import Derived.Test.YtdppjlndcacfnaaGreatHeld
import Derived.Test.YtdppjlndcacfnaaGreatResult
namespace Go.Proofs.YtdppjlndcacfnaaGreat
set_option maxRecDepth 100000
open Go.RowKit Go.Deep
theorem own_neR {w:World} {g g':Nat} {t t':TypeId} {cs cs':Array Value} (h:Own w g t cs) (h':Own w g' t' cs') (hne:t≠t'):g≠g':=
 fun e=>hne (by
  have k:some (Obj.cells cs t (0,0))=some (Obj.cells cs' t' (0,0)):=(show w.heap[g]? = _ from h).symm.trans (show w.heap[g]? = _ by rw [e];exact h');cases k
  rfl)
theorem OwnV.farT {w:World} {lo hi n:Nat} {a:Option Addr} {V:List Int} {p:Addr} {t':TypeId} {os:Array Value} (h:OwnV w lo hi a n V) (ho:Own w p.block t' os) (ht:2≠t') (u:Value):OwnV (w.setCell p u) lo hi a n V:=
 ⟨h.1,fun hn=>by obtain ⟨g,cs,h1,h2,h3,h4,h5⟩:=h.2 hn;exact ⟨g,cs,h1,h2,h3,h4.far (own_neR h4 ho ht) u,h5⟩⟩
theorem Fls.other {w w':World} {g n q:Nat} {R:List Fw} {t':TypeId} {os:Array Value} (h:Fls w g n R) (ho:Own w q t' os) (h1:59≠t') (h2:94≠t') (hk:∀b,b≠q→w'.heap[b]? = w.heap[b]?):Fls w' g n R:=
 ⟨h.len,by obtain ⟨xs,h3,h4⟩:=h.own;exact ⟨xs,(hk g (own_neR h3 ho h1)).trans h3,h4⟩,fun i r hr hp=>by
  obtain ⟨h3,cs,h4,h5⟩:=h.each i r hr hp
  exact ⟨h3,cs,(hk r.g (own_neR h4 ho h2)).trans h4,h5⟩,h.apart⟩
theorem OwnF.other {w w':World} {lo hi n q:Nat} {a:Option Addr} {V:List (List Tm)} {t':TypeId} {os:Array Value} (h:OwnF w lo hi a n V) (ho:Own w q t' os) (h1:59≠t') (h2:94≠t') (hs:w.heap.size≤w'.heap.size) (hk:∀b,b≠q→w'.heap[b]? = w.heap[b]?):OwnF w' lo hi a n V:=
 ⟨h.1,fun hn=>by
  obtain ⟨g,R,e1,e2,e3,e4,e5,e7⟩:=h.2 hn;refine ⟨g,R,e1,e2,e3,e4.other ho h1 h2 hk,e5,fun i r ts hr hv=>?_⟩;have hI:=e7 i r ts hr hv;by_cases hm:0<r.m
  · obtain ⟨e8,cs,e9,-⟩:=e4.each i r hr hm;rw [e8] at hI ⊢;refine ⟨hI.1,hI.2.1,fun hm2=>?_⟩;obtain ⟨b',o',e,hb,hc⟩:=hI.2.2 hm2
    injection e with e
    injection e with e1' e2'
    subst e1' e2';exact ⟨r.g,r.o,rfl,Nat.lt_of_lt_of_le hb hs,rgK hc (hk r.g (own_neR e9 ho h2))⟩
  · exact ⟨hI.1,hI.2.1,fun hm'=>absurd hm' hm⟩⟩
theorem OwnF.farT {w:World} {lo hi n:Nat} {a:Option Addr} {V:List (List Tm)} {p:Addr} {t':TypeId} {os:Array Value} (h:OwnF w lo hi a n V) (ho:Own w p.block t' os) (h1:59≠t') (h2:94≠t') (u:Value):OwnF (w.setCell p u) lo hi a n V:=
 h.other ho h1 h2 (by simp) (fun b hb=>Below.heap_setCell w p u b hb)
theorem MarkedF.farT {w:World} {n tot:Nat} {K:Int} {a:Option Addr} {p:Addr} {t':TypeId} {os:Array Value} (h:MarkedF w a n K tot) (ho:Own w p.block t' os) (h1:59≠t') (h2:94≠t') (u:Value):MarkedF (w.setCell p u) a n K tot:=by
 rcases h with h | ⟨g,R,e1,e2,e3,e4⟩
 · exact Or.inl h
 · refine Or.inr ⟨g,R,e1,e2.other ho h1 h2 (fun b hb=>Below.heap_setCell w p u b hb),fun i r hi hr j hj=>?_,e4⟩;obtain ⟨-,cs,e5,-⟩:=e2.each i r hr (by omega);exact (World.cell?_of_block (a:=⟨r.g,r.o+j,none⟩) (Below.heap_setCell w p u r.g (own_neR e5 ho h2))).trans (e3 i r hi hr j hj)
def MarkedV (w:World) (a:Option Addr) (n:Nat) (K:Int):Prop:=n=0∨∃g cs,a=some ⟨g,0,none⟩∧Own w g 2 (markA (mkI K) cs n)∧n≤cs.size
theorem MarkedV.keep {w w':World} {a:Option Addr} {n:Nat} {K:Int} (h:MarkedV w a n K) (hb:Below w.heap.size w w'):MarkedV w' a n K:=by
 rcases h with h | ⟨g,cs,h1,h2,h3⟩
 · exact Or.inl h
 · exact Or.inr ⟨g,cs,h1,h2.keep hb h2.lt,h3⟩
open Go.RowKit Go.Deep Go.ChangeShapes Go.WideShapes
section
variable {H:Type} {enc:TypeId × Value→H} {w:World} {spare:Nat→Bool} {held:Bool}
end
theorem Own.terms {w:World} {g n:Nat} {t:TypeId} {ts:List Tm} (h:Own w g t (rcells ts).toArray) (hT:∀t∈ts,IsTm t) (hn:ts.length=n):Terms w (some ⟨g,0,none⟩) n ts:=Terms.of_own h hT hn
open Go.RowKit Go.Deep
theorem row_keep {w w':World} {B sz n:Nat} {t:TypeId} {v:Value} {xs:List Value} (h:w.ownsRow B t sz v n xs) (hb:Below w.heap.size w w'):w'.ownsRow B t sz v n xs:=
 World.ownsRow.kept h (row:=none) ⟨hb.os,hb.tape,hb.output,hb.size,fun k hk _=>hb.block k hk⟩ (by cases h0:v.ownBlock <;> simp)
def FrmsA (w:World) (a:Option Addr) (n:Nat) (fss:List (List Tm)):Prop:=
 fss.length=n∧(0<n→∃b off,a=some ⟨b,off,none⟩∧b<w.heap.size∧∀i ts,fss[i]? = some ts→∃bi oi ni ci,w.cell? ⟨b,off+i,none⟩=some (.slice (some ⟨bi,oi,none⟩) ni ci)∧Terms w (some ⟨bi,oi,none⟩) ni ts∧ni≤ci)
theorem FrmsA.keep {w w':World} {a:Option Addr} {n:Nat} {fss:List (List Tm)} (h:FrmsA w a n fss) (hb:Below w.heap.size w w'):FrmsA w' a n fss:=
 ⟨h.1,fun hn=>by
  obtain ⟨b,off,ha,hlt,hc⟩:=h.2 hn;refine ⟨b,off,ha,Nat.lt_of_lt_of_le hlt hb.size,fun i ts hi=>?_⟩;obtain ⟨bi,oi,ni,ci,h1,h2,h3⟩:=hc i ts hi
  exact ⟨bi,oi,ni,ci,(World.cell?_of_block (a:=⟨b,off+i,none⟩) (hb.block b hlt)).trans h1,h2.keep hb,h3⟩⟩
theorem FrmsA.at_ {w : World} {a : Option Addr} {n : Nat} {fss : List (List Tm)} (h : FrmsA w a n fss) {i : Nat} (hi : i < n) :
    ∃b off ts bi oi ni ci,a=some ⟨b,off,none⟩∧b<w.heap.size∧w.cell? ⟨b,off+i,none⟩=some (.slice (some ⟨bi,oi,none⟩) ni ci)∧Terms w (some ⟨bi,oi,none⟩) ni ts∧ni≤ci∧Hid (fss[i]? = some ts):=by
 obtain ⟨b,off,ha,hlt,hc⟩:=h.2 (by omega)
 have hl:=h.1
 have hx:fss[i]? = some fss[i]:=List.getElem?_eq_getElem (by omega)
 obtain ⟨bi,oi,ni,ci,h1,h2,h3⟩:=hc i _ hx
 exact ⟨b,off,_,bi,oi,ni,ci,ha,hlt,h1,h2,h3,hx⟩
theorem FrmsA.frms {w:World} {a:Option Addr} {n:Nat} {fss:List (List Tm)} (h:FrmsA w a n fss) (hL:∀ts∈fss,(ts.length:Int)≤1048576):Frms w a n fss:=
 ⟨h.1,fun hn=>by
  obtain ⟨b,off,ha,hlt,hc⟩:=h.2 hn;refine ⟨b,off,ha,hlt,fun i ts hi=>?_⟩;obtain ⟨bi,oi,ni,ci,h1,h2,h3⟩:=hc i ts hi
  exact ⟨_,ni,ci,h1,h2,by have:=hL ts (List.mem_of_getElem? hi);have:=h2.len;omega⟩⟩
theorem FrmsBlk.frmsA {w:World} {g n:Nat} {fss:List (List Tm)} {gs:List Nat} (h:FrmsBlk w g fss gs) (hT:∀ts∈fss,∀t∈ts,IsTm t) (hn:fss.length=n):FrmsA w (some ⟨g,0,none⟩) n fss:=by
 refine ⟨hn,fun _=>⟨g,0,rfl,h.own.lt,fun i ts hi=>?_⟩⟩
 have hl:i<gs.length:=by rw [h.len];exact (List.getElem?_eq_some_iff.1 hi).1
 have hg:gs[i]? = some gs[i]:=List.getElem?_eq_getElem hl
 have hm:=List.mem_of_getElem? hi
 refine ⟨gs[i],0,ts.length,ts.length,?_,Terms.of_own (h.each i _ ts hg hi) (hT ts hm) rfl,Nat.le_refl _⟩
 rw [Nat.zero_add,h.own.cell i,List.getElem?_toArray]
 exact slCells_get hi hg
theorem szFn_sum {L:Int} {n:Nat} {fss:List (List Tm)} (h:¬szFn L n fss=-1):(sumLen fss:Int)+szFn L n fss+n=L:=by
 unfold szFn at h ⊢
 split
 · rename_i h1;rw [if_pos h1] at h
   rcases szFs_sum fss (L - n) (by omega) with h3 | h3
   · exact absurd h3 h
   · omega
 · rename_i h1;rw [if_neg h1] at h;exact absurd rfl h
set_option maxHeartbeats 1000000 in
theorem markDerivation_c {w : World} {g n : Nat} {fss : List (List Tm)} {gs : List Nat} {K : Int} (k : Int) (c : Nat) (h : FrmsBlk w g fss gs) (hT : ∀ ts ∈ fss, ∀ t ∈ ts, IsTm t) (hl : fss.length = n) (hn : n ≤ 1048576) (hs : sumLen fss ≤ 1048576) (hK : 0 ≤ K) (hK2 : K ≤ 10000000) :
    Calls Tryz.prog 16 #[.agg #[.int .i64 k,.slice (some ⟨g,0,none⟩) n c],.int .i64 K] w fun e w'=>e=.returned (.int .i64 (K+(sumLen fss * 9:Nat)))∧Touch (fun k=>k∈gs) w w':=by
 have HT:=Lib.hid hT
 have HS:=Lib.hid hs
 obtain ⟨SL,hSL⟩:∃SL,sumLen fss=SL:=⟨_,rfl⟩
 have HSL:=Lib.hid hSL
 clear hT hSL hs
 have hA:=Own.new w 32 #[.int .i64 k,.slice (some ⟨g,0,none⟩) n c]
 have hb:=bA1 w (.cells #[.int .i64 k,.slice (some ⟨g,0,none⟩) n c] 32)
 have c1:=hA.cell 1
 go_enter Tryz.func16,Tryz.ntmps16
 go_upto_region 1 with fail
 generalize w.alloc (.cells #[.int .i64 k,.slice (some ⟨g,0,none⟩) n c] 32)=w0 at *
 go_wp2_with fail
 refine (markFormS_c c (h.keep hb) HT.out hl hn HS.out hK (by omega)).mono ?_
 rintro e w1 ⟨rfl,hT1⟩
 rw [HSL.out]
 go_wp2_with fail
 go_ret
 exact ⟨by rw [HSL.out];rfl,(Touch.of_below hb).trans hT1⟩
set_option maxHeartbeats 1000000 in
theorem markDerR_c {w : World} {lo hi n : Nat} {a : Option Addr} {V : List (List Tm)} {K : Int} (k : Int) (c : Nat) (h : OwnF w lo hi a n V) (hn : n ≤ 1048576) (hs : sumLen V ≤ 1048576) (hK : 0 ≤ K) (hK2 : K ≤ 10000000) :
    Calls Tryz.prog 16 #[.agg #[.int .i64 k,.slice a n c],.int .i64 K] w fun e w'=>e=.returned (.int .i64 (K+(sumLen V * 9:Nat)))∧MarkedF w' a n K (sumLen V)∧Touch (fun k=>lo≤k∧k<hi) w w':=by
 have HS:=Lib.hid hs
 obtain ⟨SL,hSL⟩:∃SL,sumLen V=SL:=⟨_,rfl⟩
 have HSL:=Lib.hid hSL
 clear hSL hs
 have hA:=Own.new w 32 #[.int .i64 k,.slice a n c]
 have hb:=bA1 w (.cells #[.int .i64 k,.slice a n c] 32)
 have c1:=hA.cell 1
 go_enter Tryz.func16,Tryz.ntmps16
 go_upto_region 1 with fail
 generalize w.alloc (.cells #[.int .i64 k,.slice a n c] 32)=w0 at *
 go_wp2_with fail
 refine (markFlsR_c c (h.keep hb) hn HS.out hK hK2).mono ?_
 rintro e w1 ⟨rfl,hM,hT1⟩
 rw [HSL.out] at hM
 rw [HSL.out]
 go_wp2_with fail
 go_ret
 exact ⟨by rw [HSL.out];rfl,by rw [HSL.out];exact hM,(Touch.of_below hb).trans hT1⟩
set_option maxHeartbeats 1000000 in
theorem heldDerR_c {w : World} {n tot : Nat} {a : Option Addr} {K : Int} (k : Int) (c : Nat) (h : MarkedF w a n K tot) (hn : n ≤ 1048576) (hs : tot ≤ 1048576) (hK : 0 ≤ K) (hK2 : K ≤ 10000000) :
    Calls Tryz.prog 17 #[.agg #[.int .i64 k,.slice a n c],.int .i64 K] w fun e w'=>e=.returned (.int .i64 (K+(tot * 9:Nat)))∧Below w.heap.size w w':=by
 have hA:=Own.new w 32 #[.int .i64 k,.slice a n c]
 have hb:=bA1 w (.cells #[.int .i64 k,.slice a n c] 32)
 have c1:=hA.cell 1
 have hk1:¬(K+((tot * 9:Nat):Int)<0):=by omega
 go_enter Tryz.func17,Tryz.ntmps17
 go_upto_region 1 with fail
 generalize w.alloc (.cells #[.int .i64 k,.slice a n c] 32)=w0 at *
 go_wp2_with fail
 refine (heldFlsR_c c (h.keep hb) hn hs hK hK2).mono ?_
 rintro e w1 ⟨rfl,hb1⟩
 go_wp2_with fail
 go_ret
 exact ⟨rfl,bT' hb hb1 hb.size⟩
end Go.Proofs.YtdppjlndcacfnaaGreat
