
import Derived.Test.YtndnkeijddagiaaFree
import Derived.Test.YtndnkeijddagiaaKeep
namespace Go.Proofs.Ytndnkeijddagiaa
set_option maxRecDepth 100000
open Go.RowKit Go.Deep
theorem own_neR {w:World} {g g':Nat} {t t':TypeId} {cs cs':Array Value} (h:Own w g t cs) (h':Own w g' t' cs') (hne:t≠t'):g≠g':=
 fun e=>hne (by
  have k:some (Obj.cells cs t (0,0))=some (Obj.cells cs' t' (0,0)):=(show w.heap[g]? = _ from h).symm.trans (show w.heap[g]? = _ by rw [e];exact h');cases k
  rfl)
theorem OwnV.farT {w:World} {lo hi n:Nat} {a:Option Addr} {V:List Int} {p:Addr} {t':TypeId} {os:Array Value} (h:OwnV w lo hi a n V) (ho:Own w p.block t' os) (ht:2≠t') (u:Value):OwnV (w.setCell p u) lo hi a n V:=
 ⟨h.1,fun hn=>by obtain ⟨g,cs,h1,h2,h3,h4,h5⟩:=h.2 hn;exact ⟨g,cs,h1,h2,h3,h4.far (own_neR h4 ho ht) u,h5⟩⟩
theorem Fls.other {w w':World} {g n q:Nat} {R:List Fw} {t':TypeId} {os:Array Value} (h:Fls w g n R) (ho:Own w q t' os) (h1:47≠t') (h2:76≠t') (hk:∀b,b≠q→w'.heap[b]? = w.heap[b]?):Fls w' g n R:=
 ⟨h.len,by obtain ⟨xs,h3,h4⟩:=h.own;exact ⟨xs,(hk g (own_neR h3 ho h1)).trans h3,h4⟩,fun i r hr hp=>by
  obtain ⟨h3,cs,h4,h5⟩:=h.each i r hr hp
  exact ⟨h3,cs,(hk r.g (own_neR h4 ho h2)).trans h4,h5⟩,h.apart⟩
theorem OwnF.other {w w':World} {lo hi n q:Nat} {a:Option Addr} {V:List (List Tm)} {t':TypeId} {os:Array Value} (h:OwnF w lo hi a n V) (ho:Own w q t' os) (h1:47≠t') (h2:76≠t') (hs:w.heap.size≤w'.heap.size) (hk:∀b,b≠q→w'.heap[b]? = w.heap[b]?):OwnF w' lo hi a n V:=
 ⟨h.1,fun hn=>by
  obtain ⟨g,R,e1,e2,e3,e4,e5,e7⟩:=h.2 hn;refine ⟨g,R,e1,e2,e3,e4.other ho h1 h2 hk,e5,fun i r ts hr hv=>?_⟩;have hI:=e7 i r ts hr hv;by_cases hm:0<r.m
  · obtain ⟨e8,cs,e9,-⟩:=e4.each i r hr hm;rw [e8] at hI ⊢;refine ⟨hI.1,hI.2.1,fun hm2=>?_⟩;obtain ⟨b',o',e,hb,hc⟩:=hI.2.2 hm2
    injection e with e
    injection e with e1' e2'
    subst e1' e2';exact ⟨r.g,r.o,rfl,Nat.lt_of_lt_of_le hb hs,rgK hc (hk r.g (own_neR e9 ho h2))⟩
  · exact ⟨hI.1,hI.2.1,fun hm'=>absurd hm' hm⟩⟩
theorem OwnF.farT {w:World} {lo hi n:Nat} {a:Option Addr} {V:List (List Tm)} {p:Addr} {t':TypeId} {os:Array Value} (h:OwnF w lo hi a n V) (ho:Own w p.block t' os) (h1:47≠t') (h2:76≠t') (u:Value):OwnF (w.setCell p u) lo hi a n V:=
 h.other ho h1 h2 (by simp) (fun b hb=>Below.heap_setCell w p u b hb)
theorem MarkedF.farT {w:World} {n tot:Nat} {K:Int} {a:Option Addr} {p:Addr} {t':TypeId} {os:Array Value} (h:MarkedF w a n K tot) (ho:Own w p.block t' os) (h1:47≠t') (h2:76≠t') (u:Value):MarkedF (w.setCell p u) a n K tot:=by
 rcases h with h | ⟨g,R,e1,e2,e3,e4⟩
 · exact Or.inl h
 · refine Or.inr ⟨g,R,e1,e2.other ho h1 h2 (fun b hb=>Below.heap_setCell w p u b hb),fun i r hi hr j hj=>?_,e4⟩;obtain ⟨-,cs,e5,-⟩:=e2.each i r hr (by omega);exact (World.cell?_of_block (a:=⟨r.g,r.o+j,none⟩) (Below.heap_setCell w p u r.g (own_neR e5 ho h2))).trans (e3 i r hi hr j hj)
theorem markFlsT_c {w : World} {lo hi n : Nat} {a : Option Addr} {V : List (List Tm)} {K : Int} (c : Nat) (h : OwnF w lo hi a n V) (hn : n ≤ 1048576) (hs : sumLen V ≤ 1048576) (hK : 0 ≤ K) (hK2 : K ≤ 10000000) :
    Calls Try.prog 38 #[.slice a n c,.int .i64 K] w fun e w'=>e=.returned (.int .i64 (K+(sumLen V * 9:Nat)))∧MarkedF w' a n K (sumLen V)∧Touch (fun k=>(lo≤k∧k<hi)∧∃cs,Own w k 76 cs) w w':=by
 by_cases h0:n=0
 · subst h0;have hV:V=[]:=List.eq_nil_of_length_eq_zero h.1;subst hV;refine (markFls0_c a c K).mono ?_;rintro e w' ⟨rfl,hb⟩;exact ⟨ret_i (by simp [sumLen]),Or.inl ⟨rfl,rfl⟩,Touch.of_below hb⟩
 · obtain ⟨g,R,rfl,h2,h3,h4,h5,h7⟩:=h.2 (by omega);have ht:=OwnF.tot h.1 h4 h7;refine (markFls_c c h4 hn (by rw [ht];exact hs) hK hK2).mono ?_;rintro e w' ⟨rfl,hF,hM,hT⟩;refine ⟨by rw [ht],Or.inr ⟨g,R,rfl,hF,hM,ht⟩,hT.mono ?_⟩;rintro k ⟨r,hr,hm,rfl⟩;obtain ⟨i,hi,he⟩:=List.mem_iff_getElem.1 hr;obtain ⟨-,cs,e9,-⟩:=h4.each i r (by rw [←he];exact List.getElem?_eq_getElem hi) hm;exact ⟨h5 r hr hm,cs,e9⟩
theorem markAlgR_c {w : World} {lo hi n m g : Nat} {a b : Option Addr} {cs : Array Value} {V : List (List Tm)} {K : Int} (ac bc : Nat) (h : Own w g 2 cs) (hs : n ≤ cs.size) (ha : 0 < n → a = some ⟨g, 0, none⟩) (hF : OwnF w lo hi b m V) (hn : n ≤ 1048576) (hm : m ≤ 1048576) (hsl : sumLen V ≤ 1048576) (hK : 0 ≤ K) (hK2 : K ≤ 5000000) :
    Calls Try.prog 19 #[.agg #[.slice a n ac,.slice b m bc],.int .i64 K] w fun e w'=>e=.returned (.int .i64 (K+n+(sumLen V * 9:Nat)))∧Own w' g 2 (markA (mkI K) cs n)∧MarkedF w' b m (K+n) (sumLen V)∧Touch (fun k=>k=g∨(lo≤k∧k<hi)) w w':=by
 have HSL:=Lib.hid hsl
 have hb:=bA1 w (.cells #[.slice a n ac,.slice b m bc] 29)
 have hA:=Own.new w 29 #[.slice a n ac,.slice b m bc]
 have h1:=h.keep hb h.lt
 have hF1:=hF.keep hb
 have hgn:g≠w.heap.size:=by have:=h.lt;omega
 have c0:=hA.cell 0
 obtain ⟨SL,hSL⟩:∃SL,sumLen V=SL:=⟨_,rfl⟩
 have HS:=Lib.hid hSL
 clear hSL hsl
 go_enter Try.func19,Try.ntmps19
 go_upto_region 1 with fail
 generalize w.alloc (.cells #[.slice a n ac,.slice b m bc] 29)=w0 at *
 go_wp2_with fail
 refine (markInt64S_c ac h1 hs ha hn hK (by omega)).mono ?_
 rintro e w1 ⟨rfl,hM,hOn⟩
 have hA1:=hOn.own hA (fun e=>hgn e.symm)
 have hF2:=hF1.other h1 (by decide) (by decide) (Nat.le_of_eq hOn.size.symm) (fun b hb=>hOn.other b hb)
 have c1:=hA1.cell 1
 clear c0 hgn hA hF1
 go_wp2_with fail
 refine (markFlsT_c bc hF2 hm HSL.out (by omega) (by omega)).mono ?_
 rintro e w2 ⟨rfl,hMF,hT2⟩
 rw [HS.out]
 go_wp2_with fail
 go_ret
 refine ⟨ret_i (by rw [HS.out];omega),hT2.own hM (fun ⟨_,cs',hc⟩=>own_neR hM hc (by decide) rfl),hMF,(Touch.of_below hb).trans (((Touch.of_only hOn).mono (fun k hk=>Or.inl hk)).trans (hT2.mono (fun k hk=>Or.inr hk.1)))⟩
theorem heldAlgR_c {w : World} {n m tot g : Nat} {a b : Option Addr} {cs : Array Value} {K : Int} (ac bc : Nat) (h : Own w g 2 (markA (mkI K) cs n)) (hs : n ≤ cs.size) (ha : 0 < n → a = some ⟨g, 0, none⟩) (hF : MarkedF w b m (K + n) tot) (hn : n ≤ 1048576) (hm : m ≤ 1048576) (hsl : tot ≤ 1048576) (hK : 0 ≤ K) (hK2 : K ≤ 5000000) :
    Calls Try.prog 20 #[.agg #[.slice a n ac,.slice b m bc],.int .i64 K] w fun e w'=>e=.returned (.int .i64 (K+n+(tot * 9:Nat)))∧Below w.heap.size w w':=by
 have hb:=bA1 w (.cells #[.slice a n ac,.slice b m bc] 29)
 have hA:=Own.new w 29 #[.slice a n ac,.slice b m bc]
 have h1:=h.keep hb h.lt
 have hF1:=hF.keep hb
 have c0:=hA.cell 0
 have hk0:¬(K+(n:Int)<0):=by omega
 have hk1:¬(K+(n:Int)+((tot * 9:Nat):Int)<0):=by omega
 go_enter Try.func20,Try.ntmps20
 go_upto_region 1 with fail
 generalize w.alloc (.cells #[.slice a n ac,.slice b m bc] 29)=w0 at *
 go_wp2_with fail
 refine (heldInt64S_c ac h1 hs ha hn hK (by omega)).mono ?_
 rintro e w1 ⟨rfl,hb1⟩
 have hA1:=hA.keep hb1 hA.lt
 have hF2:=hF1.keep hb1
 have hb2:=bT' hb hb1 hb.size
 have c1:=hA1.cell 1
 clear c0 hA hF1 hb hb1
 go_wp2_with fail
 refine (heldFlsR_c bc hF2 hm hsl (by omega) (by omega)).mono ?_
 rintro e w2 ⟨rfl,hb3⟩
 go_wp2_with fail
 go_ret
 exact ⟨rfl,bT' hb2 hb3 hb2.size⟩
def MarkedV (w:World) (a:Option Addr) (n:Nat) (K:Int):Prop:=n=0∨∃g cs,a=some ⟨g,0,none⟩∧Own w g 2 (markA (mkI K) cs n)∧n≤cs.size
theorem MarkedV.keep {w w':World} {a:Option Addr} {n:Nat} {K:Int} (h:MarkedV w a n K) (hb:Below w.heap.size w w'):MarkedV w' a n K:=by
 rcases h with h | ⟨g,cs,h1,h2,h3⟩
 · exact Or.inl h
 · exact Or.inr ⟨g,cs,h1,h2.keep hb h2.lt,h3⟩
theorem markI0_c {w:World} (a:Option Addr) (c:Nat) (K:Int):Calls Try.prog 47 #[.slice a 0 c,.int .i64 K] w fun e w'=>e=.returned (.int .i64 K)∧Below w.heap.size w w':=by
 go_enter Try.func47,Try.ntmps47
 go_wp2
 go_loopw [5,1] (fun i v wr=>i=.int .i64 0∧v=.int .i64 K∧wr=w) (fun _ _ _=>0)
 case atStart=>exact ⟨rfl,rfl,rfl⟩
 case round=>
  obtain ⟨rfl,rfl,rfl⟩:=hrel
  go_wp2
  go_ret
  exact ⟨rfl,Below.refl _ _⟩
theorem heldI0_c {w:World} (a:Option Addr) (c:Nat) (K:Int):Calls Try.prog 48 #[.slice a 0 c,.int .i64 K] w fun e w'=>e=.returned (.int .i64 K)∧Below w.heap.size w w':=by
 go_enter Try.func48,Try.ntmps48
 go_wp2
 go_loopw [5,1] (fun i v wr=>i=.int .i64 0∧v=.int .i64 K∧wr=w) (fun _ _ _=>0)
 case atStart=>exact ⟨rfl,rfl,rfl⟩
 case round=>
  obtain ⟨rfl,rfl,rfl⟩:=hrel
  go_wp2
  go_ret
  exact ⟨rfl,Below.refl _ _⟩
theorem markAlgV_c {w : World} {lo hi n m : Nat} {a b : Option Addr} {VD : List Int} {V : List (List Tm)} {K : Int} (ac bc : Nat) (hV : OwnV w lo hi a n VD) (hF : OwnF w lo hi b m V) (hn : n ≤ 1048576) (hm : m ≤ 1048576) (hsl : sumLen V ≤ 1048576) (hK : 0 ≤ K) (hK2 : K ≤ 5000000) :
    Calls Try.prog 19 #[.agg #[.slice a n ac,.slice b m bc],.int .i64 K] w fun e w'=>e=.returned (.int .i64 (K+n+(sumLen V * 9:Nat)))∧MarkedV w' a n K∧MarkedF w' b m (K+n) (sumLen V)∧Touch (fun k=>lo≤k∧k<hi) w w':=by
 by_cases h0:n=0
 · subst h0;have HSL:=Lib.hid hsl;have hb:=bA1 w (.cells #[.slice a 0 ac,.slice b m bc] 29);have hA:=Own.new w 29 #[.slice a 0 ac,.slice b m bc];have hF1:=hF.keep hb;have c0:=hA.cell 0;obtain ⟨SL,hSL⟩:∃SL,sumLen V=SL:=⟨_,rfl⟩;have HS:=Lib.hid hSL;clear hSL hsl;go_enter Try.func19,Try.ntmps19
   go_upto_region 1 with fail
   generalize w.alloc (.cells #[.slice a 0 ac,.slice b m bc] 29)=w0 at *;go_wp2_with fail
   refine (markI0_c a ac K).mono ?_;rintro e w1 ⟨rfl,hb1⟩;have hA1:=hA.keep hb1 hA.lt;have hF2:=hF1.keep hb1;have c1:=hA1.cell 1;clear c0 hA hF1;go_wp2_with fail
   refine (markFlsT_c bc hF2 hm HSL.out (by omega) (by omega)).mono ?_;rintro e w2 ⟨rfl,hMF,hT2⟩;rw [HS.out];go_wp2_with fail
   go_ret
   refine ⟨ret_i (by rw [HS.out];omega),Or.inl rfl,?_,(Touch.of_below hb).trans ((Touch.of_below hb1).trans (hT2.mono (fun k hk=>hk.1)))⟩;rw [show K+((0:Nat):Int)=K by omega];exact hMF
 · obtain ⟨g,cs,rfl,h1,h2,h3,h4,-⟩:=hV.2 (by omega);refine (markAlgR_c ac bc h3 h4 (fun _=>rfl) hF hn hm hsl hK hK2).mono ?_;rintro e w' ⟨rfl,hO,hM,hT⟩;exact ⟨rfl,Or.inr ⟨g,cs,rfl,hO,h4⟩,hM,hT.mono (fun k hk=>by rcases hk with rfl | hk;exact ⟨h1,h2⟩;exact hk)⟩
theorem heldAlgV_c {w : World} {n m tot : Nat} {a b : Option Addr} {K : Int} (ac bc : Nat) (hV : MarkedV w a n K) (hF : MarkedF w b m (K + n) tot) (hn : n ≤ 1048576) (hm : m ≤ 1048576) (hsl : tot ≤ 1048576) (hK : 0 ≤ K) (hK2 : K ≤ 5000000) :
    Calls Try.prog 20 #[.agg #[.slice a n ac,.slice b m bc],.int .i64 K] w fun e w'=>e=.returned (.int .i64 (K+n+(tot * 9:Nat)))∧Below w.heap.size w w':=by
 rcases hV with rfl | ⟨g,cs,rfl,h2,h3⟩
 · have hb:=bA1 w (.cells #[.slice a 0 ac,.slice b m bc] 29);have hA:=Own.new w 29 #[.slice a 0 ac,.slice b m bc];have hF1:=hF.keep hb;rw [show K+((0:Nat):Int)=K by omega] at hF1;have c0:=hA.cell 0;have hk0:¬(K<0):=(by omega);have hk1:¬(K+((tot * 9:Nat):Int)<0):=(by omega);go_enter Try.func20,Try.ntmps20
   go_upto_region 1 with fail
   generalize w.alloc (.cells #[.slice a 0 ac,.slice b m bc] 29)=w0 at *;go_wp2_with fail
   refine (heldI0_c a ac K).mono ?_;rintro e w1 ⟨rfl,hb1⟩;have hA1:=hA.keep hb1 hA.lt;have hF2:=hF1.keep hb1;have hb2:=bT' hb hb1 hb.size;have c1:=hA1.cell 1;clear c0 hA hF1 hb hb1;go_wp2_with fail
   refine (heldFlsR_c bc hF2 hm hsl (by omega) (by omega)).mono ?_;rintro e w2 ⟨rfl,hb3⟩;go_wp2_with fail
   go_ret
   exact ⟨ret_i (by omega),bT' hb2 hb3 hb2.size⟩
 · exact heldAlgR_c ac bc h2 h3 (fun _=>rfl) hF hn hm hsl hK hK2
end Go.Proofs.Ytndnkeijddagiaa
