
import Derived.Test.YtfpniioegjpfeaaGreatDoorPraE
import Derived.Test.YtfpniioegjpfeaaGreatDoorNewA
import Derived.Test.YtfpniioegjpfeaaGreatDoorKeep
namespace Go.Proofs.YtfpniioegjpfeaaGreatDoor
set_option maxRecDepth 100000
open Go.RowKit Go.Deep
set_option maxHeartbeats 4000000 in
theorem ParseAlgebra_s {w : World} (l : List UInt8) (hl : l.length ≤ 1048576) :
    Calls Tryz.prog 13 #[str l] w fun e w'=>PaAl l w e w':=by
 have hX:=Own.new w 36 #[.slice none 0 0,.slice none 0 0]
 have hb:=bA1 w (.cells #[.slice none 0 0,.slice none 0 0] 36)
 go_enter Tryz.func13,Tryz.ntmps13
 go_upto_region 1 with fail
 generalize w.alloc (.cells #[.slice none 0 0,.slice none 0 0] 36)=w1 at *
 obtain ⟨gX,hgX⟩:∃g,w.heap.size=g:=⟨_,rfl⟩
 rw [hgX] at hX
 try rw [hgX]
 have hwX:w.heap.size≤gX:=by omega
 clear hgX
 go_wp2_with fail
 refine (l02Read_c l w1 hl).mono ?_
 rintro e w2 ⟨da,dn,dc,ia,iN,ic,b,Z,I,rfl,hy,hn,hb2⟩
 have hXO:gX<w1.heap.size:=hX.lt
 have hw1:w.heap.size≤w1.heap.size:=hb.size
 replace hX:=hX.keep hb2 hX.lt
 replace hb:=bT' hb hb2 hb.size
 have HY:=Lib.hid hy
 have HNO:=Lib.hid hn
 clear hb2 hy hn
 have hG:=Own.new w2 36 #[.slice da dn dc,.slice ia iN ic]
 have hb3:=bA1 w2 (.cells #[.slice da dn dc,.slice ia iN ic] 36)
 have HB3:=Lib.hid hb3
 replace hX:=hX.keep hb3 hX.lt
 replace hb:=bT' hb hb3 hb.size
 clear hb3
 go_upto_region 2 with fail
 generalize w2.alloc (.cells #[.slice da dn dc,.slice ia iN ic] 36)=w3 at *
 obtain ⟨gG,hgG⟩:∃g,w2.heap.size=g:=⟨_,rfl⟩
 rw [hgG] at hG
 try rw [hgG]
 have hgg:w2.heap.size≤gG:=by omega
 clear hgG
 have cX:=hX.cell 0
 have cX1:=hX.cell 1
 have fX:=hX.frozen 0
 have fX1:=hX.frozen 1
 have cG:=hG.cell 0
 have cG1:=hG.cell 1
 cases b with
 | false =>
   have HP:=Lib.hid (pa_no ((ok_same l).trans (HNO.out rfl)));go_wp2_with fail
   have hX9:=(hX.set 0 (.slice none 0 0)).set 1 (.slice none 0 0);exact bodyPost_ret (results_row2 rfl _ _ gX 36 #[.slice none 0 0,.slice none 0 0] (0,0) _ rfl hX9 Tryz.underlying36 rfl Tryz.info_alg) rfl ⟨none,0,0,none,0,0,by rw [HP.out.2.2];rfl,by rw [HP.out.1];exact OwnV.none_,by rw [HP.out.2.1];exact OwnF.none_,(hb.setCell (p:=⟨gX,0,none⟩) hwX _).setCell (p:=⟨gX,1,none⟩) hwX _⟩
 | true =>
   have HP:=Lib.hid (pa_yes ((ok_same l).trans (HY.out rfl).1));have HVF:=Lib.hid (HY.out rfl).2;clear HY;go_wp2_with fail
   have hX9:=(hX.set 0 (.slice da dn dc)).set 1 (.slice ia iN ic);have hTo:Touch (fun q=>q=gX) w3 ((w3.setCell ⟨gX,0,none⟩ (.slice da dn dc)).setCell ⟨gX,1,none⟩ (.slice ia iN ic)):=Touch.of_only (((Only.refl gX w3).set 0 _).set 1 _);have hV9:=(((HVF.out.1.keep HB3.out).weaken (Nat.le_refl _) HB3.out.size).touch hTo (fun g h1 h2=>by omega)).weaken (lo':=w.heap.size) (hi':=((w3.setCell ⟨gX,0,none⟩ (.slice da dn dc)).setCell ⟨gX,1,none⟩ (.slice ia iN ic)).heap.size) (by omega) (by simp);have hF9:=(((HVF.out.2.keep HB3.out).weaken (Nat.le_refl _) HB3.out.size).touch hTo (fun g h1 h2=>by omega)).weaken (lo':=w.heap.size) (hi':=((w3.setCell ⟨gX,0,none⟩ (.slice da dn dc)).setCell ⟨gX,1,none⟩ (.slice ia iN ic)).heap.size) (by omega) (by simp);exact bodyPost_ret (results_row2 rfl _ _ gX 36 #[.slice da dn dc,.slice ia iN ic] (0,0) _ rfl hX9 Tryz.underlying36 rfl Tryz.info_alg) rfl ⟨da,dn,dc,ia,iN,ic,by rw [HP.out.2.2];rfl,by rw [HP.out.1];exact hV9,by rw [HP.out.2.1];exact hF9,(hb.setCell (p:=⟨gX,0,none⟩) hwX _).setCell (p:=⟨gX,1,none⟩) hwX _⟩
theorem own_neR {w:World} {g g':Nat} {t t':TypeId} {cs cs':Array Value} (h:Own w g t cs) (h':Own w g' t' cs') (hne:t≠t'):g≠g':=
 fun e=>hne (by
  have k:some (Obj.cells cs t (0,0))=some (Obj.cells cs' t' (0,0)):=(show w.heap[g]? = _ from h).symm.trans (show w.heap[g]? = _ by rw [e];exact h');cases k
  rfl)
theorem Fls.other {w w':World} {g n q:Nat} {R:List Fw} {t':TypeId} {os:Array Value} (h:Fls w g n R) (ho:Own w q t' os) (h1:25≠t') (h2:65≠t') (hk:∀b,b≠q→w'.heap[b]? = w.heap[b]?):Fls w' g n R:=
 ⟨h.len,by obtain ⟨xs,h3,h4⟩:=h.own;exact ⟨xs,(hk g (own_neR h3 ho h1)).trans h3,h4⟩,fun i r hr hp=>by
  obtain ⟨h3,cs,h4,h5⟩:=h.each i r hr hp
  exact ⟨h3,cs,(hk r.g (own_neR h4 ho h2)).trans h4,h5⟩,h.apart⟩
theorem OwnF.other {w w':World} {lo hi n q:Nat} {a:Option Addr} {V:List (List Tm)} {t':TypeId} {os:Array Value} (h:OwnF w lo hi a n V) (ho:Own w q t' os) (h1:25≠t') (h2:65≠t') (hs:w.heap.size≤w'.heap.size) (hk:∀b,b≠q→w'.heap[b]? = w.heap[b]?):OwnF w' lo hi a n V:=
 ⟨h.1,fun hn=>by
  obtain ⟨g,R,e1,e2,e3,e4,e5,e7⟩:=h.2 hn;refine ⟨g,R,e1,e2,e3,e4.other ho h1 h2 hk,e5,fun i r ts hr hv=>?_⟩;have hI:=e7 i r ts hr hv;by_cases hm:0<r.m
  · obtain ⟨e8,cs,e9,-⟩:=e4.each i r hr hm;rw [e8] at hI ⊢;refine ⟨hI.1,hI.2.1,fun hm2=>?_⟩;obtain ⟨b',o',e,hb,hc⟩:=hI.2.2 hm2
    injection e with e
    injection e with e1' e2'
    subst e1' e2';exact ⟨r.g,r.o,rfl,Nat.lt_of_lt_of_le hb hs,rgK hc (hk r.g (own_neR e9 ho h2))⟩
  · exact ⟨hI.1,hI.2.1,fun hm'=>absurd hm' hm⟩⟩
theorem markFlsT_c {w : World} {lo hi n : Nat} {a : Option Addr} {V : List (List Tm)} {K : Int} (c : Nat) (h : OwnF w lo hi a n V) (hn : n ≤ 1048576) (hs : sumLen V ≤ 1048576) (hK : 0 ≤ K) (hK2 : K ≤ 10000000) :
    Calls Tryz.prog 32 #[.slice a n c,.int .i64 K] w fun e w'=>e=.returned (.int .i64 (K+(sumLen V * 9:Nat)))∧MarkedF w' a n K (sumLen V)∧Touch (fun k=>(lo≤k∧k<hi)∧∃cs,Own w k 65 cs) w w':=by
 by_cases h0:n=0
 · subst h0;have hV:V=[]:=List.eq_nil_of_length_eq_zero h.1;subst hV;refine (markFls0_c a c K).mono ?_;rintro e w' ⟨rfl,hb⟩;exact ⟨ret_i (by simp [sumLen]),Or.inl ⟨rfl,rfl⟩,Touch.of_below hb⟩
 · obtain ⟨g,R,rfl,h2,h3,h4,h5,h7⟩:=h.2 (by omega);have ht:=OwnF.tot h.1 h4 h7;refine (markFls_c c h4 hn (by rw [ht];exact hs) hK hK2).mono ?_;rintro e w' ⟨rfl,hF,hM,hT⟩;refine ⟨by rw [ht],Or.inr ⟨g,R,rfl,hF,hM,ht⟩,hT.mono ?_⟩;rintro k ⟨r,hr,hm,rfl⟩;obtain ⟨i,hi,he⟩:=List.mem_iff_getElem.1 hr;obtain ⟨-,cs,e9,-⟩:=h4.each i r (by rw [←he];exact List.getElem?_eq_getElem hi) hm;exact ⟨h5 r hr hm,cs,e9⟩
theorem markAlgR_c {w : World} {lo hi n m g : Nat} {a b : Option Addr} {cs : Array Value} {V : List (List Tm)} {K : Int} (ac bc : Nat) (h : Own w g 2 cs) (hs : n ≤ cs.size) (ha : 0 < n → a = some ⟨g, 0, none⟩) (hF : OwnF w lo hi b m V) (hn : n ≤ 1048576) (hm : m ≤ 1048576) (hsl : sumLen V ≤ 1048576) (hK : 0 ≤ K) (hK2 : K ≤ 5000000) :
    Calls Tryz.prog 16 #[.agg #[.slice a n ac,.slice b m bc],.int .i64 K] w fun e w'=>e=.returned (.int .i64 (K+n+(sumLen V * 9:Nat)))∧Own w' g 2 (markA (mkI K) cs n)∧MarkedF w' b m (K+n) (sumLen V)∧Touch (fun k=>k=g∨(lo≤k∧k<hi)) w w':=by
 have HSL:=Lib.hid hsl
 have hb:=bA1 w (.cells #[.slice a n ac,.slice b m bc] 36)
 have hA:=Own.new w 36 #[.slice a n ac,.slice b m bc]
 have h1:=h.keep hb h.lt
 have hF1:=hF.keep hb
 have hgn:g≠w.heap.size:=by have:=h.lt;omega
 have c0:=hA.cell 0
 obtain ⟨SL,hSL⟩:∃SL,sumLen V=SL:=⟨_,rfl⟩
 have HS:=Lib.hid hSL
 clear hSL hsl
 go_enter Tryz.func16,Tryz.ntmps16
 go_upto_region 1 with fail
 generalize w.alloc (.cells #[.slice a n ac,.slice b m bc] 36)=w0 at *
 go_wp2_with fail
 refine (markInt64S_c ac h1 hs ha hn hK (by omega)).mono ?_
 rintro e w1 ⟨rfl,hM,hOn⟩
 have hA1:=hOn.own hA (fun e=>hgn e.symm)
 have hF2:=hF1.other h1 (by decide) (by decide) (Nat.le_of_eq hOn.size.symm) (fun b hb=>hOn.other b hb)
 have c1:=hA1.cell 1
 clear c0 hgn hA hF1
 go_wp2_with fail
 refine (markFlsT_c bc hF2 hm HSL.out (by omega) (by omega)).mono ?_
 rintro e w2 ⟨rfl,hMF,hT2⟩
 rw [HS.out]
 go_wp2_with fail
 go_ret
 refine ⟨ret_i (by rw [HS.out];omega),hT2.own hM (fun ⟨_,cs',hc⟩=>own_neR hM hc (by decide) rfl),hMF,(Touch.of_below hb).trans (((Touch.of_only hOn).mono (fun k hk=>Or.inl hk)).trans (hT2.mono (fun k hk=>Or.inr hk.1)))⟩
theorem heldAlgR_c {w : World} {n m tot g : Nat} {a b : Option Addr} {cs : Array Value} {K : Int} (ac bc : Nat) (h : Own w g 2 (markA (mkI K) cs n)) (hs : n ≤ cs.size) (ha : 0 < n → a = some ⟨g, 0, none⟩) (hF : MarkedF w b m (K + n) tot) (hn : n ≤ 1048576) (hm : m ≤ 1048576) (hsl : tot ≤ 1048576) (hK : 0 ≤ K) (hK2 : K ≤ 5000000) :
    Calls Tryz.prog 17 #[.agg #[.slice a n ac,.slice b m bc],.int .i64 K] w fun e w'=>e=.returned (.int .i64 (K+n+(tot * 9:Nat)))∧Below w.heap.size w w':=by
 have hb:=bA1 w (.cells #[.slice a n ac,.slice b m bc] 36)
 have hA:=Own.new w 36 #[.slice a n ac,.slice b m bc]
 have h1:=h.keep hb h.lt
 have hF1:=hF.keep hb
 have c0:=hA.cell 0
 have hk0:¬(K+(n:Int)<0):=by omega
 have hk1:¬(K+(n:Int)+((tot * 9:Nat):Int)<0):=by omega
 go_enter Tryz.func17,Tryz.ntmps17
 go_upto_region 1 with fail
 generalize w.alloc (.cells #[.slice a n ac,.slice b m bc] 36)=w0 at *
 go_wp2_with fail
 refine (heldInt64S_c ac h1 hs ha hn hK (by omega)).mono ?_
 rintro e w1 ⟨rfl,hb1⟩
 have hA1:=hA.keep hb1 hA.lt
 have hF2:=hF1.keep hb1
 have hb2:=bT' hb hb1 hb.size
 have c1:=hA1.cell 1
 clear c0 hA hF1 hb hb1
 go_wp2_with fail
 refine (heldFlsR_c bc hF2 hm hsl (by omega) (by omega)).mono ?_
 rintro e w2 ⟨rfl,hb3⟩
 go_wp2_with fail
 go_ret
 exact ⟨rfl,bT' hb2 hb3 hb2.size⟩
def MarkedV (w:World) (a:Option Addr) (n:Nat) (K:Int):Prop:=n=0∨∃g cs,a=some ⟨g,0,none⟩∧Own w g 2 (markA (mkI K) cs n)∧n≤cs.size
theorem MarkedV.keep {w w':World} {a:Option Addr} {n:Nat} {K:Int} (h:MarkedV w a n K) (hb:Below w.heap.size w w'):MarkedV w' a n K:=by
 rcases h with h | ⟨g,cs,h1,h2,h3⟩
 · exact Or.inl h
 · exact Or.inr ⟨g,cs,h1,h2.keep hb h2.lt,h3⟩
theorem markI0_c {w:World} (a:Option Addr) (c:Nat) (K:Int):Calls Tryz.prog 10 #[.slice a 0 c,.int .i64 K] w fun e w'=>e=.returned (.int .i64 K)∧Below w.heap.size w w':=by
 go_enter Tryz.func10,Tryz.ntmps10
 go_wp2
 go_loopw [5,1] (fun i v wr=>i=.int .i64 0∧v=.int .i64 K∧wr=w) (fun _ _ _=>0)
 case atStart=>exact ⟨rfl,rfl,rfl⟩
 case round=>
  obtain ⟨rfl,rfl,rfl⟩:=hrel
  go_wp2
  go_ret
  exact ⟨rfl,Below.refl _ _⟩
theorem heldI0_c {w:World} (a:Option Addr) (c:Nat) (K:Int):Calls Tryz.prog 33 #[.slice a 0 c,.int .i64 K] w fun e w'=>e=.returned (.int .i64 K)∧Below w.heap.size w w':=by
 go_enter Tryz.func33,Tryz.ntmps33
 go_wp2
 go_loopw [5,1] (fun i v wr=>i=.int .i64 0∧v=.int .i64 K∧wr=w) (fun _ _ _=>0)
 case atStart=>exact ⟨rfl,rfl,rfl⟩
 case round=>
  obtain ⟨rfl,rfl,rfl⟩:=hrel
  go_wp2
  go_ret
  exact ⟨rfl,Below.refl _ _⟩
theorem markAlgV_c {w : World} {lo hi n m : Nat} {a b : Option Addr} {VD : List Int} {V : List (List Tm)} {K : Int} (ac bc : Nat) (hV : OwnV w lo hi a n VD) (hF : OwnF w lo hi b m V) (hn : n ≤ 1048576) (hm : m ≤ 1048576) (hsl : sumLen V ≤ 1048576) (hK : 0 ≤ K) (hK2 : K ≤ 5000000) :
    Calls Tryz.prog 16 #[.agg #[.slice a n ac,.slice b m bc],.int .i64 K] w fun e w'=>e=.returned (.int .i64 (K+n+(sumLen V * 9:Nat)))∧MarkedV w' a n K∧MarkedF w' b m (K+n) (sumLen V)∧Touch (fun k=>lo≤k∧k<hi) w w':=by
 by_cases h0:n=0
 · subst h0;have HSL:=Lib.hid hsl;have hb:=bA1 w (.cells #[.slice a 0 ac,.slice b m bc] 36);have hA:=Own.new w 36 #[.slice a 0 ac,.slice b m bc];have hF1:=hF.keep hb;have c0:=hA.cell 0;obtain ⟨SL,hSL⟩:∃SL,sumLen V=SL:=⟨_,rfl⟩;have HS:=Lib.hid hSL;clear hSL hsl;go_enter Tryz.func16,Tryz.ntmps16
   go_upto_region 1 with fail
   generalize w.alloc (.cells #[.slice a 0 ac,.slice b m bc] 36)=w0 at *;go_wp2_with fail
   refine (markI0_c a ac K).mono ?_;rintro e w1 ⟨rfl,hb1⟩;have hA1:=hA.keep hb1 hA.lt;have hF2:=hF1.keep hb1;have c1:=hA1.cell 1;clear c0 hA hF1;go_wp2_with fail
   refine (markFlsT_c bc hF2 hm HSL.out (by omega) (by omega)).mono ?_;rintro e w2 ⟨rfl,hMF,hT2⟩;rw [HS.out];go_wp2_with fail
   go_ret
   refine ⟨ret_i (by rw [HS.out];omega),Or.inl rfl,?_,(Touch.of_below hb).trans ((Touch.of_below hb1).trans (hT2.mono (fun k hk=>hk.1)))⟩;rw [show K+((0:Nat):Int)=K by omega];exact hMF
 · obtain ⟨g,cs,rfl,h1,h2,h3,h4,-⟩:=hV.2 (by omega);refine (markAlgR_c ac bc h3 h4 (fun _=>rfl) hF hn hm hsl hK hK2).mono ?_;rintro e w' ⟨rfl,hO,hM,hT⟩;exact ⟨rfl,Or.inr ⟨g,cs,rfl,hO,h4⟩,hM,hT.mono (fun k hk=>by rcases hk with rfl | hk;exact ⟨h1,h2⟩;exact hk)⟩
theorem heldAlgV_c {w : World} {n m tot : Nat} {a b : Option Addr} {K : Int} (ac bc : Nat) (hV : MarkedV w a n K) (hF : MarkedF w b m (K + n) tot) (hn : n ≤ 1048576) (hm : m ≤ 1048576) (hsl : tot ≤ 1048576) (hK : 0 ≤ K) (hK2 : K ≤ 5000000) :
    Calls Tryz.prog 17 #[.agg #[.slice a n ac,.slice b m bc],.int .i64 K] w fun e w'=>e=.returned (.int .i64 (K+n+(tot * 9:Nat)))∧Below w.heap.size w w':=by
 rcases hV with rfl | ⟨g,cs,rfl,h2,h3⟩
 · have hb:=bA1 w (.cells #[.slice a 0 ac,.slice b m bc] 36);have hA:=Own.new w 36 #[.slice a 0 ac,.slice b m bc];have hF1:=hF.keep hb;rw [show K+((0:Nat):Int)=K by omega] at hF1;have c0:=hA.cell 0;have hk0:¬(K<0):=(by omega);have hk1:¬(K+((tot * 9:Nat):Int)<0):=(by omega);go_enter Tryz.func17,Tryz.ntmps17
   go_upto_region 1 with fail
   generalize w.alloc (.cells #[.slice a 0 ac,.slice b m bc] 36)=w0 at *;go_wp2_with fail
   refine (heldI0_c a ac K).mono ?_;rintro e w1 ⟨rfl,hb1⟩;have hA1:=hA.keep hb1 hA.lt;have hF2:=hF1.keep hb1;have hb2:=bT' hb hb1 hb.size;have c1:=hA1.cell 1;clear c0 hA hF1 hb hb1;go_wp2_with fail
   refine (heldFlsR_c bc hF2 hm hsl (by omega) (by omega)).mono ?_;rintro e w2 ⟨rfl,hb3⟩;go_wp2_with fail
   go_ret
   exact ⟨ret_i (by omega),bT' hb2 hb3 hb2.size⟩
 · exact heldAlgR_c ac bc h2 h3 (fun _=>rfl) hF hn hm hsl hK hK2
end Go.Proofs.YtfpniioegjpfeaaGreatDoor
