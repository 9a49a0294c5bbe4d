
import Derived.Test.YtifcfoijcodjbaaGreatMatP
import Derived.Test.YtifcfoijcodjbaaGreatTabOf
import Derived.Test.YtifcfoijcodjbaaGreatElimC
import Derived.Test.YtifcfoijcodjbaaGreatRedM
import Derived.Test.YtifcfoijcodjbaaGreatCohC
import Derived.Test.YtifcfoijcodjbaaGreatIsFormB
import Derived.Test.YtifcfoijcodjbaaGreatTbl
import Derived.Test.YtifcfoijcodjbaaGreatRdcC
namespace Go.Proofs.YtifcfoijcodjbaaGreat
set_option maxRecDepth 100000
open Go.RowKit Go.Deep
set_option maxHeartbeats 1000000 in
theorem rowC_c {w : World} {ca fa : Option Addr} {n fn : Nat} {V : List (List Int)} {ts : List Tm} (cc fc : Nat) (hM : Mos w ca n V) (ho : Ord V) (hn : n ≤ 1000) (hT : Terms w fa fn ts) (hfn : fn ≤ 1048576) (hs : Srt ts) (hmem : ∀ t ∈ ts, t.m ∈ V) :
    Calls Tryz.prog 62 #[.slice ca n cc,.agg #[.slice fa fn fc]] w fun e w'=>∃g,e=.returned (.slice (some ⟨g,0,none⟩) n n)∧w.heap.size≤g∧Own w' g 173 (ofI (rowT V ts))∧Below w.heap.size w w':=by
 have HM:=Lib.hid hM
 have HO:=Lib.hid ho
 have HT:=Lib.hid hT
 have HS:=Lib.hid hs
 have HME:=Lib.hid hmem
 have HVL:=Lib.hid hM.1
 have hG:=Own.new w 39 #[.slice fa fn fc]
 have hb1:=bA1 w (.cells #[.slice fa fn fc] 39)
 have hmk:=make_num3 n (by omega) (w.alloc (.cells #[.slice fa fn fc] 39))
 rw [sAl] at hmk
 have hR:=Own.new (w.alloc (.cells #[.slice fa fn fc] 39)) 173 (Array.replicate n (Value.int .i64 0))
 rw [sAl] at hR
 have hba:=bA1 (w.alloc (.cells #[.slice fa fn fc] 39)) (.cells (Array.replicate n (Value.int .i64 0)) 173)
 have hb2:=bT' hb1 hba hb1.size
 have hG2:=hG.keep hba hG.lt
 clear hM ho hT hs hmem hb1 hba hG
 go_enter Tryz.func62,Tryz.ntmps62
 go_upto_region 2 with fail
 clear hmk
 generalize (w.alloc (.cells #[.slice fa fn fc] 39)).alloc (.cells (Array.replicate n (Value.int .i64 0)) 173)=w2 at *
 obtain ⟨g,hg⟩:∃g,w.heap.size+1=g:=⟨_,rfl⟩
 rw [hg] at hR
 try rw [hg]
 have hgw:w.heap.size≤g:=by omega
 clear hg
 have hR0:Own w2 g 173 (ofI ([]++rowT V []++[])):=by
  rw [rowT_nil,HVL.out,List.nil_append,List.append_nil,←ofI_rep];exact hR
 have cg:=hG2.cell 0
 clear hR
 go_wp2_with fail
 refine (write_c (A:=[]) (B:=[]) (off:=0) cc n fc (fun w' h=>HM.out.keep (hb2.trans (h.bel3 hgw hb2.size))) HO.out (by omega) (fun w' h=>HT.out.keep (hb2.trans (h.bel3 hgw hb2.size))) hfn HS.out HME.out hR0 rfl).mono ?_
 rintro e w3 ⟨rfl,hR3,ht3⟩
 have hb3:=hb2.trans (ht3.bel3 hgw hb2.size)
 rw [List.nil_append,List.append_nil] at hR3
 clear hb2 ht3 hR0 hG2 cg
 go_wp2_with fail
 go_ret
 exact ⟨g,rfl,hgw,hR3,hb3⟩
theorem columnsN_c {w : World} {da : Option Addr} {dn : Nat} {zs : List Int} {a : Option Addr} {n : Nat} {x : Int} (dc c : Nat) (hd : Ints w da dn zs) (hdn : dn ≤ 1048576) (hz : degsOk zs = true) (hx : x < 0) :
    Calls Tryz.prog 61 #[.agg #[.slice da dn dc,.slice a n c],.int .i64 x] w fun e w'=>∃ra rc,e=.returned (.slice ra 0 rc)∧Mos w' ra 0 []∧Below w.heap.size w w':=by
 refine (columnsOf_c dc c hd hdn).mono ?_
 rintro e w' ⟨ra,rn,rc,rfl,hM,hb⟩
 have e0:moV zs x=[]:=(mo_err (mo_2 hz (by omega)) (by omega)).2
 rw [e0] at hM
 obtain rfl:0=rn:=hM.1
 exact ⟨ra,rc,rfl,hM.mos,hb⟩
theorem splitByDM_c {w : World} {da : Option Addr} {dn : Nat} {zs : List Int} {a : Option Addr} {k : Nat} (dc c : Nat) (hd : Ints w da dn zs) (hdn : dn ≤ 1048576) (hz : degsOk zs = true) :
    Calls Tryz.prog 118 #[.agg #[.slice da dn dc,.slice a k c],.int .i64 (-2)] w fun e w'=>∃v,e=.returned v∧SplitV w' w.heap.size v 0 0 []∧Below w.heap.size w w':=by
 have hwx:IntKind.i64.wrap ((-2:Int)+1)=(-2:Int)+1:=IntWalk.i64_in _ (by omega)
 have h1:∀x:Int,x<0→∀w',Below w.heap.size w w'→Calls Tryz.prog 61 #[.agg #[.slice da dn dc,.slice a k c],.int .i64 x] w' fun e w''=>∃ra rc,e=.returned (.slice ra 0 rc)∧Below w'.heap.size w' w'':=fun x hx w' hb=>by
  refine (columnsN_c dc c (hd.keep hb) hdn hz hx).mono ?_;rintro e w'' ⟨ra,rc,rfl,-,hb2⟩;exact ⟨ra,rc,rfl,hb2⟩
 exact splitByD_g (M:=[]) (Fl:=[]) hwx (fun w' hb=>matrixOfN_c hwx (Nat.zero_le _) (fun w'' hb2=>h1 (-2) (by omega) w'' (bT' hb hb2 hb.size)) (fun w'' hb2=>h1 (-2+1) (by omega) w'' (bT' hb hb2 hb.size))) (fun w' hb=>h1 (-2+1) (by omega) w' hb) rfl (by simp) (by simp) (by omega) (by omega)
theorem cohomologyN_c {w : World} {da : Option Addr} {dn : Nat} {zs : List Int} {a : Option Addr} {k : Nat} (dc c : Nat) (hd : Ints w da dn zs) (hdn : dn ≤ 1048576) (hz : degsOk zs = true) (hc : cnt zs 0 ≤ 120) :
    Calls Tryz.prog 59 #[.agg #[.slice da dn dc,.slice a k c],.int .i64 (-1)] w fun e w'=>∃a1 n1 c1 a2 n2 c2 a3 n3 c3 a4 n4 c4,e=.returned (.agg #[.slice a1 n1 c1,.slice a2 n2 c2,.slice a3 n3 c3,.slice a4 n4 c4])∧BasV w' w.heap.size w'.heap.size (.agg #[.slice a1 n1 c1,.slice a2 n2 c2]) 0 []∧BasV w' w.heap.size w'.heap.size (.agg #[.slice a3 n3 c3,.slice a4 n4 c4]) 0 []∧Below w.heap.size w w':=
 cohomologyOf_g (x:=-1) (W:=0) (W2:=cnt zs 0) (N:=0) (L:=[]) (L2:=[]) dc c (by omega) (by omega) (fun w' hb=>splitByDM_c dc c (hd.keep hb) hdn hz) (fun w' hb=>splitByDN_c dc c rfl (hd.keep hb) hdn hz hc) (RedI.nil 0) (RedI.nil 0) (by omega) (by simp [bndR]) (by simp [cloR])
set_option maxHeartbeats 1000000 in
theorem classOf_c {w : World} {a1 a2 a3 a4 : Option Addr} {n1 c1 n2 c2 n3 c3 n4 c4 hi W p : Nat} {D C : List (List Int)} {r : List Int} (rc : Nat) (hB : BasV w 0 hi (.agg #[.slice a1 n1 c1, .slice a2 n2 c2]) W D) (hC : BasV w 0 hi (.agg #[.slice a3 n3 c3, .slice a4 n4 c4]) W C) (hh : hi ≤ w.heap.size) (hD : RedI W D) (hCR : RedI W C) (hr : RowOk W r) (hp : RowAt w p r) (hpn : hi ≤ p) (hW : W ≤ 1000) (hDn : D.length ≤ 1000) (hCn : C.length ≤ 1000) :
    Calls Tryz.prog 60 #[.agg #[.slice a1 n1 c1,.slice a2 n2 c2,.slice a3 n3 c3,.slice a4 n4 c4],.slice (some ⟨p,0,none⟩) W rc] w fun e w'=>∃g,e=.returned (.slice (some ⟨g,0,none⟩) C.length C.length)∧g<w'.heap.size∧Own w' g 173 (ofI (facR (byR r D) C))∧Touch (fun k=>k=p) w w':=by
 have HB:=Lib.hid hB
 have HC:=Lib.hid hC
 have HD:=Lib.hid hD
 have HCR:=Lib.hid hCR
 have HR:=Lib.hid hr
 have HPN:=Lib.hid hpn
 have HH:=Lib.hid hh
 have hpl:=hp.lt
 have hX:=Own.new w 88 #[.slice a1 n1 c1,.slice a2 n2 c2,.slice a3 n3 c3,.slice a4 n4 c4]
 have hb1:=bA1 w (.cells #[.slice a1 n1 c1,.slice a2 n2 c2,.slice a3 n3 c3,.slice a4 n4 c4] 88)
 have hp1:=hp.keep hb1 hpl
 have ht1:Touch (fun k=>k=p) w (w.alloc (.cells #[.slice a1 n1 c1,.slice a2 n2 c2,.slice a3 n3 c3,.slice a4 n4 c4] 88)):=Touch.of_below hb1
 clear hB hC hD hCR hr hp hpn hb1
 go_enter Tryz.func60,Tryz.ntmps60
 go_upto_region 1 with fail
 generalize w.alloc (.cells #[.slice a1 n1 c1,.slice a2 n2 c2,.slice a3 n3 c3,.slice a4 n4 c4] 88)=w1 at *
 have x0:=hX.cell 0
 have x1:=hX.cell 1
 go_wp2_with fail
 refine (reduce_c rc (HB.out.touch ht1 (fun k _ h=>by have:=HPN.out;omega) HH.out) (by have:=HH.out;have:=ht1.below.size;omega) HD.out HR.out hp1 (fun h=>by have:=HPN.out;omega) hW hDn).mono ?_
 rintro e w2 ⟨g2,rfl,-,-,hp2,ht2⟩
 have ht3:=ht1.trans ht2
 have hX2:=ht2.own hX (by omega)
 clear ht1 ht2 hX hp1 x0 x1
 have x2:=hX2.cell 2
 have x3:=hX2.cell 3
 go_wp2_with fail
 refine (reduce_c rc (HC.out.touch ht3 (fun k _ h=>by have:=HPN.out;omega) HH.out) (by have:=HH.out;have:=ht3.below.size;omega) HCR.out (byR_ok HR.out HD.out.ok) hp2 (fun h=>by have:=HPN.out;omega) hW hCn).mono ?_
 rintro e w4 ⟨g4,rfl,hg4,hG4,-,ht4⟩
 have ht5:=ht3.trans ht4
 clear ht3 ht4 hX2 hp2 x2 x3
 go_wp2_with fail
 go_ret
 exact ⟨g4,rfl,hG4.lt,hG4,ht5⟩
def OwnI (w:World) (lo hi:Nat) (a:Option Addr) (n:Nat) (V:List Int):Prop:=V.length=n∧(0<n→∃g,a=some ⟨g,0,none⟩∧lo≤g∧g<hi∧Own w g 2 ((V.map (Value.int .i64)).toArray))
section
variable {w w':World} {lo hi n:Nat} {a:Option Addr} {V:List Int}
theorem OwnI.none_:OwnI w lo hi none 0 []:=⟨rfl,fun h=>absurd h (by omega)⟩
theorem OwnI.keep (h:OwnI w lo hi a n V) (hb:Below w.heap.size w w'):OwnI w' lo hi a n V:=
 ⟨h.1,fun hn=>by obtain ⟨g,h1,h2,h3,h4⟩:=h.2 hn;exact ⟨g,h1,h2,h3,h4.keep hb h4.lt⟩⟩
theorem OwnI.ints (h:OwnI w lo hi a n V):Ints w a n V:=
 ⟨h.1,fun hn=>by
  obtain ⟨g,rfl,h2,h3,h4⟩:=h.2 hn
  exact (IntBlk.ints' (n:=n) h4 h.1).2 hn⟩
theorem OwnI.weaken {lo' hi':Nat} (h:OwnI w lo hi a n V) (h1:lo'≤lo) (h2:hi≤hi'):OwnI w lo' hi' a n V:=
 ⟨h.1,fun hn=>by obtain ⟨g,e,h3,h4,h5⟩:=h.2 hn;exact ⟨g,e,by omega,by omega,h5⟩⟩
theorem OwnI.block {gx : Nat} {tx : TypeId} {csx : Array Value} (h : OwnI w lo hi a n V) (hx : Own w gx tx csx) :
    ∃g t cs,Own w g t cs∧n≤cs.size∧(0<n→a=some ⟨g,0,none⟩)∧(g=gx∨(lo≤g∧g<hi)):=by
 by_cases hn:0<n
 · obtain ⟨g,e,h1,h2,h3⟩:=h.2 hn;exact ⟨g,_,_,h3,by have:=h.1;simp;omega,fun _=>e,Or.inr ⟨h1,h2⟩⟩
 · exact ⟨gx,tx,csx,hx,by omega,fun hh=>absurd hh hn,Or.inl rfl⟩
end
theorem IntBlk.set {w:World} {g i:Nat} {v:Int} {zs:List Int} (h:Own w g 2 ((zs.map (Value.int .i64)).toArray)):Own (w.setCell ⟨g,i,none⟩ (.int .i64 v)) g 2 (((zs.set i v).map (Value.int .i64)).toArray):=by
 have:=h.set i (.int .i64 v)
 rwa [show ((zs.map (Value.int .i64)).toArray).setIfInBounds i (.int .i64 v)=(((zs.set i v).map (Value.int .i64)).toArray) by simp [List.map_set]] at this
set_option maxHeartbeats 4000000 in
theorem ClassOf_c {w : World} {da : Option Addr} {dn : Nat} {zs : List Int} {a : Option Addr} {n : Nat} {ims : List (List Tm)} {a2 : Option Addr} {n2 : Nat} {fs : List Tm} (dc c c2 : Nat) (hd : Ints w da dn zs) (hdn : dn ≤ 1048576) (hF : Frms w a n ims) (hn : n ≤ 1048576) (hL : ∀ im ∈ ims, (im.length : Int) ≤ 1048576) (h : Terms w a2 n2 fs) (hn2 : n2 ≤ 1048576) :
    Calls Tryz.prog 17 #[.agg #[.slice da dn dc,.slice a n c],.agg #[.slice a2 n2 c2]] w fun e w'=>∃ra rn rc,e=.returned (.tuple #[.slice ra rn rc,.int .i64 (hoC true zs ims fs)])∧OwnI w' w.heap.size w'.heap.size ra rn (coV zs ims fs)∧Below w.heap.size w w':=by
 have HLL:=Lib.hid hL
 have HD:=Lib.hid hd
 have HF:=Lib.hid hF
 have HH:=Lib.hid h
 have HTM:=Lib.hid h.2.1
 have HT:=Lib.hid hF.tm
 have hO:=(Own.new w 35 #[.slice da dn dc,.slice a n c]).alloc (.cells #[.slice a2 n2 c2] 39)
 have hG:=Own.new (w.alloc (.cells #[.slice da dn dc,.slice a n c] 35)) 39 #[.slice a2 n2 c2]
 rw [sAl] at hG
 have hb:=bTn (bA1 w (.cells #[.slice da dn dc,.slice a n c] 35)) (bA1 _ (.cells #[.slice a2 n2 c2] 39))
 have c0:=hO.cell 0
 have c1:=hO.cell 1
 have cg:=hG.cell 0
 clear hL hd hF h
 go_enter Tryz.func17,Tryz.ntmps17
 go_upto_region 1 with fail
 generalize (w.alloc (.cells #[.slice da dn dc,.slice a n c] 35)).alloc (.cells #[.slice a2 n2 c2] 39)=w0 at *
 go_wp2_with fail
 refine (IsClosed_c dc c c2 (HD.out.keep hb) hdn (HF.out.keep hb) hn HLL.out (HH.out.keep hb) hn2).mono ?_
 rintro e w1 ⟨rfl,hbX⟩
 have hs:=hb.size
 replace hO:=hO.keep hbX hO.lt
 replace hG:=hG.keep hbX hG.lt
 replace hb:=bT' hb hbX hs
 replace hs:=hb.size
 clear hbX c0 c1 cg
 cases hal:algF zs ims fs with
 | false =>
   have HC:=Lib.hid (hoC_1 (cl:=true) (zs:=zs) (ims:=ims) (ts:=fs) hal);rw [(algE_no hal).1,(algE_no hal).2.1];clear hal;go_wp2_with fail
   go_ret2
   exact ⟨none,0,0,by rw [HC.out];rfl,by rw [coV_no (by rw [HC.out];omega)];exact ⟨rfl,fun h=>absurd h (by omega)⟩,hb⟩
 | true =>
   rw [(algE_yes hal).1,(algE_yes hal).2.1];have HAF:=Lib.hid hal;clear hal
   cases hcl:closedB zs ims fs with
   | false =>
     have HC:Hid (hoC true zs ims fs=5):=Lib.hid (by
      by_cases hw:allW zs fs=true
      · exact hoC_5 HAF.out (by rw [hw,hcl];rfl)
      · exact hoC_5 HAF.out (by simp [hw]))
     clear hcl;go_wp2_with fail
     go_ret2
     exact ⟨none,0,0,by rw [HC.out];rfl,by rw [coV_no (by rw [HC.out];omega)];exact ⟨rfl,fun h=>absurd h (by omega)⟩,hb⟩
   | true =>
     have HTF:=Lib.hid (hoC_tf hcl);clear hcl;have c0:=hO.cell 0;have c1:=hO.cell 1;have cg:=hG.cell 0;go_wp2_with fail
     refine (askedDegreeOf_c dc c c2 (HD.out.keep hb) hdn (HF.out.keep hb) hn HLL.out (HH.out.keep hb) hn2).mono ?_;rintro e w2 ⟨rfl,hbX⟩;replace hO:=hO.keep hbX hO.lt;replace hG:=hG.keep hbX hG.lt;replace hb:=bT' hb hbX hs;replace hs:=hb.size;clear hbX c0 c1 cg;by_cases hc0:hoC false zs ims fs=0
     rotate_left
     · have hcb:(hoC false zs ims fs != 0)=true:=(by simpa using hc0);rw [hoN_no hc0];have HC:=Lib.hid hc0;obtain ⟨q,hq⟩:∃q,hoC false zs ims fs=q:=⟨_,rfl⟩;rw [hq] at hcb hc0 ⊢;have HQ:=Lib.hid hq;clear hq;go_wp2_with fail
       go_ret2
       exact ⟨none,0,0,by rw [HTF.out,HQ.out];rfl,by rw [coV_no (by rw [HTF.out];exact HC.out)];exact ⟨rfl,fun h=>absurd h (by omega)⟩,hb⟩
     rw [hoN_yes hc0];obtain ⟨v,hv⟩:∃v,headW zs fs=v:=⟨_,rfl⟩;obtain ⟨hA,hf,hcase⟩:=ho_facts hc0 HTM.out;have hz:=isAlg_dg hA;have HAO:=isAlg_ok hA HT.out;have h0t:hoC true zs ims fs=0:=by rw [HTF.out,hc0]
     obtain ⟨W, V, D, C, HCO, HCL, hW, hOrd, hmem, hDR, hCR, hVl, hDl, hCl, hco⟩ : ∃ (W : Nat) (V D C : List (List Int)),
         Hid (∀w',Below w.heap.size w w'→Calls Tryz.prog 59 #[.agg #[.slice da dn dc,.slice a n c],.int .i64 v] w' fun e w''=>∃a1 n1 c1 a2 n2 c2 a3 n3 c3 a4 n4 c4,e=.returned (.agg #[.slice a1 n1 c1,.slice a2 n2 c2,.slice a3 n3 c3,.slice a4 n4 c4])∧BasV w'' w'.heap.size w''.heap.size (.agg #[.slice a1 n1 c1,.slice a2 n2 c2]) W D∧BasV w'' w'.heap.size w''.heap.size (.agg #[.slice a3 n3 c3,.slice a4 n4 c4]) W C∧Below w'.heap.size w' w'') ∧
         Hid (∀w',Below w.heap.size w w'→Calls Tryz.prog 61 #[.agg #[.slice da dn dc,.slice a n c],.int .i64 v] w' fun e w''=>∃ra rc,e=.returned (.slice ra W rc)∧Mos w'' ra W V∧Below w'.heap.size w' w'') ∧
         W≤120∧Ord V∧(∀t∈fs,t.m∈V)∧RedI W D∧RedI W C∧V.length=W∧D.length≤120∧C.length≤120∧coV zs ims fs=facR (byR (rowT V fs) D) C:=by
      rcases hcase with ⟨h1,h2,h3⟩ | ⟨m,h2,h3,h4,h5,h6,h7⟩
      · obtain rfl:v=-1:=(by omega);exact ⟨0,[],[],[],Lib.hid (fun w' hb'=>cohomologyN_c dc c (HD.out.keep hb') hdn hz h3),Lib.hid (fun w' hb'=>columnsN_c dc c (HD.out.keep hb') hdn hz (by omega)),by omega,List.Pairwise.nil,by rw [h1];simp,RedI.nil 0,RedI.nil 0,rfl,by simp,by simp,by rw [coV_neg (by omega)];rfl⟩
      · obtain rfl:v=(m:Int):=(by omega);have g1:=bdR_len zs ims m;have g2:=nbR_lt (zs:=zs) h6;have g3:=csR_len zs ims m;exact ⟨cnt zs m,side zs m,bdR zs ims m,csR zs ims m,Lib.hid (fun w' hb'=>cohomologyOf_c dc c (HD.out.keep hb') hdn (HF.out.keep hb') HAO hA hz h3 h4 h5 h6),Lib.hid (fun w' hb'=>columnsOf_m dc c (HD.out.keep hb') hdn hz (by omega) h4),h4,ext_ord _ _,h7,bdR_red HAO hz m,csR_red HAO hz m,side_len zs m,by omega,by omega,coV_yes h0t h2⟩
     have HR0:Hid (RowOk W (rowT V fs)):=Lib.hid (by have:=rowT_ok (V:=V) (isForm_f hf);rwa [hVl] at this);have HSR:=Lib.hid (isForm_srt hf);have HORD:=Lib.hid hOrd;have HMEM:=Lib.hid hmem;have HDR:=Lib.hid hDR;have HCR:=Lib.hid hCR;have HCOV:=Lib.hid hco;have H0T:=Lib.hid h0t;rw [hc0,hv];clear hcase hz HAO hA hf hOrd hmem hDR hCR hco h0t hc0 hv hVl;have c0:=hO.cell 0;have c1:=hO.cell 1;have cg:=hG.cell 0;go_upto_region 9 with fail
     clear c0 c1 cg;replace hO:Own w2.drew w.heap.size 35 #[.slice da dn dc,.slice a n c]:=hO;replace hG:Own w2.drew (w.heap.size+1) 39 #[.slice a2 n2 c2]:=hG;replace hb:Below w.heap.size w w2.drew:=hb.drew;replace hs:=hb.size;refine wp_region_held_drew (S:=(fun w'=>w'.cell? ⟨w.heap.size,0,none⟩=some (.slice da dn dc)∧w'.cell? ⟨w.heap.size,1,none⟩=some (.slice a n c)∧w'.cell? ⟨w.heap.size+1,0,none⟩=some (.slice a2 n2 c2))) (by kernel_rfl) ?_ (fun _=>?_)
     · ((try dsimp only);(exact ⟨hO.cell 0,hO.cell 1,hG.cell 0⟩))
     generalize w2.drew=W0 at *;refine hdT 0 ?_;refine hdT 1 ?_;refine hdT 3 ?_;refine hdT 4 ?_;refine hdT 6 ?_;refine hdC 2 (fun K hK=>?_)
     (go_simp;(go_at_call 59;refine (HCO.out _ hb).mono ?_;rintro e W1 ⟨a1,n1,c1,a2',n2',c2',a3,n3,c3,a4,n4,c4,rfl,hBD,hBC,hbX⟩);go_wp2_with fail)
     replace hO:=hO.keep hbX hO.lt;replace hG:=hG.keep hbX hG.lt;replace hb:=bT' hb hbX hs;replace hs:=hb.size;replace hBD:=hBD.weaken (lo':=0) (Nat.zero_le _) (Nat.le_refl _);replace hBC:=hBC.weaken (lo':=0) (Nat.zero_le _) (Nat.le_refl _);have hhi:W1.heap.size≤W1.heap.size:=Nat.le_refl _;obtain ⟨hi,hhe⟩:∃hi,W1.heap.size=hi:=⟨_,rfl⟩;rw [hhe] at hBD hBC;have hhi2:hi≤W1.heap.size:=Nat.le_of_eq hhe.symm;clear hbX hhi hhe;refine hK.out _ _ ?_ (fun _=>?_)
     · ((try dsimp only);(exact ⟨hO.cell 0,hO.cell 1,hG.cell 0⟩))
     clear hK K
     (try simp only [Act.put,pA,pB,pC])
     refine hdC 5 (fun K hK=>?_)
     (go_simp;(go_at_call 61;refine (HCL.out _ hb).mono ?_;rintro e W2 ⟨ra,rc,rfl,hM,hbX⟩);go_wp2_with fail)
     replace hBD:=hBD.keep hbX hhi2;replace hBC:=hBC.keep hbX hhi2;replace hhi2:=Nat.le_trans hhi2 hbX.size;replace hO:=hO.keep hbX hO.lt;replace hG:=hG.keep hbX hG.lt;replace hb:=bT' hb hbX hs;replace hs:=hb.size;clear hbX;refine hK.out _ _ ?_ (fun _=>?_)
     · ((try dsimp only);(exact ⟨hO.cell 0,hO.cell 1,hG.cell 0⟩))
     clear hK K
     (try simp only [Act.put,pA,pB,pC])
     refine hdC 7 (fun K hK=>?_)
     (go_simp;(go_at_call 62;refine (rowC_c rc c2 hM HORD.out (by omega) (HH.out.keep hb) hn2 HSR.out HMEM.out).mono ?_;rintro e W3 ⟨gr,rfl,hgr,hR,hbX⟩);go_wp2_with fail)
     have hig:=Nat.le_trans hhi2 hgr;have hwg:=Nat.le_trans hs hgr;have hG1:w.heap.size+1<gr:=(by have:=hG.lt;omega);replace hBD:=hBD.keep hbX hhi2;replace hBC:=hBC.keep hbX hhi2;replace hhi2:=Nat.le_trans hhi2 hbX.size;replace hO:=hO.keep hbX hO.lt;replace hG:=hG.keep hbX hG.lt;replace hb:=bT' hb hbX hs;replace hs:=hb.size;clear hbX hM hgr;refine hK.out _ _ ?_ (fun _=>?_)
     · ((try dsimp only);(exact ⟨hO.cell 0,hO.cell 1,hG.cell 0⟩))
     clear hK K
     (try simp only [Act.put,pA,pB,pC])
     refine hdC 8 (fun K hK=>?_)
     (go_simp;(go_at_call 60;refine (classOf_c W hBD hBC hhi2 HDR.out HCR.out HR0.out (RowAt.of_own hR) hig (by omega) (by omega) (by omega)).mono ?_;rintro e W4 ⟨g4,rfl,hg4,hG4,ht⟩);go_wp2_with fail)
     replace hO:=ht.own hO (by omega);replace hG:=ht.own hG (by omega);replace hb:=hb.trans (ht.bel3 hwg hs);replace hs:=hb.size;clear hBD hBC hR ht hhi2 hig;refine hK.out _ _ ?_ (fun _=>?_)
     · ((try dsimp only);(exact ⟨hO.cell 0,hO.cell 1,hG.cell 0⟩))
     clear hK K
     (try simp only [Act.put,pA,pB,pC])
     refine hdC 9 (fun K hK=>?_)
     (go_simp;(go_at_call 63;refine (integers_c (off:=0) C.length (facR_len _ _) (by omega) hg4 (fun i x hx=>by rw [Nat.zero_add,hG4.cell i,ofI_get hx])).mono ?_;rintro e W5 ⟨g5,rfl,hg5,hG5,hbX⟩);go_wp2_with fail)
     have hsg:=Nat.le_trans hs hg5;replace hO:=hO.keep hbX hO.lt;replace hG:=hG.keep hbX hG.lt;replace hb:=bT' hb hbX hs;replace hs:=hb.size;clear hbX hG4 hg4;refine hK.out _ _ ?_ (fun _=>?_)
     · ((try dsimp only);(exact ⟨hO.cell 0,hO.cell 1,hG.cell 0⟩))
     clear hK K
     (try simp only [Act.put,pA,pB,pC])
     refine hdT 10 ?_;refine hdT 11 ?_;refine wpAnyH_done (by kernel_rfl) ?_ _;go_wp2_with fail
     go_ret2
     refine ⟨some ⟨g5,0,none⟩,C.length,C.length,by rw [H0T.out];rfl,?_,hb⟩;rw [HCOV.out];exact ⟨facR_len _ _,fun _=>⟨g5,rfl,hsg,hG5.lt,hG5⟩⟩
end Go.Proofs.YtifcfoijcodjbaaGreat
