
import Derived.Test.YtifcfoijcodjbaaGreatPriF
import Derived.Test.YtifcfoijcodjbaaGreatAskC
import Derived.Test.YtifcfoijcodjbaaGreatTabOf
import Derived.Test.YtifcfoijcodjbaaGreatDiffD
import Derived.Test.YtifcfoijcodjbaaGreatIsFormB
namespace Go.Proofs.YtifcfoijcodjbaaGreat
set_option maxRecDepth 100000
open Go.RowKit Go.Deep
set_option maxHeartbeats 4000000 in
theorem PrimitiveOf_c {w : World} {da : Option Addr} {dn : Nat} {zs : List Int} {a : Option Addr} {n : Nat} {ims : List (List Tm)} {a2 : Option Addr} {n2 : Nat} {fs : List Tm} (dc c c2 : Nat) (hd : Ints w da dn zs) (hdn : dn ≤ 1048576) (hF : Frms w a n ims) (hn : n ≤ 1048576) (hL : ∀ im ∈ ims, (im.length : Int) ≤ 1048576) (h : Terms w a2 n2 fs) (hn2 : n2 ≤ 1048576) :
    Calls Tryz.prog 26 #[.agg #[.slice da dn dc,.slice a n c],.agg #[.slice a2 n2 c2]] w fun e w'=>∃v,e=.returned (.tuple #[.agg #[v],.int .i64 (poC zs ims fs)])∧OwnR w' w.heap.size v (pmV zs ims fs)∧Below w.heap.size w w':=by
 have HLL:=Lib.hid hL
 have HD:=Lib.hid hd
 have HF:=Lib.hid hF
 have HH:=Lib.hid h
 have HTM:=Lib.hid h.2.1
 have HT:=Lib.hid hF.tm
 have hO:=((Own.new w 35 #[.slice da dn dc,.slice a n c]).alloc (.cells #[.slice a2 n2 c2] 39)).alloc (.cells #[.slice none 0 0] 39)
 have hG:=(Own.new (w.alloc (.cells #[.slice da dn dc,.slice a n c] 35)) 39 #[.slice a2 n2 c2]).alloc (.cells #[.slice none 0 0] 39)
 have hX:=Own.new ((w.alloc (.cells #[.slice da dn dc,.slice a n c] 35)).alloc (.cells #[.slice a2 n2 c2] 39)) 39 #[.slice none 0 0]
 simp only [sAl] at hG hX
 have hb:=bTn (bTn (bA1 w (.cells #[.slice da dn dc,.slice a n c] 35)) (bA1 _ (.cells #[.slice a2 n2 c2] 39))) (bA1 _ (.cells #[.slice none 0 0] 39))
 have c0:=hO.cell 0
 have c1:=hO.cell 1
 have cg:=hG.cell 0
 clear hL hd hF h
 go_enter Tryz.func26,Tryz.ntmps26
 go_upto_region 1 with fail
 generalize ((w.alloc (.cells #[.slice da dn dc,.slice a n c] 35)).alloc (.cells #[.slice a2 n2 c2] 39)).alloc (.cells #[.slice none 0 0] 39)=w0 at *
 obtain ⟨gX,hgX⟩:∃gX,w.heap.size+1+1=gX:=⟨_,rfl⟩
 rw [hgX] at hX
 try rw [hgX]
 have hgx1:w.heap.size≤gX:=by omega
 have hgx2:w.heap.size+1<gX:=by omega
 clear hgX
 go_wp2_with fail
 refine (askedDegreeOf_c dc c c2 (HD.out.keep hb) hdn (HF.out.keep hb) hn HLL.out (HH.out.keep hb) hn2).mono ?_
 rintro e w2 ⟨rfl,hbX⟩
 have hs:=hb.size
 replace hO:=hO.keep hbX hO.lt
 replace hG:=hG.keep hbX hG.lt
 replace hX:=hX.keep hbX hX.lt
 replace hb:=bT' hb hbX hs
 replace hs:=hb.size
 clear hbX c0 c1 cg
 by_cases hc0:hoC false zs ims fs=0
 rotate_left
 · have hcb:(hoC false zs ims fs != 0)=true:=(by simpa using hc0);rw [hoN_no hc0];have HP:=Lib.hid (poC_no hc0);obtain ⟨q,hq⟩:∃q,hoC false zs ims fs=q:=⟨_,rfl⟩;rw [hq] at hcb hc0 ⊢;have HQ:=Lib.hid hq;clear hq;have cR:=hX.cell 0;have fR:=hX.frozen 0;go_wp2_with fail
   have q4:=hX.set 0 (.slice none 0 0);refine bodyPost_ret (results_row2 rfl _ _ gX 39 #[.slice none 0 0] (0,0) _ rfl q4 Tryz.underlying39 rfl Tryz.info_form) rfl ⟨.slice none 0 0,by rw [HP.out.1,HQ.out];rfl,?_,hb.setCell (p:=⟨gX,0,none⟩) (by dsimp only;omega) _⟩;rw [HP.out.2];exact World.ownsRow_nil _ _ _ _
 rw [hoN_yes hc0]
 obtain ⟨v,hv⟩:∃v,headW zs fs=v:=⟨_,rfl⟩
 obtain ⟨hA,hf,hcase⟩:=ho_facts hc0 HTM.out
 have hz:=isAlg_dg hA
 have HAO:=isAlg_ok hA HT.out
 obtain ⟨W, N, V, V0, L, HSP, HC0, HC1, hW, hN, hOrd, hmem, hLR, hVl, hV0l, hDl, hvl, hpz, hpm⟩ : ∃ (W N : Nat) (V V0 L : List (List Int)),
     Hid (∀w',Below w.heap.size w w'→Calls Tryz.prog 118 #[.agg #[.slice da dn dc,.slice a n c],.int .i64 (v - 1)] w' fun e w''=>∃x,e=.returned x∧SplitV w'' w'.heap.size x W N L∧Below w'.heap.size w' w'') ∧
     Hid (∀w',Below w.heap.size w w'→Calls Tryz.prog 61 #[.agg #[.slice da dn dc,.slice a n c],.int .i64 (v - 1)] w' fun e w''=>∃ra rc,e=.returned (.slice ra N rc)∧OwnM w'' w'.heap.size w''.heap.size ra N V0∧Below w'.heap.size w' w'') ∧
     Hid (∀w',Below w.heap.size w w'→Calls Tryz.prog 61 #[.agg #[.slice da dn dc,.slice a n c],.int .i64 v] w' fun e w''=>∃ra rc,e=.returned (.slice ra W rc)∧OwnM w'' w'.heap.size w''.heap.size ra W V∧Below w'.heap.size w' w'') ∧
     W≤120∧N≤120∧Ord V∧(∀t∈fs,t.m∈V)∧RedI (W+N) L∧V.length=W∧V0.length=N∧(bndR W L).length≤120∧(-1≤v∧v≤20)∧pzB zs ims fs=zeroR (byR (rowT V fs) (bndR W L))∧pmR zs ims fs (headW zs fs).toNat=fmR V0 (sumTo N (facR (rowT V fs) (bndR W L)) (priR W L) (bndR W L).length):=by
  have hcol:∀(x:Int) (N:Nat) (V0:List (List Int)),moV zs x=V0→V0.length=N→∀w',Below w.heap.size w w'→Calls Tryz.prog 61 #[.agg #[.slice da dn dc,.slice a n c],.int .i64 x] w' fun e w''=>∃ra rc,e=.returned (.slice ra N rc)∧OwnM w'' w'.heap.size w''.heap.size ra N V0∧Below w'.heap.size w' w'':=fun x N V0 h1 h2 w' hb'=>by
   refine (columnsOf_c dc c (HD.out.keep hb') hdn).mono ?_;rintro e w'' ⟨ra,rn,rc,rfl,hM,hb2⟩;rw [h1] at hM;obtain rfl:N=rn:=(by rw [←hM.1,h2]);exact ⟨ra,rc,rfl,hM,hb2⟩
  rcases hcase with ⟨h1,h2,h3⟩ | ⟨m,h2,h3,h4,h5,h6,h7⟩
  · obtain rfl:v=-1:=(by omega);exact ⟨0,0,[],[],[],Lib.hid (fun w' hb'=>splitByDM_c dc c (HD.out.keep hb') hdn hz),Lib.hid (hcol _ _ _ (mo_err (mo_2 hz (by omega)) (by omega)).2 rfl),Lib.hid (hcol _ _ _ (mo_err (mo_2 hz (by omega)) (by omega)).2 rfl),by omega,by omega,List.Pairwise.nil,by rw [h1];simp,RedI.nil _,rfl,rfl,by simp [bndR],by omega,by rw [pzB,hv,decide_eq_true (by omega),Bool.or_true];rfl,by rw [hv];rfl⟩
  · obtain rfl:v=(m:Int):=(by omega);have g2:=nbR_lt (zs:=zs) h6;have g1:=bdR_len zs ims m
    have hlo:moV zs ((m:Int) - 1)=loS zs m:=by
     rw [loS];split
     · rename_i h0;subst h0;exact (mo_err (mo_2 hz (by omega)) (by omega)).2
     · rename_i h0;have:=moV_side (n:=m - 1) hz (by omega) (by have:=h6 h0;omega)
       rwa [show ((m - 1:Nat):Int)=(m:Int) - 1 by omega] at this
    exact ⟨cnt zs m,nbR zs m,side zs m,loS zs m,lgR zs ims m,Lib.hid (fun w' hb'=>splitLow_c dc c (HD.out.keep hb') hdn (HF.out.keep hb') HAO hA hz h3 h4 h6 rfl),Lib.hid (hcol _ _ _ hlo (loS_len zs m)),Lib.hid (hcol _ _ _ (moV_side (n:=m) hz (by omega) (by omega)) (side_len zs m)),h4,g2,ext_ord _ _,h7,lgR_red HAO hz m,side_len zs m,loS_len zs m,by rw [bndR_lg HAO hz];omega,by omega,by rw [pzB,hv,decide_eq_false (by omega),Bool.or_false,Int.toNat_natCast,bndR_lg HAO hz],by rw [hv,Int.toNat_natCast,pmR,←priR_len,bndR_lg HAO hz]⟩
 have HR0:Hid (RowOk W (rowT V fs)):=Lib.hid (by have:=rowT_ok (V:=V) (isForm_f hf);rwa [hVl] at this)
 have HSR:=Lib.hid (isForm_srt hf)
 have HORD:=Lib.hid hOrd
 have HMEM:=Lib.hid hmem
 have HBR:=Lib.hid (bndR_red hLR)
 have HPO:=Lib.hid (priR_ok (N:=N) hLR.ok)
 have HPL:=Lib.hid (priR_len W L)
 have HV0:=Lib.hid hV0l
 have HPM:=Lib.hid hpm
 have HPZ:=Lib.hid hpz
 have HC0':=Lib.hid hc0
 have hwv:IntKind.i64.wrap (v - 1)=v - 1:=IntWalk.i64_in _ (by omega)
 rw [hc0,hv]
 obtain ⟨D,hD⟩:∃D,bndR W L=D:=⟨_,rfl⟩
 obtain ⟨P,hP⟩:∃P,priR W L=P:=⟨_,rfl⟩
 rw [hD] at HBR HPL HPM HPZ hDl
 rw [hP] at HPO HPL HPM
 obtain ⟨r0,hr0⟩:∃r0,rowT V fs=r0:=⟨_,rfl⟩
 have HRE:=Lib.hid hr0
 rw [hr0] at HPM HPZ HR0
 obtain ⟨K0,hK0⟩:∃K0,D.length=K0:=⟨_,rfl⟩
 rw [hK0] at hDl HPL HPM
 have HKE:=Lib.hid hK0
 have HDE:=Lib.hid hD
 have HPE:=Lib.hid hP
 have hv0:=hvl.1
 have hv1:=hvl.2
 clear hcase hz HAO hA hf hOrd hmem hLR hpm hpz hc0 hv hVl hV0l hD hP hvl hr0 hK0
 obtain ⟨z,hz⟩:∃z,zeroR (byR r0 D)=z:=⟨_,rfl⟩
 rw [hz] at HPZ
 obtain ⟨F,hFe⟩:∃F,(if z=true then fmR V0 (sumTo N (facR r0 D) P K0) else [])=F:=⟨_,rfl⟩
 have HF1:Hid (z=true→F=fmR V0 (sumTo N (facR r0 D) P D.length)):=Lib.hid (fun e=>by rw [←hFe,if_pos e,HKE.out])
 have HF0:Hid (z=false→F=[]):=Lib.hid (fun e=>by rw [←hFe,if_neg (by simp [e])])
 have HZZ:=Lib.hid hz
 have HCP:Hid (poC zs ims fs=(if z=true then 0 else 4)∧pmV zs ims fs=F):=Lib.hid (by
  cases z with
  | false=>have q:=poC_4 HC0'.out HPZ.out;exact ⟨q.1,q.2.trans (HF0.out rfl).symm⟩
  | true=>have q:=poC_0 HC0'.out HPZ.out;exact ⟨q.1,by rw [q.2,HPM.out,HF1.out rfl,HKE.out]⟩)
 clear hFe hz
 have c0:=hO.cell 0
 have c1:=hO.cell 1
 go_wp2_with fail
 clear c0 c1
 refine (primitivesIn_c (dc:=dc) (c:=c) (L:=L) (fun w' hb'=>HSP.out w' (bT' hb hb' hs)) (fun w' hb'=>HC0.out w' (bT' hb hb' hs)) (fun w' hb'=>HC1.out w' (bT' hb hb' hs)) ⟨hv0,hv1⟩).mono ?_
 rintro e w3 ⟨x,rfl,hPf,hbX⟩
 rw [HDE.out,HPE.out] at hPf
 obtain ⟨lo,hlo⟩:∃lo,w2.heap.size=lo:=⟨_,rfl⟩
 obtain ⟨hi,hhi⟩:∃hi,w3.heap.size=hi:=⟨_,rfl⟩
 rw [hlo,hhi] at hPf
 have hlh:lo≤hi:=by have:=hbX.size;omega
 have hGl:w.heap.size+1<lo:=by have:=hG.lt;omega
 have hXl:gX<lo:=by have:=hX.lt;omega
 replace hG:=hG.keep hbX hG.lt
 replace hX:=hX.keep hbX hX.lt
 replace hb:=bT' hb hbX hs
 replace hs:=hb.size
 clear hbX hlo hO
 obtain ⟨s1,m1,d1,s2,m2,d2,s3,m3,d3,s4,m4,d4,s5,m5,d5,ra,rc,ya,yc,hxe,-,-,-,-⟩:=id hPf
 subst hxe
 have hS:=Own.new w3 103 #[.slice s1 m1 d1,.slice s2 m2 d2,.slice s3 m3 d3,.slice s4 m4 d4,.slice s5 m5 d5,.slice ra N rc,.slice ya W yc]
 have hbX:=bA1 w3 (.cells #[.slice s1 m1 d1,.slice s2 m2 d2,.slice s3 m3 d3,.slice s4 m4 d4,.slice s5 m5 d5,.slice ra N rc,.slice ya W yc] 103)
 replace hG:=hG.keep hbX hG.lt
 replace hX:=hX.keep hbX hX.lt
 replace hb:=bT' hb hbX hs
 replace hs:=hb.size
 replace hPf:=hPf.keep hbX (Nat.le_of_eq hhi.symm)
 have hh:=Nat.le_trans (Nat.le_of_eq hhi.symm) hbX.size
 clear hbX
 go_upto_region 5 with fail
 generalize w3.alloc (.cells #[.slice s1 m1 d1,.slice s2 m2 d2,.slice s3 m3 d3,.slice s4 m4 d4,.slice s5 m5 d5,.slice ra N rc,.slice ya W yc] 103)=w5 at *
 obtain ⟨gS,hgS⟩:∃g,w3.heap.size=g:=⟨_,rfl⟩
 rw [hgS] at hS hhi
 try rw [hgS]
 clear hgS
 subst hhi
 go_cut [9,10] (fun p q wr=>∃(gN B:Nat) (va:Option Addr) (vn vc:Nat),p=.pointer (some ⟨gN,0,none⟩)∧q=.bool z∧Own wr gN 39 #[.slice va vn vc]∧OwnR wr B (.slice va vn vc) F∧Own wr gX 39 #[.slice none 0 0]∧Below w.heap.size w wr∧gX<B∧w.heap.size≤B)
 case first=>
  replace hG:Own w5.drew (w.heap.size+1) 39 #[.slice a2 n2 c2]:=hG;replace hX:Own w5.drew gX 39 #[.slice none 0 0]:=hX;replace hS:Own w5.drew gS 103 #[.slice s1 m1 d1,.slice s2 m2 d2,.slice s3 m3 d3,.slice s4 m4 d4,.slice s5 m5 d5,.slice ra N rc,.slice ya W yc]:=hS;replace hPf:=hPf.keep (Below.refl w5.heap.size w5).drew hh;replace hh:gS≤w5.drew.heap.size:=hh;replace hb:Below w.heap.size w w5.drew:=hb.drew;replace hs:=hb.size;refine wp_region_held_drew (S:=(fun w'=>w'.cell? ⟨gS,0,none⟩=some (.slice s1 m1 d1)∧w'.cell? ⟨gS,1,none⟩=some (.slice s2 m2 d2)∧w'.cell? ⟨gS,2,none⟩=some (.slice s3 m3 d3)∧w'.cell? ⟨gS,3,none⟩=some (.slice s4 m4 d4)∧w'.cell? ⟨gS,4,none⟩=some (.slice s5 m5 d5)∧w'.cell? ⟨gS,5,none⟩=some (.slice ra N rc)∧w'.cell? ⟨gS,6,none⟩=some (.slice ya W yc)∧w'.cell? ⟨w.heap.size+1,0,none⟩=some (.slice a2 n2 c2))) (by kernel_rfl) ?_ (fun _=>?_)
  · ((try dsimp only);(exact ⟨hS.cell 0,hS.cell 1,hS.cell 2,hS.cell 3,hS.cell 4,hS.cell 5,hS.cell 6,hG.cell 0⟩))
  generalize w5.drew=W0 at *;refine hdT 0 ?_;refine hdT 1 ?_;refine hdT 2 ?_;refine hdT 3 ?_;have hN':=hN;clear hN;refine wpAnyH_ready (rs:=[4,9]) (by kernel_rfl) (by simp) ?_;refine AllReadyH.cons (hdAt (i:=4) rfl) (fun K hK=>?_) (AllReadyH.cons (hdAt (i:=9) rfl) (fun K hK=>?_) AllReadyH.nil)
  · have hM1:Mos W0 ya W V:=hPf.mos7
    (go_simp;(go_at_call 62;refine (rowC_c yc c2 hM1 HORD.out (by omega) (HH.out.keep hb) hn2 HSR.out HMEM.out).mono ?_;rintro e W1 ⟨gr,rfl,hgr,hR,hbX⟩);go_wp2_with fail)
    rw [HRE.out] at hR;clear hM1;have hSr:¬gS=gr:=(by have:=hS.lt;omega);have hXr:¬gX=gr:=(by have:=hX.lt;omega);have hGr:¬w.heap.size+1=gr:=(by have:=hG.lt;omega);have hwr:w.heap.size≤gr:=Nat.le_trans hs hgr;have hir:gS≤gr:=Nat.le_trans hh hgr;replace hPf:=hPf.keep hbX hh;replace hG:=hG.keep hbX hG.lt;replace hX:=hX.keep hbX hX.lt;replace hS:=hS.keep hbX hS.lt;replace hh:=Nat.le_trans hh hbX.size;replace hb:=bT' hb hbX hs;replace hs:=hb.size;clear hbX hgr;refine hK.out _ _ ?_ (fun _=>?_)
    · ((try dsimp only);(exact ⟨hS.cell 0,hS.cell 1,hS.cell 2,hS.cell 3,hS.cell 4,hS.cell 5,hS.cell 6,hG.cell 0⟩))
    clear hK K
    (try simp only [Act.put,pA,pB,pC])
    refine wpAnyH_ready (rs:=[5,9]) (by kernel_rfl) (by simp) ?_;refine AllReadyH.cons (hdAt (i:=5) rfl) (fun K hK=>?_) (AllReadyH.cons (hdAt (i:=9) rfl) (fun K hK=>?_) AllReadyH.nil)
    · (go_simp;(go_at_call 68;refine (find_c W hPf hh HBR.out HPO.out (by rw [HPL.out,HKE.out]) (by rw [HKE.out];exact hDl) hN' hW HR0.out (RowAt.of_own hR) (by omega) HZZ.out HF1.out HF0.out).mono ?_;rintro e W2 ⟨u,rfl,hU,ht⟩);go_wp2_with fail)
      obtain ⟨va,vn,vc,rfl⟩:=hU.isSlice;have hBX:gX<W1.heap.size:=hX.lt;have hBw:w.heap.size≤W1.heap.size:=hs;replace hb:=hb.trans (ht.bel3 hwr hs);replace hS:=ht.own hS hSr;replace hX:=ht.own hX hXr;replace hG:=ht.own hG hGr;replace hh:=Nat.le_trans hh ht.below.size;replace hs:=hb.size;clear ht hPf hR;refine hK.out _ _ ?_ (fun _=>?_)
      · ((try dsimp only);(exact ⟨hS.cell 0,hS.cell 1,hS.cell 2,hS.cell 3,hS.cell 4,hS.cell 5,hS.cell 6,hG.cell 0⟩))
      clear hK K
      (try simp only [Act.put,pA,pB,pC])
      refine hdT 6 ?_;refine hdT 7 ?_;refine hdT 8 ?_;refine hdC 9 (fun K hK=>?_)
      (go_simp;try go_wp2_with fail)
      have hbX:=bA1 W2 (.cells #[.slice none 0 0] 39);have hN:=Own.new W2 39 #[.slice none 0 0];have hwN:w.heap.size≤W2.heap.size:=hs;have hNX:¬gX=W2.heap.size:=Nat.ne_of_lt hX.lt;have hNG:¬w.heap.size+1=W2.heap.size:=Nat.ne_of_lt hG.lt;have hNS:¬gS=W2.heap.size:=Nat.ne_of_lt hS.lt;have hbN:=hbX;have hgl:W2.heap.size≤W2.heap.size:=Nat.le_refl _;replace hG:=hG.keep hbX hG.lt;replace hX:=hX.keep hbX hX.lt;replace hS:=hS.keep hbX hS.lt;replace hh:=Nat.le_trans hh hbX.size;replace hb:=bT' hb hbX hs;replace hs:=hb.size;clear hbX;generalize W2.alloc (.cells #[.slice none 0 0] 39)=W3 at *;obtain ⟨gN,hgN⟩:∃x,W2.heap.size=x:=⟨_,rfl⟩;rw [hgN] at hN hwN hNX hNG hNS
      try rw [hgN]
      refine hK.out _ _ ?_ (fun _=>?_)
      · ((try dsimp only);(exact ⟨hS.cell 0,hS.cell 1,hS.cell 2,hS.cell 3,hS.cell 4,hS.cell 5,hS.cell 6,hG.cell 0⟩))
      clear hK K
      (try simp only [Act.put,pA,pB,pC])
      refine hdC 10 (fun K hK=>?_);have cN:=hN.cell 0;have fN:=hN.frozen 0
      (go_simp;go_wp2_with fail)
      clear cN fN;replace hU:=hU.keep (hbN.setCell (p:=⟨gN,0,none⟩) (by dsimp only;omega) (.slice va vn vc));have ht:=Touch.of_only ((Only.refl gN W3).set 0 (.slice va vn vc));replace hN:=hN.set 0 (.slice va vn vc);replace hb:=hb.trans (ht.bel3 (by omega) hs);replace hS:=ht.own hS (by omega);replace hX:=ht.own hX (by omega);replace hG:=ht.own hG (by omega);clear ht;generalize W3.setCell ⟨gN,0,none⟩ (.slice va vn vc)=W9 at *;refine hK.out _ _ ?_ (fun _=>?_)
      · ((try dsimp only);(exact ⟨hS.cell 0,hS.cell 1,hS.cell 2,hS.cell 3,hS.cell 4,hS.cell 5,hS.cell 6,hG.cell 0⟩))
      clear hK K
      (try simp only [Act.put,pA,pB,pC])
      refine hdT 11 ?_;refine wpAnyH_done (by kernel_rfl) ?_ _;go_wp2_with fail
      go_meet
      exact ⟨gN,_,va,vn,vc,rfl,rfl,hN,hU,hX,hb,hBX,hBw⟩
    · (go_simp;try go_wp2_with fail)
      have hbX:=bA1 W1 (.cells #[.slice none 0 0] 39);have hN:=Own.new W1 39 #[.slice none 0 0];have hwN:w.heap.size≤W1.heap.size:=hs;have hNX:¬gX=W1.heap.size:=Nat.ne_of_lt hX.lt;have hNG:¬w.heap.size+1=W1.heap.size:=Nat.ne_of_lt hG.lt;have hNS:¬gS=W1.heap.size:=Nat.ne_of_lt hS.lt;have hNr:¬W1.heap.size=gr:=fun e=>(by have:=hR.lt;omega);replace hPf:=hPf.keep hbX hh;replace hR:=hR.keep hbX hR.lt;replace hG:=hG.keep hbX hG.lt;replace hX:=hX.keep hbX hX.lt;replace hS:=hS.keep hbX hS.lt;replace hh:=Nat.le_trans hh hbX.size;replace hb:=bT' hb hbX hs;replace hs:=hb.size;clear hbX;generalize W1.alloc (.cells #[.slice none 0 0] 39)=W2 at *;obtain ⟨gN,hgN⟩:∃x,W1.heap.size=x:=⟨_,rfl⟩;rw [hgN] at hN hwN hNX hNG hNS hNr
      try rw [hgN]
      clear hgN;refine hK.out _ _ ?_ (fun _=>?_)
      · ((try dsimp only);(exact ⟨hS.cell 0,hS.cell 1,hS.cell 2,hS.cell 3,hS.cell 4,hS.cell 5,hS.cell 6,hG.cell 0⟩))
      clear hK K
      (try simp only [Act.put,pA,pB,pC])
      refine hdC 5 (fun K hK=>?_)
      (go_simp;(go_at_call 68;refine (find_c W hPf hh HBR.out HPO.out (by rw [HPL.out,HKE.out]) (by rw [HKE.out];exact hDl) hN' hW HR0.out (RowAt.of_own hR) (by omega) HZZ.out HF1.out HF0.out).mono ?_;rintro e W3 ⟨u,rfl,hU,ht⟩);go_wp2_with fail)
      obtain ⟨va,vn,vc,rfl⟩:=hU.isSlice;have hBX:gX<W2.heap.size:=hX.lt;have hBw:w.heap.size≤W2.heap.size:=hs;have hBN:gN<W2.heap.size:=hN.lt;replace hb:=hb.trans (ht.bel3 hwr hs);replace hS:=ht.own hS hSr;replace hX:=ht.own hX hXr;replace hG:=ht.own hG hGr;replace hh:=Nat.le_trans hh ht.below.size;replace hs:=hb.size;replace hN:=ht.own hN hNr;clear ht hPf hR;refine hK.out _ _ ?_ (fun _=>?_)
      · ((try dsimp only);(exact ⟨hS.cell 0,hS.cell 1,hS.cell 2,hS.cell 3,hS.cell 4,hS.cell 5,hS.cell 6,hG.cell 0⟩))
      clear hK K
      (try simp only [Act.put,pA,pB,pC])
      refine hdT 6 ?_;refine hdT 7 ?_;refine hdT 8 ?_;refine hdC 10 (fun K hK=>?_);have cN:=hN.cell 0;have fN:=hN.frozen 0
      (go_simp;go_wp2_with fail)
      clear cN fN;replace hU:=hU.set (p:=⟨gN,0,none⟩) (by dsimp only;exact hBN) (.slice va vn vc);have ht:=Touch.of_only ((Only.refl gN W3).set 0 (.slice va vn vc));replace hN:=hN.set 0 (.slice va vn vc);replace hb:=hb.trans (ht.bel3 (by omega) hs);replace hS:=ht.own hS (by omega);replace hX:=ht.own hX (by omega);replace hG:=ht.own hG (by omega);clear ht;generalize W3.setCell ⟨gN,0,none⟩ (.slice va vn vc)=W9 at *;refine hK.out _ _ ?_ (fun _=>?_)
      · ((try dsimp only);(exact ⟨hS.cell 0,hS.cell 1,hS.cell 2,hS.cell 3,hS.cell 4,hS.cell 5,hS.cell 6,hG.cell 0⟩))
      clear hK K
      (try simp only [Act.put,pA,pB,pC])
      refine hdT 11 ?_;refine wpAnyH_done (by kernel_rfl) ?_ _;go_wp2_with fail
      go_meet
      exact ⟨gN,_,va,vn,vc,rfl,rfl,hN,hU,hX,hb,hBX,hBw⟩
  · (go_simp;try go_wp2_with fail)
    have hbX:=bA1 W0 (.cells #[.slice none 0 0] 39);have hN:=Own.new W0 39 #[.slice none 0 0];have hwN:w.heap.size≤W0.heap.size:=hs;have hNX:¬gX=W0.heap.size:=Nat.ne_of_lt hX.lt;have hNG:¬w.heap.size+1=W0.heap.size:=Nat.ne_of_lt hG.lt;have hNS:¬gS=W0.heap.size:=Nat.ne_of_lt hS.lt;replace hPf:=hPf.keep hbX hh;replace hG:=hG.keep hbX hG.lt;replace hX:=hX.keep hbX hX.lt;replace hS:=hS.keep hbX hS.lt;replace hh:=Nat.le_trans hh hbX.size;replace hb:=bT' hb hbX hs;replace hs:=hb.size;clear hbX;generalize W0.alloc (.cells #[.slice none 0 0] 39)=W1 at *;obtain ⟨gN,hgN⟩:∃x,W0.heap.size=x:=⟨_,rfl⟩;rw [hgN] at hN hwN hNX hNG hNS
    try rw [hgN]
    clear hgN;refine hK.out _ _ ?_ (fun _=>?_)
    · ((try dsimp only);(exact ⟨hS.cell 0,hS.cell 1,hS.cell 2,hS.cell 3,hS.cell 4,hS.cell 5,hS.cell 6,hG.cell 0⟩))
    clear hK K
    (try simp only [Act.put,pA,pB,pC])
    refine hdC 4 (fun K hK=>?_);have hM1:Mos W1 ya W V:=hPf.mos7
    (go_simp;(go_at_call 62;refine (rowC_c yc c2 hM1 HORD.out (by omega) (HH.out.keep hb) hn2 HSR.out HMEM.out).mono ?_;rintro e W2 ⟨gr,rfl,hgr,hR,hbX⟩);go_wp2_with fail)
    rw [HRE.out] at hR;clear hM1;have hSr:¬gS=gr:=(by have:=hS.lt;omega);have hXr:¬gX=gr:=(by have:=hX.lt;omega);have hGr:¬w.heap.size+1=gr:=(by have:=hG.lt;omega);have hwr:w.heap.size≤gr:=Nat.le_trans hs hgr;have hir:gS≤gr:=Nat.le_trans hh hgr;have hNr:¬gN=gr:=(by have:=hN.lt;omega);replace hPf:=hPf.keep hbX hh;replace hN:=hN.keep hbX hN.lt;replace hG:=hG.keep hbX hG.lt;replace hX:=hX.keep hbX hX.lt;replace hS:=hS.keep hbX hS.lt;replace hh:=Nat.le_trans hh hbX.size;replace hb:=bT' hb hbX hs;replace hs:=hb.size;clear hbX hgr;refine hK.out _ _ ?_ (fun _=>?_)
    · ((try dsimp only);(exact ⟨hS.cell 0,hS.cell 1,hS.cell 2,hS.cell 3,hS.cell 4,hS.cell 5,hS.cell 6,hG.cell 0⟩))
    clear hK K
    (try simp only [Act.put,pA,pB,pC])
    refine hdC 5 (fun K hK=>?_)
    (go_simp;(go_at_call 68;refine (find_c W hPf hh HBR.out HPO.out (by rw [HPL.out,HKE.out]) (by rw [HKE.out];exact hDl) hN' hW HR0.out (RowAt.of_own hR) (by omega) HZZ.out HF1.out HF0.out).mono ?_;rintro e W3 ⟨u,rfl,hU,ht⟩);go_wp2_with fail)
    obtain ⟨va,vn,vc,rfl⟩:=hU.isSlice;have hBX:gX<W2.heap.size:=hX.lt;have hBw:w.heap.size≤W2.heap.size:=hs;have hBN:gN<W2.heap.size:=hN.lt;replace hb:=hb.trans (ht.bel3 hwr hs);replace hS:=ht.own hS hSr;replace hX:=ht.own hX hXr;replace hG:=ht.own hG hGr;replace hh:=Nat.le_trans hh ht.below.size;replace hs:=hb.size;replace hN:=ht.own hN hNr;clear ht hPf hR;refine hK.out _ _ ?_ (fun _=>?_)
    · ((try dsimp only);(exact ⟨hS.cell 0,hS.cell 1,hS.cell 2,hS.cell 3,hS.cell 4,hS.cell 5,hS.cell 6,hG.cell 0⟩))
    clear hK K
    (try simp only [Act.put,pA,pB,pC])
    refine hdT 6 ?_;refine hdT 7 ?_;refine hdT 8 ?_;refine hdC 10 (fun K hK=>?_);have cN:=hN.cell 0;have fN:=hN.frozen 0
    (go_simp;go_wp2_with fail)
    clear cN fN;replace hU:=hU.set (p:=⟨gN,0,none⟩) (by dsimp only;exact hBN) (.slice va vn vc);have ht:=Touch.of_only ((Only.refl gN W3).set 0 (.slice va vn vc));replace hN:=hN.set 0 (.slice va vn vc);replace hb:=hb.trans (ht.bel3 (by omega) hs);replace hS:=ht.own hS (by omega);replace hX:=ht.own hX (by omega);replace hG:=ht.own hG (by omega);clear ht;generalize W3.setCell ⟨gN,0,none⟩ (.slice va vn vc)=W9 at *;refine hK.out _ _ ?_ (fun _=>?_)
    · ((try dsimp only);(exact ⟨hS.cell 0,hS.cell 1,hS.cell 2,hS.cell 3,hS.cell 4,hS.cell 5,hS.cell 6,hG.cell 0⟩))
    clear hK K
    (try simp only [Act.put,pA,pB,pC])
    refine hdT 11 ?_;refine wpAnyH_done (by kernel_rfl) ?_ _;go_wp2_with fail
    go_meet
    exact ⟨gN,_,va,vn,vc,rfl,rfl,hN,hU,hX,hb,hBX,hBw⟩
 case rest=>
  obtain ⟨gN,B,va,vn,vc,rfl,rfl,hN,hU,hX',hb',hBX,hBw⟩:=hcut;clear hG hX hb hs hS hPf hh;clear w5;have hX:=hX';have hb:=hb';clear hX' hb';rename_i wr;have cR:=hX.cell 0;have fR:=hX.frozen 0
  cases z with
  | false =>
    clear hN;go_wp2_with fail
    have q4:=hX.set 0 (.slice none 0 0);refine bodyPost_ret (results_row2 rfl _ _ gX 39 #[.slice none 0 0] (0,0) _ rfl q4 Tryz.underlying39 rfl Tryz.info_form) rfl ⟨.slice none 0 0,by rw [HCP.out.1];rfl,?_,hb.setCell (p:=⟨gX,0,none⟩) (by dsimp only;omega) _⟩;rw [HCP.out.2,HF0.out trivial];exact World.ownsRow_nil _ _ _ _
  | true =>
    have cN:=hN.cell 0;have HU:=Lib.hid hU;clear hN hU;go_wp2_with fail
    have q4:=hX.set 0 (.slice va vn vc);refine bodyPost_ret (results_row2 rfl _ _ gX 39 #[.slice va vn vc] (0,0) _ rfl q4 Tryz.underlying39 rfl Tryz.info_form) rfl ⟨.slice va vn vc,by rw [HCP.out.1];rfl,?_,hb.setCell (p:=⟨gX,0,none⟩) (by dsimp only;omega) _⟩;rw [HCP.out.2];exact (HU.out.set (p:=⟨gX,0,none⟩) (by dsimp only;exact hBX) _).weaken hBw
set_option maxHeartbeats 4000000 in
theorem l03Homogeneous_c {w : World} {da : Option Addr} {dn : Nat} {zs : List Int} {a : Option Addr} {n : Nat} {ims : List (List Tm)} {a2 : Option Addr} {n2 : Nat} {fs : List Tm} (cl : Bool) (dc c c2 : Nat) (hd : Ints w da dn zs) (hdn : dn ≤ 1048576) (hF : Frms w a n ims) (hn : n ≤ 1048576) (hL : ∀ im ∈ ims, (im.length : Int) ≤ 1048576) (h : Terms w a2 n2 fs) (hn2 : n2 ≤ 1048576) :
    Calls Tryz.prog 53 #[.agg #[.slice da dn dc,.slice a n c],.agg #[.slice a2 n2 c2],.bool cl] w fun e w'=>e=.returned (.tuple #[.int .i64 (hoN cl zs ims fs),.int .i64 (hoC cl zs ims fs)])∧Below w.heap.size w w':=by
 have HLL:=Lib.hid hL
 have HD:=Lib.hid hd
 have HF:=Lib.hid hF
 have HH:=Lib.hid h
 have HTM:=Lib.hid h.2.1
 have HT:=Lib.hid hF.tm
 have HL2:=Lib.hid h.len
 have HDL:=Lib.hid hd.len
 have hA:=(Own.new w 35 #[.slice da dn dc,.slice a n c]).alloc (.cells #[.slice a2 n2 c2] 39)
 have hG:=Own.new (w.alloc (.cells #[.slice da dn dc,.slice a n c] 35)) 39 #[.slice a2 n2 c2]
 rw [sAl] at hG
 have hb:=bTn (bA1 w (.cells #[.slice da dn dc,.slice a n c] 35)) (bA1 _ (.cells #[.slice a2 n2 c2] 39))
 have c0:=hA.cell 0
 have c1:=hA.cell 1
 have hfld:=field_form
 clear hL hd hF h
 cases hal:isAlg zs ims with
 | false =>
   have HA:=Lib.hid hal;have HC:=Lib.hid (hoC_1 (cl:=cl) (zs:=zs) (ims:=ims) (ts:=fs) (by rw [hal];rfl));clear hal;go_enter Tryz.func53,Tryz.ntmps53
   go_upto_region 1 with fail
   generalize (w.alloc (.cells #[.slice da dn dc,.slice a n c] 35)).alloc (.cells #[.slice a2 n2 c2] 39)=w0 at *;go_wp2_with fail
   refine (l02Is_c dc c (HD.out.keep hb) hdn (HF.out.keep hb) hn HLL.out).mono ?_;rintro e w1 ⟨rfl,hb1⟩;rw [HA.out];have hb2:=bT' hb hb1 hb.size;clear hb hb1 c0 c1;go_wp2_with fail
   go_ret2
   exact ⟨by rw [hoN_no (by rw [HC.out];omega),HC.out];rfl,hb2⟩
 | true =>
   have HA:=Lib.hid hal;have hz:=isAlg_dg hal;have HIF:Hid (isForm zs fs=(listOk zs fs && decide (fs.length≤400))):=Lib.hid (by rw [isForm,hz,Bool.true_and]);have hd8:dn≤8:=(by have:=degsOk_len hz;have:=HDL.out;omega);have HZ:=Lib.hid hz;clear hal hz
   cases hq:(listOk zs fs && decide (fs.length≤400)) with
   | false =>
     have HQ:=Lib.hid hq;have HC:=Lib.hid (hoC_1 (cl:=cl) (zs:=zs) (ims:=ims) (ts:=fs) (by rw [HA.out,HIF.out,hq];rfl));clear hq;go_enter Tryz.func53,Tryz.ntmps53
     go_upto_region 1 with fail
     generalize (w.alloc (.cells #[.slice da dn dc,.slice a n c] 35)).alloc (.cells #[.slice a2 n2 c2] 39)=w0 at *;go_wp2_with fail
     refine (l02Is_c dc c (HD.out.keep hb) hdn (HF.out.keep hb) hn HLL.out).mono ?_;rintro e w1 ⟨rfl,hb1⟩;rw [HA.out];have hA1:=hA.keep hb1 hA.lt;have hG1:=hG.keep hb1 hG.lt;have hb2:=bT' hb hb1 hb.size;clear hA hG hb hb1 c0 c1;have c0:=hA1.cell 0;have cg:=hG1.cell 0;go_wp2_with fail
     refine (l01Is_c dc c2 (HD.out.keep hb2) hdn (HH.out.keep hb2) hn2).mono ?_;rintro e w2 ⟨rfl,hb3⟩;rw [HQ.out];have hb4:=bT' hb2 hb3 hb2.size;clear hb2 hb3 hA1 hG1 c0 cg;go_wp2_with fail
     go_ret2
     exact ⟨by rw [hoN_no (by rw [HC.out];omega),HC.out];rfl,hb4⟩
   | true =>
     have HQ:=Lib.hid hq;have H1:Hid ((isAlg zs ims && isForm zs fs)=true):=Lib.hid (by rw [HA.out,HIF.out,hq];rfl);have hif:isForm zs fs=true:=(by rw [HIF.out,hq]);have HAO:=Lib.hid (isAlg_ok HA.out HT.out);have HK:=Lib.hid (isForm_fit hif);have HFB:=Lib.hid (isForm_f hif);have hn4:n2≤400:=(by have:=isForm_400 hif;have:=HL2.out;omega);have HMI:=Lib.hid (degsOk_mild HZ.out);have HLO:=Lib.hid (headW_lo HZ.out HTM.out);obtain ⟨N,hN⟩:∃N,(diffT zs ims [] fs).length=N:=⟨_,rfl⟩;have HN:=Lib.hid hN;have HCL:=Lib.hid (show closedB zs ims fs=(N==0) by rw [closedB,hN]);clear hq hif hN;go_enter Tryz.func53,Tryz.ntmps53
     go_upto_region 1 with fail
     generalize (w.alloc (.cells #[.slice da dn dc,.slice a n c] 35)).alloc (.cells #[.slice a2 n2 c2] 39)=w0 at *;go_wp2_with fail
     refine (l02Is_c dc c (HD.out.keep hb) hdn (HF.out.keep hb) hn HLL.out).mono ?_;rintro e w1 ⟨rfl,hb1⟩;rw [HA.out];have hA1:=hA.keep hb1 hA.lt;have hG1:=hG.keep hb1 hG.lt;have hb2:=bT' hb hb1 hb.size;clear hA hG hb hb1 c0 c1;have c0:=hA1.cell 0;have cg:=hG1.cell 0;go_wp2_with fail
     refine (l01Is_c dc c2 (HD.out.keep hb2) hdn (HH.out.keep hb2) hn2).mono ?_;rintro e w2 ⟨rfl,hb3⟩;rw [HQ.out];have hA2:=hA1.keep hb3 hA1.lt;have hG2:=hG1.keep hb3 hG1.lt;have hb4:=bT' hb2 hb3 hb2.size;clear hA1 hG1 hb2 hb3 c0 cg;have c0:=hA2.cell 0;have cg:=hG2.cell 0;go_wp2_with fail
     refine (l01Degree_c dc c2 (HD.out.keep hb4) hd8 HMI.out (HH.out.keep hb4) hn2).mono ?_;rintro e w3 ⟨rfl,hb5⟩;have hA3:=hA2.keep hb5 hA2.lt;have hG3:=hG2.keep hb5 hG2.lt;have hb6:=bT' hb4 hb5 hb4.size;clear hA2 hG2 hb4 hb5 c0 cg
     cases hw:allW zs fs with
     | false =>
       have HC:=Lib.hid (hoC_5 (cl:=cl) H1.out (by rw [hw];rfl));go_wp2_with fail
       go_ret2
       exact ⟨by rw [hoN_no (by rw [HC.out];omega),HC.out];rfl,hb6⟩
     | true =>
       obtain ⟨v,hv⟩:∃v,degA zs fs=v:=⟨_,rfl⟩;have hvh:headW zs fs=v:=(by rw [degA,if_pos hw] at hv;exact hv);rw [hv];have HVH:=Lib.hid hvh;have HW:=Lib.hid hw;have hlo:=HLO.out;rw [hvh] at hlo;have HLV:=Lib.hid hlo;clear hw hv hvh hlo
       cases cl with
       | false =>
         have H2:Hid ((allW zs fs && (!false || closedB zs ims fs))=true):=Lib.hid (by rw [HW.out];rfl);by_cases hv2:20<v
         · have HC:=Lib.hid (hoC_2 (cl:=false) H1.out H2.out (by rw [HVH.out];exact hv2));go_wp2_with fail
           go_ret2
           exact ⟨by rw [hoN_no (by rw [HC.out];omega),HC.out];rfl,hb6⟩
         · obtain ⟨H,hH⟩:∃H:Nat,(v+1).toNat=H:=⟨_,rfl⟩;have hw1:IntKind.i64.wrap (v+1)=(H:Int):=(by have:=HLV.out;rw [IntWalk.i64_in _ (by omega)];omega);have hw2:IntKind.i64.wrap (v - 1)=v - 1:=by have:=HLV.out;rw [IntWalk.i64_in _ (by omega)]
           have HMF:Hid (Calls Tryz.prog 81 #[.agg #[.slice da dn dc,.slice a n c],.int .i64 (v - 1),.int .i64 H] w3 fun e w'=>e=.returned (.bool (!many zs (low1 v) (H - low1 v)))∧Below w3.heap.size w3 w'):=Lib.hid (by
            have h1:=HLV.out;refine within3_c dc c (HD.out.keep hb6) HZ.out ?_ (by unfold low1;omega) (by omega);unfold low1;by_cases h3:v - 1<0
            · exact Or.inr ⟨h3,by omega⟩
            · exact Or.inl ⟨h3,by omega⟩)
           have HHH:=Lib.hid hH;have c0:=hA3.cell 0;have c1:=hA3.cell 1;clear hH;cases hm:many zs (low1 v) (H - low1 v)
           all_goals
            have HM:=Lib.hid hm;rw [hm] at HMF;clear hm;go_wp2_with fail
            try rw [hw2]
            refine HMF.out.mono ?_;rintro e w9 ⟨rfl,hb9⟩;have hb10:=bT' hb6 hb9 hb6.size;go_wp2_with fail
            go_ret2
           · have HC:=hoC_0 (cl:=false) H1.out H2.out (by rw [HVH.out];omega) (by rw [HVH.out,HHH.out];exact HM.out);exact ⟨by rw [hoN_yes HC,HC,HVH.out];rfl,hb10⟩
           · have HC:=hoC_3 (cl:=false) H1.out H2.out (by rw [HVH.out];omega) (by rw [HVH.out,HHH.out];exact HM.out);exact ⟨by rw [hoN_no (by rw [HC];omega),HC];rfl,hb10⟩
       | true =>
         have c0:=hA3.cell 0;have c1:=hA3.cell 1;have cg:=hG3.cell 0;go_wp2_with fail
         refine (l02D_c dc c c2 (HD.out.keep hb6) (HF.out.keep hb6) (HH.out.keep hb6) HAO.out HMI.out HK.out HFB.out hn4).mono ?_;rintro e w4 ⟨u,rfl,hU,hb7⟩;obtain ⟨ua,un,uc,rfl⟩:=hU.isSlice
         have hul:un=N:=by
          have h2:=HN.out
          rcases hU.1.2 with ⟨h0,h1⟩ | ⟨g',cap,cur,hv',-⟩
          · simp only [Value.slice.injEq] at h0;omega
          · simp only [Value.slice.injEq] at hv';omega
         subst hul;have hb8:=bT' hb6 hb7 hb6.size;have hA4:=hA3.keep hb7 hA3.lt;have hG4:=hG3.keep hb7 hG3.lt;clear hb6 hb7 hA3 hG3 c0 c1 cg hU;by_cases hN0:un=0
         · subst hN0;have H2:Hid ((allW zs fs && (!true || closedB zs ims fs))=true):=Lib.hid (by rw [HW.out,HCL.out];rfl);by_cases hv2:20<v
           · have HC:=Lib.hid (hoC_2 (cl:=true) H1.out H2.out (by rw [HVH.out];exact hv2));go_wp2_with fail
             go_ret2
             exact ⟨by rw [hoN_no (by rw [HC.out];omega),HC.out];rfl,hb8⟩
           · obtain ⟨H,hH⟩:∃H:Nat,(v+1).toNat=H:=⟨_,rfl⟩;have hw1:IntKind.i64.wrap (v+1)=(H:Int):=(by have:=HLV.out;rw [IntWalk.i64_in _ (by omega)];omega);have hw2:IntKind.i64.wrap (v - 1)=v - 1:=by have:=HLV.out;rw [IntWalk.i64_in _ (by omega)]
             have HMF:Hid (Calls Tryz.prog 81 #[.agg #[.slice da dn dc,.slice a n c],.int .i64 (v - 1),.int .i64 H] w4 fun e w'=>e=.returned (.bool (!many zs (low1 v) (H - low1 v)))∧Below w4.heap.size w4 w'):=Lib.hid (by
              have h1:=HLV.out;refine within3_c dc c (HD.out.keep hb8) HZ.out ?_ (by unfold low1;omega) (by omega);unfold low1;by_cases h3:v - 1<0
              · exact Or.inr ⟨h3,by omega⟩
              · exact Or.inl ⟨h3,by omega⟩)
             have HHH:=Lib.hid hH;have c0:=hA4.cell 0;have c1:=hA4.cell 1;clear hH;cases hm:many zs (low1 v) (H - low1 v)
             all_goals
              have HM:=Lib.hid hm;rw [hm] at HMF;clear hm;go_wp2_with fail
              try rw [hw2]
              refine HMF.out.mono ?_;rintro e w9 ⟨rfl,hb9⟩;have hb10:=bT' hb8 hb9 hb8.size;go_wp2_with fail
              go_ret2
             · have HC:=hoC_0 (cl:=true) H1.out H2.out (by rw [HVH.out];omega) (by rw [HVH.out,HHH.out];exact HM.out);exact ⟨by rw [hoN_yes HC,HC,HVH.out];rfl,hb10⟩
             · have HC:=hoC_3 (cl:=true) H1.out H2.out (by rw [HVH.out];omega) (by rw [HVH.out,HHH.out];exact HM.out);exact ⟨by rw [hoN_no (by rw [HC];omega),HC];rfl,hb10⟩
         · have hN1:(0:Int)<(un:Int):=(by omega);have HC:=Lib.hid (hoC_5 (cl:=true) H1.out (by rw [HW.out,HCL.out];simpa using hN0));go_wp2_with fail
           go_ret2
           exact ⟨by rw [hoN_no (by rw [HC.out];omega),HC.out];rfl,hb8⟩
open Go.RowKit Go.Deep Go.ChangeShapes Go.WideShapes
section
variable {H:Type} {enc:TypeId × Value→H} {w:World} {spare:Nat→Bool} {held:Bool}
theorem form_len {t u : TypeId} {a : Option Addr} {n c : Nat} {d : DataW H} {p : List MemPlace} {fd : Field} (ht : Tryz.prog.underlying t = some (.struct #[fd])) (hfd : fd.type = u) (hof : fd.offset = 0) (hCu : Tryz.prog.cellsOf u = 1)
    (hu:Tryz.prog.underlying u=some (.slice 161)) (h:DataW.Trod enc Tryz.prog w 0 spare held t (.agg #[.slice a n c]) d p):(n:Int)≤9223372036854775807:=by
 obtain ⟨fuel,hf⟩:=h
 obtain ⟨xs,k,_,_,hlen,hxl,hx⟩:=DataW.trod_struct ht hf
 have h0:=hx 0 fd rfl
 rw [hfd,hof,hCu,List.drop_zero,List.getElem?_eq_getElem (by rw [hxl];simp)] at h0
 simp only [Value.cells] at h0
 rcases open_slice hu h0 with ⟨hcs,_⟩ | ⟨x,l,c',m,k,D,Pl,hcs,_,hl,hm,hmm,_,hx⟩
 · simp at hcs;omega
 · simp at hcs
   have:(maxLen:Int)≤9223372036854775807:=(by decide);omega
end
theorem Own.terms {w:World} {g n:Nat} {t:TypeId} {ts:List Tm} (h:Own w g t (rcells ts).toArray) (hT:∀t∈ts,IsTm t) (hn:ts.length=n):Terms w (some ⟨g,0,none⟩) n ts:=Terms.of_own h hT hn
end Go.Proofs.YtifcfoijcodjbaaGreat
