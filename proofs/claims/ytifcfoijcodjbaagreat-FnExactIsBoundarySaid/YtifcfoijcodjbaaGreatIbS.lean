
import Derived.Test.YtifcfoijcodjbaaGreatLawForm
import Derived.Test.YtifcfoijcodjbaaGreatAlgS
import Derived.Test.YtifcfoijcodjbaaGreatIsAlg
import Derived.Test.YtifcfoijcodjbaaGreatPriP
import Derived.Test.YtifcfoijcodjbaaGreatKerS
import Derived.Test.YtifcfoijcodjbaaGreatMatM
namespace Go.Proofs.YtifcfoijcodjbaaGreat
set_option maxRecDepth 100000
open Go.RowKit Go.Deep
def ibB (zs:List Int) (ims:List (List Tm)) (ts:List Tm):Bool:=decide (poC zs ims ts=0)
theorem ibB_no {zs:List Int} {ims:List (List Tm)} {ts:List Tm} (h:¬poC zs ims ts=0):ibB zs ims ts=false:=decide_eq_false h
theorem ibB_yes {zs:List Int} {ims:List (List Tm)} {ts:List Tm} (h:poC zs ims ts=0):ibB zs ims ts=true:=decide_eq_true h
set_option maxHeartbeats 4000000 in
theorem IsBoundary_c {w : World} {da : Option Addr} {dn : Nat} {zs : List Int} {a : Option Addr} {n : Nat} {ims : List (List Tm)} {a2 : Option Addr} {n2 : Nat} {fs : List Tm} (dc c c2 : Nat) (hd : Ints w da dn zs) (hdn : dn ≤ 1048576) (hF : Frms w a n ims) (hn : n ≤ 1048576) (hL : ∀ im ∈ ims, (im.length : Int) ≤ 1048576) (h : Terms w a2 n2 fs) (hn2 : n2 ≤ 1048576) :
    Calls Tryz.prog 29 #[.agg #[.slice da dn dc,.slice a n c],.agg #[.slice a2 n2 c2]] w fun e w'=>e=.returned (.tuple #[.bool (ibB zs ims fs),.int .i64 (hoC false zs ims fs)])∧Below w.heap.size w w':=by
 have HLL:=Lib.hid hL
 have HD:=Lib.hid hd
 have HF:=Lib.hid hF
 have HH:=Lib.hid h
 have HTM:=Lib.hid h.2.1
 have HT:=Lib.hid hF.tm
 have hO:=(Own.new w 35 #[.slice da dn dc,.slice a n c]).alloc (.cells #[.slice a2 n2 c2] 39)
 have hG:=Own.new (w.alloc (.cells #[.slice da dn dc,.slice a n c] 35)) 39 #[.slice a2 n2 c2]
 rw [sAl] at hG
 have hb:=bTn (bA1 w (.cells #[.slice da dn dc,.slice a n c] 35)) (bA1 _ (.cells #[.slice a2 n2 c2] 39))
 have c0:=hO.cell 0
 have c1:=hO.cell 1
 have cg:=hG.cell 0
 clear hL hd hF h
 go_enter Tryz.func29,Tryz.ntmps29
 go_upto_region 1 with fail
 generalize (w.alloc (.cells #[.slice da dn dc,.slice a n c] 35)).alloc (.cells #[.slice a2 n2 c2] 39)=w0 at *
 go_wp2_with fail
 refine (PrimitiveOf_c dc c c2 (HD.out.keep hb) hdn (HF.out.keep hb) hn HLL.out (HH.out.keep hb) hn2).mono ?_
 rintro e w2 ⟨v,rfl,hO2,hbX⟩
 obtain ⟨va,vn,vc,rfl⟩:=hO2.isSlice
 have hs:=hb.size
 replace hb:=bT' hb hbX hs
 clear hbX c0 c1 cg hO hG hO2 hs
 have hba:=bA1 w2 (.cells #[.slice va vn vc] 39)
 have hb3:=bT' hb hba hb.size
 have HPC:Hid ((poC zs ims fs=4∧hoC false zs ims fs=0)∨(¬poC zs ims fs=4∧poC zs ims fs=hoC false zs ims fs)):=Lib.hid (by
  by_cases h0:hoC false zs ims fs=0
  · cases hp:pzB zs ims fs with
    | false=>exact Or.inl ⟨(poC_4 h0 hp).1,h0⟩
    | true=>exact Or.inr ⟨by rw [(poC_0 h0 hp).1];omega,by rw [(poC_0 h0 hp).1,h0]⟩
  · exact Or.inr ⟨by rw [(poC_no h0).1];exact hoC_ne4,(poC_no h0).1⟩)
 have HB:=Lib.hid hb3
 clear hb hba hb3
 obtain ⟨q,hq⟩:∃q,poC zs ims fs=q:=⟨_,rfl⟩
 rw [hq] at HPC ⊢
 have HQ:=Lib.hid hq
 clear hq
 by_cases h4:q=4
 · subst h4;have hfb:((4:Int)==4)=true:=(by rfl);have HC:Hid (hoC false zs ims fs=0):=Lib.hid (by rcases HPC.out with ⟨-,h⟩ | ⟨h,-⟩;exact h;omega);have HI:=Lib.hid (ibB_no (zs:=zs) (ims:=ims) (ts:=fs) (by rw [HQ.out];omega));go_wp2_with fail
   go_ret2
   exact ⟨by rw [HC.out,HI.out];rfl,HB.out⟩
 · have hfb:(q==4)=false:=(by simpa using h4);have HC:Hid (hoC false zs ims fs=q):=Lib.hid (by rcases HPC.out with ⟨h,-⟩ | ⟨-,h⟩;omega;exact h.symm);by_cases h0:q=0
   · subst h0;have HI:=Lib.hid (ibB_yes (zs:=zs) (ims:=ims) (ts:=fs) HQ.out);go_wp2_with fail
     go_ret2
     exact ⟨by rw [HC.out,HI.out];rfl,HB.out⟩
   · have hzb:(q==0)=false:=(by simpa using h0);have HI:=Lib.hid (ibB_no (zs:=zs) (ims:=ims) (ts:=fs) (by rw [HQ.out];exact h0));go_wp2_with fail
     go_ret2
     exact ⟨by rw [HC.out,HI.out];rfl,HB.out⟩
set_option maxHeartbeats 8000000 in
theorem ib_walk0 (da : Option Addr) (dn dc : Nat) (zs : List Int) (a : Option Addr) (n c : Nat) (fss : List (List Tm)) (a2 : Option Addr) (n2 c2 : Nat) (fs : List Tm) (w : World) (hd : Ints w da dn zs) (hdm : (dn : Int) ≤ 9223372036854775807) (hF : Frms w a n fss) (hnm : (n : Int) ≤ 9223372036854775807) (h2 : Terms w a2 n2 fs) (hm2 : (n2 : Int) ≤ 9223372036854775807)
    (B0:Bool) (E1:Int)
    (CS:∀(w':World) (da':Option Addr) (dc':Nat) (a':Option Addr) (c':Nat) (b:Option Addr) (q:Nat),dn≤1048576→n≤1048576→(∀ts∈fss,(ts.length:Int)≤1048576)→n2≤1048576→Ints w' da' dn zs→Frms w' a' n fss→Terms w' b n2 fs→Calls Tryz.prog 28 #[.agg #[.slice da' dn dc',.slice a' n c'],.agg #[.slice b n2 q]] w' fun e w''=>e=.returned (.tuple #[.bool B0,.int .i64 E1])∧Below w'.heap.size w' w'')
    (CC:∀(w':World) (da':Option Addr) (dc':Nat) (a':Option Addr) (c':Nat) (b:Option Addr) (q:Nat),dn≤1048576→n≤1048576→(∀ts∈fss,(ts.length:Int)≤1048576)→n2≤1048576→Ints w' da' dn zs→Frms w' a' n fss→Terms w' b n2 fs→Calls Tryz.prog 29 #[.agg #[.slice da' dn dc',.slice a' n c'],.agg #[.slice b n2 q]] w' fun e w''=>e=.returned (.tuple #[.bool B0,.int .i64 E1])∧Below w'.heap.size w' w'') :
    Calls Tryz.prog 5 #[.agg #[.slice da dn dc,.slice a n c],.agg #[.slice a2 n2 c2]] w fun e w'=>e=.returned (.bool true)∧Below w.heap.size w w':=by
 have HL:=Lib.hid hd.len
 have HLn:=Lib.hid hF.len
 have HD:=Lib.hid hd
 have HF:=Lib.hid hF
 have HT:=Lib.hid hF.tm
 have HCS:=Lib.hid CS
 have HCC:=Lib.hid CC
 clear CS CC
 have HL2:=Lib.hid h2.len
 have H2:=Lib.hid h2
 have HT2:=Lib.hid h2.2.1
 have hP:=(Own.new w 25 #[.slice da dn dc,.slice a n c]).alloc (.cells #[.slice a2 n2 c2] 28)
 have hQ:=Own.new (w.alloc (.cells #[.slice da dn dc,.slice a n c] 25)) 28 #[.slice a2 n2 c2]
 rw [sAl] at hQ
 have hb:=bTn (bA1 w (.cells #[.slice da dn dc,.slice a n c] 25)) (bA1 _ (.cells #[.slice a2 n2 c2] 28))
 rcases szA_spec (L:=1048576) (dn:=dn) (n:=n) (fss:=fss) with hz | ⟨h1,hR,h3,h4,h5⟩
 · have HZ:=Lib.hid hz;clear hz;go_enter Tryz.func5,Tryz.ntmps5
   go_upto_region 2 with fail
   generalize (w.alloc (.cells #[.slice da dn dc,.slice a n c] 25)).alloc (.cells #[.slice a2 n2 c2] 28)=w0 at *;generalize hG:w.heap.size=G at *;have HG:=Lib.hid hG;clear hG;have hbw:Below w.heap.size w w0:=(by rw [HG.out];exact hb);have p0:=hP.cell 0;have p1:=hP.cell 1;go_wp2_with fail
   refine (szAlgebra_c dc c 1048576 (by omega) (by omega) hdm (HF.out.keep hbw) hnm).mono ?_;rintro e w1 ⟨rfl,hb1⟩;rw [HZ.out];clear p0 p1 hbw;go_wp2_with fail
   go_ret
   exact ⟨rfl,by rw [HG.out];exact bT' hb hb1 (Nat.le_of_lt hP.lt)⟩
 generalize hz:szA 1048576 dn n fss=R at *
 have HZ:=Lib.hid hz
 clear hz
 have hdn:dn≤1048576:=by omega
 have hn:n≤1048576:=by omega
 have HLL:=Lib.hid h5
 clear h5
 have hRn:¬R<0:=by omega
 by_cases hs2:(n2:Int)≤R
 rotate_left
 · skip
   go_enter Tryz.func5,Tryz.ntmps5
   go_upto_region 2 with fail
   generalize (w.alloc (.cells #[.slice da dn dc,.slice a n c] 25)).alloc (.cells #[.slice a2 n2 c2] 28)=w0 at *;generalize hG:w.heap.size=G at *;have HG:=Lib.hid hG;clear hG;have hbw:Below w.heap.size w w0:=(by rw [HG.out];exact hb);have p0:=hP.cell 0;have p1:=hP.cell 1;go_wp2_with fail
   refine (szAlgebra_c dc c 1048576 (by omega) (by omega) hdm (HF.out.keep hbw) hnm).mono ?_;rintro e w1 ⟨rfl,hb1⟩;rw [HZ.out];clear p0 p1 hbw;replace hb:=bT' hb hb1 (Nat.le_of_lt hP.lt);replace hP:=hP.keep hb1 hP.lt;replace hQ:=hQ.keep hb1 hQ.lt;clear hb1;have cQ:=hQ.cell 0;go_wp2_with fail
   refine (szForm_c a2 n2 c2 R h1 hR hm2).mono ?_;rintro e w2 ⟨rfl,hb2⟩;rw [if_neg (by omega)];go_wp2_with fail
   go_ret
   exact ⟨rfl,by rw [HG.out];exact bT' hb hb2 (Nat.le_of_lt hP.lt)⟩
 have hn2:n2≤1048576:=by omega
 have hRn2:¬R - (n2:Int)<0:=by omega
 go_enter Tryz.func5,Tryz.ntmps5
 go_upto_region 2 with fail
 generalize (w.alloc (.cells #[.slice da dn dc,.slice a n c] 25)).alloc (.cells #[.slice a2 n2 c2] 28)=w0 at *
 generalize hG:w.heap.size=G at *
 have HG:=Lib.hid hG
 clear hG
 have hbw:Below w.heap.size w w0:=by rw [HG.out];exact hb
 have p0:=hP.cell 0
 have p1:=hP.cell 1
 go_wp2_with fail
 refine (szAlgebra_c dc c 1048576 (by omega) (by omega) hdm (HF.out.keep hbw) hnm).mono ?_
 rintro e w1 ⟨rfl,hb1⟩
 rw [HZ.out]
 clear p0 p1 hbw
 replace hb:=bT' hb hb1 (Nat.le_of_lt hP.lt)
 replace hP:=hP.keep hb1 hP.lt
 replace hQ:=hQ.keep hb1 hQ.lt
 clear hb1
 have cQ:=hQ.cell 0
 go_wp2_with fail
 refine (szForm_c a2 n2 c2 R h1 hR hm2).mono ?_
 rintro e w2 ⟨rfl,hb2⟩
 rw [if_pos (by omega)]
 clear cQ
 replace hb:=bT' hb hb2 (Nat.le_of_lt hP.lt)
 replace hP:=hP.keep hb2 hP.lt
 replace hQ:=hQ.keep hb2 hQ.lt
 clear hb2
 go_upto_region 8 with fail
 replace hb:Below G w w2.drew:=hb.drew
 replace hP:Own w2.drew G 25 #[.slice da dn dc,.slice a n c]:=hP
 replace hQ:Own w2.drew (G+1) 28 #[.slice a2 n2 c2]:=hQ
 go_region_held3 (fun w'=>w'.cell? ⟨G,0,none⟩=some (.slice da dn dc)∧w'.cell? ⟨G,1,none⟩=some (.slice a n c)∧w'.cell? ⟨G+1,0,none⟩=some (.slice a2 n2 c2)) (exact ⟨hP.cell 0,hP.cell 1,hQ.cell 0⟩)
  (first
   | (go_at_call 15;refine (toAlgebra_c dc c (HD.out.keep (show Below w.heap.size w _ by rw [HG.out];exact hb)) hdn (HF.out.keep (show Below w.heap.size w _ by rw [HG.out];exact hb)) hn HLL.out).mono ?_;rintro e wA ⟨gd,g,gs,rfl,hgd,hdg,hi,fB,hbA⟩;have hb':=bT' hb hbA (Nat.le_of_lt hP.lt);have hP':=hP.keep hbA hP.lt;have hQ':=hQ.keep hbA hQ.lt;clear hb;have hb:=hb';clear hb';clear hP;have hP:=hP';clear hP';clear hQ;have hQ:=hQ';clear hQ')
   | (go_at_call 16;refine (toForm_c c2 (H2.out.keep (show Below w.heap.size w _ by rw [HG.out];exact hb)) hn2).mono ?_;rintro e wF ⟨g2,rfl,hg2,hf2,hbF⟩;have hi':=IntBlk.keep hi hbF (IntBlk.lt hi);have fB':=fB.keep hbF;clear hi fB;have hi:=hi';have fB:=fB';clear hi' fB';have hb':=bT' hb hbF (Nat.le_of_lt hP.lt);have hP':=hP.keep hbF hP.lt;have hQ':=hQ.keep hbF hQ.lt;clear hb;have hb:=hb';clear hb';clear hP;have hP:=hP';clear hP';clear hQ;have hQ:=hQ';clear hQ')
   | (go_at_call 28;refine (HCS.out _ _ _ _ _ _ _ hdn hn HLL.out hn2 (hi.ints' HL.out) (fB.frms HT.out HLL.out HLn.out) (hf2.terms HT2.out HL2.out)).mono ?_;rintro e wS ⟨rfl,hbS⟩;have hb':=bT' hb hbS (Nat.le_of_lt hP.lt);have hP':=hP.keep hbS hP.lt;have hQ':=hQ.keep hbS hQ.lt;clear hb;have hb:=hb';clear hb';clear hP;have hP:=hP';clear hP';clear hQ;have hQ:=hQ';clear hQ'))
 clear hi fB hf2
 have p0:=hP.cell 0
 have p1:=hP.cell 1
 go_wp2_with fail
 refine (toAlgebra_c dc c (HD.out.keep (show Below w.heap.size w _ by rw [HG.out];exact hb)) hdn (HF.out.keep (show Below w.heap.size w _ by rw [HG.out];exact hb)) hn HLL.out).mono ?_
 rintro e wC ⟨kd,kg,ks,rfl,hkd,hkg,hi,fB,hbA⟩
 clear p0 p1
 replace hb:=bT' hb hbA (Nat.le_of_lt hP.lt)
 replace hP:=hP.keep hbA hP.lt
 replace hQ:=hQ.keep hbA hQ.lt
 clear hbA
 go_upto_region 10 with fail
 have hba:=bA1 wC (.cells #[.slice (some ⟨kd,0,none⟩) dn dn,.slice (some ⟨kg,0,none⟩) n n] 35)
 have hX:=Own.new wC 35 #[.slice (some ⟨kd,0,none⟩) dn dn,.slice (some ⟨kg,0,none⟩) n n]
 replace hb:=bT' hb hba (Nat.le_of_lt hP.lt)
 replace hP:=hP.keep hba hP.lt
 replace hQ:=hQ.keep hba hQ.lt
 replace hi:=IntBlk.keep hi hba (IntBlk.lt hi)
 replace fB:=fB.keep hba
 generalize wC.alloc (.cells #[.slice (some ⟨kd,0,none⟩) dn dn,.slice (some ⟨kg,0,none⟩) n n] 35)=wx at *
 generalize wC.heap.size=gX at *
 clear hba
 have cQ:=hQ.cell 0
 go_wp2_with fail
 refine (toForm_c c2 (H2.out.keep (show Below w.heap.size w _ by rw [HG.out];exact hb)) hn2).mono ?_
 rintro e wF ⟨kf,rfl,hkf,hf2,hbF⟩
 clear cQ
 replace hb:=bT' hb hbF (Nat.le_of_lt hP.lt)
 replace hP:=hP.keep hbF hP.lt
 replace hQ:=hQ.keep hbF hQ.lt
 replace hX:=hX.keep hbF hX.lt
 replace hi:=IntBlk.keep hi hbF (IntBlk.lt hi)
 replace fB:=fB.keep hbF
 clear hbF
 go_upto_region 11 with fail
 have hba:=bA1 wF (.cells #[.slice (some ⟨kf,0,none⟩) n2 n2] 39)
 have hY:=Own.new wF 39 #[.slice (some ⟨kf,0,none⟩) n2 n2]
 replace hb:=bT' hb hba (Nat.le_of_lt hP.lt)
 replace hP:=hP.keep hba hP.lt
 replace hQ:=hQ.keep hba hQ.lt
 replace hX:=hX.keep hba hX.lt
 replace hi:=IntBlk.keep hi hba (IntBlk.lt hi)
 replace fB:=fB.keep hba
 replace hf2:=hf2.keep hba hf2.lt
 generalize wF.alloc (.cells #[.slice (some ⟨kf,0,none⟩) n2 n2] 39)=wy at *
 generalize wF.heap.size=gY at *
 clear hba
 have x0:=hX.cell 0
 have x1:=hX.cell 1
 have y0:=hY.cell 0
 go_wp2_with fail
 refine (HCC.out _ _ _ _ _ _ _ hdn hn HLL.out hn2 (hi.ints' HL.out) (fB.frms HT.out HLL.out HLn.out) (hf2.terms HT2.out HL2.out)).mono ?_
 rintro e wR ⟨rfl,hbR⟩
 clear x0 x1 y0
 replace hb:=bT' hb hbR (Nat.le_of_lt hP.lt)
 replace hP:=hP.keep hbR hP.lt
 replace hQ:=hQ.keep hbR hQ.lt
 replace hX:=hX.keep hbR hX.lt
 replace hY:=hY.keep hbR hY.lt
 replace hi:=IntBlk.keep hi hbR (IntBlk.lt hi)
 replace fB:=fB.keep hbR
 replace hf2:=hf2.keep hbR hf2.lt
 clear hbR
 have hne0:(B0 != B0)=false:=by simp
 have hne1:(E1 != E1)=false:=by simp
 go_upto_region 14 with fail
 clear hne0 hne1
 replace hb:Below G w wR.drew:=hb.drew
 replace hP:Own wR.drew G 25 #[.slice da dn dc,.slice a n c]:=hP
 replace hX:Own wR.drew gX 35 #[.slice (some ⟨kd,0,none⟩) dn dn,.slice (some ⟨kg,0,none⟩) n n]:=hX
 replace hi:IntBlk wR.drew kd zs:=hi
 replace fB:=fB.keep ((Below.refl _ _).drew:Below wR.heap.size wR wR.drew)
 replace hQ:Own wR.drew (G+1) 28 #[.slice a2 n2 c2]:=hQ
 replace hY:Own wR.drew gY 39 #[.slice (some ⟨kf,0,none⟩) n2 n2]:=hY
 replace hf2:Own wR.drew kf 158 (rcells fs).toArray:=hf2
 go_region_held3 (fun w'=>w'.cell? ⟨gX,0,none⟩=some (.slice (some ⟨kd,0,none⟩) dn dn)∧w'.cell? ⟨gX,1,none⟩=some (.slice (some ⟨kg,0,none⟩) n n)∧w'.cell? ⟨G,0,none⟩=some (.slice da dn dc)∧w'.cell? ⟨G,1,none⟩=some (.slice a n c)) (exact ⟨hX.cell 0,hX.cell 1,hP.cell 0,hP.cell 1⟩)
  (first
   | (go_at_call 15;refine (toAlgebra_c dc c (HD.out.keep (show Below w.heap.size w _ by rw [HG.out];exact hb)) hdn (HF.out.keep (show Below w.heap.size w _ by rw [HG.out];exact hb)) hn HLL.out).mono ?_;rintro e wA ⟨md,mg,ms,rfl,hmd,hmg,mi,mB,hbA⟩;have hi':=IntBlk.keep hi hbA (IntBlk.lt hi);have fB':=fB.keep hbA;clear hi fB;have hi:=hi';have fB:=fB';clear hi' fB';have hf2':=hf2.keep hbA hf2.lt;clear hf2;have hf2:=hf2';clear hf2';have hb':=bT' hb hbA (Nat.le_of_lt hP.lt);have hP':=hP.keep hbA hP.lt;have hQ':=hQ.keep hbA hQ.lt;have hX':=hX.keep hbA hX.lt;have hY':=hY.keep hbA hY.lt;clear hb;have hb:=hb';clear hb';clear hP;have hP:=hP';clear hP';clear hQ;have hQ:=hQ';clear hQ';clear hX;have hX:=hX';clear hX';clear hY;have hY:=hY';clear hY')
   | (go_at_call 19;refine (eqAlgebra_c dn dn n n (hi.ints' HL.out) (mi.ints' HL.out) hdn (fB.frms HT.out HLL.out HLn.out) (mB.frms HT.out HLL.out HLn.out) hn HLL.out).mono ?_;rintro e wE ⟨rfl,hbE⟩;have hi':=IntBlk.keep hi hbE (IntBlk.lt hi);have fB':=fB.keep hbE;clear hi fB;have hi:=hi';have fB:=fB';clear hi' fB';have hf2':=hf2.keep hbE hf2.lt;clear hf2;have hf2:=hf2';clear hf2';have hb':=bT' hb hbE (Nat.le_of_lt hP.lt);have hP':=hP.keep hbE hP.lt;have hQ':=hQ.keep hbE hQ.lt;have hX':=hX.keep hbE hX.lt;have hY':=hY.keep hbE hY.lt;clear hb;have hb:=hb';clear hb';clear hP;have hP:=hP';clear hP';clear hQ;have hQ:=hQ';clear hQ';clear hX;have hX:=hX';clear hX';clear hY;have hY:=hY';clear hY'))
 clear mi mB
 go_upto_region 16 with fail
 replace hb:Below G w wE.drew:=hb.drew
 replace hP:Own wE.drew G 25 #[.slice da dn dc,.slice a n c]:=hP
 replace hQ:Own wE.drew (G+1) 28 #[.slice a2 n2 c2]:=hQ
 replace hY:Own wE.drew gY 39 #[.slice (some ⟨kf,0,none⟩) n2 n2]:=hY
 replace hf2:Own wE.drew kf 158 (rcells fs).toArray:=hf2
 clear hi fB hX
 go_region_held3 (fun w'=>w'.cell? ⟨gY,0,none⟩=some (.slice (some ⟨kf,0,none⟩) n2 n2)∧w'.cell? ⟨G+1,0,none⟩=some (.slice a2 n2 c2)) (exact ⟨hY.cell 0,hQ.cell 0⟩)
  (first
   | (go_at_call 16;refine (toForm_c c2 (H2.out.keep (show Below w.heap.size w _ by rw [HG.out];exact hb)) hn2).mono ?_;rintro e wF ⟨mg,rfl,hmg,mf,hbF⟩;have hf2':=hf2.keep hbF hf2.lt;clear hf2;have hf2:=hf2';clear hf2';have hb':=bT' hb hbF (Nat.le_of_lt hP.lt);have hP':=hP.keep hbF hP.lt;have hQ':=hQ.keep hbF hQ.lt;have hY':=hY.keep hbF hY.lt;clear hb;have hb:=hb';clear hb';clear hP;have hP:=hP';clear hP';clear hQ;have hQ:=hQ';clear hQ';clear hY;have hY:=hY';clear hY')
   | (go_at_call 20;refine (eqForm_c n2 n2 (hf2.terms HT2.out HL2.out) (mf.terms HT2.out HL2.out) hn2).mono ?_;rintro e wZ ⟨rfl,hbZ⟩;have hf2':=hf2.keep hbZ hf2.lt;clear hf2;have hf2:=hf2';clear hf2';have hb':=bT' hb hbZ (Nat.le_of_lt hP.lt);have hP':=hP.keep hbZ hP.lt;have hQ':=hQ.keep hbZ hQ.lt;have hY':=hY.keep hbZ hY.lt;clear hb;have hb:=hb';clear hb';clear hP;have hP:=hP';clear hP';clear hQ;have hQ:=hQ';clear hQ';clear hY;have hY:=hY';clear hY'))
 go_wp2_with fail
 go_ret
 exact ⟨rfl,by rw [HG.out];exact hb⟩
theorem zeroR_fst (R:List Int):zeroR R=decide (fstI R<0):=by
 rw [zeroR,fstI]
 split
 · rename_i h;rw [decide_eq_true h,decide_eq_false (by omega)];rfl
 · rename_i h;rw [decide_eq_false h,decide_eq_true (by omega)];rfl
set_option maxHeartbeats 4000000 in
theorem l03Bounded_c {w : World} {da : Option Addr} {dn : Nat} {zs : List Int} {a : Option Addr} {k : Nat} {ims : List (List Tm)} {m : Nat} {fa : Option Addr} {fn : Nat} {fs : List Tm} (dc c fc : Nat) (hd : Ints w da dn zs) (hF : Frms w a k ims) (hT : Terms w fa fn fs) (hfn : fn ≤ 1048576) (HA : AlgOk zs ims) (hA : isAlg zs ims = true) (hf : isForm zs fs = true) (hz : degsOk zs = true) (hm : m ≤ 20) (hc1 : cnt zs m ≤ 120) (hc2 : cnt zs (m + 1) ≤ 120) (hl : ¬ m = 0 → cnt zs (m - 1) ≤ 120) (hmem : ∀ t ∈ fs, t.m ∈ side zs m) :
    Calls Tryz.prog 70 #[.agg #[.slice da dn dc,.slice a k c],.int .i64 m,.agg #[.slice fa fn fc]] w fun e w'=>e=.returned (.bool (zeroR (byR (rowT (side zs m) fs) (bdR zs ims m))))∧Below w.heap.size w w':=by
 have HD:=Lib.hid hd
 have HF:=Lib.hid hF
 have HT:=Lib.hid hT
 have HC1:=Lib.hid hc1
 have HC2:=Lib.hid hc2
 have HL:=Lib.hid hl
 have HME:=Lib.hid hmem
 have HSR:=Lib.hid (isForm_srt hf)
 have HRO:Hid (RowOk (cnt zs m) (rowT (side zs m) fs)):=Lib.hid (by have:=rowT_ok (V:=side zs m) (isForm_f hf);rwa [side_len] at this)
 have HBD:=Lib.hid (bdR_red HA hz m)
 have hMl0:=bdR_len zs ims m
 have hMl1:=nbR_lt2 (zs:=zs) hl
 have HMl:Hid ((bdR zs ims m).length≤120):=Lib.hid (by omega)
 have hO:=(Own.new w 35 #[.slice da dn dc,.slice a k c]).alloc (.cells #[.slice fa fn fc] 39)
 have hG:=Own.new (w.alloc (.cells #[.slice da dn dc,.slice a k c] 35)) 39 #[.slice fa fn fc]
 rw [sAl] at hG
 have hb:=bTn (bA1 w (.cells #[.slice da dn dc,.slice a k c] 35)) (bA1 _ (.cells #[.slice fa fn fc] 39))
 clear hd hF hT hc1 hc2 hl hmem hMl0 hMl1
 go_enter Tryz.func70,Tryz.ntmps70
 go_upto_region 1 with fail
 generalize (w.alloc (.cells #[.slice da dn dc,.slice a k c] 35)).alloc (.cells #[.slice fa fn fc] 39)=w1 at *
 replace hO:Own w1.drew w.heap.size 35 #[.slice da dn dc,.slice a k c]:=hO
 replace hG:Own w1.drew (w.heap.size+1) 39 #[.slice fa fn fc]:=hG
 replace hb:Below w.heap.size w w1.drew:=hb.drew
 have hs:=hb.size
 refine wp_region_held_drew (S:=(fun w'=>w'.cell? ⟨w.heap.size,0,none⟩=some (.slice da dn dc)∧w'.cell? ⟨w.heap.size,1,none⟩=some (.slice a k c)∧w'.cell? ⟨w.heap.size+1,0,none⟩=some (.slice fa fn fc))) (by kernel_rfl) ?_ (fun _=>?_)
 · ((try dsimp only);(exact ⟨hO.cell 0,hO.cell 1,hG.cell 0⟩))
 generalize w1.drew=W0 at *
 refine hdT 0 ?_
 refine hdT 1 ?_
 refine hdT 2 ?_
 refine hdT 3 ?_
 refine hdT 6 ?_
 refine hdT 7 ?_
 refine hdC 4 (fun K hK=>?_)
 (go_simp;(go_at_call 109;refine (l01Mons_m (m:=m) dc (HD.out.keep hb) hz (by omega) HC1.out).mono ?_;rintro e W1 ⟨la,lc,rfl,hM,hbX⟩);go_wp2_with fail)
 replace hO:=hO.keep hbX hO.lt
 replace hG:=hG.keep hbX hG.lt
 replace hb:=bT' hb hbX hs
 replace hs:=hb.size
 clear hbX
 refine hK.out _ _ ?_ (fun _=>?_)
 · ((try dsimp only);(exact ⟨hO.cell 0,hO.cell 1,hG.cell 0⟩))
 clear hK K
 (try simp only [Act.put,pA,pB,pC])
 refine hdC 5 (fun K hK=>?_)
 (go_simp;(go_at_call 108;refine (vector3_c lc fc hM (ext_ord _ _) (by have:=HC1.out;omega) (HT.out.keep hb) hfn HSR.out HME.out).mono ?_;rintro e W2 ⟨gv,rfl,-,hV,hbX⟩);go_wp2_with fail)
 have hVI:Ints W2 (some ⟨gv,0,none⟩) (cnt zs m) (rowT (side zs m) fs):=(show IntBlk W2 gv (rowT (side zs m) fs) from hV).ints' (by rw [rowT_len,side_len])
 replace hO:=hO.keep hbX hO.lt
 replace hG:=hG.keep hbX hG.lt
 replace hb:=bT' hb hbX hs
 replace hs:=hb.size
 clear hbX hM hV
 refine hK.out _ _ ?_ (fun _=>?_)
 · ((try dsimp only);(exact ⟨hO.cell 0,hO.cell 1,hG.cell 0⟩))
 clear hK K
 (try simp only [Act.put,pA,pB,pC])
 refine hdC 8 (fun K hK=>?_)
 (go_simp;(go_at_call 110;refine (l03Bounds_c (m:=m) dc c (HD.out.keep hb) (HF.out.keep hb) HA hA hz hm HC1.out HC2.out HL.out).mono ?_;rintro e W3 ⟨qa,qn,qc,rfl,hTB,hbX⟩);go_wp2_with fail)
 replace hVI:=hVI.keep hbX
 replace hO:=hO.keep hbX hO.lt
 replace hG:=hG.keep hbX hG.lt
 replace hb:=bT' hb hbX hs
 replace hs:=hb.size
 clear hbX
 refine hK.out _ _ ?_ (fun _=>?_)
 · ((try dsimp only);(exact ⟨hO.cell 0,hO.cell 1,hG.cell 0⟩))
 clear hK K
 (try simp only [Act.put,pA,pB,pC])
 have hqn:qn≤1000:=by have:=hTB.1;have:=HMl.out;omega
 refine hdC 9 (fun K hK=>?_)
 (go_simp;(go_at_call 107;refine (l03By_c (cnt zs m) qc hVI hTB (by have:=HC1.out;omega) hqn HRO.out (fun t ht=>⟨HBD.out.ok t ht,HBD.out.fst t ht⟩)).mono ?_;rintro e W4 ⟨xa,xc,rfl,hX,hbX⟩);go_wp2_with fail)
 replace hO:=hO.keep hbX hO.lt
 replace hG:=hG.keep hbX hG.lt
 replace hb:=bT' hb hbX hs
 replace hs:=hb.size
 clear hbX hVI hTB hqn
 refine hK.out _ _ ?_ (fun _=>?_)
 · ((try dsimp only);(exact ⟨hO.cell 0,hO.cell 1,hG.cell 0⟩))
 clear hK K
 (try simp only [Act.put,pA,pB,pC])
 obtain ⟨R,hR⟩:∃R,byR (rowT (side zs m) fs) (bdR zs ims m)=R:=⟨_,rfl⟩
 rw [hR] at hX
 have HRE:=Lib.hid hR
 clear hR
 refine hdC 10 (fun K hK=>?_)
 (go_simp;(go_at_call 112;refine (l03First_c xc hX (by have:=HC1.out;omega)).mono ?_;rintro e W5 ⟨rfl,rfl⟩);go_wp2_with fail)
 refine hK.out _ _ ?_ (fun _=>?_)
 · ((try dsimp only);(exact ⟨hO.cell 0,hO.cell 1,hG.cell 0⟩))
 clear hK K
 (try simp only [Act.put,pA,pB,pC])
 refine hdT 11 ?_
 refine hdT 12 ?_
 refine wpAnyH_done (by kernel_rfl) ?_ _
 go_wp2_with fail
 go_ret
 exact ⟨ret_b (by rw [HRE.out];exact (zeroR_fst R).symm),hb⟩
set_option maxHeartbeats 4000000 in
theorem IsBoundary_s {w : World} {da : Option Addr} {dn : Nat} {zs : List Int} {a : Option Addr} {n : Nat} {ims : List (List Tm)} {a2 : Option Addr} {n2 : Nat} {fs : List Tm} (dc c c2 : Nat) (hd : Ints w da dn zs) (hdn : dn ≤ 1048576) (hF : Frms w a n ims) (hn : n ≤ 1048576) (hL : ∀ im ∈ ims, (im.length : Int) ≤ 1048576) (h : Terms w a2 n2 fs) (hn2 : n2 ≤ 1048576) :
    Calls Tryz.prog 28 #[.agg #[.slice da dn dc,.slice a n c],.agg #[.slice a2 n2 c2]] w fun e w'=>e=.returned (.tuple #[.bool (ibB zs ims fs),.int .i64 (hoC false zs ims fs)])∧Below w.heap.size w w':=by
 have HLL:=Lib.hid hL
 have HD:=Lib.hid hd
 have HF:=Lib.hid hF
 have HH:=Lib.hid h
 have HTM:=Lib.hid h.2.1
 have HT:=Lib.hid hF.tm
 have hO:=(Own.new w 35 #[.slice da dn dc,.slice a n c]).alloc (.cells #[.slice a2 n2 c2] 39)
 have hG:=Own.new (w.alloc (.cells #[.slice da dn dc,.slice a n c] 35)) 39 #[.slice a2 n2 c2]
 rw [sAl] at hG
 have hb:=bTn (bA1 w (.cells #[.slice da dn dc,.slice a n c] 35)) (bA1 _ (.cells #[.slice a2 n2 c2] 39))
 have c0:=hO.cell 0
 have c1:=hO.cell 1
 have cg:=hG.cell 0
 clear hL hd hF h
 go_enter Tryz.func28,Tryz.ntmps28
 go_upto_region 1 with fail
 generalize (w.alloc (.cells #[.slice da dn dc,.slice a n c] 35)).alloc (.cells #[.slice a2 n2 c2] 39)=w0 at *
 go_wp2_with fail
 refine (l03Homogeneous_c false dc c c2 (HD.out.keep hb) hdn (HF.out.keep hb) hn HLL.out (HH.out.keep hb) hn2).mono ?_
 rintro e w1 ⟨rfl,hbX⟩
 have hs:=hb.size
 replace hO:=hO.keep hbX hO.lt
 replace hG:=hG.keep hbX hG.lt
 replace hb:=bT' hb hbX hs
 replace hs:=hb.size
 clear hbX c0 c1 cg
 by_cases hc0:hoC false zs ims fs=0
 · rw [hoN_yes hc0];obtain ⟨v,hv⟩:∃v,headW zs fs=v:=⟨_,rfl⟩;obtain ⟨hA,hf,hcase⟩:=ho_facts hc0 HTM.out;have hz:=isAlg_dg hA;have HAO:=isAlg_ok hA HT.out;have HC0:=Lib.hid hc0
   have HIB:Hid (ibB zs ims fs=pzB zs ims fs):=Lib.hid (by
    cases hp:pzB zs ims fs with
    | false=>exact ibB_no (by rw [(poC_4 hc0 hp).1];omega)
    | true=>exact ibB_yes (poC_0 hc0 hp).1)
   rw [hc0,hv];clear hc0
   rcases hcase with ⟨h1,h2,h3⟩ | ⟨m,h2,h3,h4,h5,h6,h7⟩
   · obtain rfl:v=-1:=(by omega);have HV:Hid (pzB zs ims fs=true):=Lib.hid (by rw [pzB,hv,decide_eq_true (by omega),Bool.or_true]);clear h1 h2 h3 hv hA hf hz HAO;go_wp2_with fail
     go_ret2
     exact ⟨by rw [HC0.out,HIB.out,HV.out];rfl,hb⟩
   · obtain rfl:v=(m:Int):=(by omega);have HV:Hid (pzB zs ims fs=zeroR (byR (rowT (side zs m) fs) (bdR zs ims m))):=Lib.hid (by rw [pzB,hv,decide_eq_false (by omega),Bool.or_false,Int.toNat_natCast]);have hm0:¬(m:Int)<0:=(by omega);have c0:=hO.cell 0;have c1:=hO.cell 1;have cg:=hG.cell 0;have HHf:=Lib.hid hf;have HHA:=Lib.hid hA;have HHZ:=Lib.hid hz;have HHO:=Lib.hid HAO;have H3:=Lib.hid h3;have H4:=Lib.hid h4;have H5:=Lib.hid h5;have H6:=Lib.hid h6;have H7:=Lib.hid h7;clear hf hA hz HAO h2 h3 h4 h5 h6 h7 hv;go_wp2_with fail
     refine (l03Bounded_c (m:=m) dc c c2 (HD.out.keep hb) (HF.out.keep hb) (HH.out.keep hb) hn2 HHO.out HHA.out HHf.out HHZ.out H3.out H4.out H5.out H6.out H7.out).mono ?_;rintro e w2 ⟨rfl,hbX⟩;replace hb:=bT' hb hbX hs;clear hbX hO hG c0 c1 cg;go_wp2_with fail
     go_ret2
     exact ⟨by rw [HC0.out,HIB.out,HV.out];rfl,hb⟩
 · have hcb:(hoC false zs ims fs != 0)=true:=(by simpa using hc0);rw [hoN_no hc0];have HI:=Lib.hid (ibB_no (zs:=zs) (ims:=ims) (ts:=fs) (by rw [(poC_no hc0).1];exact hc0));obtain ⟨q,hq⟩:∃q,hoC false zs ims fs=q:=⟨_,rfl⟩;rw [hq] at hcb hc0 ⊢;have HQ:=Lib.hid hq;clear hq;go_wp2_with fail
   go_ret2
   exact ⟨by rw [HI.out,HQ.out];rfl,hb⟩
theorem isBoundary_walk (da : Option Addr) (dn dc : Nat) (zs : List Int) (a : Option Addr) (n c : Nat) (fss : List (List Tm)) (a2 : Option Addr) (n2 c2 : Nat) (fs : List Tm) (w : World) (hd : Ints w da dn zs) (hdm : (dn : Int) ≤ 9223372036854775807) (hF : Frms w a n fss) (hnm : (n : Int) ≤ 9223372036854775807) (h2 : Terms w a2 n2 fs) (hm2 : (n2 : Int) ≤ 9223372036854775807) :
    Calls Tryz.prog 5 #[.agg #[.slice da dn dc,.slice a n c],.agg #[.slice a2 n2 c2]] w fun e w'=>e=.returned (.bool true)∧Below w.heap.size w w':=
 ib_walk0 da dn dc zs a n c fss a2 n2 c2 fs w hd hdm hF hnm h2 hm2 (ibB zs fss fs) (hoC false zs fss fs) (fun _ _ dc' _ c' _ q h1 h2 h3 h4 h5 h6 h7=>IsBoundary_s dc' c' q h5 h1 h6 h2 h3 h7 h4) (fun _ _ dc' _ c' _ q h1 h2 h3 h4 h5 h6 h7=>IsBoundary_c dc' c' q h5 h1 h6 h2 h3 h7 h4)
end Go.Proofs.YtifcfoijcodjbaaGreat
