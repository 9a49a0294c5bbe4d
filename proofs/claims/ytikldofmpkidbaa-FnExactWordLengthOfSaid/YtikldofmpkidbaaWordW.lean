
import Derived.Test.YtikldofmpkidbaaAlgS
import Derived.Test.YtikldofmpkidbaaLawForm
import Derived.Test.YtikldofmpkidbaaIsAlg
import Derived.Test.YtikldofmpkidbaaClosed
namespace Go.Proofs.Ytikldofmpkidbaa
set_option maxRecDepth 100000
open Go.RowKit Go.Deep
set_option maxHeartbeats 8000000 in
theorem word_walk0 (da : Option Addr) (dn dc : Nat) (zs : List Int) (a : Option Addr) (n c : Nat) (fss : List (List Tm)) (a2 : Option Addr) (n2 c2 : Nat) (fs : List Tm) (w : World) (hd : Ints w da dn zs) (hdm : (dn : Int) ≤ 9223372036854775807) (hF : Frms w a n fss) (hnm : (n : Int) ≤ 9223372036854775807) (h2 : Terms w a2 n2 fs) (hm2 : (n2 : Int) ≤ 9223372036854775807)
    (E0:Int) (E1:Int)
    (CS:∀(w':World) (da':Option Addr) (dc':Nat) (a':Option Addr) (c':Nat) (b:Option Addr) (q:Nat),dn≤1048576→n≤1048576→(∀ts∈fss,(ts.length:Int)≤1048576)→n2≤1048576→Ints w' da' dn zs→Frms w' a' n fss→Terms w' b n2 fs→Calls Try.prog 42 #[.agg #[.slice da' dn dc',.slice a' n c'],.agg #[.slice b n2 q]] w' fun e w''=>e=.returned (.tuple #[.int .i64 E0,.int .i64 E1])∧Below w'.heap.size w' w'')
    (CC:∀(w':World) (da':Option Addr) (dc':Nat) (a':Option Addr) (c':Nat) (b:Option Addr) (q:Nat),dn≤1048576→n≤1048576→(∀ts∈fss,(ts.length:Int)≤1048576)→n2≤1048576→Ints w' da' dn zs→Frms w' a' n fss→Terms w' b n2 fs→Calls Try.prog 43 #[.agg #[.slice da' dn dc',.slice a' n c'],.agg #[.slice b n2 q]] w' fun e w''=>e=.returned (.tuple #[.int .i64 E0,.int .i64 E1])∧Below w'.heap.size w' w'') :
    Calls Try.prog 9 #[.agg #[.slice da dn dc,.slice a n c],.agg #[.slice a2 n2 c2]] w fun e w'=>e=.returned (.bool true)∧Below w.heap.size w w':=by
 have HL:=Lib.hid hd.len
 have HLn:=Lib.hid hF.len
 have HD:=Lib.hid hd
 have HF:=Lib.hid hF
 have HT:=Lib.hid hF.tm
 have HCS:=Lib.hid CS
 have HCC:=Lib.hid CC
 clear CS CC
 have HL2:=Lib.hid h2.len
 have H2:=Lib.hid h2
 have HT2:=Lib.hid h2.2.1
 have hP:=(Own.new w 25 #[.slice da dn dc,.slice a n c]).alloc (.cells #[.slice a2 n2 c2] 55)
 have hQ:=Own.new (w.alloc (.cells #[.slice da dn dc,.slice a n c] 25)) 55 #[.slice a2 n2 c2]
 rw [sAl] at hQ
 have hb:=bTn (bA1 w (.cells #[.slice da dn dc,.slice a n c] 25)) (bA1 _ (.cells #[.slice a2 n2 c2] 55))
 rcases szA_spec (L:=1048576) (dn:=dn) (n:=n) (fss:=fss) with hz | ⟨h1,hR,h3,h4,h5⟩
 · have HZ:=Lib.hid hz;clear hz;go_enter Try.func9,Try.ntmps9
   go_upto_region 2 with fail
   generalize (w.alloc (.cells #[.slice da dn dc,.slice a n c] 25)).alloc (.cells #[.slice a2 n2 c2] 55)=w0 at *;generalize hG:w.heap.size=G at *;have HG:=Lib.hid hG;clear hG;have hbw:Below w.heap.size w w0:=(by rw [HG.out];exact hb);have p0:=hP.cell 0;have p1:=hP.cell 1;go_wp2_with fail
   refine (szAlgebra_c dc c 1048576 (by omega) (by omega) hdm (HF.out.keep hbw) hnm).mono ?_;rintro e w1 ⟨rfl,hb1⟩;rw [HZ.out];clear p0 p1 hbw;go_wp2_with fail
   go_ret
   exact ⟨rfl,by rw [HG.out];exact bT' hb hb1 (Nat.le_of_lt hP.lt)⟩
 generalize hz:szA 1048576 dn n fss=R at *
 have HZ:=Lib.hid hz
 clear hz
 have hdn:dn≤1048576:=by omega
 have hn:n≤1048576:=by omega
 have HLL:=Lib.hid h5
 clear h5
 have hRn:¬R<0:=by omega
 by_cases hs2:(n2:Int)≤R
 rotate_left
 · skip
   go_enter Try.func9,Try.ntmps9
   go_upto_region 2 with fail
   generalize (w.alloc (.cells #[.slice da dn dc,.slice a n c] 25)).alloc (.cells #[.slice a2 n2 c2] 55)=w0 at *;generalize hG:w.heap.size=G at *;have HG:=Lib.hid hG;clear hG;have hbw:Below w.heap.size w w0:=(by rw [HG.out];exact hb);have p0:=hP.cell 0;have p1:=hP.cell 1;go_wp2_with fail
   refine (szAlgebra_c dc c 1048576 (by omega) (by omega) hdm (HF.out.keep hbw) hnm).mono ?_;rintro e w1 ⟨rfl,hb1⟩;rw [HZ.out];clear p0 p1 hbw;replace hb:=bT' hb hb1 (Nat.le_of_lt hP.lt);replace hP:=hP.keep hb1 hP.lt;replace hQ:=hQ.keep hb1 hQ.lt;clear hb1;have cQ:=hQ.cell 0;go_wp2_with fail
   refine (szForm_c a2 n2 c2 R h1 hR hm2).mono ?_;rintro e w2 ⟨rfl,hb2⟩;rw [if_neg (by omega)];go_wp2_with fail
   go_ret
   exact ⟨rfl,by rw [HG.out];exact bT' hb hb2 (Nat.le_of_lt hP.lt)⟩
 have hn2:n2≤1048576:=by omega
 have hRn2:¬R - (n2:Int)<0:=by omega
 go_enter Try.func9,Try.ntmps9
 go_upto_region 2 with fail
 generalize (w.alloc (.cells #[.slice da dn dc,.slice a n c] 25)).alloc (.cells #[.slice a2 n2 c2] 55)=w0 at *
 generalize hG:w.heap.size=G at *
 have HG:=Lib.hid hG
 clear hG
 have hbw:Below w.heap.size w w0:=by rw [HG.out];exact hb
 have p0:=hP.cell 0
 have p1:=hP.cell 1
 go_wp2_with fail
 refine (szAlgebra_c dc c 1048576 (by omega) (by omega) hdm (HF.out.keep hbw) hnm).mono ?_
 rintro e w1 ⟨rfl,hb1⟩
 rw [HZ.out]
 clear p0 p1 hbw
 replace hb:=bT' hb hb1 (Nat.le_of_lt hP.lt)
 replace hP:=hP.keep hb1 hP.lt
 replace hQ:=hQ.keep hb1 hQ.lt
 clear hb1
 have cQ:=hQ.cell 0
 go_wp2_with fail
 refine (szForm_c a2 n2 c2 R h1 hR hm2).mono ?_
 rintro e w2 ⟨rfl,hb2⟩
 rw [if_pos (by omega)]
 clear cQ
 replace hb:=bT' hb hb2 (Nat.le_of_lt hP.lt)
 replace hP:=hP.keep hb2 hP.lt
 replace hQ:=hQ.keep hb2 hQ.lt
 clear hb2
 go_upto_region 8 with fail
 replace hb:Below G w w2.drew:=hb.drew
 replace hP:Own w2.drew G 25 #[.slice da dn dc,.slice a n c]:=hP
 replace hQ:Own w2.drew (G+1) 55 #[.slice a2 n2 c2]:=hQ
 go_region_held3 (fun w'=>w'.cell? ⟨G,0,none⟩=some (.slice da dn dc)∧w'.cell? ⟨G,1,none⟩=some (.slice a n c)∧w'.cell? ⟨G+1,0,none⟩=some (.slice a2 n2 c2)) (exact ⟨hP.cell 0,hP.cell 1,hQ.cell 0⟩)
  (first
   | (go_at_call 18;refine (toAlgebra_c dc c (HD.out.keep (show Below w.heap.size w _ by rw [HG.out];exact hb)) hdn (HF.out.keep (show Below w.heap.size w _ by rw [HG.out];exact hb)) hn HLL.out).mono ?_;rintro e wA ⟨gd,g,gs,rfl,hgd,hdg,hi,fB,hbA⟩;have hb':=bT' hb hbA (Nat.le_of_lt hP.lt);have hP':=hP.keep hbA hP.lt;have hQ':=hQ.keep hbA hQ.lt;clear hb;have hb:=hb';clear hb';clear hP;have hP:=hP';clear hP';clear hQ;have hQ:=hQ';clear hQ')
   | (go_at_call 37;refine (toForm_c c2 (H2.out.keep (show Below w.heap.size w _ by rw [HG.out];exact hb)) hn2).mono ?_;rintro e wF ⟨g2,rfl,hg2,hf2,hbF⟩;have hi':=IntBlk.keep hi hbF (IntBlk.lt hi);have fB':=fB.keep hbF;clear hi fB;have hi:=hi';have fB:=fB';clear hi' fB';have hb':=bT' hb hbF (Nat.le_of_lt hP.lt);have hP':=hP.keep hbF hP.lt;have hQ':=hQ.keep hbF hQ.lt;clear hb;have hb:=hb';clear hb';clear hP;have hP:=hP';clear hP';clear hQ;have hQ:=hQ';clear hQ')
   | (go_at_call 42;refine (HCS.out _ _ _ _ _ _ _ hdn hn HLL.out hn2 (hi.ints' HL.out) (fB.frms HT.out HLL.out HLn.out) (hf2.terms HT2.out HL2.out)).mono ?_;rintro e wS ⟨rfl,hbS⟩;have hb':=bT' hb hbS (Nat.le_of_lt hP.lt);have hP':=hP.keep hbS hP.lt;have hQ':=hQ.keep hbS hQ.lt;clear hb;have hb:=hb';clear hb';clear hP;have hP:=hP';clear hP';clear hQ;have hQ:=hQ';clear hQ'))
 clear hi fB hf2
 have p0:=hP.cell 0
 have p1:=hP.cell 1
 go_wp2_with fail
 refine (toAlgebra_c dc c (HD.out.keep (show Below w.heap.size w _ by rw [HG.out];exact hb)) hdn (HF.out.keep (show Below w.heap.size w _ by rw [HG.out];exact hb)) hn HLL.out).mono ?_
 rintro e wC ⟨kd,kg,ks,rfl,hkd,hkg,hi,fB,hbA⟩
 clear p0 p1
 replace hb:=bT' hb hbA (Nat.le_of_lt hP.lt)
 replace hP:=hP.keep hbA hP.lt
 replace hQ:=hQ.keep hbA hQ.lt
 clear hbA
 go_upto_region 10 with fail
 have hba:=bA1 wC (.cells #[.slice (some ⟨kd,0,none⟩) dn dn,.slice (some ⟨kg,0,none⟩) n n] 33)
 have hX:=Own.new wC 33 #[.slice (some ⟨kd,0,none⟩) dn dn,.slice (some ⟨kg,0,none⟩) n n]
 replace hb:=bT' hb hba (Nat.le_of_lt hP.lt)
 replace hP:=hP.keep hba hP.lt
 replace hQ:=hQ.keep hba hQ.lt
 replace hi:=IntBlk.keep hi hba (IntBlk.lt hi)
 replace fB:=fB.keep hba
 generalize wC.alloc (.cells #[.slice (some ⟨kd,0,none⟩) dn dn,.slice (some ⟨kg,0,none⟩) n n] 33)=wx at *
 generalize wC.heap.size=gX at *
 clear hba
 have cQ:=hQ.cell 0
 go_wp2_with fail
 refine (toForm_c c2 (H2.out.keep (show Below w.heap.size w _ by rw [HG.out];exact hb)) hn2).mono ?_
 rintro e wF ⟨kf,rfl,hkf,hf2,hbF⟩
 clear cQ
 replace hb:=bT' hb hbF (Nat.le_of_lt hP.lt)
 replace hP:=hP.keep hbF hP.lt
 replace hQ:=hQ.keep hbF hQ.lt
 replace hX:=hX.keep hbF hX.lt
 replace hi:=IntBlk.keep hi hbF (IntBlk.lt hi)
 replace fB:=fB.keep hbF
 clear hbF
 go_upto_region 11 with fail
 have hba:=bA1 wF (.cells #[.slice (some ⟨kf,0,none⟩) n2 n2] 61)
 have hY:=Own.new wF 61 #[.slice (some ⟨kf,0,none⟩) n2 n2]
 replace hb:=bT' hb hba (Nat.le_of_lt hP.lt)
 replace hP:=hP.keep hba hP.lt
 replace hQ:=hQ.keep hba hQ.lt
 replace hX:=hX.keep hba hX.lt
 replace hi:=IntBlk.keep hi hba (IntBlk.lt hi)
 replace fB:=fB.keep hba
 replace hf2:=hf2.keep hba hf2.lt
 generalize wF.alloc (.cells #[.slice (some ⟨kf,0,none⟩) n2 n2] 61)=wy at *
 generalize wF.heap.size=gY at *
 clear hba
 have x0:=hX.cell 0
 have x1:=hX.cell 1
 have y0:=hY.cell 0
 go_wp2_with fail
 refine (HCC.out _ _ _ _ _ _ _ hdn hn HLL.out hn2 (hi.ints' HL.out) (fB.frms HT.out HLL.out HLn.out) (hf2.terms HT2.out HL2.out)).mono ?_
 rintro e wR ⟨rfl,hbR⟩
 clear x0 x1 y0
 replace hb:=bT' hb hbR (Nat.le_of_lt hP.lt)
 replace hP:=hP.keep hbR hP.lt
 replace hQ:=hQ.keep hbR hQ.lt
 replace hX:=hX.keep hbR hX.lt
 replace hY:=hY.keep hbR hY.lt
 replace hi:=IntBlk.keep hi hbR (IntBlk.lt hi)
 replace fB:=fB.keep hbR
 replace hf2:=hf2.keep hbR hf2.lt
 clear hbR
 have hne0:(E0 != E0)=false:=by simp
 have hne1:(E1 != E1)=false:=by simp
 go_upto_region 14 with fail
 clear hne0 hne1
 replace hb:Below G w wR.drew:=hb.drew
 replace hP:Own wR.drew G 25 #[.slice da dn dc,.slice a n c]:=hP
 replace hX:Own wR.drew gX 33 #[.slice (some ⟨kd,0,none⟩) dn dn,.slice (some ⟨kg,0,none⟩) n n]:=hX
 replace hi:IntBlk wR.drew kd zs:=hi
 replace fB:=fB.keep ((Below.refl _ _).drew:Below wR.heap.size wR wR.drew)
 replace hQ:Own wR.drew (G+1) 55 #[.slice a2 n2 c2]:=hQ
 replace hY:Own wR.drew gY 61 #[.slice (some ⟨kf,0,none⟩) n2 n2]:=hY
 replace hf2:Own wR.drew kf 88 (rcells fs).toArray:=hf2
 go_region_held3 (fun w'=>w'.cell? ⟨gX,0,none⟩=some (.slice (some ⟨kd,0,none⟩) dn dn)∧w'.cell? ⟨gX,1,none⟩=some (.slice (some ⟨kg,0,none⟩) n n)∧w'.cell? ⟨G,0,none⟩=some (.slice da dn dc)∧w'.cell? ⟨G,1,none⟩=some (.slice a n c)) (exact ⟨hX.cell 0,hX.cell 1,hP.cell 0,hP.cell 1⟩)
  (first
   | (go_at_call 18;refine (toAlgebra_c dc c (HD.out.keep (show Below w.heap.size w _ by rw [HG.out];exact hb)) hdn (HF.out.keep (show Below w.heap.size w _ by rw [HG.out];exact hb)) hn HLL.out).mono ?_;rintro e wA ⟨md,mg,ms,rfl,hmd,hmg,mi,mB,hbA⟩;have hi':=IntBlk.keep hi hbA (IntBlk.lt hi);have fB':=fB.keep hbA;clear hi fB;have hi:=hi';have fB:=fB';clear hi' fB';have hf2':=hf2.keep hbA hf2.lt;clear hf2;have hf2:=hf2';clear hf2';have hb':=bT' hb hbA (Nat.le_of_lt hP.lt);have hP':=hP.keep hbA hP.lt;have hQ':=hQ.keep hbA hQ.lt;have hX':=hX.keep hbA hX.lt;have hY':=hY.keep hbA hY.lt;clear hb;have hb:=hb';clear hb';clear hP;have hP:=hP';clear hP';clear hQ;have hQ:=hQ';clear hQ';clear hX;have hX:=hX';clear hX';clear hY;have hY:=hY';clear hY')
   | (go_at_call 21;refine (eqAlgebra_c dn dn n n (hi.ints' HL.out) (mi.ints' HL.out) hdn (fB.frms HT.out HLL.out HLn.out) (mB.frms HT.out HLL.out HLn.out) hn HLL.out).mono ?_;rintro e wE ⟨rfl,hbE⟩;have hi':=IntBlk.keep hi hbE (IntBlk.lt hi);have fB':=fB.keep hbE;clear hi fB;have hi:=hi';have fB:=fB';clear hi' fB';have hf2':=hf2.keep hbE hf2.lt;clear hf2;have hf2:=hf2';clear hf2';have hb':=bT' hb hbE (Nat.le_of_lt hP.lt);have hP':=hP.keep hbE hP.lt;have hQ':=hQ.keep hbE hQ.lt;have hX':=hX.keep hbE hX.lt;have hY':=hY.keep hbE hY.lt;clear hb;have hb:=hb';clear hb';clear hP;have hP:=hP';clear hP';clear hQ;have hQ:=hQ';clear hQ';clear hX;have hX:=hX';clear hX';clear hY;have hY:=hY';clear hY'))
 clear mi mB
 go_upto_region 16 with fail
 replace hb:Below G w wE.drew:=hb.drew
 replace hP:Own wE.drew G 25 #[.slice da dn dc,.slice a n c]:=hP
 replace hQ:Own wE.drew (G+1) 55 #[.slice a2 n2 c2]:=hQ
 replace hY:Own wE.drew gY 61 #[.slice (some ⟨kf,0,none⟩) n2 n2]:=hY
 replace hf2:Own wE.drew kf 88 (rcells fs).toArray:=hf2
 clear hi fB hX
 go_region_held3 (fun w'=>w'.cell? ⟨gY,0,none⟩=some (.slice (some ⟨kf,0,none⟩) n2 n2)∧w'.cell? ⟨G+1,0,none⟩=some (.slice a2 n2 c2)) (exact ⟨hY.cell 0,hQ.cell 0⟩)
  (first
   | (go_at_call 37;refine (toForm_c c2 (H2.out.keep (show Below w.heap.size w _ by rw [HG.out];exact hb)) hn2).mono ?_;rintro e wF ⟨mg,rfl,hmg,mf,hbF⟩;have hf2':=hf2.keep hbF hf2.lt;clear hf2;have hf2:=hf2';clear hf2';have hb':=bT' hb hbF (Nat.le_of_lt hP.lt);have hP':=hP.keep hbF hP.lt;have hQ':=hQ.keep hbF hQ.lt;have hY':=hY.keep hbF hY.lt;clear hb;have hb:=hb';clear hb';clear hP;have hP:=hP';clear hP';clear hQ;have hQ:=hQ';clear hQ';clear hY;have hY:=hY';clear hY')
   | (go_at_call 39;refine (eqForm_c n2 n2 (hf2.terms HT2.out HL2.out) (mf.terms HT2.out HL2.out) hn2).mono ?_;rintro e wZ ⟨rfl,hbZ⟩;have hf2':=hf2.keep hbZ hf2.lt;clear hf2;have hf2:=hf2';clear hf2';have hb':=bT' hb hbZ (Nat.le_of_lt hP.lt);have hP':=hP.keep hbZ hP.lt;have hQ':=hQ.keep hbZ hQ.lt;have hY':=hY.keep hbZ hY.lt;clear hb;have hb:=hb';clear hb';clear hP;have hP:=hP';clear hP';clear hQ;have hQ:=hQ';clear hQ';clear hY;have hY:=hY';clear hY'))
 go_wp2_with fail
 go_ret
 exact ⟨rfl,by rw [HG.out];exact hb⟩
theorem leastTo_max {fs:List Tm} {k:Nat} {x l:Int} (hx:wlAt fs k=x) (hl:leastTo fs (max k 1)=l):leastTo fs (max (k+1) 1)=min l x:=by
 by_cases h:k=0
 · subst h;have h1:leastTo fs 1=wlAt fs 0:=leastTo_one fs;have h2:leastTo fs (max 0 1)=leastTo fs 1:=rfl;have h3:leastTo fs (max (0+1) 1)=leastTo fs 1:=rfl;rw [h3];omega
 · have h2:max k 1=k:=(by omega);have h3:max (k+1) 1=k+1:=(by omega);rw [h2] at hl;rw [h3,leastTo_succ h,hx,hl]
set_option maxHeartbeats 2000000 in
theorem WordLengthOf_c {w : World} {da : Option Addr} {dn : Nat} {zs : List Int} {a : Option Addr} {n : Nat} {ims : List (List Tm)} {a2 : Option Addr} {n2 : Nat} {fs : List Tm} (dc c c2 : Nat) (hd : Ints w da dn zs) (hdn : dn ≤ 1048576) (hF : Frms w a n ims) (hn : n ≤ 1048576) (hL : ∀ im ∈ ims, (im.length : Int) ≤ 1048576) (h : Terms w a2 n2 fs) (hn2 : n2 ≤ 1048576) :
    Calls Try.prog 43 #[.agg #[.slice da dn dc,.slice a n c],.agg #[.slice a2 n2 c2]] w fun e w'=>e=.returned (.tuple #[.int .i64 (wordV zs ims fs),.int .i64 (algE zs ims fs)])∧Below w.heap.size w w':=by
 have HLL:=Lib.hid hL
 have HL2:=Lib.hid h.len
 clear hL
 have hA:=(Own.new w 33 #[.slice da dn dc,.slice a n c]).alloc (.cells #[.slice a2 n2 c2] 61)
 have hG:=Own.new (w.alloc (.cells #[.slice da dn dc,.slice a n c] 33)) 61 #[.slice a2 n2 c2]
 rw [sAl] at hG
 have hb:=bTn (bA1 w (.cells #[.slice da dn dc,.slice a n c] 33)) (bA1 _ (.cells #[.slice a2 n2 c2] 61))
 have c0:=hA.cell 0
 have c1:=hA.cell 1
 have cg:=hG.cell 0
 cases hal:algF zs ims fs
 all_goals
  have HA:=Lib.hid hal;clear hal;go_enter Try.func43,Try.ntmps43
  go_upto_region 1 with fail
  generalize (w.alloc (.cells #[.slice da dn dc,.slice a n c] 33)).alloc (.cells #[.slice a2 n2 c2] 61)=w0 at *;go_wp2_with fail
  refine (isAlgebraWithForm_c dc c c2 (hd.keep hb) hdn (hF.keep hb) hn HLL.out (h.keep hb) hn2).mono ?_;rintro e w1 ⟨rfl,hb1⟩;rw [HA.out];have hG1:=hG.keep hb1 hG.lt;have hb2:=bT' hb hb1 hb.size;clear hA hG hb hb1 c0 c1 cg;have cg:=hG1.cell 0
 · go_wp2_with fail
   go_ret2
   exact ⟨by rw [(algE_no HA.out).1,(algE_no HA.out).2.2];rfl,hb2⟩
 · by_cases hn0:n2=0
   · subst hn0;go_wp2_with fail
     go_ret2
     refine ⟨?_,hb2⟩;rw [(algE_yes HA.out).1,(algE_yes HA.out).2.2,leastW,HL2.out];rfl
   · have hne:((n2:Int)==0)=false:=(by simp;omega);have hpos:0<n2:=(by omega);have hnz:(0:Int)<(n2:Int):=(by omega);clear hn0;obtain ⟨b0,off0,t0,rfl,hbl0,hr0,ht0,hx0⟩:=(h.keep hb2).at_ (k:=0) hpos;have HW0:=Lib.hid (wlAt_of hx0.out);obtain ⟨m,f⟩:=t0;have hm:IsMono m:=ht0.1;obtain ⟨m0,m1,m2,m3,m4,m5,m6,m7,rfl⟩:=mono8 hm;rw [Nat.zero_mul,Nat.add_zero] at hr0;obtain ⟨x0,x1,x2,x3,x4,x5,x6,x7,x8⟩:=nine hr0;obtain ⟨v0,hv0⟩:∃v0,wlen [m0,m1,m2,m3,m4,m5,m6,m7]=v0:=⟨_,rfl⟩;have HV0:=Lib.hid hv0;have HL0:Hid (leastTo fs (max 0 1)=v0):=Lib.hid ((leastTo_one fs).trans (HW0.out.trans hv0));clear hv0;go_wp2_with fail
     refine (wordLength8 hm HV0.out).mono ?_;rintro e w2 ⟨rfl,hb3⟩;have hG2:=hG1.keep hb3 hG1.lt;have hb4:=bT' hb2 hb3 hb2.size;clear x0 x1 x2 x3 x4 x5 x6 x7 x8 cg hr0 hbl0 hG1 hb2 hb3;have cg:=hG2.cell 0;go_wp2_with fail
     clear cg hG2
     go_loopw [6,26] (fun l i wr=>∃k:Nat,k≤n2∧i=.int .i64 k∧l=.int .i64 (leastTo fs (max k 1))∧Below w.heap.size w wr) (fun _ i _=>n2 - (intOf i).toNat)
     case atStart=>exact ⟨0,Nat.zero_le _,rfl,by rw [HL0.out],hb4⟩
     case round=>
      clear hb4;obtain ⟨k,hk,rfl,rfl,hb⟩:=hrel;by_cases hlt:k<n2
      · obtain ⟨b,off,t,he2,hbl,hr,ht,hx⟩:=(h.keep hb).at_ hlt;obtain ⟨rfl,rfl⟩:b0=b∧off0=off:=(by injection he2 with he2;injection he2 with h1 h2;exact ⟨h1,h2⟩);have HW:=Lib.hid (wlAt_of hx.out);obtain ⟨mt,ft⟩:=t;have hmt:IsMono mt:=ht.1;obtain ⟨p0,p1,p2,p3,p4,p5,p6,p7,rfl⟩:=mono8 hmt;obtain ⟨y0,y1,y2,y3,y4,y5,y6,y7,y8⟩:=nine hr;obtain ⟨x,hxe⟩:∃x,wlen [p0,p1,p2,p3,p4,p5,p6,p7]=x:=⟨_,rfl⟩;have HX:=Lib.hid hxe;have HWX:Hid (wlAt fs k=x):=Lib.hid (HW.out.trans hxe);obtain ⟨l,hl⟩:∃l,leastTo fs (max k 1)=l:=⟨_,rfl⟩;have HLT:=Lib.hid hl;have HNX:=Lib.hid (leastTo_max HWX.out hl);rw [hl];clear hxe hl;have hba:=bA1 wr (.cells #[.int .u8 p0,.int .u8 p1,.int .u8 p2,.int .u8 p3,.int .u8 p4,.int .u8 p5,.int .u8 p6,.int .u8 p7,.int .i64 ft] 88);have hb3:=bT' hb hba hb.size;have hkl:(k:Int)<(n2:Int):=(by omega);have hk0:(0:Int)≤(k:Int):=(by omega);go_wp2_with fail
        generalize wr.alloc (.cells #[.int .u8 p0,.int .u8 p1,.int .u8 p2,.int .u8 p3,.int .u8 p4,.int .u8 p5,.int .u8 p6,.int .u8 p7,.int .i64 ft] 88)=w4 at *;refine (wordLength8 hmt HX.out).mono ?_;rintro e w5 ⟨rfl,hb5⟩;go_wp2_with fail
        go_roundw
        case rel=>exact ⟨k+1,by omega,by go_num,by rw [HNX.out],bT' hb3 hb5 hb3.size⟩
        case measure=>simp [intOf] <;> omega
      · have he:k=n2:=(by omega);subst he;go_wp2_with fail
        go_ret2
        refine ⟨?_,hb⟩;rw [(algE_yes HA.out).1,(algE_yes HA.out).2.2,leastW,HL2.out,show max k 1=k by omega];rfl
set_option maxHeartbeats 1000000 in
theorem WordLengthOf_s {w : World} {da : Option Addr} {dn : Nat} {zs : List Int} {a : Option Addr} {n : Nat} {ims : List (List Tm)} {a2 : Option Addr} {n2 : Nat} {fs : List Tm} (dc c c2 : Nat) (hd : Ints w da dn zs) (hdn : dn ≤ 1048576) (hF : Frms w a n ims) (hn : n ≤ 1048576) (hL : ∀ im ∈ ims, (im.length : Int) ≤ 1048576) (h : Terms w a2 n2 fs) (hn2 : n2 ≤ 1048576) :
    Calls Try.prog 42 #[.agg #[.slice da dn dc,.slice a n c],.agg #[.slice a2 n2 c2]] w fun e w'=>e=.returned (.tuple #[.int .i64 (wordV zs ims fs),.int .i64 (algE zs ims fs)])∧Below w.heap.size w w':=by
 have HLL:=Lib.hid hL
 clear hL
 have hA:=(Own.new w 33 #[.slice da dn dc,.slice a n c]).alloc (.cells #[.slice a2 n2 c2] 61)
 have hG:=Own.new (w.alloc (.cells #[.slice da dn dc,.slice a n c] 33)) 61 #[.slice a2 n2 c2]
 rw [sAl] at hG
 have hb:=bTn (bA1 w (.cells #[.slice da dn dc,.slice a n c] 33)) (bA1 _ (.cells #[.slice a2 n2 c2] 61))
 have c0:=hA.cell 0
 have c1:=hA.cell 1
 have cg:=hG.cell 0
 cases hal:algF zs ims fs
 case false=>
  have HA:=Lib.hid hal;have HE:=Lib.hid (algE_no hal).1;clear hal;go_enter Try.func42,Try.ntmps42
  go_upto_region 1 with fail
  generalize (w.alloc (.cells #[.slice da dn dc,.slice a n c] 33)).alloc (.cells #[.slice a2 n2 c2] 61)=w0 at *;go_wp2_with fail
  refine (l02Both_c dc c c2 (hd.keep hb) hdn (hF.keep hb) hn HLL.out (h.keep hb) hn2).mono ?_;rintro e w1 ⟨rfl,hb1⟩;rw [HE.out];go_wp2_with fail
  go_ret2
  exact ⟨by rw [(algE_no HA.out).1,(algE_no HA.out).2.2];rfl,bT' hb hb1 hb.size⟩
 case true=>
  have HA:=Lib.hid hal;have HE:=Lib.hid (algE_yes hal).1;clear hal;go_enter Try.func42,Try.ntmps42
  go_upto_region 1 with fail
  generalize (w.alloc (.cells #[.slice da dn dc,.slice a n c] 33)).alloc (.cells #[.slice a2 n2 c2] 61)=w0 at *;go_wp2_with fail
  refine (l02Both_c dc c c2 (hd.keep hb) hdn (hF.keep hb) hn HLL.out (h.keep hb) hn2).mono ?_;rintro e w1 ⟨rfl,hb1⟩;rw [HE.out];have hG1:=hG.keep hb1 hG.lt;have hb2:=bT' hb hb1 hb.size;clear hA hG hb hb1 c0 c1 cg;have cg:=hG1.cell 0;go_wp2_with fail
  refine (l02Least_c c2 (h.keep hb2) hn2).mono ?_;rintro e w2 ⟨rfl,hb3⟩;go_wp2_with fail
  go_ret2
  exact ⟨by rw [(algE_yes HA.out).1,(algE_yes HA.out).2.2];rfl,bT' hb2 hb3 hb2.size⟩
theorem wordLengthOf_walk (da : Option Addr) (dn dc : Nat) (zs : List Int) (a : Option Addr) (n c : Nat) (fss : List (List Tm)) (a2 : Option Addr) (n2 c2 : Nat) (fs : List Tm) (w : World) (hd : Ints w da dn zs) (hdm : (dn : Int) ≤ 9223372036854775807) (hF : Frms w a n fss) (hnm : (n : Int) ≤ 9223372036854775807) (h2 : Terms w a2 n2 fs) (hm2 : (n2 : Int) ≤ 9223372036854775807) :
    Calls Try.prog 9 #[.agg #[.slice da dn dc,.slice a n c],.agg #[.slice a2 n2 c2]] w fun e w'=>e=.returned (.bool true)∧Below w.heap.size w w':=
 word_walk0 da dn dc zs a n c fss a2 n2 c2 fs w hd hdm hF hnm h2 hm2 (wordV zs fss fs) (algE zs fss fs) (fun _ _ dc' _ c' _ q h1 h2 h3 h4 h5 h6 h7=>WordLengthOf_s dc' c' q h5 h1 h6 h2 h3 h7 h4) (fun _ _ dc' _ c' _ q h1 h2 h3 h4 h5 h6 h7=>WordLengthOf_c dc' c' q h5 h1 h6 h2 h3 h7 h4)
end Go.Proofs.Ytikldofmpkidbaa
