
import Derived.Test.YtikldofmpkidbaaIsAlg
import Derived.Test.YtikldofmpkidbaaClosed
import Derived.Test.YtikldofmpkidbaaAlgS
import Derived.Test.YtikldofmpkidbaaLawForm
namespace Go.Proofs.Ytikldofmpkidbaa
set_option maxRecDepth 100000
open Go.RowKit Go.Deep
theorem isAlg_dz {zs:List Int} {ims:List (List Tm)} (h:isAlg zs ims=true):degsOk zs=true:=by
 simp only [isAlg,Bool.and_eq_true,decide_eq_true_eq] at h
 exact h.1
theorem odd_emod (x:Int):(x % 2 != 0)=odd x:=by rw [←odd_bne,Bool.eq_iff_iff];simp [odd_tmod]
def fdOf (z:Int):Int:=if odd z=true then z else 1 - z
def fdTo (zs:List Int):Nat→Int
 | 0=>0
 | k+1=>fdTo zs k+fdOf (zs.getD k 0)
def fdV (zs:List Int) (ims:List (List Tm)):Int:=if isAlg zs ims=true then fdTo zs zs.length else 0
def alE8 (zs:List Int) (ims:List (List Tm)):Int:=if isAlg zs ims=true then 0 else 1
theorem fdV_no {zs:List Int} {ims:List (List Tm)} (h:isAlg zs ims=false):fdV zs ims=0:=by simp [fdV,h]
theorem fdV_yes {zs:List Int} {ims:List (List Tm)} (h:isAlg zs ims=true):fdV zs ims=fdTo zs zs.length:=by simp [fdV,h]
theorem alE8_no {zs:List Int} {ims:List (List Tm)} (h:isAlg zs ims=false):alE8 zs ims=1:=by simp [alE8,h]
theorem alE8_yes {zs:List Int} {ims:List (List Tm)} (h:isAlg zs ims=true):alE8 zs ims=0:=by simp [alE8,h]
theorem fdTo_step {zs:List Int} {k:Nat} {z D:Int} (h:fdTo zs k=D) (hz:zs[k]? = some z):fdTo zs (k+1)=D+fdOf z:=by rw [fdTo,h,List.getD_eq_getElem?_getD,hz];rfl
theorem fdTo_bd {zs:List Int} (h:degsOk zs=true):∀k,k≤zs.length→-12 * (k:Int)≤fdTo zs k∧fdTo zs k≤12 * (k:Int)
 | 0,_=>by simp [fdTo]
 | k + 1, hk => by
   have h1:=fdTo_bd h k (by omega);have hz:zs[k]? = some zs[k]:=List.getElem?_eq_getElem (by omega);have h2:=degsOk_at h hz;rw [fdTo_step rfl hz,fdOf];split <;> omega
set_option maxHeartbeats 2000000 in
theorem FormalDimension_c {w : World} {da : Option Addr} {dn : Nat} {zs : List Int} {a : Option Addr} {n : Nat} {ims : List (List Tm)} (dc c : Nat) (hd : Ints w da dn zs) (hdn : dn ≤ 1048576) (hF : Frms w a n ims) (hn : n ≤ 1048576) (hL : ∀ im ∈ ims, (im.length : Int) ≤ 1048576) :
    Calls Try.prog 61 #[.agg #[.slice da dn dc,.slice a n c]] w fun e w'=>e=.returned (.tuple #[.int .i64 (fdV zs ims),.int .i64 (alE8 zs ims)])∧Below w.heap.size w w':=by
 have HLL:=Lib.hid hL
 have HLE:=Lib.hid hd.len
 clear hL
 have hA:=Own.new w 33 #[.slice da dn dc,.slice a n c]
 have hb:=bA1 w (.cells #[.slice da dn dc,.slice a n c] 33)
 have c0:=hA.cell 0
 have c1:=hA.cell 1
 cases hal:isAlg zs ims
 all_goals
  have HA:=Lib.hid hal;clear hal;go_enter Try.func61,Try.ntmps61
  go_upto_region 1 with fail
  generalize w.alloc (.cells #[.slice da dn dc,.slice a n c] 33)=w0 at *;go_wp2_with fail
  refine (IsAlgebra_c dc c (hd.keep hb) hdn (hF.keep hb) hn HLL.out).mono ?_;rintro e w1 ⟨rfl,hb1⟩;rw [HA.out];have hA1:=hA.keep hb1 hA.lt;have hb2:=bT' hb hb1 hb.size;clear hA hb hb1 c0 c1;have c0:=hA1.cell 0
 · go_wp2_with fail
   go_ret2
   exact ⟨by rw [fdV_no HA.out,alE8_no HA.out];rfl,hb2⟩
 · have hdz:=isAlg_dz HA.out;have h8:=degsOk_len hdz;have HDZ:=Lib.hid hdz;have hlen:=HLE.out;have hd8:dn≤8:=(by omega);clear hdz hlen h8;go_wp2_with fail
   go_loopw [4,13] (fun x y wr=>∃i:Nat,i≤dn∧x=.int .i64 (fdTo zs i)∧y=.int .i64 i∧Below w.heap.size w wr) (fun _ y _=>dn - (intOf y).toNat)
   case atStart=>exact ⟨0,Nat.zero_le _,rfl,rfl,hb2⟩
   case round=>
    clear hb2 hA1 c0;obtain ⟨i,hi,rfl,rfl,hb⟩:=hrel;have hi0:(0:Int)≤(i:Int):=(by omega);obtain ⟨D,hD⟩:∃D,fdTo zs i=D:=⟨_,rfl⟩;have hbd:=fdTo_bd HDZ.out i (by rw [HLE.out];exact hi);rw [hD] at hbd ⊢;have HDI:=Lib.hid hD;clear hD;by_cases hlt:i<dn
    · have hin:(i:Int)<(dn:Int):=(by omega);obtain ⟨b,off,x,rfl,hbl,hc,hx⟩:=(hd.keep hb).at_ hlt;have hxb:=degsOk_at HDZ.out hx.out;go_wp2_with fail
      refine (isOdd_c x wr).mono ?_;rintro e w5 ⟨rfl,rfl⟩;cases ho:odd x
      · have hs:fdTo zs (i+1)=D - (x - 1):=(by rw [fdTo_step HDI.out hx.out,fdOf,ho,if_neg (by simp)];omega);clear ho;go_wp2_with fail
        go_roundw
        case rel=>exact ⟨i+1,by omega,by rw [hs],by go_num,hb⟩
        case measure=>simp [intOf] <;> omega
      · have hs:fdTo zs (i+1)=D+x:=(by rw [fdTo_step HDI.out hx.out,fdOf,ho,if_pos rfl]);clear ho;go_wp2_with fail
        go_roundw
        case rel=>exact ⟨i+1,by omega,by rw [hs],by go_num,hb⟩
        case measure=>simp [intOf] <;> omega
    · have he:i=dn:=(by omega);have hnl:¬(i:Int)<(dn:Int):=(by omega);subst he;go_wp2_with fail
      go_ret2
      refine ⟨?_,hb⟩;rw [fdV_yes HA.out,alE8_yes HA.out,HLE.out,HDI.out];rfl
set_option maxHeartbeats 2000000 in
theorem FormalDimension_s {w : World} {da : Option Addr} {dn : Nat} {zs : List Int} {a : Option Addr} {n : Nat} {ims : List (List Tm)} (dc c : Nat) (hd : Ints w da dn zs) (hdn : dn ≤ 1048576) (hF : Frms w a n ims) (hn : n ≤ 1048576) (hL : ∀ im ∈ ims, (im.length : Int) ≤ 1048576) :
    Calls Try.prog 60 #[.agg #[.slice da dn dc,.slice a n c]] w fun e w'=>e=.returned (.tuple #[.int .i64 (fdV zs ims),.int .i64 (alE8 zs ims)])∧Below w.heap.size w w':=by
 have HLL:=Lib.hid hL
 have HLE:=Lib.hid hd.len
 clear hL
 have hA:=Own.new w 33 #[.slice da dn dc,.slice a n c]
 have hb:=bA1 w (.cells #[.slice da dn dc,.slice a n c] 33)
 have c0:=hA.cell 0
 have c1:=hA.cell 1
 cases hal:isAlg zs ims
 all_goals
  have HA:=Lib.hid hal;clear hal;go_enter Try.func60,Try.ntmps60
  go_upto_region 1 with fail
  generalize w.alloc (.cells #[.slice da dn dc,.slice a n c] 33)=w0 at *;go_wp2_with fail
  refine (l02Is_c dc c (hd.keep hb) hdn (hF.keep hb) hn HLL.out).mono ?_;rintro e w1 ⟨rfl,hb1⟩;rw [HA.out];have hA1:=hA.keep hb1 hA.lt;have hb2:=bT' hb hb1 hb.size;clear hA hb hb1 c0 c1;have c0:=hA1.cell 0
 · go_wp2_with fail
   go_ret2
   exact ⟨by rw [fdV_no HA.out,alE8_no HA.out];rfl,hb2⟩
 · have hdz:=isAlg_dz HA.out;have h8:=degsOk_len hdz;have HDZ:=Lib.hid hdz;have hlen:=HLE.out;have hd8:dn≤8:=(by omega);clear hdz hlen h8;go_wp2_with fail
   go_loopw [4,5] (fun x y wr=>∃i:Nat,i≤dn∧x=.int .i64 (fdTo zs i)∧y=.int .i64 i∧Below w.heap.size w wr∧Own wr w.heap.size 33 #[.slice da dn dc,.slice a n c]) (fun _ y _=>dn - (intOf y).toNat)
   case atStart=>exact ⟨0,Nat.zero_le _,rfl,rfl,hb2,hA1⟩
   case round=>
    clear hb2 hA1 c0;obtain ⟨i,hi,rfl,rfl,hb,hA⟩:=hrel;have c0:=hA.cell 0;have hi0:(0:Int)≤(i:Int):=(by omega);obtain ⟨D,hD⟩:∃D,fdTo zs i=D:=⟨_,rfl⟩;have hbd:=fdTo_bd HDZ.out i (by rw [HLE.out];exact hi);rw [hD] at hbd ⊢;have HDI:=Lib.hid hD;clear hD;by_cases hlt:i<dn
    · have hin:(i:Int)<(dn:Int):=(by omega);obtain ⟨b,off,x,rfl,hbl,hc,hx⟩:=(hd.keep hb).at_ hlt;have hxb:=degsOk_at HDZ.out hx.out;have hob:=odd_emod x;cases ho:odd x
      · have hs:fdTo zs (i+1)=D - (x - 1):=(by rw [fdTo_step HDI.out hx.out,fdOf,ho,if_neg (by simp)];omega);rw [ho] at hob;clear ho;go_wp2_with fail
        go_roundw
        case rel=>exact ⟨i+1,by omega,by rw [hs],by go_num,hb,hA⟩
        case measure=>simp [intOf] <;> omega
      · have hs:fdTo zs (i+1)=D+x:=(by rw [fdTo_step HDI.out hx.out,fdOf,ho,if_pos rfl]);rw [ho] at hob;clear ho;go_wp2_with fail
        go_roundw
        case rel=>exact ⟨i+1,by omega,by rw [hs],by go_num,hb,hA⟩
        case measure=>simp [intOf] <;> omega
    · have he:i=dn:=(by omega);have hnl:¬(i:Int)<(dn:Int):=(by omega);subst he;go_wp2_with fail
      go_ret2
      refine ⟨?_,hb⟩;rw [fdV_yes HA.out,alE8_yes HA.out,HLE.out,HDI.out];rfl
set_option maxHeartbeats 8000000 in
theorem fdim_walk0 (da : Option Addr) (dn dc : Nat) (zs : List Int) (a : Option Addr) (n c : Nat) (fss : List (List Tm)) (w : World) (hd : Ints w da dn zs) (hdm : (dn : Int) ≤ 9223372036854775807) (hF : Frms w a n fss) (hnm : (n : Int) ≤ 9223372036854775807)
    (E0:Int) (E1:Int)
    (CS:∀(w':World) (da':Option Addr) (dc':Nat) (a':Option Addr) (c':Nat),dn≤1048576→n≤1048576→(∀ts∈fss,(ts.length:Int)≤1048576)→Ints w' da' dn zs→Frms w' a' n fss→Calls Try.prog 60 #[.agg #[.slice da' dn dc',.slice a' n c']] w' fun e w''=>e=.returned (.tuple #[.int .i64 E0,.int .i64 E1])∧Below w'.heap.size w' w'')
    (CC:∀(w':World) (da':Option Addr) (dc':Nat) (a':Option Addr) (c':Nat),dn≤1048576→n≤1048576→(∀ts∈fss,(ts.length:Int)≤1048576)→Ints w' da' dn zs→Frms w' a' n fss→Calls Try.prog 61 #[.agg #[.slice da' dn dc',.slice a' n c']] w' fun e w''=>e=.returned (.tuple #[.int .i64 E0,.int .i64 E1])∧Below w'.heap.size w' w'') :
    Calls Try.prog 14 #[.agg #[.slice da dn dc,.slice a n c]] w fun e w'=>e=.returned (.bool true)∧Below w.heap.size w w':=by
 have HL:=Lib.hid hd.len
 have HLn:=Lib.hid hF.len
 have HD:=Lib.hid hd
 have HF:=Lib.hid hF
 have HT:=Lib.hid hF.tm
 have HCS:=Lib.hid CS
 have HCC:=Lib.hid CC
 clear CS CC
 have hP:=Own.new w 25 #[.slice da dn dc,.slice a n c]
 have hb:=bA1 w (.cells #[.slice da dn dc,.slice a n c] 25)
 rcases szA_spec (L:=1048576) (dn:=dn) (n:=n) (fss:=fss) with hz | ⟨h1,hR,h3,h4,h5⟩
 · have HZ:=Lib.hid hz;clear hz;go_enter Try.func14,Try.ntmps14
   go_upto_region 2 with fail
   generalize w.alloc (.cells #[.slice da dn dc,.slice a n c] 25)=w0 at *;generalize hG:w.heap.size=G at *;have HG:=Lib.hid hG;clear hG;have hbw:Below w.heap.size w w0:=(by rw [HG.out];exact hb);have p0:=hP.cell 0;have p1:=hP.cell 1;go_wp2_with fail
   refine (szAlgebra_c dc c 1048576 (by omega) (by omega) hdm (HF.out.keep hbw) hnm).mono ?_;rintro e w1 ⟨rfl,hb1⟩;rw [HZ.out];clear p0 p1 hbw;go_wp2_with fail
   go_ret
   exact ⟨rfl,by rw [HG.out];exact bT' hb hb1 (Nat.le_of_lt hP.lt)⟩
 generalize hz:szA 1048576 dn n fss=R at *
 have HZ:=Lib.hid hz
 clear hz
 have hdn:dn≤1048576:=by omega
 have hn:n≤1048576:=by omega
 have HLL:=Lib.hid h5
 clear h5
 have hRn:¬R<0:=by omega
 go_enter Try.func14,Try.ntmps14
 go_upto_region 2 with fail
 generalize w.alloc (.cells #[.slice da dn dc,.slice a n c] 25)=w0 at *
 generalize hG:w.heap.size=G at *
 have HG:=Lib.hid hG
 clear hG
 have hbw:Below w.heap.size w w0:=by rw [HG.out];exact hb
 have p0:=hP.cell 0
 have p1:=hP.cell 1
 go_wp2_with fail
 refine (szAlgebra_c dc c 1048576 (by omega) (by omega) hdm (HF.out.keep hbw) hnm).mono ?_
 rintro e w1 ⟨rfl,hb1⟩
 rw [HZ.out]
 clear p0 p1 hbw
 replace hb:=bT' hb hb1 (Nat.le_of_lt hP.lt)
 replace hP:=hP.keep hb1 hP.lt
 clear hb1
 have p0:=hP.cell 0
 have p1:=hP.cell 1
 go_wp2_with fail
 refine (toAlgebra_c dc c (HD.out.keep (show Below w.heap.size w _ by rw [HG.out];exact hb)) hdn (HF.out.keep (show Below w.heap.size w _ by rw [HG.out];exact hb)) hn HLL.out).mono ?_
 rintro e wA ⟨gd,g,gs,rfl,hgd,hdg,hi,fB,hbA⟩
 clear p0 p1
 replace hb:=bT' hb hbA (Nat.le_of_lt hP.lt)
 replace hP:=hP.keep hbA hP.lt
 go_wp2_with fail
 refine (HCS.out _ _ _ _ _ hdn hn HLL.out (hi.ints' HL.out) (fB.frms HT.out HLL.out HLn.out)).mono ?_
 rintro e wS ⟨rfl,hbS⟩
 replace hb:=bT' hb hbS (Nat.le_of_lt hP.lt)
 replace hP:=hP.keep hbS hP.lt
 clear hi fB hbA hbS
 have p0:=hP.cell 0
 have p1:=hP.cell 1
 go_wp2_with fail
 refine (toAlgebra_c dc c (HD.out.keep (show Below w.heap.size w _ by rw [HG.out];exact hb)) hdn (HF.out.keep (show Below w.heap.size w _ by rw [HG.out];exact hb)) hn HLL.out).mono ?_
 rintro e wC ⟨kd,kg,ks,rfl,hkd,hkg,hi,fB,hbA⟩
 clear p0 p1
 replace hb:=bT' hb hbA (Nat.le_of_lt hP.lt)
 replace hP:=hP.keep hbA hP.lt
 clear hbA
 go_upto_region 7 with fail
 have hba:=bA1 wC (.cells #[.slice (some ⟨kd,0,none⟩) dn dn,.slice (some ⟨kg,0,none⟩) n n] 33)
 have hX:=Own.new wC 33 #[.slice (some ⟨kd,0,none⟩) dn dn,.slice (some ⟨kg,0,none⟩) n n]
 replace hb:=bT' hb hba (Nat.le_of_lt hP.lt)
 replace hP:=hP.keep hba hP.lt
 replace hi:=IntBlk.keep hi hba (IntBlk.lt hi)
 replace fB:=fB.keep hba
 generalize wC.alloc (.cells #[.slice (some ⟨kd,0,none⟩) dn dn,.slice (some ⟨kg,0,none⟩) n n] 33)=wx at *
 generalize wC.heap.size=gX at *
 clear hba
 have x0:=hX.cell 0
 have x1:=hX.cell 1
 go_wp2_with fail
 refine (HCC.out _ _ _ _ _ hdn hn HLL.out (hi.ints' HL.out) (fB.frms HT.out HLL.out HLn.out)).mono ?_
 rintro e wR ⟨rfl,hbR⟩
 clear x0 x1
 replace hb:=bT' hb hbR (Nat.le_of_lt hP.lt)
 replace hP:=hP.keep hbR hP.lt
 replace hX:=hX.keep hbR hX.lt
 replace hi:=IntBlk.keep hi hbR (IntBlk.lt hi)
 replace fB:=fB.keep hbR
 clear hbR
 have hne0:(E0 != E0)=false:=by simp
 have hne1:(E1 != E1)=false:=by simp
 go_upto_region 10 with fail
 clear hne0 hne1
 replace hb:Below G w wR.drew:=hb.drew
 replace hP:Own wR.drew G 25 #[.slice da dn dc,.slice a n c]:=hP
 replace hX:Own wR.drew gX 33 #[.slice (some ⟨kd,0,none⟩) dn dn,.slice (some ⟨kg,0,none⟩) n n]:=hX
 replace hi:IntBlk wR.drew kd zs:=hi
 replace fB:=fB.keep ((Below.refl _ _).drew:Below wR.heap.size wR wR.drew)
 go_region_held3 (fun w'=>w'.cell? ⟨gX,0,none⟩=some (.slice (some ⟨kd,0,none⟩) dn dn)∧w'.cell? ⟨gX,1,none⟩=some (.slice (some ⟨kg,0,none⟩) n n)∧w'.cell? ⟨G,0,none⟩=some (.slice da dn dc)∧w'.cell? ⟨G,1,none⟩=some (.slice a n c)) (exact ⟨hX.cell 0,hX.cell 1,hP.cell 0,hP.cell 1⟩)
  (first
   | (go_at_call 18;refine (toAlgebra_c dc c (HD.out.keep (show Below w.heap.size w _ by rw [HG.out];exact hb)) hdn (HF.out.keep (show Below w.heap.size w _ by rw [HG.out];exact hb)) hn HLL.out).mono ?_;rintro e wA ⟨md,mg,ms,rfl,hmd,hmg,mi,mB,hbA⟩;have hi':=IntBlk.keep hi hbA (IntBlk.lt hi);have fB':=fB.keep hbA;clear hi fB;have hi:=hi';have fB:=fB';clear hi' fB';have hb':=bT' hb hbA (Nat.le_of_lt hP.lt);have hP':=hP.keep hbA hP.lt;have hX':=hX.keep hbA hX.lt;clear hb;have hb:=hb';clear hb';clear hP;have hP:=hP';clear hP';clear hX;have hX:=hX';clear hX')
   | (go_at_call 21;refine (eqAlgebra_c dn dn n n (hi.ints' HL.out) (mi.ints' HL.out) hdn (fB.frms HT.out HLL.out HLn.out) (mB.frms HT.out HLL.out HLn.out) hn HLL.out).mono ?_;rintro e wE ⟨rfl,hbE⟩;have hi':=IntBlk.keep hi hbE (IntBlk.lt hi);have fB':=fB.keep hbE;clear hi fB;have hi:=hi';have fB:=fB';clear hi' fB';have hb':=bT' hb hbE (Nat.le_of_lt hP.lt);have hP':=hP.keep hbE hP.lt;have hX':=hX.keep hbE hX.lt;clear hb;have hb:=hb';clear hb';clear hP;have hP:=hP';clear hP';clear hX;have hX:=hX';clear hX'))
 go_wp2_with fail
 go_ret
 exact ⟨rfl,by rw [HG.out];exact hb⟩
theorem fdim_walk (da : Option Addr) (dn dc : Nat) (zs : List Int) (a : Option Addr) (n c : Nat) (fss : List (List Tm)) (w : World) (hd : Ints w da dn zs) (hdm : (dn : Int) ≤ 9223372036854775807) (hF : Frms w a n fss) (hnm : (n : Int) ≤ 9223372036854775807) :
    Calls Try.prog 14 #[.agg #[.slice da dn dc,.slice a n c]] w fun e w'=>e=.returned (.bool true)∧Below w.heap.size w w':=
 fdim_walk0 da dn dc zs a n c fss w hd hdm hF hnm (fdV zs fss) (alE8 zs fss) (fun _ _ dc' _ c' h1 h2 h3 h4 h5=>FormalDimension_s dc' c' h4 h1 h5 h2 h3) (fun _ _ dc' _ c' h1 h2 h3 h4 h5=>FormalDimension_c dc' c' h4 h1 h5 h2 h3)
end Go.Proofs.Ytikldofmpkidbaa
