
import Derived.Test.YtfheammnkmjabaaGreatRanks
import Derived.Test.YtfheammnkmjabaaGreatAlgR
namespace Go.Proofs.YtfheammnkmjabaaGreat
set_option maxRecDepth 100000
open Go.RowKit Go.Deep
set_option maxHeartbeats 4000000 in
theorem checkDegreesTo_c {w : World} {da : Option Addr} {dn : Nat} {zs : List Int} {a : Option Addr} {k : Nat} {ims : List (List Tm)} {n : Int} (dc c : Nat) (hd : Ints w da dn zs) (hdn : dn ≤ 1048576) (hF : Frms w a k ims) (hk : k ≤ 1048576) (hL : ∀ im ∈ ims, (im.length : Int) ≤ 1048576) :
    Calls Tryz.prog 23 #[.agg #[.slice da dn dc,.slice a k c],.int .i64 n] w fun e w'=>e=.returned (.int .i64 (btE zs ims n))∧Below w.heap.size w w':=by
 have HD:=Lib.hid hd
 have HF:=Lib.hid hF
 have HLL:=Lib.hid hL
 have hO:=Own.new w 31 #[.slice da dn dc,.slice a k c]
 have hb:=bA1 w (.cells #[.slice da dn dc,.slice a k c] 31)
 have H3:Hid (0≤n→n≤20→From3 0 n 0):=Lib.hid (fun h0 h20=>⟨Or.inl ⟨by omega,rfl⟩,by omega⟩)
 clear hd hF hL
 go_enter Tryz.func23,Tryz.ntmps23
 go_wp2_with fail
 refine (checkDegrees_c dc c (HD.out.keep hb) hdn (HF.out.keep hb) hk HLL.out H3.out).mono ?_
 rintro e w1 ⟨rfl,hb1⟩
 go_wp2_with fail
 go_ret
 exact ⟨rfl,bTn hb hb1⟩
set_option maxHeartbeats 4000000 in
theorem l03All_c {w : World} {da : Option Addr} {dn : Nat} {zs : List Int} {a : Option Addr} {k : Nat} {ims : List (List Tm)} {n : Int} (dc c : Nat) (hd : Ints w da dn zs) (hdn : dn ≤ 1048576) (hF : Frms w a k ims) (hk : k ≤ 1048576) (hL : ∀ im ∈ ims, (im.length : Int) ≤ 1048576) :
    Calls Tryz.prog 19 #[.agg #[.slice da dn dc,.slice a k c],.int .i64 n] w fun e w'=>e=.returned (.int .i64 (btE zs ims n))∧Below w.heap.size w w':=by
 have HD:=Lib.hid hd
 have HF:=Lib.hid hF
 have HLL:=Lib.hid hL
 have hO:=Own.new w 31 #[.slice da dn dc,.slice a k c]
 have hb:=bA1 w (.cells #[.slice da dn dc,.slice a k c] 31)
 clear hd hF hL
 go_enter Tryz.func19,Tryz.ntmps19
 go_wp2_with fail
 refine (l02Is_c dc c (HD.out.keep hb) hdn (HF.out.keep hb) hk HLL.out).mono ?_
 rintro e w1 ⟨rfl,hb1⟩
 have hO1:=hO.keep hb1 hO.lt
 have hb2:=bTn hb hb1
 clear hO hb hb1
 cases hA:isAlg zs ims with
 | false =>
   have hC:code3 zs ims 0 n=1:=(by rw [code3,if_pos hA]);have HC:=Lib.hid hC;clear hA hC;go_wp2_with fail
   go_ret
   exact ⟨by rw [btE,HC.out];rfl,hb2⟩
 | true =>
   have HA:=Lib.hid hA;clear hA;by_cases h0:0≤n∧n≤20
   · obtain ⟨m,rfl⟩:∃m:Nat,n=m:=⟨n.toNat,by omega⟩
     have hC:code3 zs ims 0 (m:Int)=if many zs 0 (m+1 - 0)=true then 3 else 0:=by
      rw [code3,if_neg (by rw [HA.out];simp),if_neg (by omega)];rfl
     have HC:=Lib.hid hC;clear hC;have e1:IntKind.i64.wrap ((m:Int)+1)=((m+1:Nat):Int):=IntWalk.i64_in _ (by omega);have hdt:decide (0≤(m:Int)∧(m:Int)≤20)=true:=decide_eq_true h0;have hHM:=within3_c (w:=w1) (a:=a) (n:=k) (lo:=0) (L:=0) (H:=m+1) dc c (HD.out.keep hb2) (isAlg_dg HA.out) (Or.inl ⟨by omega,rfl⟩) (by omega) (by omega);obtain ⟨bq,hbq⟩:∃b,many zs 0 (m+1 - 0)=b:=⟨_,rfl⟩;have hC:=HC.out;rw [hbq] at hHM hC;rw [Int.natCast_add,Int.natCast_one] at hHM;rw [Int.natCast_add,Int.natCast_one] at e1;have HM:=Lib.hid hHM;clear hbq hHM HC;go_wp2_with fail
     refine (l01In_c _ _ _ _).mono ?_;rintro e w3 ⟨rfl,rfl⟩;rw [hdt];clear hdt;have c0:=hO1.cell 0;have c1:=hO1.cell 1
     cases bq with
     | true =>
       rw [if_pos rfl] at hC;have HC:=Lib.hid hC;clear hC;go_wp2_with fail
       clear c0 c1;refine HM.out.mono ?_;rintro e w2 ⟨rfl,hb3⟩;have hb4:=hb2.trans (hb3.mono hb2.size);clear hO1 hb2 hb3;go_wp2_with fail
       go_ret
       exact ⟨by rw [btE,HC.out];rfl,hb4⟩
     | false =>
       rw [if_neg (by simp)] at hC;have HC:=Lib.hid hC;clear hC;go_wp2_with fail
       clear c0 c1;refine HM.out.mono ?_;rintro e w2 ⟨rfl,hb3⟩;have hb4:=hb2.trans (hb3.mono hb2.size);clear hO1 hb2 hb3;go_wp2_with fail
       go_ret
       exact ⟨by rw [btE,HC.out];rfl,hb4⟩
   · have hC:code3 zs ims 0 n=2:=(by rw [code3,if_neg (by rw [HA.out];simp),if_pos h0]);have HC:=Lib.hid hC;have hdt:decide (0≤n∧n≤20)=false:=decide_eq_false h0;clear hC;go_wp2_with fail
     refine (l01In_c _ _ _ _).mono ?_;rintro e w3 ⟨rfl,rfl⟩;rw [hdt];clear hdt;go_wp2_with fail
     go_ret
     exact ⟨by rw [btE,HC.out];rfl,hb2⟩
def btA (zs:List Int) (ims:List (List Tm)) (N k:Nat):List Int:=btL zs ims k++List.replicate (N - k) 0
theorem btA_zero (zs:List Int) (ims:List (List Tm)) (N:Nat):btA zs ims N 0=List.replicate N 0:=by simp [btA,btL]
theorem btA_end (zs:List Int) (ims:List (List Tm)) (N:Nat):btA zs ims N N=btL zs ims N:=by simp [btA]
theorem btA_len {zs:List Int} {ims:List (List Tm)} {N k:Nat} (h:k≤N):(btA zs ims N k).length=N:=by rw [btA,List.length_append,btL_len,List.length_replicate];omega
theorem btA_step {zs:List Int} {ims:List (List Tm)} {N k:Nat} (h:k<N):(btA zs ims N k).set k (bt zs ims k)=btA zs ims N (k+1):=by
 rw [btA,btA,List.set_append_right _ _ (by rw [btL_len];exact Nat.le_refl _),btL_len,Nat.sub_self,show N - k=(N - (k+1))+1 by omega,List.replicate_succ,List.set_cons_zero,btL_succ,List.append_assoc]
 rfl
set_option maxHeartbeats 4000000 in
theorem BettiNumbers_c {w : World} {da : Option Addr} {dn : Nat} {zs : List Int} {a : Option Addr} {k : Nat} {ims : List (List Tm)} (x : Int) (dc c : Nat) (hd : Ints w da dn zs) (hdn : dn ≤ 1048576) (hF : Frms w a k ims) (hk : k ≤ 1048576) (hL : ∀ im ∈ ims, (im.length : Int) ≤ 1048576) :
    Calls Tryz.prog 14 #[.agg #[.slice da dn dc,.slice a k c],.int .i64 x] w fun e w'=>∃ra rn rc,e=.returned (.tuple #[.slice ra rn rc,.int .i64 (btE zs ims x)])∧OwnI w' w.heap.size w'.heap.size ra rn (btV zs ims x)∧Below w.heap.size w w':=by
 have HD:=Lib.hid hd
 have HF:=Lib.hid hF
 have HLL:=Lib.hid hL
 have HT:=Lib.hid hF.tm
 have hO:=Own.new w 31 #[.slice da dn dc,.slice a k c]
 have hb:=bA1 w (.cells #[.slice da dn dc,.slice a k c] 31)
 clear hd hF hL
 go_enter Tryz.func14,Tryz.ntmps14
 go_wp2_with fail
 refine (checkDegreesTo_c dc c (HD.out.keep hb) hdn (HF.out.keep hb) hk HLL.out).mono ?_
 rintro e w1 ⟨rfl,hb1⟩
 have hO1:=hO.keep hb1 hO.lt
 have hb2:=bTn hb hb1
 clear hO hb hb1
 generalize hE:btE zs ims x=E at *
 have HE:=Lib.hid hE
 clear hE
 by_cases hE0:E=0
 · subst hE0;have HZ:=Lib.hid (bt_zero HE.out);obtain ⟨m,rfl⟩:∃m:Nat,x=m:=⟨x.toNat,by have:=HZ.out.2.1;omega⟩;have hm20:m≤20:=(by have:=HZ.out.2.2.1;omega);have HCT:Hid (∀i,i≤m+1→cnt zs i≤120):=Lib.hid (fun i hi=>HZ.out.2.2.2 i (by simpa using hi));have HA:=Lib.hid (isAlg_ok HZ.out.1 HT.out);have Hz:=Lib.hid (isAlg_dg HZ.out.1);obtain ⟨N,hN⟩:∃N,m+1=N:=⟨_,rfl⟩;have hmk:=run_make_row' (P:=Tryz.prog) 22 2 (.int .i64 0) 8 Tryz.underlying22 Tryz.info_int64 rfl .i64 .i64 N (by omega) (by omega);rw [made_ints N] at hmk;have e1:(m:Int)+1=(N:Int):=(by omega);have e2:IntKind.i64.wrap ((m:Int)+1)=(N:Int):=(by rw [e1];exact IntWalk.i64_in _ (by omega));have hmk1:=hmk w1;clear hmk;have hR:=Own.new w1 2 (Array.replicate N (Value.int .i64 0));have hba:=bA1 w1 (.cells (Array.replicate N (Value.int .i64 0)) 2);have hO2:=hO1.keep hba hO1.lt;have hb3:=bT' hb2 hba hb2.size;have hgR:w.heap.size<w1.heap.size:=hO1.lt;go_upto_region 5 with fail
   generalize w1.alloc (.cells (Array.replicate N (Value.int .i64 0)) 2)=w2 at *;generalize w1.heap.size=gR at *;clear hmk1 hO1 hb2 hba;have hR0:Own w2 gR 2 ((btA zs ims N 0).map (Value.int .i64)).toArray:=(by rw [btA_zero,←zero_ints];exact hR);have HB0:Hid (rkB zs ims 0=0∧(0:Nat)≤120):=Lib.hid ⟨rfl,by omega⟩;clear hR;go_upto_region 7 with fail
   go_loopw [23,8] (fun y z wr=>∃(k' rB:Nat),k'≤N∧y=.int .i64 k'∧z=.int .i64 rB∧Below w.heap.size w wr∧Own wr w.heap.size 31 #[.slice da dn dc,.slice a k c]∧Own wr gR 2 ((btA zs ims N k').map (Value.int .i64)).toArray∧Hid (rkB zs ims k'=rB∧rB≤120)) (fun y _ _=>N - (intOf y).toNat)
   case atStart=>exact ⟨0,0,Nat.zero_le _,rfl,rfl,hb3,hO2,hR0,HB0⟩
   case round=>
    clear hb3 hO2 hR0 HB0;obtain ⟨i,rB,hi,rfl,rfl,hb,hO,hR,HRB⟩:=hrel;have hi0:(0:Int)≤(i:Int):=(by omega);by_cases hiN:i<N
    · have hii:(i:Int)<(N:Int):=(by omega);have hc1:=HCT.out i (by omega);have hc2:=HCT.out (i+1) (by omega);have c0:=hO.cell 0;have c1:=hO.cell 1;go_wp2_with fail
      clear c0 c1;refine (matrixOf_c dc c (HD.out.keep hb) hdn (HF.out.keep hb) HA.out HZ.out.1 Hz.out (degs_one Hz.out) (by omega) hc1 hc2).mono ?_;rintro e w3 ⟨g,rfl,hg,hN3,hR3,hb4⟩;have hs1:=hb.size;have hlO:=hO.lt;have hlR:=hR.lt;have hb5:=hb.trans (hb4.mono hb.size);replace hO:=hO.keep hb4 hO.lt;replace hR:=hR.keep hb4 hR.lt;have HM:Hid (Mat (flat3 zs ims (side zs (i+1)) (side zs i)) (cnt zs (i+1)) (cnt zs i) (List.range (cnt zs i))):=Lib.hid ⟨by rw [flat3_len,side_len,side_len],by simp,List.nodup_range,fun j hj=>List.mem_range.1 hj,flat3_bd HA.out Hz.out⟩;rw [rows3_slc] at hR3;have HLE:=Lib.hid (rkM_le zs ims i);have HST:=Lib.hid (btA_step (zs:=zs) (ims:=ims) (N:=N) hiN);have HBE:=Lib.hid (bt_eq zs ims i);have HSU:=Lib.hid (rkB_succ zs ims i);have HBL:=Lib.hid (btA_len (zs:=zs) (ims:=ims) hi);have hs2:=hb5.size;clear hb hb4;generalize hce:cnt zs i=cN at *;have HCE:=Lib.hid hce;clear hce;go_wp2_with fail
      refine (rankOf_c HM.out (by omega) (by omega) (by omega) hN3 hR3).mono ?_;rintro e w4 ⟨d,rfl,HK,ht⟩;have hd:d=rkM zs ims i:=rk_rank HA.out Hz.out (by rw [HCE.out];exact HK.out);have hdc:d≤cN:=(by rw [hd];exact HLE.out);have HDD:=Lib.hid hd;have hb6:=hb5.trans (ht.bel (B:=w.heap.size) (fun k hk=>by omega) hs2);replace hO:=ht.own hO (by omega);replace hR:=ht.own hR (by omega);clear hd hb5 hN3 hR3 ht HK;have hrb:=HRB.out.2;have e3:IntKind.i64.wrap ((cN:Int) - (d:Int))=(cN:Int) - (d:Int):=IntWalk.i64_in _ (by omega);have e4:IntKind.i64.wrap ((cN:Int) - (d:Int) - (rB:Int))=(cN:Int) - (d:Int) - (rB:Int):=IntWalk.i64_in _ (by omega);obtain ⟨ov,hcv⟩:=hR.has (i:=i) (by have:=HBL.out;simp;omega);have hfz:=hR.frozen i;go_wp2_with fail
      go_roundw
      case rel=>
       refine ⟨i+1,d,by omega,by go_num,rfl,hb6.setCell (p:=⟨gR,i,none⟩) (by dsimp only;omega) _,hO.far (by dsimp only;omega) _,?_,Lib.hid ⟨by rw [HSU.out];exact HDD.out.symm,by omega⟩⟩;rw [←HST.out];have e5:bt zs ims i=(cN:Int) - (d:Int) - (rB:Int):=(by rw [HBE.out,HDD.out,←HRB.out.1]);rw [e5];exact IntBlk.set hR
      case measure=>simp [intOf] <;> omega
    · have he:i=N:=(by omega);subst he;have HLL2:Hid ((btL zs ims i).length=i):=Lib.hid (btL_len _ _ _);rw [btA_end] at hR;go_wp2_with fail
      go_ret2
      have e6:btV zs ims (m:Int)=btL zs ims i:=(by rw [btV,if_pos HE.out,Int.toNat_natCast,hN]);have hOI:OwnI wr w.heap.size wr.heap.size (some ⟨gR,0,none⟩) i (btV zs ims (m:Int)):=by rw [e6];exact ⟨HLL2.out,fun _=>⟨gR,rfl,by omega,hR.lt,hR⟩⟩
      first
       | exact ⟨some ⟨gR,0,none⟩,i,i,by rw [HE.out];rfl,hOI,hb⟩
       | exact ⟨some ⟨gR,0,none⟩,i,⟨i,by rw [HE.out];rfl⟩,hOI,hb⟩
 · have hEb:(E != 0)=true:=(by simpa using hE0);go_wp2_with fail
   go_ret2
   refine ⟨none,0,0,by rw [HE.out];rfl,?_,hb2⟩;rw [btV,HE.out,if_neg hE0];exact OwnI.none_
theorem news1i (w:World) (v:Value) (t:TypeId):∀j u,([v]:List Value)[j]? = some u→(w.alloc (.cells #[v] t)).cell? ((⟨w.heap.size,0,none⟩:Addr).add j)=some u:=fun j u hu=>by
 rw [Addr.add_mid]
 exact (Own.new w t #[v]).range j u hu
set_option maxHeartbeats 4000000 in
theorem BettiNumbers_s {w : World} {da : Option Addr} {dn : Nat} {zs : List Int} {a : Option Addr} {k : Nat} {ims : List (List Tm)} (x : Int) (dc c : Nat) (hd : Ints w da dn zs) (hdn : dn ≤ 1048576) (hF : Frms w a k ims) (hk : k ≤ 1048576) (hL : ∀ im ∈ ims, (im.length : Int) ≤ 1048576) :
    Calls Tryz.prog 11 #[.agg #[.slice da dn dc,.slice a k c],.int .i64 x] w fun e w'=>∃ra rn rc,e=.returned (.tuple #[.slice ra rn rc,.int .i64 (btE zs ims x)])∧OwnV w' w.heap.size w'.heap.size ra rn (btV zs ims x)∧Below w.heap.size w w':=by
 obtain ⟨ti,tz,hti,htz,hts,htb,htzs⟩:=Tryz.info_intA
 have HI:=Lib.hid hti
 have HZI:=Lib.hid htz
 have HS:=Lib.hid hts
 have HBt:=Lib.hid htb
 have HZs:=Lib.hid htzs
 clear hti htz hts htb htzs
 have HD:=Lib.hid hd
 have HF:=Lib.hid hF
 have HLL:=Lib.hid hL
 have HT:=Lib.hid hF.tm
 have hO:=Own.new w 31 #[.slice da dn dc,.slice a k c]
 have hb:=bA1 w (.cells #[.slice da dn dc,.slice a k c] 31)
 clear hd hF hL
 go_enter Tryz.func11,Tryz.ntmps11
 go_wp2_with fail
 refine (l03All_c dc c (HD.out.keep hb) hdn (HF.out.keep hb) hk HLL.out).mono ?_
 rintro e w1 ⟨rfl,hb1⟩
 have hO1:=hO.keep hb1 hO.lt
 have hb2:=bTn hb hb1
 clear hO hb hb1
 generalize hE:btE zs ims x=E at *
 have HE:=Lib.hid hE
 clear hE
 by_cases hE0:E=0
 · subst hE0;have HZ:=Lib.hid (bt_zero HE.out);obtain ⟨m,rfl⟩:∃m:Nat,x=m:=⟨x.toNat,by have:=HZ.out.2.1;omega⟩;have hm20:m≤20:=(by have:=HZ.out.2.2.1;omega);have HCT:Hid (∀i,i≤m+1→cnt zs i≤120):=Lib.hid (fun i hi=>HZ.out.2.2.2 i (by simpa using hi));have HA:=Lib.hid (isAlg_ok HZ.out.1 HT.out);have Hz:=Lib.hid (isAlg_dg HZ.out.1)
   have HMO:Hid (∀(w':World) (i:Nat),i≤m→Below w.heap.size w w'→Calls Tryz.prog 21 #[.slice da dn dc,.int .i64 (i:Int)] w' fun e w''=>∃ra rc,e=.returned (.slice ra (cnt zs i) rc)∧Below w'.heap.size w' w''):=Lib.hid (fun w' i hi hb=>by
    refine (l01Monomials_c (r:=i) dc (HD.out.keep hb) Hz.out (by omega)).mono ?_;rintro e w'' ⟨ra,rn,rc,rfl,hM,hb2⟩;have:=HCT.out i (by omega);rw [side_take (by omega)] at hM;obtain rfl:cnt zs i=rn:=by rw [←hM.1,side_len]
    exact ⟨ra,rc,rfl,hb2⟩)
   have hRow:=empty_rowG w1 2 (B:=w.heap.size+1) hO1.lt;have hba:=bA1 w1 (.cells #[] 2);have hO2:=hO1.keep hba hO1.lt;have hb3:=bT' hb2 hba hb2.size;have HB0:Hid (rkB zs ims 0=0∧(0:Nat)≤120):=Lib.hid ⟨rfl,by omega⟩;go_upto_region 6 with fail
   generalize w1.alloc (.cells #[] 2)=w2 at *;clear hb2 hba hO1
   go_loopw [7,8,9] (fun o z y wr=>∃(k' rB:Nat) (oa:Option Addr) (oc:Nat),k'≤m+1∧y=.int .i64 k'∧o=.slice oa k' oc∧z=.int .i64 rB∧Below w.heap.size w wr∧Own wr w.heap.size 31 #[.slice da dn dc,.slice a k c]∧wr.ownsRow (w.heap.size+1) 2 1 (.slice oa k' oc) k' ((btL zs ims k').map (Value.int .i64))∧Hid (rkB zs ims k'=rB∧rB≤120)) (fun _ _ y _=>m+1 - (intOf y).toNat)
   case atStart=>exact ⟨0,0,_,_,Nat.zero_le _,rfl,rfl,rfl,hb3,hO2,hRow,HB0⟩
   case round=>
    clear hb3 hO2 hRow HB0;obtain ⟨i,rB,oa,oc,hi,rfl,rfl,rfl,hb,hO,hRow,HRB⟩:=hrel;have hi0:(0:Int)≤(i:Int):=(by omega);by_cases hiN:i≤m
    · have hii:(i:Int)≤(m:Int):=(by omega);have hc1:=HCT.out i (by omega);have hc2:=HCT.out (i+1) (by omega);have c0:=hO.cell 0;have c1:=hO.cell 1;go_wp2_with fail
      clear c0 c1;refine (l03RankM_c dc c (HD.out.keep hb) (HF.out.keep hb) HA.out HZ.out.1 Hz.out (by omega) hc1 hc2).mono ?_;rintro e w3 ⟨rfl,hb4⟩;have hb5:=bT' hb hb4 hb.size;replace hO:=hO.keep hb4 hO.lt;have hRow3:=row_keep hRow hb4;clear hb hb4 hRow;have HLE:=Lib.hid (rkM_le zs ims i);have HBE:=Lib.hid (bt_eq zs ims i);have HSU:=Lib.hid (rkB_succ zs ims i);have HSL:=Lib.hid (btL_succ zs ims i);generalize hq:rkM zs ims i=q at *;have HQ:=Lib.hid hq;have c0:=hO.cell 0;go_wp2_with fail
      refine (HMO.out _ i hiN hb5).mono ?_;rintro e w4 ⟨ma,mc,rfl,hb6⟩;have hb7:=bT' hb5 hb6 hb5.size;replace hO:=hO.keep hb6 hO.lt;have hRow4:=row_keep hRow3 hb6;clear hb5 hb6 hRow3 c0 hq;have hqc:q≤cnt zs i:=HLE.out;have hrb:=HRB.out.2;generalize hce:cnt zs i=cN at *;have HCE:=Lib.hid hce;clear hce;have e3:IntKind.i64.wrap ((cN:Int) - (q:Int))=(cN:Int) - (q:Int):=IntWalk.i64_in _ (by omega);have e4:IntKind.i64.wrap ((cN:Int) - (q:Int) - (rB:Int))=(cN:Int) - (q:Int) - (rB:Int):=IntWalk.i64_in _ (by omega);have hnews:=news1i w4 (Value.int .i64 ((cN:Int) - (q:Int) - (rB:Int)));have hone:∀u∈([Value.int .i64 ((cN:Int) - (q:Int) - (rB:Int))]:List Value),u.oneCell'=true:=(by simp [Value.oneCell']);have HN:=Lib.hid (hnews 2);have HO:=Lib.hid hone;have hba:=bA1 w4 (.cells #[.int .i64 ((cN:Int) - (q:Int) - (rB:Int))] 2);have HR2:=Lib.hid (row_keep hRow4 hba);have hb8:=bT' hb7 hba hb7.size;have hO3:=hO.keep hba hO.lt;have hsz:=hO3.lt;clear hnews hone hba hRow4 hO hb7;go_wp2_with (refine wpList_append_own_wide _ rfl (.tmp 26) (.tmp 36) 22 rfl (w.heap.size+1) 2 ti tz 1 8 Tryz.underlying22 HI.out HZI.out HS.out HBt.out HZs.out (by omega) (.slice oa i oc) i _ rfl HR2.out ⟨w4.heap.size,0,none⟩ 1 1 [Value.int .i64 ((cN:Int) - (q:Int) - (rB:Int))] rfl rfl HN.out HO.out (by simp only [maxLen];omega) (by omega) hsz (fun v' w' h2 h3 h4=>?_))
      have hb9:=grown_below hb8 h3 (fun j e=>by have:=(HR2.out.lt j e).1;omega) hb8.size;have hO4:=hO3.grown h3 (own_ne_row hO3 HR2.out (by decide));obtain ⟨va,vc,rfl⟩:=row_slice h2
      have hR5:w'.ownsRow (w.heap.size+1) 2 1 (.slice va (i+1) vc) (i+1) ((btL zs ims (i+1)).map (Value.int .i64)):=by
       rw [HSL.out,List.map_append,HBE.out,HRB.out.1];exact h2
      clear h2 h3 h4 hb8 hO3 HR2 HN HO hsz
      go_roundw
      case rel=>exact ⟨i+1,q,va,vc,by omega,by go_num,rfl,rfl,hb9,hO4,hR5,Lib.hid ⟨HSU.out,by omega⟩⟩
      case measure=>simp [intOf] <;> omega
    · have he:i=m+1:=(by omega);subst he;have hii:¬((m+1:Nat):Int)≤(m:Int):=(by omega);have HROW:=Lib.hid hRow;clear hRow;go_wp2_with fail
      go_ret2
      obtain ⟨ra,rc,hrr,hV⟩:=OwnV.of_row HROW.out;simp only [Value.slice.injEq] at hrr;obtain ⟨rfl,-,rfl⟩:=hrr;have e6:btV zs ims (m:Int)=btL zs ims (m+1):=(by rw [btV,if_pos HE.out,Int.toNat_natCast]);have hOV:=hV.weaken (lo':=w.heap.size) (by omega) (Nat.le_refl _);rw [←e6] at hOV
      first
       | exact ⟨oa,_,oc,by rw [HE.out];rfl,hOV,hb⟩
       | exact ⟨oa,_,⟨oc,by rw [HE.out];rfl⟩,hOV,hb⟩
 · have hEb:(E != 0)=true:=(by simpa using hE0);go_wp2_with fail
   go_ret2
   refine ⟨none,0,0,by rw [HE.out];rfl,?_,hb2⟩;rw [btV,HE.out,if_neg hE0];exact OwnV.none_
end Go.Proofs.YtfheammnkmjabaaGreat
