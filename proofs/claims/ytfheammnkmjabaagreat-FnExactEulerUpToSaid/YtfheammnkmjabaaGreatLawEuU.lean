
import Derived.Test.YtfheammnkmjabaaGreatIsAlg
import Derived.Test.YtfheammnkmjabaaGreatIsAlgS
import Derived.Test.YtfheammnkmjabaaGreatBetP
import Derived.Test.YtfheammnkmjabaaGreatAlgR
import Derived.Test.YtfheammnkmjabaaGreatIsFormB
import Derived.Test.YtfheammnkmjabaaGreatTabOf
namespace Go.Proofs.YtfheammnkmjabaaGreat
set_option maxRecDepth 100000
open Go.RowKit Go.Deep
def evTo (C:List Int):Nat→Int
 | 0=>0
 | j+1=>evTo C j+(if odd (j:Int)=true then -(C.getD j 0) else C.getD j 0)
theorem evTo_step {C:List Int} {k:Nat} {z D:Int} (h:evTo C k=D) (hz:C[k]? = some z):evTo C (k+1)=D+(if odd (k:Int)=true then -z else z):=by rw [evTo,h,List.getD_eq_getElem?_getD,hz];rfl
theorem evTo_bd {C:List Int} {B:Int} (hB:∀z∈C,-B≤z∧z≤B):∀k,k≤C.length→-(B * (k:Int))≤evTo C k∧evTo C k≤B * (k:Int)
 | 0,_=>by simp [evTo]
 | k + 1, hk => by
   have h1:=evTo_bd hB k (by omega);have hz:C[k]? = some C[k]:=List.getElem?_eq_getElem (by omega);have h2:=hB _ (List.getElem_mem (show k<C.length by omega));have h3:B * ((k+1:Nat):Int)=B * (k:Int)+B:=(by rw [Int.natCast_add,Int.mul_add];simp);rw [evTo_step rfl hz,h3];split <;> omega
set_option maxHeartbeats 2000000 in
theorem eulerOf_c {w : World} {a : Option Addr} {n : Nat} {C : List Int} (c : Nat) (h : Ints w a n C) (hn : n ≤ 1048576) (hB : ∀ z ∈ C, -1099511627776 ≤ z ∧ z ≤ 1099511627776) :
    Calls Tryz.prog 15 #[.slice a n c] w fun e w'=>e=.returned (.int .i64 (evTo C n))∧w'=w:=by
 have HL:=Lib.hid h.len
 have HBB:=Lib.hid hB
 have HI:=Lib.hid h
 clear hB
 go_enter Tryz.func15,Tryz.ntmps15
 go_wp2_with fail
 go_loopw [3,8] (fun x y wr=>∃i:Nat,i≤n∧x=.int .i64 (evTo C i)∧y=.int .i64 i∧wr=w) (fun _ y _=>n - (intOf y).toNat)
 case atStart=>exact ⟨0,Nat.zero_le _,rfl,rfl,rfl⟩
 case round=>
  obtain ⟨i,hi,rfl,rfl,rfl⟩:=hrel;have hi0:(0:Int)≤(i:Int):=(by omega);obtain ⟨D,hD⟩:∃D,evTo C i=D:=⟨_,rfl⟩;have hbd:=evTo_bd HBB.out i (by rw [HL.out];exact hi);rw [hD] at hbd ⊢;have HDI:=Lib.hid hD;clear hD;by_cases hlt:i<n
  · have hin:(i:Int)<(n:Int):=(by omega);obtain ⟨b,off,x,rfl,hbl,hc,hx⟩:=HI.out.at_ hlt;have hxb:=HBB.out x (List.mem_of_getElem? hx.out);clear h;go_wp2_with fail
    refine (isOdd_c i _).mono ?_;rintro e w5 ⟨rfl,rfl⟩;cases ho:odd (i:Int)
    · have hs:evTo C (i+1)=D+x:=(by rw [evTo_step HDI.out hx.out,ho,if_neg (by simp)]);clear ho;go_wp2_with fail
      go_roundw
      case rel=>exact ⟨i+1,by omega,by rw [hs],by go_num,trivial⟩
      case measure=>simp [intOf] <;> omega
    · have hs:evTo C (i+1)=D+-x:=(by rw [evTo_step HDI.out hx.out,ho,if_pos rfl]);clear ho;go_wp2_with fail
      go_roundw
      case rel=>exact ⟨i+1,by omega,by rw [hs],by go_num,trivial⟩
      case measure=>simp [intOf] <;> omega
  · have he:i=n:=(by omega);have hnl:¬(i:Int)<(n:Int):=(by omega);subst he;go_wp2_with fail
    go_ret
    exact ⟨by rw [HDI.out];rfl,rfl⟩
def euV (zs:List Int) (ims:List (List Tm)) (x:Int):Int:=evTo (btV zs ims x) (btV zs ims x).length
theorem btV_few (zs:List Int) (ims:List (List Tm)) (x:Int):(btV zs ims x).length≤21∧∀z∈btV zs ims x,-240≤z∧z≤240:=by
 unfold btV
 split
 · rename_i h;obtain ⟨-,h0,h1,h2⟩:=bt_zero h;refine ⟨by rw [btL_len];omega,fun z hz=>?_⟩;rw [btL,List.mem_map] at hz;obtain ⟨i,hi,rfl⟩:=hz;have hi2:=List.mem_range.1 hi;have h3:=h2 i (by omega);have h4:=rkM_le zs ims i
   have h5:rkB zs ims i≤120:=by
    rw [rkB];split
    · omega
    · have:=rkM_le zs ims (i - 1);have:=h2 (i - 1) (by omega);omega
   rw [bt_eq];omega
 · simp
theorem euV_no {zs:List Int} {ims:List (List Tm)} {x:Int} (h:¬btE zs ims x=0):euV zs ims x=0:=by
 rw [euV,btV,if_neg h]
 rfl
def sgE (k:Nat):Int:=if odd (k:Int)=true then -1 else 1
theorem sgE_succ (k:Nat):sgE (k+1)=-(sgE k):=by
 unfold sgE odd
 by_cases h:(k:Int) % 2=0
 · have:((k+1:Nat):Int) % 2=1:=(by omega);rw [this,h];rfl
 · have h1:(k:Int) % 2=1:=(by omega);have:((k+1:Nat):Int) % 2=0:=(by omega);rw [this,h1];rfl
theorem sgE_cases (k:Nat):sgE k=1∨sgE k=-1:=by
 unfold sgE
 split
 · exact Or.inr rfl
 · exact Or.inl rfl
theorem evTo_sg {C:List Int} {k:Nat} {z D:Int} (h:evTo C k=D) (hz:C[k]? = some z):evTo C (k+1)=D+sgE k * z:=by
 rw [evTo_step h hz,sgE]
 split <;> omega
set_option maxHeartbeats 1000000 in
theorem EulerUpTo_c {w : World} {da : Option Addr} {dn : Nat} {zs : List Int} {a : Option Addr} {k : Nat} {ims : List (List Tm)} (x : Int) (dc c : Nat) (hd : Ints w da dn zs) (hdn : dn ≤ 1048576) (hF : Frms w a k ims) (hk : k ≤ 1048576) (hL : ∀ im ∈ ims, (im.length : Int) ≤ 1048576) :
    Calls Tryz.prog 7 #[.agg #[.slice da dn dc,.slice a k c],.int .i64 x] w fun e w'=>e=.returned (.tuple #[.int .i64 (euV zs ims x),.int .i64 (btE zs ims x)])∧Below w.heap.size w w':=by
 have HB:=Lib.hid (btV_few zs ims x)
 have HLL:=Lib.hid hL
 clear hL
 have hA:=Own.new w 31 #[.slice da dn dc,.slice a k c]
 have hb0:=bA1 w (.cells #[.slice da dn dc,.slice a k c] 31)
 have c0:=hA.cell 0
 have c1:=hA.cell 1
 go_enter Tryz.func7,Tryz.ntmps7
 go_upto_region 1 with fail
 generalize w.alloc (.cells #[.slice da dn dc,.slice a k c] 31)=w0 at *
 go_wp2_with fail
 refine (BettiNumbers_c x dc c (hd.keep hb0) hdn (hF.keep hb0) hk HLL.out).mono ?_
 rintro e w1 ⟨ra,rn,rc,rfl,hO,hb1⟩
 have hb:=bT' hb0 hb1 hb0.size
 clear hb0 hb1 hA c0 c1
 have hn:(btV zs ims x).length=rn:=hO.1
 have HE:Hid (evTo (btV zs ims x) rn=euV zs ims x):=Lib.hid (by rw [euV,hn])
 have hr:rn≤1048576:=by have:=HB.out.1;omega
 have hI:=hO.ints
 clear hO hn
 go_wp2_with fail
 refine (eulerOf_c rc hI hr (fun z hz=>by have:=HB.out.2 z hz;omega)).mono ?_
 rintro e w2 ⟨rfl,rfl⟩
 rw [HE.out]
 go_wp2_with fail
 go_ret2
 exact ⟨rfl,hb⟩
set_option maxHeartbeats 1000000 in
theorem EulerUpTo_s {w : World} {da : Option Addr} {dn : Nat} {zs : List Int} {a : Option Addr} {k : Nat} {ims : List (List Tm)} (x : Int) (dc c : Nat) (hd : Ints w da dn zs) (hdn : dn ≤ 1048576) (hF : Frms w a k ims) (hk : k ≤ 1048576) (hL : ∀ im ∈ ims, (im.length : Int) ≤ 1048576) :
    Calls Tryz.prog 5 #[.agg #[.slice da dn dc,.slice a k c],.int .i64 x] w fun e w'=>e=.returned (.tuple #[.int .i64 (euV zs ims x),.int .i64 (btE zs ims x)])∧Below w.heap.size w w':=by
 have HB:=Lib.hid (btV_few zs ims x)
 have HLL:=Lib.hid hL
 clear hL
 have hA:=Own.new w 31 #[.slice da dn dc,.slice a k c]
 have hb0:=bA1 w (.cells #[.slice da dn dc,.slice a k c] 31)
 have c0:=hA.cell 0
 have c1:=hA.cell 1
 go_enter Tryz.func5,Tryz.ntmps5
 go_upto_region 1 with fail
 generalize w.alloc (.cells #[.slice da dn dc,.slice a k c] 31)=w0 at *
 go_wp2_with fail
 refine (BettiNumbers_s x dc c (hd.keep hb0) hdn (hF.keep hb0) hk HLL.out).mono ?_
 rintro e w1 ⟨ra,rn,rc,rfl,hO,hb1⟩
 have hb:=bT' hb0 hb1 hb0.size
 clear hb0 hb1 hA c0 c1
 have hn:(btV zs ims x).length=rn:=hO.1
 have HE:Hid (evTo (btV zs ims x) rn=euV zs ims x):=Lib.hid (by rw [euV,hn])
 have hr:rn≤1048576:=by have:=HB.out.1;omega
 have HI:=Lib.hid hO.ints
 have HN:=Lib.hid hn
 have HZ:=Lib.hid (@euV_no zs ims x)
 clear hO hn
 obtain ⟨E,hE⟩:∃E,btE zs ims x=E:=⟨_,rfl⟩
 rw [hE] at HZ ⊢
 obtain ⟨C,hC⟩:∃C,btV zs ims x=C:=⟨_,rfl⟩
 rw [hC] at HI HN HE HB
 have HEE:=Lib.hid hE
 clear hE hC
 by_cases h0:E=0
 · subst h0;clear HZ;go_wp2_with fail
   go_loopw [8,9,10] (fun p q y wr=>∃i:Nat,i≤rn∧p=.int .i64 (evTo C i)∧q=.int .i64 (sgE i)∧y=.int .i64 i∧wr=w1) (fun _ _ y _=>rn - (intOf y).toNat)
   case atStart=>exact ⟨0,Nat.zero_le _,rfl,rfl,rfl,rfl⟩
   case round=>
    obtain ⟨i,hi,rfl,rfl,rfl,rfl⟩:=hrel;have hi0:(0:Int)≤(i:Int):=(by omega);obtain ⟨D,hD⟩:∃D,evTo C i=D:=⟨_,rfl⟩;obtain ⟨S,hS⟩:∃S,sgE i=S:=⟨_,rfl⟩;have hbd:=evTo_bd HB.out.2 i (by rw [HN.out];exact hi);have hi2:i≤21:=(by have:=HB.out.1;have:=HN.out;omega);have hsc:=sgE_cases i;have hss:=sgE_succ i;rw [hD] at hbd ⊢;rw [hS] at hsc hss ⊢;have HD:=Lib.hid hD;have HS:=Lib.hid hS;have HSS:=Lib.hid hss;clear hD hS hss;by_cases hlt:i<rn
    · have hin:(i:Int)<(rn:Int):=(by omega);obtain ⟨b,off,z,rfl,hbl,hc,hx⟩:=HI.out.at_ hlt;have hz:=HB.out.2 z (List.mem_of_getElem? hx.out);have HST:Hid (evTo C (i+1)=D+S * z):=Lib.hid (by rw [evTo_sg HD.out hx.out,HS.out])
      rcases hsc with rfl | rfl
      all_goals
       go_wp2_with fail
       go_roundw
       case rel=>exact ⟨i+1,by omega,by rw [HST.out];simp,by (rw [HSS.out];try rfl),by go_num,trivial⟩
       case measure=>simp [intOf] <;> omega
    · have he:i=rn:=(by omega);have hnl:¬(i:Int)<(rn:Int):=(by omega);subst he;go_wp2_with fail
      go_ret2
      exact ⟨by rw [HEE.out,←HE.out,HD.out];rfl,hb⟩
 · have h0b:(E==0)=false:=(by simpa using h0);have HZ0:=Lib.hid (HZ.out h0);clear HZ;go_wp2_with fail
   go_ret2
   exact ⟨by rw [HEE.out,HZ0.out];rfl,hb⟩
set_option maxHeartbeats 16000000 in
theorem lawEuU_walk (da0 : Option Addr) (dn0 dc0 : Nat) (zs0 : List Int) (a0 : Option Addr) (n0 c0 : Nat) (fss0 : List (List Tm)) (x1 : Int) (w : World) (hd0 : Ints w da0 dn0 zs0) (hdm0 : (dn0 : Int) ≤ 9223372036854775807) (hF0 : Frms w a0 n0 fss0) (hnm0 : (n0 : Int) ≤ 9223372036854775807) (_hx1 : (Lit.int .i64 x1).wf = true)
    (X E:Int)
    (CS:∀(w':World) (gd0 gi0 p0 q0:Nat),dn0≤1048576→n0≤1048576→(∀ts∈fss0,(ts.length:Int)≤1048576)→(∀ts∈fss0,∀t∈ts,IsTm t)→sumLen fss0≤1048576→Ints w' (some ⟨gd0,0,none⟩) dn0 zs0→Frms w' (some ⟨gi0,0,none⟩) n0 fss0→Calls Tryz.prog 5 #[.agg #[.slice (some ⟨gd0,0,none⟩) dn0 p0,.slice (some ⟨gi0,0,none⟩) n0 q0],.int .i64 x1] w' fun e w''=>e=.returned (.tuple #[.int .i64 X,.int .i64 E])∧Below w'.heap.size w' w'')
    (CC:∀(w':World) (gd0 gi0 p0 q0:Nat),dn0≤1048576→n0≤1048576→(∀ts∈fss0,(ts.length:Int)≤1048576)→(∀ts∈fss0,∀t∈ts,IsTm t)→sumLen fss0≤1048576→Ints w' (some ⟨gd0,0,none⟩) dn0 zs0→Frms w' (some ⟨gi0,0,none⟩) n0 fss0→Calls Tryz.prog 7 #[.agg #[.slice (some ⟨gd0,0,none⟩) dn0 p0,.slice (some ⟨gi0,0,none⟩) n0 q0],.int .i64 x1] w' fun e w''=>e=.returned (.tuple #[.int .i64 X,.int .i64 E])∧Below w'.heap.size w' w'') :
    Calls Tryz.prog 3 #[.agg #[.slice da0 dn0 dc0,.slice a0 n0 c0],.int .i64 x1] w fun e w'=>e=.returned (.bool true)∧Below w.heap.size w w':=by
 have HCS:=Lib.hid CS
 have HCC:=Lib.hid CC
 clear CS CC
 have HL0:=Lib.hid hd0.len
 have HLn0:=Lib.hid hF0.len
 have HD0:=Lib.hid hd0
 have HF0:=Lib.hid hF0
 have HT0:=Lib.hid hF0.tm
 have hP0:=Own.new w 25 #[.slice da0 dn0 dc0,.slice a0 n0 c0]
 have hb:=bA1 w (.cells #[.slice da0 dn0 dc0,.slice a0 n0 c0] 25)
 have hWB:w.heap.size+1≤(w.alloc (.cells #[.slice da0 dn0 dc0,.slice a0 n0 c0] 25)).heap.size:=by rw [sAl];omega
 rcases szA_spec (L:=1048576) (dn:=dn0) (n:=n0) (fss:=fss0) with hz | ⟨hR0a,hR0b,hR0c,hR0d,hR0e⟩
 · have HZ0:=Lib.hid hz;clear hz;go_enter Tryz.func3,Tryz.ntmps3
   go_upto_region 2 with fail
   generalize (w.alloc (.cells #[.slice da0 dn0 dc0,.slice a0 n0 c0] 25))=w0 at *;have p0_0:=hP0.cell 0;have p0_1:=hP0.cell 1;go_wp2_with fail
   refine (szAlgebra_c dc0 c0 1048576 (by omega) (by omega) hdm0 (HF0.out.keep hb) hnm0).mono ?_;rintro e ws0 ⟨rfl,hbX⟩;rw [HZ0.out];clear p0_0 p0_1;replace hb:=bT' hb hbX hb.size;replace hP0:=hP0.keep hbX hP0.lt;clear hbX;go_wp2_with fail
   go_ret
   exact ⟨rfl,hb⟩
 have hsum0:=szA_sum (L:=1048576) (dn:=dn0) (n:=n0) (fss:=fss0) (by omega)
 generalize hz0:szA 1048576 dn0 n0 fss0=R0 at *
 have HZ0:=Lib.hid hz0
 clear hz0
 have hdn0:dn0≤1048576:=by omega
 have hn0:n0≤1048576:=by omega
 have HLL0:=Lib.hid (show ∀ts∈fss0,(ts.length:Int)≤1048576 from fun ts hts=>by have:=hR0e ts hts;omega)
 have HSM0:=Lib.hid (show sumLen fss0≤1048576 by omega)
 have hRn0:¬R0<0:=by omega
 obtain ⟨SL0,hSL0⟩:∃SL,sumLen fss0=SL:=⟨_,rfl⟩
 have HSL0:=Lib.hid hSL0
 have hSLb0:SL0≤1048576:=by have:=HSM0.out;omega
 have hSQ0:(SL0:Int)+dn0+R0≤1048576:=by rw [←hSL0];omega
 clear hSL0 hsum0 hR0e
 go_enter Tryz.func3,Tryz.ntmps3
 go_upto_region 2 with fail
 generalize (w.alloc (.cells #[.slice da0 dn0 dc0,.slice a0 n0 c0] 25))=w0 at *
 have p0_0:=hP0.cell 0
 have p0_1:=hP0.cell 1
 go_wp2_with fail
 refine (szAlgebra_c dc0 c0 1048576 (by omega) (by omega) hdm0 (HF0.out.keep hb) hnm0).mono ?_
 rintro e ws0 ⟨rfl,hbX⟩
 rw [HZ0.out]
 clear p0_0 p0_1
 replace hb:=bT' hb hbX hb.size
 replace hP0:=hP0.keep hbX hP0.lt
 clear hbX
 clear hWB
 have pc0_0:=hP0.cell 0
 have pc0_1:=hP0.cell 1
 clear pc0_0 pc0_1
 have hGw:w.heap.size≤ws0.heap.size:=hb.size
 have hlP0:=hP0.lt
 have pc0_0:=hP0.cell 0
 have pc0_1:=hP0.cell 1
 go_wp2_with fail
 refine (toAlgebra_c dc0 c0 (HD0.out.keep hb) hdn0 (HF0.out.keep hb) hn0 HLL0.out).mono ?_
 rintro e v1 ⟨ud0,ug0,us0,rfl,hud0,hug0,hui0,huf0,hbX⟩
 clear pc0_0 pc0_1
 replace hb:=bT' hb hbX hb.size
 replace hP0:=hP0.keep hbX hP0.lt
 clear hbX
 have hloS:=hb.size
 have hlqS:=hP0.lt
 go_wp2_with fail
 refine (HCS.out _ _ _ _ _ hdn0 hn0 HLL0.out HT0.out HSM0.out (IntBlk.ints' hui0 HL0.out) (huf0.frms HT0.out HLL0.out HLn0.out)).mono ?_
 rintro e v2 ⟨rfl,hbX⟩
 replace hb:=bT' hb hbX hb.size
 replace hP0:=hP0.keep hbX hP0.lt
 replace hui0:=IntBlk.keep hui0 hbX (IntBlk.lt hui0)
 replace huf0:=huf0.keep hbX
 clear hbX
 clear hui0 huf0 hud0 hug0
 obtain ⟨C1,hC1⟩:∃C1,v2.heap.size=C1:=⟨_,rfl⟩
 have hC1a:C1≤v2.heap.size:=Nat.le_of_eq hC1.symm
 have hPl:=hP0.lt
 rw [hC1] at hPl
 clear hC1
 have hQ0:w.heap.size<C1:=by omega
 have pc0_0:=hP0.cell 0
 have pc0_1:=hP0.cell 1
 go_wp2_with fail
 refine (toAlgebra_c dc0 c0 (HD0.out.keep hb) hdn0 (HF0.out.keep hb) hn0 HLL0.out).mono ?_
 rintro e v3 ⟨kd0,kg0,ks0,rfl,hkd0,hkg0,hki0,hkf0,hbX⟩
 clear pc0_0 pc0_1
 replace hb:=bT' hb hbX hb.size
 replace hP0:=hP0.keep hbX hP0.lt
 clear hbX
 go_upto_region 7 with fail
 have HKS0:=Lib.hid (fun x (hx:x∈ks0)=>(hkf0.lt x hx))
 have hkgl0:=hkf0.own.lt
 have hX0:=Own.new v3 31 #[.slice (some ⟨kd0,0,none⟩) dn0 dn0,.slice (some ⟨kg0,0,none⟩) n0 n0]
 have hbX:=bA1 v3 (.cells #[.slice (some ⟨kd0,0,none⟩) dn0 dn0,.slice (some ⟨kg0,0,none⟩) n0 n0] 31)
 replace hb:=bT' hb hbX hb.size
 replace hP0:=hP0.keep hbX hP0.lt
 replace hki0:=IntBlk.keep hki0 hbX (IntBlk.lt hki0)
 replace hkf0:=hkf0.keep hbX
 generalize v3.alloc (.cells #[.slice (some ⟨kd0,0,none⟩) dn0 dn0,.slice (some ⟨kg0,0,none⟩) n0 n0] 31)=v4 at *
 generalize hgX:v3.heap.size=gX0 at *
 clear hbX hgX
 have hlo0:C1≤kd0:=by omega
 have hlt0:=hX0.lt
 have xc0_0:=hX0.cell 0
 have xc0_1:=hX0.cell 1
 go_wp2_with fail
 refine (HCC.out _ _ _ _ _ hdn0 hn0 HLL0.out HT0.out HSM0.out (IntBlk.ints' hki0 HL0.out) (hkf0.frms HT0.out HLL0.out HLn0.out)).mono ?_
 rintro e v5 ⟨rfl,hbX⟩
 replace hb:=bT' hb hbX hb.size
 replace hP0:=hP0.keep hbX hP0.lt
 replace hki0:=IntBlk.keep hki0 hbX (IntBlk.lt hki0)
 replace hkf0:=hkf0.keep hbX
 replace hX0:=hX0.keep hbX hX0.lt
 clear hbX
 clear xc0_0
 clear xc0_1
 have hne1:(E != E)=false:=by simp
 have hne2:(X != X)=false:=by simp
 go_upto_region 10 with fail
 have hbD:Below v5.heap.size v5 v5.drew:=(Below.refl _ _).drew
 replace hb:=hb.drew
 replace hP0:=hP0.keep hbD hP0.lt
 replace hki0:=IntBlk.keep hki0 hbD (IntBlk.lt hki0)
 replace hkf0:=hkf0.keep hbD
 replace hX0:=hX0.keep hbD hX0.lt
 clear hbD
 refine wp_region_held_drew (S:=(fun w'=>w'.cell? ⟨gX0,0,none⟩=some (.slice (some ⟨kd0,0,none⟩) dn0 dn0)∧w'.cell? ⟨gX0,1,none⟩=some (.slice (some ⟨kg0,0,none⟩) n0 n0)∧w'.cell? ⟨w.heap.size,0,none⟩=some (.slice da0 dn0 dc0)∧w'.cell? ⟨w.heap.size,1,none⟩=some (.slice a0 n0 c0))) (by kernel_rfl) ?_ (fun _=>?_)
 · ((try dsimp only);(exact ⟨hX0.cell 0,hX0.cell 1,hP0.cell 0,hP0.cell 1⟩))
 generalize v5.drew=v5d at *
 refine hdT 0 ?_
 refine hdT 1 ?_
 refine hdC 2 (fun K hK=>?_)
 (go_simp;(go_at_call 6;refine (toAlgebra_c dc0 c0 (HD0.out.keep hb) hdn0 (HF0.out.keep hb) hn0 HLL0.out).mono ?_;rintro e W1 ⟨md,mg,ms,rfl,hmd,hmg,mi,mB,hbX⟩);go_wp2_with fail)
 replace hb:=bT' hb hbX hb.size
 replace hP0:=hP0.keep hbX hP0.lt
 replace hki0:=IntBlk.keep hki0 hbX (IntBlk.lt hki0)
 replace hkf0:=hkf0.keep hbX
 replace hX0:=hX0.keep hbX hX0.lt
 clear hmd hmg hbX
 refine hK.out _ _ ?_ (fun _=>?_)
 · ((try dsimp only);(exact ⟨hX0.cell 0,hX0.cell 1,hP0.cell 0,hP0.cell 1⟩))
 clear hK K
 (try simp only [Act.put,pA,pB,pC])
 refine hdC 3 (fun K hK=>?_)
 (go_simp;(go_at_call 8;refine (eqAlgebra_c dn0 dn0 n0 n0 (IntBlk.ints' hki0 HL0.out) (IntBlk.ints' mi HL0.out) hdn0 (hkf0.frms HT0.out HLL0.out HLn0.out) (mB.frms HT0.out HLL0.out HLn0.out) hn0 HLL0.out).mono ?_;rintro e W2 ⟨rfl,hbX⟩);go_wp2_with fail)
 replace hb:=bT' hb hbX hb.size
 replace hP0:=hP0.keep hbX hP0.lt
 replace hki0:=IntBlk.keep hki0 hbX (IntBlk.lt hki0)
 replace hkf0:=hkf0.keep hbX
 replace hX0:=hX0.keep hbX hX0.lt
 clear mi mB hbX
 refine hK.out _ _ ?_ (fun _=>?_)
 · ((try dsimp only);(exact ⟨hX0.cell 0,hX0.cell 1,hP0.cell 0,hP0.cell 1⟩))
 clear hK K
 (try simp only [Act.put,pA,pB,pC])
 refine hdT 4 ?_
 refine wpAnyH_done (by kernel_rfl) ?_ _
 generalize hWW:W2=v8 at *
 clear hWW
 go_wp2_with fail
 go_ret
 exact ⟨rfl,hb⟩
theorem eulerUpTo_walk (da : Option Addr) (dn dc : Nat) (zs : List Int) (a : Option Addr) (n c : Nat) (fss : List (List Tm)) (x : Int) (w : World) (hd : Ints w da dn zs) (hdm : (dn : Int) ≤ 9223372036854775807) (hF : Frms w a n fss) (hnm : (n : Int) ≤ 9223372036854775807) (hx : (Lit.int .i64 x).wf = true) :
    Calls Tryz.prog 3 #[.agg #[.slice da dn dc,.slice a n c],.int .i64 x] w fun e w'=>e=.returned (.bool true)∧Below w.heap.size w w':=
 lawEuU_walk da dn dc zs a n c fss x w hd hdm hF hnm hx (euV zs fss x) (btE zs fss x)
  (fun _ _ _ p q h1 h2 h3 _ _ h6 h7=>EulerUpTo_s x p q h6 h1 h7 h2 h3)
  (fun _ _ _ p q h1 h2 h3 _ _ h6 h7=>EulerUpTo_c x p q h6 h1 h7 h2 h3)
end Go.Proofs.YtfheammnkmjabaaGreat
