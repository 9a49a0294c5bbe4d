
import Derived.Test.YtifcfoijcodjbaaGreatAlgR
import Derived.Test.YtifcfoijcodjbaaGreatCofC
import Derived.Test.YtifcfoijcodjbaaGreatIntsV
import Derived.Test.YtifcfoijcodjbaaGreatIsAlg
namespace Go.Proofs.YtifcfoijcodjbaaGreat
set_option maxRecDepth 100000
open Go.RowKit Go.Deep
set_option maxHeartbeats 16000000 in
theorem lawCof_walk (da0 : Option Addr) (dn0 dc0 : Nat) (zs0 : List Int) (a0 : Option Addr) (n0 c0 : Nat) (fss0 : List (List Tm)) (a1 : Option Addr) (n1 c1 : Nat) (fs1 : List Tm) (w : World) (hd0 : Ints w da0 dn0 zs0) (hdm0 : (dn0 : Int) ≤ 9223372036854775807) (hF0 : Frms w a0 n0 fss0) (hnm0 : (n0 : Int) ≤ 9223372036854775807) (h1 : Terms w a1 n1 fs1) (hm1 : (n1 : Int) ≤ 9223372036854775807)
    (V:List Int) (E:Int) (nV:Nat) (hnV:V.length=nV) (hVl:nV≤1048576) (hVs:nV≤1048576)
    (CS:∀(w':World) (gd0 gi0 p0 q0:Nat) (gf1 p1:Nat),dn0≤1048576→n0≤1048576→(∀ts∈fss0,(ts.length:Int)≤1048576)→(∀ts∈fss0,∀t∈ts,IsTm t)→sumLen fss0≤1048576→Ints w' (some ⟨gd0,0,none⟩) dn0 zs0→Frms w' (some ⟨gi0,0,none⟩) n0 fss0→n1≤1048576→Terms w' (some ⟨gf1,0,none⟩) n1 fs1→Calls Tryz.prog 14 #[.agg #[.slice (some ⟨gd0,0,none⟩) dn0 p0,.slice (some ⟨gi0,0,none⟩) n0 q0],.agg #[.slice (some ⟨gf1,0,none⟩) n1 p1]] w' fun e w''=>∃ra rn rc,e=.returned (.tuple #[.slice ra rn rc,.int .i64 E])∧OwnV w'' w'.heap.size w''.heap.size ra rn V∧Below w'.heap.size w' w'')
    (CC:∀(w':World) (gd0 gi0 p0 q0:Nat) (gf1 p1:Nat),dn0≤1048576→n0≤1048576→(∀ts∈fss0,(ts.length:Int)≤1048576)→(∀ts∈fss0,∀t∈ts,IsTm t)→sumLen fss0≤1048576→Ints w' (some ⟨gd0,0,none⟩) dn0 zs0→Frms w' (some ⟨gi0,0,none⟩) n0 fss0→n1≤1048576→Terms w' (some ⟨gf1,0,none⟩) n1 fs1→Calls Tryz.prog 17 #[.agg #[.slice (some ⟨gd0,0,none⟩) dn0 p0,.slice (some ⟨gi0,0,none⟩) n0 q0],.agg #[.slice (some ⟨gf1,0,none⟩) n1 p1]] w' fun e w''=>∃ra rn rc,e=.returned (.tuple #[.slice ra rn rc,.int .i64 E])∧OwnV w'' w'.heap.size w''.heap.size ra rn V∧Below w'.heap.size w' w'') :
    Calls Tryz.prog 3 #[.agg #[.slice da0 dn0 dc0,.slice a0 n0 c0],.agg #[.slice a1 n1 c1]] w fun e w'=>e=.returned (.bool true)∧Below w.heap.size w w':=by
 have HCS:=Lib.hid CS
 have HCC:=Lib.hid CC
 have HnV:=Lib.hid hnV
 have HVS:=Lib.hid hVs
 clear CS CC hnV hVs
 have HL0:=Lib.hid hd0.len
 have HLn0:=Lib.hid hF0.len
 have HD0:=Lib.hid hd0
 have HF0:=Lib.hid hF0
 have HT0:=Lib.hid hF0.tm
 have HSZ1:Hid (n1 * 9≤(rcells fs1).toArray.size):=Lib.hid (by rw [List.size_toArray,rcells_length h1.2.1,h1.len];exact Nat.le_refl _)
 have HL1:=Lib.hid h1.len
 have H1:=Lib.hid h1
 have HT1:=Lib.hid h1.2.1
 have hP0:=(Own.new w 25 #[.slice da0 dn0 dc0,.slice a0 n0 c0]).alloc (.cells #[.slice a1 n1 c1] 28)
 have hP1:=Own.new (w.alloc (.cells #[.slice da0 dn0 dc0,.slice a0 n0 c0] 25)) 28 #[.slice a1 n1 c1]
 rw [sAl] at hP1
 have hb:=bTn (bA1 w (.cells #[.slice da0 dn0 dc0,.slice a0 n0 c0] 25)) (bA1 _ (.cells #[.slice a1 n1 c1] 28))
 have hWB:w.heap.size+2≤((w.alloc (.cells #[.slice da0 dn0 dc0,.slice a0 n0 c0] 25)).alloc (.cells #[.slice a1 n1 c1] 28)).heap.size:=by rw [sAl,sAl];omega
 rcases szA_spec (L:=1048576) (dn:=dn0) (n:=n0) (fss:=fss0) with hz | ⟨hR0a,hR0b,hR0c,hR0d,hR0e⟩
 · have HZ0:=Lib.hid hz;clear hz;go_enter Tryz.func3,Tryz.ntmps3
   go_upto_region 2 with fail
   generalize ((w.alloc (.cells #[.slice da0 dn0 dc0,.slice a0 n0 c0] 25)).alloc (.cells #[.slice a1 n1 c1] 28))=w0 at *;have p0_0:=hP0.cell 0;have p0_1:=hP0.cell 1;go_wp2_with fail
   refine (szAlgebra_c dc0 c0 1048576 (by omega) (by omega) hdm0 (HF0.out.keep hb) hnm0).mono ?_;rintro e ws0 ⟨rfl,hbX⟩;rw [HZ0.out];clear p0_0 p0_1;replace hb:=bT' hb hbX hb.size;replace hP0:=hP0.keep hbX hP0.lt;replace hP1:=hP1.keep hbX hP1.lt;clear hbX;go_wp2_with fail
   go_ret
   exact ⟨rfl,hb⟩
 have hsum0:=szA_sum (L:=1048576) (dn:=dn0) (n:=n0) (fss:=fss0) (by omega)
 generalize hz0:szA 1048576 dn0 n0 fss0=R0 at *
 have HZ0:=Lib.hid hz0
 clear hz0
 have hdn0:dn0≤1048576:=by omega
 have hn0:n0≤1048576:=by omega
 have HLL0:=Lib.hid (show ∀ts∈fss0,(ts.length:Int)≤1048576 from fun ts hts=>by have:=hR0e ts hts;omega)
 have HSM0:=Lib.hid (show sumLen fss0≤1048576 by omega)
 have hRn0:¬R0<0:=by omega
 obtain ⟨SL0,hSL0⟩:∃SL,sumLen fss0=SL:=⟨_,rfl⟩
 have HSL0:=Lib.hid hSL0
 have hSLb0:SL0≤1048576:=by have:=HSM0.out;omega
 have hSQ0:(SL0:Int)+dn0+R0≤1048576:=by rw [←hSL0];omega
 clear hSL0 hsum0 hR0e
 by_cases hz1:(n1:Int)≤R0
 rotate_left
 · skip
   go_enter Tryz.func3,Tryz.ntmps3
   go_upto_region 2 with fail
   generalize ((w.alloc (.cells #[.slice da0 dn0 dc0,.slice a0 n0 c0] 25)).alloc (.cells #[.slice a1 n1 c1] 28))=w0 at *;have p0_0:=hP0.cell 0;have p0_1:=hP0.cell 1;go_wp2_with fail
   refine (szAlgebra_c dc0 c0 1048576 (by omega) (by omega) hdm0 (HF0.out.keep hb) hnm0).mono ?_;rintro e ws0 ⟨rfl,hbX⟩;rw [HZ0.out];clear p0_0 p0_1;replace hb:=bT' hb hbX hb.size;replace hP0:=hP0.keep hbX hP0.lt;replace hP1:=hP1.keep hbX hP1.lt;clear hbX;have p1_0:=hP1.cell 0;go_wp2_with fail
   refine (szForm_c a1 n1 c1 R0 (by omega) (by omega) hm1).mono ?_;rintro e ws1 ⟨rfl,hbX⟩;rw [if_neg (by omega)];clear p1_0;replace hb:=bT' hb hbX hb.size;replace hP0:=hP0.keep hbX hP0.lt;replace hP1:=hP1.keep hbX hP1.lt;clear hbX;go_wp2_with fail
   go_ret
   exact ⟨rfl,hb⟩
 have hn1:n1≤1048576:=by omega
 obtain ⟨R1,hRe1⟩:∃R:Int,R=R0 - (n1:Int):=⟨_,rfl⟩
 have HZ1:=Lib.hid hRe1
 have hR1a:0≤R1:=by omega
 have hR1b:R1≤1048576:=by omega
 have hRn1:¬R1<0:=by omega
 clear hRe1
 go_enter Tryz.func3,Tryz.ntmps3
 go_upto_region 2 with fail
 generalize ((w.alloc (.cells #[.slice da0 dn0 dc0,.slice a0 n0 c0] 25)).alloc (.cells #[.slice a1 n1 c1] 28))=w0 at *
 have p0_0:=hP0.cell 0
 have p0_1:=hP0.cell 1
 go_wp2_with fail
 refine (szAlgebra_c dc0 c0 1048576 (by omega) (by omega) hdm0 (HF0.out.keep hb) hnm0).mono ?_
 rintro e ws0 ⟨rfl,hbX⟩
 rw [HZ0.out]
 clear p0_0 p0_1
 replace hb:=bT' hb hbX hb.size
 replace hP0:=hP0.keep hbX hP0.lt
 replace hP1:=hP1.keep hbX hP1.lt
 clear hbX
 have p1_0:=hP1.cell 0
 go_wp2_with fail
 refine (szForm_c a1 n1 c1 R0 (by omega) (by omega) hm1).mono ?_
 rintro e ws1 ⟨rfl,hbX⟩
 rw [if_pos hz1,←HZ1.out]
 clear p1_0
 replace hb:=bT' hb hbX hb.size
 replace hP0:=hP0.keep hbX hP0.lt
 replace hP1:=hP1.keep hbX hP1.lt
 clear hbX
 clear hWB
 have pc0_0:=hP0.cell 0
 have pc0_1:=hP0.cell 1
 have pc1_0:=hP1.cell 0
 go_upto_region 8 with fail
 clear pc0_0 pc0_1
 clear pc1_0
 have hGw:w.heap.size≤ws1.heap.size:=hb.size
 have hlP0:=hP0.lt
 have hlP1:=hP1.lt
 go_cut [6,7] (fun p e wr=>∃(wy:World) (ra:Option Addr) (rc:Nat),wy=wr∧p=.slice ra nV rc∧e=.int .i64 E∧Below ws1.heap.size ws1 wr∧OwnV wr ws1.heap.size wr.heap.size ra nV V)
 case first=>
  have hC:Below ws1.heap.size ws1 ws1.drew:=(Below.refl _ _).drew;replace hb:Below w.heap.size w ws1.drew:=hb.drew;replace hP0:Own ws1.drew (w.heap.size) 25 #[.slice da0 dn0 dc0,.slice a0 n0 c0]:=hP0;replace hP1:Own ws1.drew (w.heap.size+1) 28 #[.slice a1 n1 c1]:=hP1;refine wp_region_held_drew (S:=(fun w'=>w'.cell? ⟨w.heap.size,0,none⟩=some (.slice da0 dn0 dc0)∧w'.cell? ⟨w.heap.size,1,none⟩=some (.slice a0 n0 c0)∧w'.cell? ⟨w.heap.size+1,0,none⟩=some (.slice a1 n1 c1))) (by kernel_rfl) ?_ (fun _=>?_)
  · ((try dsimp only);(exact ⟨hP0.cell 0,hP0.cell 1,hP1.cell 0⟩))
  generalize ws1.drew=Wd at *;refine hdT 0 ?_;refine hdT 2 ?_;refine hdC 1 (fun K hK=>?_)
  (go_simp;(go_at_call 15;refine (toAlgebra_c dc0 c0 (HD0.out.keep hb) hdn0 (HF0.out.keep hb) hn0 HLL0.out).mono ?_;rintro e W1 ⟨ud0,ug0,us0,rfl,hud0,hug0,hui0,huf0,hbX⟩);go_wp2_with fail)
  replace hb:=bT' hb hbX hb.size;replace hC:=bT' hC hbX hC.size;replace hP0:=hP0.keep hbX hP0.lt;replace hP1:=hP1.keep hbX hP1.lt;clear hud0 hug0 hbX;refine hK.out _ _ ?_ (fun _=>?_)
  · ((try dsimp only);(exact ⟨hP0.cell 0,hP0.cell 1,hP1.cell 0⟩))
  clear hK K
  (try simp only [Act.put,pA,pB,pC])
  refine hdC 3 (fun K hK=>?_)
  (go_simp;(go_at_call 16;refine (toForm_c c1 (H1.out.keep hb) hn1).mono ?_;rintro e W2 ⟨ug1,rfl,hug1,huf1,hbX⟩);go_wp2_with fail)
  replace hb:=bT' hb hbX hb.size;replace hC:=bT' hC hbX hC.size;replace hP0:=hP0.keep hbX hP0.lt;replace hP1:=hP1.keep hbX hP1.lt;replace hui0:=IntBlk.keep hui0 hbX (IntBlk.lt hui0);replace huf0:=huf0.keep hbX;clear hug1 hbX;refine hK.out _ _ ?_ (fun _=>?_)
  · ((try dsimp only);(exact ⟨hP0.cell 0,hP0.cell 1,hP1.cell 0⟩))
  clear hK K
  (try simp only [Act.put,pA,pB,pC])
  refine hdC 4 (fun K hK=>?_);have hbs:=hC.size
  (go_simp;(go_at_call 14;refine (HCS.out _ _ _ _ _ _ _ hdn0 hn0 HLL0.out HT0.out HSM0.out (IntBlk.ints' hui0 HL0.out) (huf0.frms HT0.out HLL0.out HLn0.out) hn1 (Terms.of_own huf1 HT1.out HL1.out)).mono ?_;rintro e W3 ⟨ra,an,rc,rfl,hV,hbX⟩;have hnn:nV=an:=by rw [←HnV.out,hV.1]);subst hnn;go_wp2_with fail)
  replace hb:=bT' hb hbX hb.size;replace hC:=bT' hC hbX hC.size;replace hP0:=hP0.keep hbX hP0.lt;replace hP1:=hP1.keep hbX hP1.lt;replace hui0:=IntBlk.keep hui0 hbX (IntBlk.lt hui0);replace huf0:=huf0.keep hbX;replace huf1:=huf1.keep hbX huf1.lt;replace hV:=hV.weaken (lo':=ws1.heap.size) hbs (Nat.le_refl _);clear hbX hbs;clear hui0 huf0;clear huf1;refine hK.out _ _ ?_ (fun _=>?_)
  · ((try dsimp only);(exact ⟨hP0.cell 0,hP0.cell 1,hP1.cell 0⟩))
  clear hK K
  (try simp only [Act.put,pA,pB,pC])
  refine hdT 5 ?_;refine hdT 6 ?_;refine hdT 7 ?_;refine hdT 8 ?_;refine hdT 9 ?_;refine wpAnyH_done (by kernel_rfl) ?_ _;go_wp2_with fail
  go_meet
  exact ⟨_,ra,rc,rfl,rfl,rfl,hC,hV⟩
 case rest=>
  obtain ⟨wr,raS,rcS,rfl,rfl,rfl,hbX,hVS⟩:=hcut;replace hb:=bT' hb hbX hb.size;replace hP0:=hP0.keep hbX hP0.lt;replace hP1:=hP1.keep hbX hP1.lt;clear hbX;replace hVS:=hVS.weaken (lo':=w.heap.size+1+1) (by omega) (Nat.le_refl _);obtain ⟨C1,hC1⟩:∃C1,wr.heap.size=C1:=⟨_,rfl⟩;rw [hC1] at hVS;have hC1a:C1≤wr.heap.size:=Nat.le_of_eq hC1.symm;have hPl:=hP1.lt;rw [hC1] at hPl;clear hC1;have hQ0:w.heap.size<C1:=(by omega);have hQ1:w.heap.size+1<C1:=(by omega);have pc0_0:=hP0.cell 0;have pc0_1:=hP0.cell 1;go_wp2_with fail
  refine (toAlgebra_c dc0 c0 (HD0.out.keep hb) hdn0 (HF0.out.keep hb) hn0 HLL0.out).mono ?_;rintro e v1 ⟨kd0,kg0,ks0,rfl,hkd0,hkg0,hki0,hkf0,hbX⟩;clear pc0_0 pc0_1;replace hb:=bT' hb hbX hb.size;replace hP0:=hP0.keep hbX hP0.lt;replace hP1:=hP1.keep hbX hP1.lt;replace hVS:=hVS.keep hbX;clear hbX;go_upto_region 10 with fail
  have HKS0:=Lib.hid (fun x (hx:x∈ks0)=>(hkf0.lt x hx));have hkgl0:=hkf0.own.lt;have hX0:=Own.new v1 35 #[.slice (some ⟨kd0,0,none⟩) dn0 dn0,.slice (some ⟨kg0,0,none⟩) n0 n0];have hbX:=bA1 v1 (.cells #[.slice (some ⟨kd0,0,none⟩) dn0 dn0,.slice (some ⟨kg0,0,none⟩) n0 n0] 35);replace hb:=bT' hb hbX hb.size;replace hP0:=hP0.keep hbX hP0.lt;replace hP1:=hP1.keep hbX hP1.lt;replace hVS:=hVS.keep hbX;replace hki0:=IntBlk.keep hki0 hbX (IntBlk.lt hki0);replace hkf0:=hkf0.keep hbX;generalize v1.alloc (.cells #[.slice (some ⟨kd0,0,none⟩) dn0 dn0,.slice (some ⟨kg0,0,none⟩) n0 n0] 35)=v2 at *;generalize hgX:v1.heap.size=gX0 at *;clear hbX hgX;have hlo0:C1≤kd0:=(by omega);have hlt0:=hX0.lt;have pc1_0:=hP1.cell 0;go_wp2_with fail
  refine (toForm_c c1 (H1.out.keep hb) hn1).mono ?_;rintro e v3 ⟨kg1,rfl,hkg1,hkf1,hbX⟩;clear pc1_0;replace hb:=bT' hb hbX hb.size;replace hP0:=hP0.keep hbX hP0.lt;replace hP1:=hP1.keep hbX hP1.lt;replace hVS:=hVS.keep hbX;replace hki0:=IntBlk.keep hki0 hbX (IntBlk.lt hki0);replace hkf0:=hkf0.keep hbX;replace hX0:=hX0.keep hbX hX0.lt;clear hbX;go_upto_region 11 with fail
  have hkgl1:=hkf1.lt;have hX1:=Own.new v3 39 #[.slice (some ⟨kg1,0,none⟩) n1 n1];have hbX:=bA1 v3 (.cells #[.slice (some ⟨kg1,0,none⟩) n1 n1] 39);replace hb:=bT' hb hbX hb.size;replace hP0:=hP0.keep hbX hP0.lt;replace hP1:=hP1.keep hbX hP1.lt;replace hVS:=hVS.keep hbX;replace hki0:=IntBlk.keep hki0 hbX (IntBlk.lt hki0);replace hkf0:=hkf0.keep hbX;replace hX0:=hX0.keep hbX hX0.lt;replace hkf1:=hkf1.keep hbX hkf1.lt;generalize v3.alloc (.cells #[.slice (some ⟨kg1,0,none⟩) n1 n1] 39)=v4 at *;generalize hgX:v3.heap.size=gX1 at *;clear hbX hgX;have hlo1:gX0<kg1:=(by omega);have hlt1:=hX1.lt;have xc0_0:=hX0.cell 0;have xc0_1:=hX0.cell 1;have xc1_0:=hX1.cell 0;go_wp2_with fail
  refine (HCC.out _ _ _ _ _ _ _ hdn0 hn0 HLL0.out HT0.out HSM0.out (IntBlk.ints' hki0 HL0.out) (hkf0.frms HT0.out HLL0.out HLn0.out) hn1 (Terms.of_own hkf1 HT1.out HL1.out)).mono ?_;rintro e v5 ⟨raR,anR,rcR,rfl,hVR,hbX⟩;have hnn:nV=anR:=(by rw [←HnV.out,hVR.1]);subst hnn;replace hVR:=hVR.weaken (lo':=gX1+1) (by omega) (Nat.le_refl _);replace hb:=bT' hb hbX hb.size;replace hP0:=hP0.keep hbX hP0.lt;replace hP1:=hP1.keep hbX hP1.lt;replace hVS:=hVS.keep hbX;replace hki0:=IntBlk.keep hki0 hbX (IntBlk.lt hki0);replace hkf0:=hkf0.keep hbX;replace hX0:=hX0.keep hbX hX0.lt;replace hkf1:=hkf1.keep hbX hkf1.lt;replace hX1:=hX1.keep hbX hX1.lt;clear hbX;clear xc0_0;clear xc0_1;clear xc1_0;obtain ⟨C2,hC2⟩:∃C2,v5.heap.size=C2:=⟨_,rfl⟩;rw [hC2] at hVR;clear hC2;have hne1:(E != E)=false:=(by simp);go_wp2_with fail
  refine (eqIntsV_c _ _ hVR hVS hVl).mono ?_;rintro e v7 ⟨rfl,hbX⟩;replace hb:=bT' hb hbX hb.size;replace hP0:=hP0.keep hbX hP0.lt;replace hP1:=hP1.keep hbX hP1.lt;replace hVS:=hVS.keep hbX;replace hki0:=IntBlk.keep hki0 hbX (IntBlk.lt hki0);replace hkf0:=hkf0.keep hbX;replace hX0:=hX0.keep hbX hX0.lt;replace hkf1:=hkf1.keep hbX hkf1.lt;replace hX1:=hX1.keep hbX hX1.lt;replace hVR:=hVR.keep hbX;clear hbX;go_upto_region 14 with fail
  have hbD:Below v7.heap.size v7 v7.drew:=(Below.refl _ _).drew;replace hb:=hb.drew;replace hP0:=hP0.keep hbD hP0.lt;replace hP1:=hP1.keep hbD hP1.lt;replace hVS:=hVS.keep hbD;replace hki0:=IntBlk.keep hki0 hbD (IntBlk.lt hki0);replace hkf0:=hkf0.keep hbD;replace hX0:=hX0.keep hbD hX0.lt;replace hkf1:=hkf1.keep hbD hkf1.lt;replace hX1:=hX1.keep hbD hX1.lt;replace hVR:=hVR.keep hbD;clear hbD;refine wp_region_held_drew (S:=(fun w'=>w'.cell? ⟨gX0,0,none⟩=some (.slice (some ⟨kd0,0,none⟩) dn0 dn0)∧w'.cell? ⟨gX0,1,none⟩=some (.slice (some ⟨kg0,0,none⟩) n0 n0)∧w'.cell? ⟨w.heap.size,0,none⟩=some (.slice da0 dn0 dc0)∧w'.cell? ⟨w.heap.size,1,none⟩=some (.slice a0 n0 c0))) (by kernel_rfl) ?_ (fun _=>?_)
  · ((try dsimp only);(exact ⟨hX0.cell 0,hX0.cell 1,hP0.cell 0,hP0.cell 1⟩))
  generalize v7.drew=v7d at *;refine hdT 0 ?_;refine hdT 1 ?_;refine hdC 2 (fun K hK=>?_)
  (go_simp;(go_at_call 15;refine (toAlgebra_c dc0 c0 (HD0.out.keep hb) hdn0 (HF0.out.keep hb) hn0 HLL0.out).mono ?_;rintro e W1 ⟨md,mg,ms,rfl,hmd,hmg,mi,mB,hbX⟩);go_wp2_with fail)
  replace hb:=bT' hb hbX hb.size;replace hP0:=hP0.keep hbX hP0.lt;replace hP1:=hP1.keep hbX hP1.lt;replace hVS:=hVS.keep hbX;replace hki0:=IntBlk.keep hki0 hbX (IntBlk.lt hki0);replace hkf0:=hkf0.keep hbX;replace hX0:=hX0.keep hbX hX0.lt;replace hkf1:=hkf1.keep hbX hkf1.lt;replace hX1:=hX1.keep hbX hX1.lt;replace hVR:=hVR.keep hbX;clear hmd hmg hbX;refine hK.out _ _ ?_ (fun _=>?_)
  · ((try dsimp only);(exact ⟨hX0.cell 0,hX0.cell 1,hP0.cell 0,hP0.cell 1⟩))
  clear hK K
  (try simp only [Act.put,pA,pB,pC])
  refine hdC 3 (fun K hK=>?_)
  (go_simp;(go_at_call 19;refine (eqAlgebra_c dn0 dn0 n0 n0 (IntBlk.ints' hki0 HL0.out) (IntBlk.ints' mi HL0.out) hdn0 (hkf0.frms HT0.out HLL0.out HLn0.out) (mB.frms HT0.out HLL0.out HLn0.out) hn0 HLL0.out).mono ?_;rintro e W2 ⟨rfl,hbX⟩);go_wp2_with fail)
  replace hb:=bT' hb hbX hb.size;replace hP0:=hP0.keep hbX hP0.lt;replace hP1:=hP1.keep hbX hP1.lt;replace hVS:=hVS.keep hbX;replace hki0:=IntBlk.keep hki0 hbX (IntBlk.lt hki0);replace hkf0:=hkf0.keep hbX;replace hX0:=hX0.keep hbX hX0.lt;replace hkf1:=hkf1.keep hbX hkf1.lt;replace hX1:=hX1.keep hbX hX1.lt;replace hVR:=hVR.keep hbX;clear mi mB hbX;refine hK.out _ _ ?_ (fun _=>?_)
  · ((try dsimp only);(exact ⟨hX0.cell 0,hX0.cell 1,hP0.cell 0,hP0.cell 1⟩))
  clear hK K
  (try simp only [Act.put,pA,pB,pC])
  refine hdT 4 ?_;refine wpAnyH_done (by kernel_rfl) ?_ _;generalize hWW:W2=v8 at *;clear hWW;go_upto_region 16 with fail
  have hbD:Below v8.heap.size v8 v8.drew:=(Below.refl _ _).drew;replace hb:=hb.drew;replace hP0:=hP0.keep hbD hP0.lt;replace hP1:=hP1.keep hbD hP1.lt;replace hVS:=hVS.keep hbD;replace hki0:=IntBlk.keep hki0 hbD (IntBlk.lt hki0);replace hkf0:=hkf0.keep hbD;replace hX0:=hX0.keep hbD hX0.lt;replace hkf1:=hkf1.keep hbD hkf1.lt;replace hX1:=hX1.keep hbD hX1.lt;replace hVR:=hVR.keep hbD;clear hbD;refine wp_region_held_drew (S:=(fun w'=>w'.cell? ⟨gX1,0,none⟩=some (.slice (some ⟨kg1,0,none⟩) n1 n1)∧w'.cell? ⟨w.heap.size+1,0,none⟩=some (.slice a1 n1 c1))) (by kernel_rfl) ?_ (fun _=>?_)
  · ((try dsimp only);(exact ⟨hX1.cell 0,hP1.cell 0⟩))
  generalize v8.drew=v8d at *;refine hdT 0 ?_;refine hdT 1 ?_;refine hdC 2 (fun K hK=>?_)
  (go_simp;(go_at_call 16;refine (toForm_c c1 (H1.out.keep hb) hn1).mono ?_;rintro e W1 ⟨mg,rfl,hmg,mB,hbX⟩);go_wp2_with fail)
  replace hb:=bT' hb hbX hb.size;replace hP0:=hP0.keep hbX hP0.lt;replace hP1:=hP1.keep hbX hP1.lt;replace hVS:=hVS.keep hbX;replace hki0:=IntBlk.keep hki0 hbX (IntBlk.lt hki0);replace hkf0:=hkf0.keep hbX;replace hX0:=hX0.keep hbX hX0.lt;replace hkf1:=hkf1.keep hbX hkf1.lt;replace hX1:=hX1.keep hbX hX1.lt;replace hVR:=hVR.keep hbX;clear hmg hbX;refine hK.out _ _ ?_ (fun _=>?_)
  · ((try dsimp only);(exact ⟨hX1.cell 0,hP1.cell 0⟩))
  clear hK K
  (try simp only [Act.put,pA,pB,pC])
  refine hdC 3 (fun K hK=>?_)
  (go_simp;(go_at_call 20;refine (eqForm_c n1 n1 (Terms.of_own hkf1 HT1.out HL1.out) (Terms.of_own mB HT1.out HL1.out) hn1).mono ?_;rintro e W2 ⟨rfl,hbX⟩);go_wp2_with fail)
  replace hb:=bT' hb hbX hb.size;replace hP0:=hP0.keep hbX hP0.lt;replace hP1:=hP1.keep hbX hP1.lt;replace hVS:=hVS.keep hbX;replace hki0:=IntBlk.keep hki0 hbX (IntBlk.lt hki0);replace hkf0:=hkf0.keep hbX;replace hX0:=hX0.keep hbX hX0.lt;replace hkf1:=hkf1.keep hbX hkf1.lt;replace hX1:=hX1.keep hbX hX1.lt;replace hVR:=hVR.keep hbX;clear mB hbX;refine hK.out _ _ ?_ (fun _=>?_)
  · ((try dsimp only);(exact ⟨hX1.cell 0,hP1.cell 0⟩))
  clear hK K
  (try simp only [Act.put,pA,pB,pC])
  refine hdT 4 ?_;refine wpAnyH_done (by kernel_rfl) ?_ _;generalize hWW:W2=v9 at *;clear hWW;have xc0:=hX0.cell 0;have xc1:=hX0.cell 1;go_wp2_with fail
  refine (markAlgebra_c dn0 n0 hki0 HL0.out hdn0 hkg0 hkf0 HT0.out HLn0.out hn0 (by rw [HSL0.out];exact hSLb0) (by omega) (by omega)).mono ?_;rintro e v10 ⟨rfl,hTo0⟩;rw [HSL0.out];have hTo:Touch (fun k=>kd0≤k∧k<gX0) _ v10:=hTo0.mono (rk_range hkg0 (by omega) HKS0.out);clear hTo0;clear xc0 xc1;clear hki0 hkf0;replace hb:=hb.trans (hTo.bel (B:=w.heap.size) (fun k hk=>by omega) hb.size);replace hP0:=hTo.own hP0 (by omega);replace hP1:=hTo.own hP1 (by omega);replace hVS:=hVS.touch hTo (fun q h1 h2=>by omega);replace hX0:=hTo.own hX0 (by omega);replace hkf1:=hTo.own hkf1 (by omega);replace hX1:=hTo.own hX1 (by omega);replace hVR:=hVR.touch hTo (fun q h1 h2=>by omega);clear hTo;generalize hK1:(1:Int)+(dn0:Nat)+(SL0 * 9:Nat)=K1 at *;have hK1a:1≤K1:=(by omega);have hK1b:K1+9 * R0≤9437185:=(by omega);clear hK1;have xc0:=hX1.cell 0;go_wp2_with fail
  refine (markForm_c n1 hkf1 HSZ1.out (fun _=>rfl) hn1 (by omega) (by omega)).mono ?_;rintro e v11 ⟨rfl,hMk,hOn⟩;have hbX:=bA1 v10 (.cells #[.slice (some ⟨kg1,0,none⟩) n1 n1] 39);have hTo:Touch (fun k=>kg1≤k∧k<gX1) v10 v11:=(Touch.of_below hbX).trans ((Touch.of_only hOn).mono (fun k hk=>by omega));clear hOn hMk hbX;clear xc0;clear hkf1;replace hb:=hb.trans (hTo.bel (B:=w.heap.size) (fun k hk=>by omega) hb.size);replace hP0:=hTo.own hP0 (by omega);replace hP1:=hTo.own hP1 (by omega);replace hVS:=hVS.touch hTo (fun q h1 h2=>by omega);replace hX0:=hTo.own hX0 (by omega);replace hX1:=hTo.own hX1 (by omega);replace hVR:=hVR.touch hTo (fun q h1 h2=>by omega);clear hTo;generalize hK2:K1+(n1 * 9:Nat)=K2 at *;have hK2a:1≤K2:=(by omega);have hK2b:K2≤9437185:=(by omega);clear hK2;have hKn:¬K2<0:=(by omega);go_wp2_with fail
  refine (eqIntsV_c _ _ hVR hVS hVl).mono ?_;rintro e v12 ⟨rfl,hbX⟩;replace hb:=bT' hb hbX hb.size;replace hP0:=hP0.keep hbX hP0.lt;replace hP1:=hP1.keep hbX hP1.lt;replace hVS:=hVS.keep hbX;replace hX0:=hX0.keep hbX hX0.lt;replace hX1:=hX1.keep hbX hX1.lt;replace hVR:=hVR.keep hbX;clear hbX;go_wp2_with fail
  refine (markIntsV_c rcR hVR hVl (by omega) (by omega)).mono ?_;rintro e v13 ⟨rfl,hOw,hTo⟩;replace hb:=hb.trans (hTo.bel (B:=w.heap.size) (fun k hk=>by omega) hb.size);replace hP0:=hTo.own hP0 (by omega);replace hP1:=hTo.own hP1 (by omega);replace hVS:=hVS.touch hTo (fun q h1 h2=>by omega);replace hX0:=hTo.own hX0 (by omega);replace hX1:=hTo.own hX1 (by omega);clear hTo hVR;generalize hM:(1:Int)+(nV:Nat)=M at *;have HM:=Lib.hid hM;have hmn:¬(M<0):=(by omega);clear hM;go_wp2_with fail
  refine (heldIntsV_c rcR hOw hVl (by omega) (by omega)).mono ?_;rintro e v14 ⟨rfl,hbX⟩;rw [HM.out];replace hb:=bT' hb hbX hb.size;replace hP0:=hP0.keep hbX hP0.lt;replace hP1:=hP1.keep hbX hP1.lt;replace hVS:=hVS.keep hbX;replace hX0:=hX0.keep hbX hX0.lt;replace hX1:=hX1.keep hbX hX1.lt;replace hOw:=hOw.keep hbX;clear hbX;have pc0_0:=hP0.cell 0;have pc0_1:=hP0.cell 1;have pc1_0:=hP1.cell 0;go_upto_region 31 with fail
  clear pc0_0 pc0_1;clear pc1_0
  go_cut [15,16] (fun p e wr=>∃(wy:World) (ra:Option Addr) (rc:Nat),wy=wr∧p=.slice ra nV rc∧e=.int .i64 E∧Below v14.heap.size v14 wr∧OwnV wr v14.heap.size wr.heap.size ra nV V)
  case first=>
   clear hVS hX0 hX1 hOw;have hC:Below v14.heap.size v14 v14.drew:=(Below.refl _ _).drew;replace hb:Below w.heap.size w v14.drew:=hb.drew;replace hP0:Own v14.drew (w.heap.size) 25 #[.slice da0 dn0 dc0,.slice a0 n0 c0]:=hP0;replace hP1:Own v14.drew (w.heap.size+1) 28 #[.slice a1 n1 c1]:=hP1;refine wp_region_held_drew (S:=(fun w'=>w'.cell? ⟨w.heap.size,0,none⟩=some (.slice da0 dn0 dc0)∧w'.cell? ⟨w.heap.size,1,none⟩=some (.slice a0 n0 c0)∧w'.cell? ⟨w.heap.size+1,0,none⟩=some (.slice a1 n1 c1))) (by kernel_rfl) ?_ (fun _=>?_)
   · ((try dsimp only);(exact ⟨hP0.cell 0,hP0.cell 1,hP1.cell 0⟩))
   generalize v14.drew=Wd at *;refine hdT 0 ?_;refine hdT 2 ?_;refine hdC 1 (fun K hK=>?_)
   (go_simp;(go_at_call 15;refine (toAlgebra_c dc0 c0 (HD0.out.keep hb) hdn0 (HF0.out.keep hb) hn0 HLL0.out).mono ?_;rintro e W1 ⟨ud0,ug0,us0,rfl,hud0,hug0,hui0,huf0,hbX⟩);go_wp2_with fail)
   replace hb:=bT' hb hbX hb.size;replace hC:=bT' hC hbX hC.size;replace hP0:=hP0.keep hbX hP0.lt;replace hP1:=hP1.keep hbX hP1.lt;clear hud0 hug0 hbX;refine hK.out _ _ ?_ (fun _=>?_)
   · ((try dsimp only);(exact ⟨hP0.cell 0,hP0.cell 1,hP1.cell 0⟩))
   clear hK K
   (try simp only [Act.put,pA,pB,pC])
   refine hdC 3 (fun K hK=>?_)
   (go_simp;(go_at_call 16;refine (toForm_c c1 (H1.out.keep hb) hn1).mono ?_;rintro e W2 ⟨ug1,rfl,hug1,huf1,hbX⟩);go_wp2_with fail)
   replace hb:=bT' hb hbX hb.size;replace hC:=bT' hC hbX hC.size;replace hP0:=hP0.keep hbX hP0.lt;replace hP1:=hP1.keep hbX hP1.lt;replace hui0:=IntBlk.keep hui0 hbX (IntBlk.lt hui0);replace huf0:=huf0.keep hbX;clear hug1 hbX;refine hK.out _ _ ?_ (fun _=>?_)
   · ((try dsimp only);(exact ⟨hP0.cell 0,hP0.cell 1,hP1.cell 0⟩))
   clear hK K
   (try simp only [Act.put,pA,pB,pC])
   refine hdC 4 (fun K hK=>?_);have hbs:=hC.size
   (go_simp;(go_at_call 17;refine (HCC.out _ _ _ _ _ _ _ hdn0 hn0 HLL0.out HT0.out HSM0.out (IntBlk.ints' hui0 HL0.out) (huf0.frms HT0.out HLL0.out HLn0.out) hn1 (Terms.of_own huf1 HT1.out HL1.out)).mono ?_;rintro e W3 ⟨ra,an,rc,rfl,hV,hbX⟩;have hnn:nV=an:=by rw [←HnV.out,hV.1]);subst hnn;go_wp2_with fail)
   replace hb:=bT' hb hbX hb.size;replace hC:=bT' hC hbX hC.size;replace hP0:=hP0.keep hbX hP0.lt;replace hP1:=hP1.keep hbX hP1.lt;replace hui0:=IntBlk.keep hui0 hbX (IntBlk.lt hui0);replace huf0:=huf0.keep hbX;replace huf1:=huf1.keep hbX huf1.lt;replace hV:=hV.weaken (lo':=v14.heap.size) hbs (Nat.le_refl _);clear hbX hbs;clear hui0 huf0;clear huf1;refine hK.out _ _ ?_ (fun _=>?_)
   · ((try dsimp only);(exact ⟨hP0.cell 0,hP0.cell 1,hP1.cell 0⟩))
   clear hK K
   (try simp only [Act.put,pA,pB,pC])
   refine hdT 5 ?_;refine hdT 6 ?_;refine hdT 7 ?_;refine hdT 8 ?_;refine hdT 9 ?_;refine wpAnyH_done (by kernel_rfl) ?_ _;go_wp2_with fail
   go_meet
   exact ⟨_,ra,rc,rfl,rfl,rfl,hC,hV⟩
  case rest=>
   obtain ⟨wr,raT,rcT,rfl,rfl,rfl,hbX,hVT⟩:=hcut;replace hb:=bT' hb hbX hb.size;replace hP0:=hP0.keep hbX hP0.lt;replace hP1:=hP1.keep hbX hP1.lt;replace hVS:=hVS.keep hbX;replace hX0:=hX0.keep hbX hX0.lt;replace hX1:=hX1.keep hbX hX1.lt;replace hOw:=hOw.keep hbX;clear hbX;go_wp2_with fail
   refine (eqIntsV_c _ _ hVT hVS hVl).mono ?_;rintro e v15 ⟨rfl,hbX⟩;replace hb:=bT' hb hbX hb.size;replace hP0:=hP0.keep hbX hP0.lt;replace hP1:=hP1.keep hbX hP1.lt;replace hVS:=hVS.keep hbX;replace hX0:=hX0.keep hbX hX0.lt;replace hX1:=hX1.keep hbX hX1.lt;replace hOw:=hOw.keep hbX;replace hVT:=hVT.keep hbX;clear hbX;go_wp2_with fail
   refine (heldIntsV_c rcR hOw hVl (by omega) (by omega)).mono ?_;rintro e v16 ⟨rfl,hbX⟩;rw [HM.out];replace hb:=bT' hb hbX hb.size;replace hP0:=hP0.keep hbX hP0.lt;replace hP1:=hP1.keep hbX hP1.lt;replace hVS:=hVS.keep hbX;replace hX0:=hX0.keep hbX hX0.lt;replace hX1:=hX1.keep hbX hX1.lt;replace hOw:=hOw.keep hbX;replace hVT:=hVT.keep hbX;clear hbX;go_wp2_with fail
   go_ret
   exact ⟨rfl,hb⟩
theorem OwnI.v {w:World} {lo hi n:Nat} {a:Option Addr} {V:List Int} (h:OwnI w lo hi a n V):OwnV w lo hi a n V:=⟨h.1,fun hn=>by
 obtain ⟨g,rfl,h1,h2,h3⟩:=h.2 hn
 refine ⟨g,_,rfl,h1,h2,h3,by rw [List.size_toArray,List.length_map,h.1];exact Nat.le_refl _,fun i hi=>?_⟩
 rw [List.getElem?_toArray,List.getElem?_map,getD_of (by rw [h.1];exact hi)]
 rfl⟩
theorem classOf_walk (da : Option Addr) (dn dc : Nat) (zs : List Int) (a : Option Addr) (n c : Nat) (fss : List (List Tm)) (a2 : Option Addr) (n2 c2 : Nat) (fs : List Tm) (w : World) (hd : Ints w da dn zs) (hdm : (dn : Int) ≤ 9223372036854775807) (hF : Frms w a n fss) (hnm : (n : Int) ≤ 9223372036854775807) (h : Terms w a2 n2 fs) (hm : (n2 : Int) ≤ 9223372036854775807) :
    Calls Tryz.prog 3 #[.agg #[.slice da dn dc,.slice a n c],.agg #[.slice a2 n2 c2]] w fun e w'=>e=.returned (.bool true)∧Below w.heap.size w w':=by
 have h2:=coV_len zs fss fs h.2.1
 exact lawCof_walk da dn dc zs a n c fss a2 n2 c2 fs w hd hdm hF hnm h hm (coV zs fss fs) (hoC true zs fss fs) _ rfl (by omega) (by omega)
  (fun w' gd gi p q gf p2 h1 h2 h3 h4 _ h6 h7 h8 h9=>ClassOf_s p q p2 h6 h1 h7 h2 h3 h9 h8)
  (fun w' gd gi p q gf p2 h1 h2 h3 h4 _ h6 h7 h8 h9=>(ClassOf_c p q p2 h6 h1 h7 h2 h3 h9 h8).mono (by
   rintro e w'' ⟨ra,rn,rc,rfl,h10,h11⟩
   exact ⟨ra,rn,rc,rfl,h10.v,h11⟩))
end Go.Proofs.YtifcfoijcodjbaaGreat
