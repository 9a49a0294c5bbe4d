
import Derived.Test.YtndnkeijddagiaaAlgR
import Derived.Test.YtndnkeijddagiaaLawForm
import Derived.Test.YtndnkeijddagiaaKeep
import Derived.Test.YtndnkeijddagiaaIsAlg
import Derived.Test.YtndnkeijddagiaaIncl
namespace Go.Proofs.Ytndnkeijddagiaa
set_option maxRecDepth 100000
open Go.RowKit Go.Deep
set_option maxHeartbeats 16000000 in
theorem lawProj_walk (da0 : Option Addr) (dn0 dc0 : Nat) (zs0 : List Int) (a0 : Option Addr) (n0 c0 : Nat) (fss0 : List (List Tm)) (da1 : Option Addr) (dn1 dc1 : Nat) (zs1 : List Int) (a1 : Option Addr) (n1 c1 : Nat) (fss1 : List (List Tm)) (x2 : Bool) (w : World) (hd0 : Ints w da0 dn0 zs0) (hdm0 : (dn0 : Int) ≤ 9223372036854775807) (hF0 : Frms w a0 n0 fss0) (hnm0 : (n0 : Int) ≤ 9223372036854775807) (hd1 : Ints w da1 dn1 zs1) (hdm1 : (dn1 : Int) ≤ 9223372036854775807) (hF1 : Frms w a1 n1 fss1) (hnm1 : (n1 : Int) ≤ 9223372036854775807)
    (V:List (List Tm)) (E:Int) (nV:Nat) (hnV:V.length=nV) (hVl:nV≤1048576) (hVr:∀ts∈V,(ts.length:Int)≤1048576) (hVs:sumLen V≤1048576)
    (CS:∀(w':World) (gd0 gi0 p0 q0:Nat) (gd1 gi1 p1 q1:Nat),dn0≤1048576→n0≤1048576→(∀ts∈fss0,(ts.length:Int)≤1048576)→(∀ts∈fss0,∀t∈ts,IsTm t)→sumLen fss0≤1048576→Ints w' (some ⟨gd0,0,none⟩) dn0 zs0→FrmsN w' (some ⟨gi0,0,none⟩) n0 fss0→dn1≤1048576→n1≤1048576→(∀ts∈fss1,(ts.length:Int)≤1048576)→(∀ts∈fss1,∀t∈ts,IsTm t)→sumLen fss1≤1048576→Ints w' (some ⟨gd1,0,none⟩) dn1 zs1→FrmsN w' (some ⟨gi1,0,none⟩) n1 fss1→Calls Try.prog 42 #[.agg #[.slice (some ⟨gd0,0,none⟩) dn0 p0,.slice (some ⟨gi0,0,none⟩) n0 q0],.agg #[.slice (some ⟨gd1,0,none⟩) dn1 p1,.slice (some ⟨gi1,0,none⟩) n1 q1],.bool x2] w' fun e w''=>∃ra rn rc,e=.returned (.tuple #[.slice ra rn rc,.int .i64 E])∧OwnF w'' w'.heap.size w''.heap.size ra rn V∧Below w'.heap.size w' w'')
    (CC:∀(w':World) (gd0 gi0 p0 q0:Nat) (gd1 gi1 p1 q1:Nat),dn0≤1048576→n0≤1048576→(∀ts∈fss0,(ts.length:Int)≤1048576)→(∀ts∈fss0,∀t∈ts,IsTm t)→sumLen fss0≤1048576→Ints w' (some ⟨gd0,0,none⟩) dn0 zs0→FrmsN w' (some ⟨gi0,0,none⟩) n0 fss0→dn1≤1048576→n1≤1048576→(∀ts∈fss1,(ts.length:Int)≤1048576)→(∀ts∈fss1,∀t∈ts,IsTm t)→sumLen fss1≤1048576→Ints w' (some ⟨gd1,0,none⟩) dn1 zs1→FrmsN w' (some ⟨gi1,0,none⟩) n1 fss1→Calls Try.prog 43 #[.agg #[.slice (some ⟨gd0,0,none⟩) dn0 p0,.slice (some ⟨gi0,0,none⟩) n0 q0],.agg #[.slice (some ⟨gd1,0,none⟩) dn1 p1,.slice (some ⟨gi1,0,none⟩) n1 q1],.bool x2] w' fun e w''=>∃ra rn rc,e=.returned (.tuple #[.slice ra rn rc,.int .i64 E])∧OwnF w'' w'.heap.size w''.heap.size ra rn V∧Below w'.heap.size w' w'') :
    Calls Try.prog 11 #[.agg #[.slice da0 dn0 dc0,.slice a0 n0 c0],.agg #[.slice da1 dn1 dc1,.slice a1 n1 c1],.bool x2] w fun e w'=>e=.returned (.bool true)∧Below w.heap.size w w':=by
 have HCS:=Lib.hid CS
 have HCC:=Lib.hid CC
 have HnV:=Lib.hid hnV
 have HVR:=Lib.hid hVr
 have HVS:=Lib.hid hVs
 clear CS CC hnV hVr hVs
 have HL0:=Lib.hid hd0.len
 have HLn0:=Lib.hid hF0.len
 have HD0:=Lib.hid hd0
 have HF0:=Lib.hid hF0
 have HT0:=Lib.hid hF0.tm
 have HL1:=Lib.hid hd1.len
 have HLn1:=Lib.hid hF1.len
 have HD1:=Lib.hid hd1
 have HF1:=Lib.hid hF1
 have HT1:=Lib.hid hF1.tm
 have hP0:=(Own.new w 25 #[.slice da0 dn0 dc0,.slice a0 n0 c0]).alloc (.cells #[.slice da1 dn1 dc1,.slice a1 n1 c1] 25)
 have hP1:=Own.new (w.alloc (.cells #[.slice da0 dn0 dc0,.slice a0 n0 c0] 25)) 25 #[.slice da1 dn1 dc1,.slice a1 n1 c1]
 rw [sAl] at hP1
 have hb:=bTn (bA1 w (.cells #[.slice da0 dn0 dc0,.slice a0 n0 c0] 25)) (bA1 _ (.cells #[.slice da1 dn1 dc1,.slice a1 n1 c1] 25))
 have hWB:w.heap.size+2≤((w.alloc (.cells #[.slice da0 dn0 dc0,.slice a0 n0 c0] 25)).alloc (.cells #[.slice da1 dn1 dc1,.slice a1 n1 c1] 25)).heap.size:=by rw [sAl,sAl];omega
 rcases szA_spec (L:=1048576) (dn:=dn0) (n:=n0) (fss:=fss0) with hz | ⟨hR0a,hR0b,hR0c,hR0d,hR0e⟩
 · have HZ0:=Lib.hid hz;clear hz;go_enter Try.func11,Try.ntmps11
   go_upto_region 2 with fail
   generalize ((w.alloc (.cells #[.slice da0 dn0 dc0,.slice a0 n0 c0] 25)).alloc (.cells #[.slice da1 dn1 dc1,.slice a1 n1 c1] 25))=w0 at *;have p0_0:=hP0.cell 0;have p0_1:=hP0.cell 1;go_wp2_with fail
   refine (szAlgebra_c dc0 c0 1048576 (by omega) (by omega) hdm0 (HF0.out.keep hb) hnm0).mono ?_;rintro e ws0 ⟨rfl,hbX⟩;rw [HZ0.out];clear p0_0 p0_1;replace hb:=bT' hb hbX hb.size;replace hP0:=hP0.keep hbX hP0.lt;replace hP1:=hP1.keep hbX hP1.lt;clear hbX;go_wp2_with fail
   go_ret
   exact ⟨rfl,hb⟩
 have hsum0:=szA_sum (L:=1048576) (dn:=dn0) (n:=n0) (fss:=fss0) (by omega)
 generalize hz0:szA 1048576 dn0 n0 fss0=R0 at *
 have HZ0:=Lib.hid hz0
 clear hz0
 have hdn0:dn0≤1048576:=by omega
 have hn0:n0≤1048576:=by omega
 have HLL0:=Lib.hid (show ∀ts∈fss0,(ts.length:Int)≤1048576 from fun ts hts=>by have:=hR0e ts hts;omega)
 have HSM0:=Lib.hid (show sumLen fss0≤1048576 by omega)
 have hRn0:¬R0<0:=by omega
 obtain ⟨SL0,hSL0⟩:∃SL,sumLen fss0=SL:=⟨_,rfl⟩
 have HSL0:=Lib.hid hSL0
 have hSLb0:SL0≤1048576:=by have:=HSM0.out;omega
 have hSQ0:(SL0:Int)+dn0+R0≤1048576:=by rw [←hSL0];omega
 clear hSL0 hsum0 hR0e
 rcases szA_spec (L:=R0) (dn:=dn1) (n:=n1) (fss:=fss1) with hz | ⟨hR1a,hR1b,hR1c,hR1d,hR1e⟩
 · have HZ1:=Lib.hid hz;clear hz;go_enter Try.func11,Try.ntmps11
   go_upto_region 2 with fail
   generalize ((w.alloc (.cells #[.slice da0 dn0 dc0,.slice a0 n0 c0] 25)).alloc (.cells #[.slice da1 dn1 dc1,.slice a1 n1 c1] 25))=w0 at *;have p0_0:=hP0.cell 0;have p0_1:=hP0.cell 1;go_wp2_with fail
   refine (szAlgebra_c dc0 c0 1048576 (by omega) (by omega) hdm0 (HF0.out.keep hb) hnm0).mono ?_;rintro e ws0 ⟨rfl,hbX⟩;rw [HZ0.out];clear p0_0 p0_1;replace hb:=bT' hb hbX hb.size;replace hP0:=hP0.keep hbX hP0.lt;replace hP1:=hP1.keep hbX hP1.lt;clear hbX;have p1_0:=hP1.cell 0;have p1_1:=hP1.cell 1;go_wp2_with fail
   refine (szAlgebra_c dc1 c1 R0 (by omega) (by omega) hdm1 (HF1.out.keep hb) hnm1).mono ?_;rintro e ws1 ⟨rfl,hbX⟩;rw [HZ1.out];clear p1_0 p1_1;replace hb:=bT' hb hbX hb.size;replace hP0:=hP0.keep hbX hP0.lt;replace hP1:=hP1.keep hbX hP1.lt;clear hbX;go_wp2_with fail
   go_ret
   exact ⟨rfl,hb⟩
 have hsum1:=szA_sum (L:=R0) (dn:=dn1) (n:=n1) (fss:=fss1) (by omega)
 generalize hz1:szA R0 dn1 n1 fss1=R1 at *
 have HZ1:=Lib.hid hz1
 clear hz1
 have hdn1:dn1≤1048576:=by omega
 have hn1:n1≤1048576:=by omega
 have HLL1:=Lib.hid (show ∀ts∈fss1,(ts.length:Int)≤1048576 from fun ts hts=>by have:=hR1e ts hts;omega)
 have HSM1:=Lib.hid (show sumLen fss1≤1048576 by omega)
 have hRn1:¬R1<0:=by omega
 obtain ⟨SL1,hSL1⟩:∃SL,sumLen fss1=SL:=⟨_,rfl⟩
 have HSL1:=Lib.hid hSL1
 have hSLb1:SL1≤1048576:=by have:=HSM1.out;omega
 have hSQ1:(SL1:Int)+dn1+R1≤R0:=by rw [←hSL1];omega
 clear hSL1 hsum1 hR1e
 go_enter Try.func11,Try.ntmps11
 go_upto_region 2 with fail
 generalize ((w.alloc (.cells #[.slice da0 dn0 dc0,.slice a0 n0 c0] 25)).alloc (.cells #[.slice da1 dn1 dc1,.slice a1 n1 c1] 25))=w0 at *
 have p0_0:=hP0.cell 0
 have p0_1:=hP0.cell 1
 go_wp2_with fail
 refine (szAlgebra_c dc0 c0 1048576 (by omega) (by omega) hdm0 (HF0.out.keep hb) hnm0).mono ?_
 rintro e ws0 ⟨rfl,hbX⟩
 rw [HZ0.out]
 clear p0_0 p0_1
 replace hb:=bT' hb hbX hb.size
 replace hP0:=hP0.keep hbX hP0.lt
 replace hP1:=hP1.keep hbX hP1.lt
 clear hbX
 have p1_0:=hP1.cell 0
 have p1_1:=hP1.cell 1
 go_wp2_with fail
 refine (szAlgebra_c dc1 c1 R0 (by omega) (by omega) hdm1 (HF1.out.keep hb) hnm1).mono ?_
 rintro e ws1 ⟨rfl,hbX⟩
 rw [HZ1.out]
 clear p1_0 p1_1
 replace hb:=bT' hb hbX hb.size
 replace hP0:=hP0.keep hbX hP0.lt
 replace hP1:=hP1.keep hbX hP1.lt
 clear hbX
 clear hWB
 have pc0_0:=hP0.cell 0
 have pc0_1:=hP0.cell 1
 have pc1_0:=hP1.cell 0
 have pc1_1:=hP1.cell 1
 go_upto_region 8 with fail
 clear pc0_0 pc0_1
 clear pc1_0 pc1_1
 have hGw:w.heap.size≤ws1.heap.size:=hb.size
 have hlP0:=hP0.lt
 have hlP1:=hP1.lt
 go_cut [8,9] (fun p e wr=>∃(wy:World) (ra:Option Addr) (rc:Nat),wy=wr∧p=.slice ra nV rc∧e=.int .i64 E∧Below ws1.heap.size ws1 wr∧OwnF wr ws1.heap.size wr.heap.size ra nV V)
 case first=>
  have hC:Below ws1.heap.size ws1 ws1.drew:=(Below.refl _ _).drew;replace hb:Below w.heap.size w ws1.drew:=hb.drew;replace hP0:Own ws1.drew (w.heap.size) 25 #[.slice da0 dn0 dc0,.slice a0 n0 c0]:=hP0;replace hP1:Own ws1.drew (w.heap.size+1) 25 #[.slice da1 dn1 dc1,.slice a1 n1 c1]:=hP1;refine wp_region_held_drew (S:=(fun w'=>w'.cell? ⟨w.heap.size,0,none⟩=some (.slice da0 dn0 dc0)∧w'.cell? ⟨w.heap.size,1,none⟩=some (.slice a0 n0 c0)∧w'.cell? ⟨w.heap.size+1,0,none⟩=some (.slice da1 dn1 dc1)∧w'.cell? ⟨w.heap.size+1,1,none⟩=some (.slice a1 n1 c1))) (by kernel_rfl) ?_ (fun _=>?_)
  · ((try dsimp only);(exact ⟨hP0.cell 0,hP0.cell 1,hP1.cell 0,hP1.cell 1⟩))
  generalize ws1.drew=Wd at *;refine hdT 0 ?_;refine hdT 2 ?_;refine hdT 4 ?_;refine hdC 1 (fun K hK=>?_)
  (go_simp;(go_at_call 16;refine (toAlgebra_c dc0 c0 (HD0.out.keep hb) hdn0 (HF0.out.keep hb) hn0 HLL0.out).mono ?_;rintro e W1 ⟨ud0,ug0,us0,rfl,hud0,hug0,hui0,huf0,hbX⟩);go_wp2_with fail)
  replace hb:=bT' hb hbX hb.size;replace hC:=bT' hC hbX hC.size;replace hP0:=hP0.keep hbX hP0.lt;replace hP1:=hP1.keep hbX hP1.lt;clear hud0 hug0 hbX;refine hK.out _ _ ?_ (fun _=>?_)
  · ((try dsimp only);(exact ⟨hP0.cell 0,hP0.cell 1,hP1.cell 0,hP1.cell 1⟩))
  clear hK K
  (try simp only [Act.put,pA,pB,pC])
  refine hdC 3 (fun K hK=>?_)
  (go_simp;(go_at_call 16;refine (toAlgebra_c dc1 c1 (HD1.out.keep hb) hdn1 (HF1.out.keep hb) hn1 HLL1.out).mono ?_;rintro e W2 ⟨ud1,ug1,us1,rfl,hud1,hug1,hui1,huf1,hbX⟩);go_wp2_with fail)
  replace hb:=bT' hb hbX hb.size;replace hC:=bT' hC hbX hC.size;replace hP0:=hP0.keep hbX hP0.lt;replace hP1:=hP1.keep hbX hP1.lt;replace hui0:=IntBlk.keep hui0 hbX (IntBlk.lt hui0);replace huf0:=huf0.keep hbX;clear hud1 hug1 hbX;refine hK.out _ _ ?_ (fun _=>?_)
  · ((try dsimp only);(exact ⟨hP0.cell 0,hP0.cell 1,hP1.cell 0,hP1.cell 1⟩))
  clear hK K
  (try simp only [Act.put,pA,pB,pC])
  refine hdC 5 (fun K hK=>?_);have hbs:=hC.size
  (go_simp;(go_at_call 42;refine (HCS.out _ _ _ _ _ _ _ _ _ hdn0 hn0 HLL0.out HT0.out HSM0.out (IntBlk.ints' hui0 HL0.out) (huf0.frmsN HT0.out HLn0.out) hdn1 hn1 HLL1.out HT1.out HSM1.out (IntBlk.ints' hui1 HL1.out) (huf1.frmsN HT1.out HLn1.out)).mono ?_;rintro e W3 ⟨ra,an,rc,rfl,hV,hbX⟩;have hnn:nV=an:=by rw [←HnV.out,hV.1]);subst hnn;go_wp2_with fail)
  replace hb:=bT' hb hbX hb.size;replace hC:=bT' hC hbX hC.size;replace hP0:=hP0.keep hbX hP0.lt;replace hP1:=hP1.keep hbX hP1.lt;replace hui0:=IntBlk.keep hui0 hbX (IntBlk.lt hui0);replace huf0:=huf0.keep hbX;replace hui1:=IntBlk.keep hui1 hbX (IntBlk.lt hui1);replace huf1:=huf1.keep hbX;replace hV:=hV.weaken (lo':=ws1.heap.size) hbs (Nat.le_refl _);clear hbX hbs;clear hui0 huf0;clear hui1 huf1;refine hK.out _ _ ?_ (fun _=>?_)
  · ((try dsimp only);(exact ⟨hP0.cell 0,hP0.cell 1,hP1.cell 0,hP1.cell 1⟩))
  clear hK K
  (try simp only [Act.put,pA,pB,pC])
  refine hdT 6 ?_;refine hdT 7 ?_;refine hdT 8 ?_;refine hdT 9 ?_;refine hdT 10 ?_;refine wpAnyH_done (by kernel_rfl) ?_ _;go_wp2_with fail
  go_meet
  exact ⟨_,ra,rc,rfl,rfl,rfl,hC,hV⟩
 case rest=>
  obtain ⟨wr,raS,rcS,rfl,rfl,rfl,hbX,hVS⟩:=hcut;replace hb:=bT' hb hbX hb.size;replace hP0:=hP0.keep hbX hP0.lt;replace hP1:=hP1.keep hbX hP1.lt;clear hbX;replace hVS:=hVS.weaken (lo':=w.heap.size+1+1) (by omega) (Nat.le_refl _);obtain ⟨C1,hC1⟩:∃C1,wr.heap.size=C1:=⟨_,rfl⟩;rw [hC1] at hVS;have hC1a:C1≤wr.heap.size:=Nat.le_of_eq hC1.symm;have hPl:=hP1.lt;rw [hC1] at hPl;clear hC1;have hQ0:w.heap.size<C1:=(by omega);have hQ1:w.heap.size+1<C1:=(by omega);have pc0_0:=hP0.cell 0;have pc0_1:=hP0.cell 1;go_wp2_with fail
  refine (toAlgebra_c dc0 c0 (HD0.out.keep hb) hdn0 (HF0.out.keep hb) hn0 HLL0.out).mono ?_;rintro e v1 ⟨kd0,kg0,ks0,rfl,hkd0,hkg0,hki0,hkf0,hbX⟩;clear pc0_0 pc0_1;replace hb:=bT' hb hbX hb.size;replace hP0:=hP0.keep hbX hP0.lt;replace hP1:=hP1.keep hbX hP1.lt;replace hVS:=hVS.keep hbX;clear hbX;go_upto_region 10 with fail
  have HKS0:=Lib.hid (fun x (hx:x∈ks0)=>(hkf0.lt x hx));have hkgl0:=hkf0.own.lt;have hX0:=Own.new v1 29 #[.slice (some ⟨kd0,0,none⟩) dn0 dn0,.slice (some ⟨kg0,0,none⟩) n0 n0];have hbX:=bA1 v1 (.cells #[.slice (some ⟨kd0,0,none⟩) dn0 dn0,.slice (some ⟨kg0,0,none⟩) n0 n0] 29);replace hb:=bT' hb hbX hb.size;replace hP0:=hP0.keep hbX hP0.lt;replace hP1:=hP1.keep hbX hP1.lt;replace hVS:=hVS.keep hbX;replace hki0:=IntBlk.keep hki0 hbX (IntBlk.lt hki0);replace hkf0:=hkf0.keep hbX;generalize v1.alloc (.cells #[.slice (some ⟨kd0,0,none⟩) dn0 dn0,.slice (some ⟨kg0,0,none⟩) n0 n0] 29)=v2 at *;generalize hgX:v1.heap.size=gX0 at *;clear hbX hgX;have hlo0:C1≤kd0:=(by omega);have hlt0:=hX0.lt;have pc1_0:=hP1.cell 0;have pc1_1:=hP1.cell 1;go_wp2_with fail
  refine (toAlgebra_c dc1 c1 (HD1.out.keep hb) hdn1 (HF1.out.keep hb) hn1 HLL1.out).mono ?_;rintro e v3 ⟨kd1,kg1,ks1,rfl,hkd1,hkg1,hki1,hkf1,hbX⟩;clear pc1_0 pc1_1;replace hb:=bT' hb hbX hb.size;replace hP0:=hP0.keep hbX hP0.lt;replace hP1:=hP1.keep hbX hP1.lt;replace hVS:=hVS.keep hbX;replace hki0:=IntBlk.keep hki0 hbX (IntBlk.lt hki0);replace hkf0:=hkf0.keep hbX;replace hX0:=hX0.keep hbX hX0.lt;clear hbX;go_upto_region 11 with fail
  have HKS1:=Lib.hid (fun x (hx:x∈ks1)=>(hkf1.lt x hx));have hkgl1:=hkf1.own.lt;have hX1:=Own.new v3 29 #[.slice (some ⟨kd1,0,none⟩) dn1 dn1,.slice (some ⟨kg1,0,none⟩) n1 n1];have hbX:=bA1 v3 (.cells #[.slice (some ⟨kd1,0,none⟩) dn1 dn1,.slice (some ⟨kg1,0,none⟩) n1 n1] 29);replace hb:=bT' hb hbX hb.size;replace hP0:=hP0.keep hbX hP0.lt;replace hP1:=hP1.keep hbX hP1.lt;replace hVS:=hVS.keep hbX;replace hki0:=IntBlk.keep hki0 hbX (IntBlk.lt hki0);replace hkf0:=hkf0.keep hbX;replace hX0:=hX0.keep hbX hX0.lt;replace hki1:=IntBlk.keep hki1 hbX (IntBlk.lt hki1);replace hkf1:=hkf1.keep hbX;generalize v3.alloc (.cells #[.slice (some ⟨kd1,0,none⟩) dn1 dn1,.slice (some ⟨kg1,0,none⟩) n1 n1] 29)=v4 at *;generalize hgX:v3.heap.size=gX1 at *;clear hbX hgX;have hlo1:gX0<kd1:=(by omega);have hlt1:=hX1.lt;have xc0_0:=hX0.cell 0;have xc0_1:=hX0.cell 1;have xc1_0:=hX1.cell 0;have xc1_1:=hX1.cell 1;go_wp2_with fail
  refine (HCC.out _ _ _ _ _ _ _ _ _ hdn0 hn0 HLL0.out HT0.out HSM0.out (IntBlk.ints' hki0 HL0.out) (hkf0.frmsN HT0.out HLn0.out) hdn1 hn1 HLL1.out HT1.out HSM1.out (IntBlk.ints' hki1 HL1.out) (hkf1.frmsN HT1.out HLn1.out)).mono ?_;rintro e v5 ⟨raR,anR,rcR,rfl,hVR,hbX⟩;have hnn:nV=anR:=(by rw [←HnV.out,hVR.1]);subst hnn;replace hVR:=hVR.weaken (lo':=gX1+1) (by omega) (Nat.le_refl _);replace hb:=bT' hb hbX hb.size;replace hP0:=hP0.keep hbX hP0.lt;replace hP1:=hP1.keep hbX hP1.lt;replace hVS:=hVS.keep hbX;replace hki0:=IntBlk.keep hki0 hbX (IntBlk.lt hki0);replace hkf0:=hkf0.keep hbX;replace hX0:=hX0.keep hbX hX0.lt;replace hki1:=IntBlk.keep hki1 hbX (IntBlk.lt hki1);replace hkf1:=hkf1.keep hbX;replace hX1:=hX1.keep hbX hX1.lt;clear hbX;clear xc0_0;clear xc0_1;clear xc1_0;clear xc1_1;obtain ⟨C2,hC2⟩:∃C2,v5.heap.size=C2:=⟨_,rfl⟩;rw [hC2] at hVR;clear hC2;have hne1:(E != E)=false:=(by simp);go_wp2_with fail
  refine (eqFormS_c _ _ (hVR.frms HVR.out) (hVS.frms HVR.out) hVl HVR.out).mono ?_;rintro e v7 ⟨rfl,hbX⟩;replace hb:=bT' hb hbX hb.size;replace hP0:=hP0.keep hbX hP0.lt;replace hP1:=hP1.keep hbX hP1.lt;replace hVS:=hVS.keep hbX;replace hki0:=IntBlk.keep hki0 hbX (IntBlk.lt hki0);replace hkf0:=hkf0.keep hbX;replace hX0:=hX0.keep hbX hX0.lt;replace hki1:=IntBlk.keep hki1 hbX (IntBlk.lt hki1);replace hkf1:=hkf1.keep hbX;replace hX1:=hX1.keep hbX hX1.lt;replace hVR:=hVR.keep hbX;clear hbX;go_upto_region 14 with fail
  have hbD:Below v7.heap.size v7 v7.drew:=(Below.refl _ _).drew;replace hb:=hb.drew;replace hP0:=hP0.keep hbD hP0.lt;replace hP1:=hP1.keep hbD hP1.lt;replace hVS:=hVS.keep hbD;replace hki0:=IntBlk.keep hki0 hbD (IntBlk.lt hki0);replace hkf0:=hkf0.keep hbD;replace hX0:=hX0.keep hbD hX0.lt;replace hki1:=IntBlk.keep hki1 hbD (IntBlk.lt hki1);replace hkf1:=hkf1.keep hbD;replace hX1:=hX1.keep hbD hX1.lt;replace hVR:=hVR.keep hbD;clear hbD;refine wp_region_held_drew (S:=(fun w'=>w'.cell? ⟨gX0,0,none⟩=some (.slice (some ⟨kd0,0,none⟩) dn0 dn0)∧w'.cell? ⟨gX0,1,none⟩=some (.slice (some ⟨kg0,0,none⟩) n0 n0)∧w'.cell? ⟨w.heap.size,0,none⟩=some (.slice da0 dn0 dc0)∧w'.cell? ⟨w.heap.size,1,none⟩=some (.slice a0 n0 c0))) (by kernel_rfl) ?_ (fun _=>?_)
  · ((try dsimp only);(exact ⟨hX0.cell 0,hX0.cell 1,hP0.cell 0,hP0.cell 1⟩))
  generalize v7.drew=v7d at *;refine hdT 0 ?_;refine hdT 1 ?_;refine hdC 2 (fun K hK=>?_)
  (go_simp;(go_at_call 16;refine (toAlgebra_c dc0 c0 (HD0.out.keep hb) hdn0 (HF0.out.keep hb) hn0 HLL0.out).mono ?_;rintro e W1 ⟨md,mg,ms,rfl,hmd,hmg,mi,mB,hbX⟩);go_wp2_with fail)
  replace hb:=bT' hb hbX hb.size;replace hP0:=hP0.keep hbX hP0.lt;replace hP1:=hP1.keep hbX hP1.lt;replace hVS:=hVS.keep hbX;replace hki0:=IntBlk.keep hki0 hbX (IntBlk.lt hki0);replace hkf0:=hkf0.keep hbX;replace hX0:=hX0.keep hbX hX0.lt;replace hki1:=IntBlk.keep hki1 hbX (IntBlk.lt hki1);replace hkf1:=hkf1.keep hbX;replace hX1:=hX1.keep hbX hX1.lt;replace hVR:=hVR.keep hbX;clear hmd hmg hbX;refine hK.out _ _ ?_ (fun _=>?_)
  · ((try dsimp only);(exact ⟨hX0.cell 0,hX0.cell 1,hP0.cell 0,hP0.cell 1⟩))
  clear hK K
  (try simp only [Act.put,pA,pB,pC])
  refine hdC 3 (fun K hK=>?_)
  (go_simp;(go_at_call 18;refine (eqAlgebra_c dn0 dn0 n0 n0 (IntBlk.ints' hki0 HL0.out) (IntBlk.ints' mi HL0.out) hdn0 (hkf0.frms HT0.out HLL0.out HLn0.out) (mB.frms HT0.out HLL0.out HLn0.out) hn0 HLL0.out).mono ?_;rintro e W2 ⟨rfl,hbX⟩);go_wp2_with fail)
  replace hb:=bT' hb hbX hb.size;replace hP0:=hP0.keep hbX hP0.lt;replace hP1:=hP1.keep hbX hP1.lt;replace hVS:=hVS.keep hbX;replace hki0:=IntBlk.keep hki0 hbX (IntBlk.lt hki0);replace hkf0:=hkf0.keep hbX;replace hX0:=hX0.keep hbX hX0.lt;replace hki1:=IntBlk.keep hki1 hbX (IntBlk.lt hki1);replace hkf1:=hkf1.keep hbX;replace hX1:=hX1.keep hbX hX1.lt;replace hVR:=hVR.keep hbX;clear mi mB hbX;refine hK.out _ _ ?_ (fun _=>?_)
  · ((try dsimp only);(exact ⟨hX0.cell 0,hX0.cell 1,hP0.cell 0,hP0.cell 1⟩))
  clear hK K
  (try simp only [Act.put,pA,pB,pC])
  refine hdT 4 ?_;refine wpAnyH_done (by kernel_rfl) ?_ _;generalize hWW:W2=v8 at *;clear hWW;go_upto_region 16 with fail
  have hbD:Below v8.heap.size v8 v8.drew:=(Below.refl _ _).drew;replace hb:=hb.drew;replace hP0:=hP0.keep hbD hP0.lt;replace hP1:=hP1.keep hbD hP1.lt;replace hVS:=hVS.keep hbD;replace hki0:=IntBlk.keep hki0 hbD (IntBlk.lt hki0);replace hkf0:=hkf0.keep hbD;replace hX0:=hX0.keep hbD hX0.lt;replace hki1:=IntBlk.keep hki1 hbD (IntBlk.lt hki1);replace hkf1:=hkf1.keep hbD;replace hX1:=hX1.keep hbD hX1.lt;replace hVR:=hVR.keep hbD;clear hbD;refine wp_region_held_drew (S:=(fun w'=>w'.cell? ⟨gX1,0,none⟩=some (.slice (some ⟨kd1,0,none⟩) dn1 dn1)∧w'.cell? ⟨gX1,1,none⟩=some (.slice (some ⟨kg1,0,none⟩) n1 n1)∧w'.cell? ⟨w.heap.size+1,0,none⟩=some (.slice da1 dn1 dc1)∧w'.cell? ⟨w.heap.size+1,1,none⟩=some (.slice a1 n1 c1))) (by kernel_rfl) ?_ (fun _=>?_)
  · ((try dsimp only);(exact ⟨hX1.cell 0,hX1.cell 1,hP1.cell 0,hP1.cell 1⟩))
  generalize v8.drew=v8d at *;refine hdT 0 ?_;refine hdT 1 ?_;refine hdC 2 (fun K hK=>?_)
  (go_simp;(go_at_call 16;refine (toAlgebra_c dc1 c1 (HD1.out.keep hb) hdn1 (HF1.out.keep hb) hn1 HLL1.out).mono ?_;rintro e W1 ⟨md,mg,ms,rfl,hmd,hmg,mi,mB,hbX⟩);go_wp2_with fail)
  replace hb:=bT' hb hbX hb.size;replace hP0:=hP0.keep hbX hP0.lt;replace hP1:=hP1.keep hbX hP1.lt;replace hVS:=hVS.keep hbX;replace hki0:=IntBlk.keep hki0 hbX (IntBlk.lt hki0);replace hkf0:=hkf0.keep hbX;replace hX0:=hX0.keep hbX hX0.lt;replace hki1:=IntBlk.keep hki1 hbX (IntBlk.lt hki1);replace hkf1:=hkf1.keep hbX;replace hX1:=hX1.keep hbX hX1.lt;replace hVR:=hVR.keep hbX;clear hmd hmg hbX;refine hK.out _ _ ?_ (fun _=>?_)
  · ((try dsimp only);(exact ⟨hX1.cell 0,hX1.cell 1,hP1.cell 0,hP1.cell 1⟩))
  clear hK K
  (try simp only [Act.put,pA,pB,pC])
  refine hdC 3 (fun K hK=>?_)
  (go_simp;(go_at_call 18;refine (eqAlgebra_c dn1 dn1 n1 n1 (IntBlk.ints' hki1 HL1.out) (IntBlk.ints' mi HL1.out) hdn1 (hkf1.frms HT1.out HLL1.out HLn1.out) (mB.frms HT1.out HLL1.out HLn1.out) hn1 HLL1.out).mono ?_;rintro e W2 ⟨rfl,hbX⟩);go_wp2_with fail)
  replace hb:=bT' hb hbX hb.size;replace hP0:=hP0.keep hbX hP0.lt;replace hP1:=hP1.keep hbX hP1.lt;replace hVS:=hVS.keep hbX;replace hki0:=IntBlk.keep hki0 hbX (IntBlk.lt hki0);replace hkf0:=hkf0.keep hbX;replace hX0:=hX0.keep hbX hX0.lt;replace hki1:=IntBlk.keep hki1 hbX (IntBlk.lt hki1);replace hkf1:=hkf1.keep hbX;replace hX1:=hX1.keep hbX hX1.lt;replace hVR:=hVR.keep hbX;clear mi mB hbX;refine hK.out _ _ ?_ (fun _=>?_)
  · ((try dsimp only);(exact ⟨hX1.cell 0,hX1.cell 1,hP1.cell 0,hP1.cell 1⟩))
  clear hK K
  (try simp only [Act.put,pA,pB,pC])
  refine hdT 4 ?_;refine wpAnyH_done (by kernel_rfl) ?_ _;generalize hWW:W2=v9 at *;clear hWW;have xc0:=hX0.cell 0;have xc1:=hX0.cell 1;go_wp2_with fail
  refine (markAlgebra_c dn0 n0 hki0 HL0.out hdn0 hkg0 hkf0 HT0.out HLn0.out hn0 (by rw [HSL0.out];exact hSLb0) (by omega) (by omega)).mono ?_;rintro e v10 ⟨rfl,hTo0⟩;rw [HSL0.out];have hTo:Touch (fun k=>kd0≤k∧k<gX0) _ v10:=hTo0.mono (rk_range hkg0 (by omega) HKS0.out);clear hTo0;clear xc0 xc1;clear hki0 hkf0;replace hb:=hb.trans (hTo.bel (B:=w.heap.size) (fun k hk=>by omega) hb.size);replace hP0:=hTo.own hP0 (by omega);replace hP1:=hTo.own hP1 (by omega);replace hVS:=hVS.touch hTo (fun q h1 h2=>by omega);replace hX0:=hTo.own hX0 (by omega);replace hki1:IntBlk v10 kd1 zs1:=hTo.own hki1 (by omega);replace hkf1:=hTo.frms hkf1 (by omega) (fun x hx=>by have:=(HKS1.out x hx).1;omega);replace hX1:=hTo.own hX1 (by omega);replace hVR:=hVR.touch hTo (fun q h1 h2=>by omega);clear hTo;generalize hK1:(1:Int)+(dn0:Nat)+(SL0 * 9:Nat)=K1 at *;have hK1a:1≤K1:=(by omega);have hK1b:K1+9 * R0≤9437185:=(by omega);clear hK1;have xc0:=hX1.cell 0;have xc1:=hX1.cell 1;go_wp2_with fail
  refine (markAlgebra_c dn1 n1 hki1 HL1.out hdn1 hkg1 hkf1 HT1.out HLn1.out hn1 (by rw [HSL1.out];exact hSLb1) (by omega) (by omega)).mono ?_;rintro e v11 ⟨rfl,hTo0⟩;rw [HSL1.out];have hTo:Touch (fun k=>kd1≤k∧k<gX1) _ v11:=hTo0.mono (rk_range hkg1 (by omega) HKS1.out);clear hTo0;clear xc0 xc1;clear hki1 hkf1;replace hb:=hb.trans (hTo.bel (B:=w.heap.size) (fun k hk=>by omega) hb.size);replace hP0:=hTo.own hP0 (by omega);replace hP1:=hTo.own hP1 (by omega);replace hVS:=hVS.touch hTo (fun q h1 h2=>by omega);replace hX0:=hTo.own hX0 (by omega);replace hX1:=hTo.own hX1 (by omega);replace hVR:=hVR.touch hTo (fun q h1 h2=>by omega);clear hTo;generalize hK2:K1+(dn1:Nat)+(SL1 * 9:Nat)=K2 at *;have hK2a:1≤K2:=(by omega);have hK2b:K2+9 * R1≤9437185:=(by omega);clear hK2;have hKn:¬K2<0:=(by omega);go_wp2_with fail
  refine (eqFormS_c _ _ (hVR.frms HVR.out) (hVS.frms HVR.out) hVl HVR.out).mono ?_;rintro e v12 ⟨rfl,hbX⟩;replace hb:=bT' hb hbX hb.size;replace hP0:=hP0.keep hbX hP0.lt;replace hP1:=hP1.keep hbX hP1.lt;replace hVS:=hVS.keep hbX;replace hX0:=hX0.keep hbX hX0.lt;replace hX1:=hX1.keep hbX hX1.lt;replace hVR:=hVR.keep hbX;clear hbX;go_wp2_with fail
  refine (markFlsR_c rcR hVR hVl HVS.out (by omega) (by omega)).mono ?_;rintro e v13 ⟨rfl,hOw,hTo⟩;replace hb:=hb.trans (hTo.bel (B:=w.heap.size) (fun k hk=>by omega) hb.size);replace hP0:=hTo.own hP0 (by omega);replace hP1:=hTo.own hP1 (by omega);replace hVS:=hVS.touch hTo (fun q h1 h2=>by omega);replace hX0:=hTo.own hX0 (by omega);replace hX1:=hTo.own hX1 (by omega);clear hTo hVR;generalize hM:(1:Int)+(sumLen V * 9:Nat)=M at *;have HM:=Lib.hid hM;have hmn:¬(M<0):=(by omega);clear hM;go_wp2_with fail
  refine (heldFlsR_c rcR hOw hVl HVS.out (by omega) (by omega)).mono ?_;rintro e v14 ⟨rfl,hbX⟩;rw [HM.out];replace hb:=bT' hb hbX hb.size;replace hP0:=hP0.keep hbX hP0.lt;replace hP1:=hP1.keep hbX hP1.lt;replace hVS:=hVS.keep hbX;replace hX0:=hX0.keep hbX hX0.lt;replace hX1:=hX1.keep hbX hX1.lt;replace hOw:=hOw.keep hbX;clear hbX;have pc0_0:=hP0.cell 0;have pc0_1:=hP0.cell 1;have pc1_0:=hP1.cell 0;have pc1_1:=hP1.cell 1;go_upto_region 31 with fail
  clear pc0_0 pc0_1;clear pc1_0 pc1_1
  go_cut [17,18] (fun p e wr=>∃(wy:World) (ra:Option Addr) (rc:Nat),wy=wr∧p=.slice ra nV rc∧e=.int .i64 E∧Below v14.heap.size v14 wr∧OwnF wr v14.heap.size wr.heap.size ra nV V)
  case first=>
   clear hVS hX0 hX1 hOw;have hC:Below v14.heap.size v14 v14.drew:=(Below.refl _ _).drew;replace hb:Below w.heap.size w v14.drew:=hb.drew;replace hP0:Own v14.drew (w.heap.size) 25 #[.slice da0 dn0 dc0,.slice a0 n0 c0]:=hP0;replace hP1:Own v14.drew (w.heap.size+1) 25 #[.slice da1 dn1 dc1,.slice a1 n1 c1]:=hP1;refine wp_region_held_drew (S:=(fun w'=>w'.cell? ⟨w.heap.size,0,none⟩=some (.slice da0 dn0 dc0)∧w'.cell? ⟨w.heap.size,1,none⟩=some (.slice a0 n0 c0)∧w'.cell? ⟨w.heap.size+1,0,none⟩=some (.slice da1 dn1 dc1)∧w'.cell? ⟨w.heap.size+1,1,none⟩=some (.slice a1 n1 c1))) (by kernel_rfl) ?_ (fun _=>?_)
   · ((try dsimp only);(exact ⟨hP0.cell 0,hP0.cell 1,hP1.cell 0,hP1.cell 1⟩))
   generalize v14.drew=Wd at *;refine hdT 0 ?_;refine hdT 2 ?_;refine hdT 4 ?_;refine hdC 1 (fun K hK=>?_)
   (go_simp;(go_at_call 16;refine (toAlgebra_c dc0 c0 (HD0.out.keep hb) hdn0 (HF0.out.keep hb) hn0 HLL0.out).mono ?_;rintro e W1 ⟨ud0,ug0,us0,rfl,hud0,hug0,hui0,huf0,hbX⟩);go_wp2_with fail)
   replace hb:=bT' hb hbX hb.size;replace hC:=bT' hC hbX hC.size;replace hP0:=hP0.keep hbX hP0.lt;replace hP1:=hP1.keep hbX hP1.lt;clear hud0 hug0 hbX;refine hK.out _ _ ?_ (fun _=>?_)
   · ((try dsimp only);(exact ⟨hP0.cell 0,hP0.cell 1,hP1.cell 0,hP1.cell 1⟩))
   clear hK K
   (try simp only [Act.put,pA,pB,pC])
   refine hdC 3 (fun K hK=>?_)
   (go_simp;(go_at_call 16;refine (toAlgebra_c dc1 c1 (HD1.out.keep hb) hdn1 (HF1.out.keep hb) hn1 HLL1.out).mono ?_;rintro e W2 ⟨ud1,ug1,us1,rfl,hud1,hug1,hui1,huf1,hbX⟩);go_wp2_with fail)
   replace hb:=bT' hb hbX hb.size;replace hC:=bT' hC hbX hC.size;replace hP0:=hP0.keep hbX hP0.lt;replace hP1:=hP1.keep hbX hP1.lt;replace hui0:=IntBlk.keep hui0 hbX (IntBlk.lt hui0);replace huf0:=huf0.keep hbX;clear hud1 hug1 hbX;refine hK.out _ _ ?_ (fun _=>?_)
   · ((try dsimp only);(exact ⟨hP0.cell 0,hP0.cell 1,hP1.cell 0,hP1.cell 1⟩))
   clear hK K
   (try simp only [Act.put,pA,pB,pC])
   refine hdC 5 (fun K hK=>?_);have hbs:=hC.size
   (go_simp;(go_at_call 43;refine (HCC.out _ _ _ _ _ _ _ _ _ hdn0 hn0 HLL0.out HT0.out HSM0.out (IntBlk.ints' hui0 HL0.out) (huf0.frmsN HT0.out HLn0.out) hdn1 hn1 HLL1.out HT1.out HSM1.out (IntBlk.ints' hui1 HL1.out) (huf1.frmsN HT1.out HLn1.out)).mono ?_;rintro e W3 ⟨ra,an,rc,rfl,hV,hbX⟩;have hnn:nV=an:=by rw [←HnV.out,hV.1]);subst hnn;go_wp2_with fail)
   replace hb:=bT' hb hbX hb.size;replace hC:=bT' hC hbX hC.size;replace hP0:=hP0.keep hbX hP0.lt;replace hP1:=hP1.keep hbX hP1.lt;replace hui0:=IntBlk.keep hui0 hbX (IntBlk.lt hui0);replace huf0:=huf0.keep hbX;replace hui1:=IntBlk.keep hui1 hbX (IntBlk.lt hui1);replace huf1:=huf1.keep hbX;replace hV:=hV.weaken (lo':=v14.heap.size) hbs (Nat.le_refl _);clear hbX hbs;clear hui0 huf0;clear hui1 huf1;refine hK.out _ _ ?_ (fun _=>?_)
   · ((try dsimp only);(exact ⟨hP0.cell 0,hP0.cell 1,hP1.cell 0,hP1.cell 1⟩))
   clear hK K
   (try simp only [Act.put,pA,pB,pC])
   refine hdT 6 ?_;refine hdT 7 ?_;refine hdT 8 ?_;refine hdT 9 ?_;refine hdT 10 ?_;refine wpAnyH_done (by kernel_rfl) ?_ _;go_wp2_with fail
   go_meet
   exact ⟨_,ra,rc,rfl,rfl,rfl,hC,hV⟩
  case rest=>
   obtain ⟨wr,raT,rcT,rfl,rfl,rfl,hbX,hVT⟩:=hcut;replace hb:=bT' hb hbX hb.size;replace hP0:=hP0.keep hbX hP0.lt;replace hP1:=hP1.keep hbX hP1.lt;replace hVS:=hVS.keep hbX;replace hX0:=hX0.keep hbX hX0.lt;replace hX1:=hX1.keep hbX hX1.lt;replace hOw:=hOw.keep hbX;clear hbX;go_wp2_with fail
   refine (eqFormS_c _ _ (hVT.frms HVR.out) (hVS.frms HVR.out) hVl HVR.out).mono ?_;rintro e v15 ⟨rfl,hbX⟩;replace hb:=bT' hb hbX hb.size;replace hP0:=hP0.keep hbX hP0.lt;replace hP1:=hP1.keep hbX hP1.lt;replace hVS:=hVS.keep hbX;replace hX0:=hX0.keep hbX hX0.lt;replace hX1:=hX1.keep hbX hX1.lt;replace hOw:=hOw.keep hbX;replace hVT:=hVT.keep hbX;clear hbX;go_wp2_with fail
   refine (heldFlsR_c rcR hOw hVl HVS.out (by omega) (by omega)).mono ?_;rintro e v16 ⟨rfl,hbX⟩;rw [HM.out];replace hb:=bT' hb hbX hb.size;replace hP0:=hP0.keep hbX hP0.lt;replace hP1:=hP1.keep hbX hP1.lt;replace hVS:=hVS.keep hbX;replace hX0:=hX0.keep hbX hX0.lt;replace hX1:=hX1.keep hbX hX1.lt;replace hOw:=hOw.keep hbX;replace hVT:=hVT.keep hbX;clear hbX;go_wp2_with fail
   go_ret
   exact ⟨rfl,hb⟩
theorem pjV_len (zs:List Int) (ims:List (List Tm)) (ys:List Int) (jms:List (List Tm)) (sc:Bool):(pjV zs ims ys jms sc).length≤8∧∀ts∈pjV zs ims ys jms sc,ts.length≤1:=by
 by_cases h:prE zs ims ys jms=0
 · have:=pr_ok h;rw [pj_yes h];exact ⟨by rw [prjTo_len];exact this,prjTo_one _ _ _⟩
 · rw [pj_no h];simp
theorem projectionOf_walk (da0 : Option Addr) (dn0 dc0 : Nat) (zs0 : List Int) (a0 : Option Addr) (n0 c0 : Nat) (fss0 : List (List Tm)) (da1 : Option Addr) (dn1 dc1 : Nat) (zs1 : List Int) (a1 : Option Addr) (n1 c1 : Nat) (fss1 : List (List Tm)) (x2 : Bool) (w : World) (hd0 : Ints w da0 dn0 zs0) (hdm0 : (dn0 : Int) ≤ 9223372036854775807) (hF0 : Frms w a0 n0 fss0) (hnm0 : (n0 : Int) ≤ 9223372036854775807) (hd1 : Ints w da1 dn1 zs1) (hdm1 : (dn1 : Int) ≤ 9223372036854775807) (hF1 : Frms w a1 n1 fss1) (hnm1 : (n1 : Int) ≤ 9223372036854775807) :
    Calls Try.prog 11 #[.agg #[.slice da0 dn0 dc0,.slice a0 n0 c0],.agg #[.slice da1 dn1 dc1,.slice a1 n1 c1],.bool x2] w fun e w'=>e=.returned (.bool true)∧Below w.heap.size w w':=by
 obtain ⟨hl2,hl3⟩:=pjV_len zs0 fss0 zs1 fss1 x2
 exact lawProj_walk da0 dn0 dc0 zs0 a0 n0 c0 fss0 da1 dn1 dc1 zs1 a1 n1 c1 fss1 x2 w hd0 hdm0 hF0 hnm0 hd1 hdm1 hF1 hnm1 (pjV zs0 fss0 zs1 fss1 x2) (prE zs0 fss0 zs1 fss1) _ rfl (by omega) (fun ts hts=>by have:=hl3 ts hts;omega)
  (by have:=sumLen_bdB hl3;have:(pjV zs0 fss0 zs1 fss1 x2).length * 1≤8 * 1:=Nat.mul_le_mul_right 1 hl2;omega)
  (fun w' gd0 gi0 p0 q0 gd1 gi1 p1 q1 h1 h2 h3 h4 _ h6 h7 k1 k2 k3 k4 _ k6 k7=>ProjectionOf_s p0 q0 p1 q1 h6 h1 h7 h2 h3 h4 k6 k1 k7 k2 k3 k4 x2)
  (fun w' gd0 gi0 p0 q0 gd1 gi1 p1 q1 h1 h2 h3 h4 _ h6 h7 k1 k2 k3 k4 _ k6 k7=>ProjectionOf_c p0 q0 p1 q1 h6 h1 h7 h2 h3 h4 k6 k1 k7 k2 k3 k4 x2)
end Go.Proofs.Ytndnkeijddagiaa
