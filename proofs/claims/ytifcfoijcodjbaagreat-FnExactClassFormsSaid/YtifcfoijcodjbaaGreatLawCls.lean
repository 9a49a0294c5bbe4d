
import Derived.Test.YtifcfoijcodjbaaGreatClsS
import Derived.Test.YtifcfoijcodjbaaGreatLawForm
import Derived.Test.YtifcfoijcodjbaaGreatNewA
import Derived.Test.YtifcfoijcodjbaaGreatIsAlg
namespace Go.Proofs.YtifcfoijcodjbaaGreat
set_option maxRecDepth 100000
open Go.RowKit Go.Deep
set_option maxHeartbeats 16000000 in
theorem lawCls_walk (da0 : Option Addr) (dn0 dc0 : Nat) (zs0 : List Int) (a0 : Option Addr) (n0 c0 : Nat) (fss0 : List (List Tm)) (x1 : Int) (w : World) (hd0 : Ints w da0 dn0 zs0) (hdm0 : (dn0 : Int) ≤ 9223372036854775807) (hF0 : Frms w a0 n0 fss0) (hnm0 : (n0 : Int) ≤ 9223372036854775807) (_hx1 : (Lit.int .i64 x1).wf = true)
    (V:List (List Tm)) (E:Int) (nV:Nat) (hnV:V.length=nV) (hVl:nV≤1048576) (hVr:∀ts∈V,(ts.length:Int)≤1048576) (hVs:sumLen V≤1048576)
    (CS:∀(w':World) (gd0 gi0 p0 q0:Nat),dn0≤1048576→n0≤1048576→(∀ts∈fss0,(ts.length:Int)≤1048576)→(∀ts∈fss0,∀t∈ts,IsTm t)→sumLen fss0≤1048576→Ints w' (some ⟨gd0,0,none⟩) dn0 zs0→Frms w' (some ⟨gi0,0,none⟩) n0 fss0→Calls Tryz.prog 30 #[.agg #[.slice (some ⟨gd0,0,none⟩) dn0 p0,.slice (some ⟨gi0,0,none⟩) n0 q0],.int .i64 x1] w' fun e w''=>∃ra rn rc,e=.returned (.tuple #[.slice ra rn rc,.int .i64 E])∧OwnF w'' w'.heap.size w''.heap.size ra rn V∧Below w'.heap.size w' w'')
    (CC:∀(w':World) (gd0 gi0 p0 q0:Nat),dn0≤1048576→n0≤1048576→(∀ts∈fss0,(ts.length:Int)≤1048576)→(∀ts∈fss0,∀t∈ts,IsTm t)→sumLen fss0≤1048576→Ints w' (some ⟨gd0,0,none⟩) dn0 zs0→Frms w' (some ⟨gi0,0,none⟩) n0 fss0→Calls Tryz.prog 31 #[.agg #[.slice (some ⟨gd0,0,none⟩) dn0 p0,.slice (some ⟨gi0,0,none⟩) n0 q0],.int .i64 x1] w' fun e w''=>∃ra rn rc,e=.returned (.tuple #[.slice ra rn rc,.int .i64 E])∧OwnF w'' w'.heap.size w''.heap.size ra rn V∧Below w'.heap.size w' w'') :
    Calls Tryz.prog 6 #[.agg #[.slice da0 dn0 dc0,.slice a0 n0 c0],.int .i64 x1] w fun e w'=>e=.returned (.bool true)∧Below w.heap.size w w':=by
 have HCS:=Lib.hid CS
 have HCC:=Lib.hid CC
 have HnV:=Lib.hid hnV
 have HVR:=Lib.hid hVr
 have HVS:=Lib.hid hVs
 clear CS CC hnV hVr hVs
 have HL0:=Lib.hid hd0.len
 have HLn0:=Lib.hid hF0.len
 have HD0:=Lib.hid hd0
 have HF0:=Lib.hid hF0
 have HT0:=Lib.hid hF0.tm
 have hP0:=Own.new w 25 #[.slice da0 dn0 dc0,.slice a0 n0 c0]
 have hb:=bA1 w (.cells #[.slice da0 dn0 dc0,.slice a0 n0 c0] 25)
 have hWB:w.heap.size+1≤(w.alloc (.cells #[.slice da0 dn0 dc0,.slice a0 n0 c0] 25)).heap.size:=by rw [sAl];omega
 rcases szA_spec (L:=1048576) (dn:=dn0) (n:=n0) (fss:=fss0) with hz | ⟨hR0a,hR0b,hR0c,hR0d,hR0e⟩
 · have HZ0:=Lib.hid hz;clear hz;go_enter Tryz.func6,Tryz.ntmps6
   go_upto_region 2 with fail
   generalize (w.alloc (.cells #[.slice da0 dn0 dc0,.slice a0 n0 c0] 25))=w0 at *;have p0_0:=hP0.cell 0;have p0_1:=hP0.cell 1;go_wp2_with fail
   refine (szAlgebra_c dc0 c0 1048576 (by omega) (by omega) hdm0 (HF0.out.keep hb) hnm0).mono ?_;rintro e ws0 ⟨rfl,hbX⟩;rw [HZ0.out];clear p0_0 p0_1;replace hb:=bT' hb hbX hb.size;replace hP0:=hP0.keep hbX hP0.lt;clear hbX;go_wp2_with fail
   go_ret
   exact ⟨rfl,hb⟩
 have hsum0:=szA_sum (L:=1048576) (dn:=dn0) (n:=n0) (fss:=fss0) (by omega)
 generalize hz0:szA 1048576 dn0 n0 fss0=R0 at *
 have HZ0:=Lib.hid hz0
 clear hz0
 have hdn0:dn0≤1048576:=by omega
 have hn0:n0≤1048576:=by omega
 have HLL0:=Lib.hid (show ∀ts∈fss0,(ts.length:Int)≤1048576 from fun ts hts=>by have:=hR0e ts hts;omega)
 have HSM0:=Lib.hid (show sumLen fss0≤1048576 by omega)
 have hRn0:¬R0<0:=by omega
 obtain ⟨SL0,hSL0⟩:∃SL,sumLen fss0=SL:=⟨_,rfl⟩
 have HSL0:=Lib.hid hSL0
 have hSLb0:SL0≤1048576:=by have:=HSM0.out;omega
 have hSQ0:(SL0:Int)+dn0+R0≤1048576:=by rw [←hSL0];omega
 clear hSL0 hsum0 hR0e
 go_enter Tryz.func6,Tryz.ntmps6
 go_upto_region 2 with fail
 generalize (w.alloc (.cells #[.slice da0 dn0 dc0,.slice a0 n0 c0] 25))=w0 at *
 have p0_0:=hP0.cell 0
 have p0_1:=hP0.cell 1
 go_wp2_with fail
 refine (szAlgebra_c dc0 c0 1048576 (by omega) (by omega) hdm0 (HF0.out.keep hb) hnm0).mono ?_
 rintro e ws0 ⟨rfl,hbX⟩
 rw [HZ0.out]
 clear p0_0 p0_1
 replace hb:=bT' hb hbX hb.size
 replace hP0:=hP0.keep hbX hP0.lt
 clear hbX
 clear hWB
 have pc0_0:=hP0.cell 0
 have pc0_1:=hP0.cell 1
 clear pc0_0 pc0_1
 have hGw:w.heap.size≤ws0.heap.size:=hb.size
 have hlP0:=hP0.lt
 have pc0_0:=hP0.cell 0
 have pc0_1:=hP0.cell 1
 go_wp2_with fail
 refine (toAlgebra_c dc0 c0 (HD0.out.keep hb) hdn0 (HF0.out.keep hb) hn0 HLL0.out).mono ?_
 rintro e v1 ⟨ud0,ug0,us0,rfl,hud0,hug0,hui0,huf0,hbX⟩
 clear pc0_0 pc0_1
 replace hb:=bT' hb hbX hb.size
 replace hP0:=hP0.keep hbX hP0.lt
 clear hbX
 have hloS:=hb.size
 have hlqS:=hP0.lt
 go_wp2_with fail
 refine (HCS.out _ _ _ _ _ hdn0 hn0 HLL0.out HT0.out HSM0.out (IntBlk.ints' hui0 HL0.out) (huf0.frms HT0.out HLL0.out HLn0.out)).mono ?_
 rintro e v2 ⟨raS,anS,rcS,rfl,hVS,hbX⟩
 have hnn:nV=anS:=by rw [←HnV.out,hVS.1]
 subst hnn
 replace hb:=bT' hb hbX hb.size
 replace hP0:=hP0.keep hbX hP0.lt
 replace hui0:=IntBlk.keep hui0 hbX (IntBlk.lt hui0)
 replace huf0:=huf0.keep hbX
 clear hbX
 clear hui0 huf0 hud0 hug0
 replace hVS:=hVS.weaken (lo':=w.heap.size+1) (by omega) (Nat.le_refl _)
 obtain ⟨C1,hC1⟩:∃C1,v2.heap.size=C1:=⟨_,rfl⟩
 rw [hC1] at hVS
 have hC1a:C1≤v2.heap.size:=Nat.le_of_eq hC1.symm
 have hPl:=hP0.lt
 rw [hC1] at hPl
 clear hC1
 have hQ0:w.heap.size<C1:=by omega
 have pc0_0:=hP0.cell 0
 have pc0_1:=hP0.cell 1
 go_wp2_with fail
 refine (toAlgebra_c dc0 c0 (HD0.out.keep hb) hdn0 (HF0.out.keep hb) hn0 HLL0.out).mono ?_
 rintro e v3 ⟨kd0,kg0,ks0,rfl,hkd0,hkg0,hki0,hkf0,hbX⟩
 clear pc0_0 pc0_1
 replace hb:=bT' hb hbX hb.size
 replace hP0:=hP0.keep hbX hP0.lt
 replace hVS:=hVS.keep hbX
 clear hbX
 go_upto_region 7 with fail
 have HKS0:=Lib.hid (fun x (hx:x∈ks0)=>(hkf0.lt x hx))
 have hkgl0:=hkf0.own.lt
 have hX0:=Own.new v3 35 #[.slice (some ⟨kd0,0,none⟩) dn0 dn0,.slice (some ⟨kg0,0,none⟩) n0 n0]
 have hbX:=bA1 v3 (.cells #[.slice (some ⟨kd0,0,none⟩) dn0 dn0,.slice (some ⟨kg0,0,none⟩) n0 n0] 35)
 replace hb:=bT' hb hbX hb.size
 replace hP0:=hP0.keep hbX hP0.lt
 replace hVS:=hVS.keep hbX
 replace hki0:=IntBlk.keep hki0 hbX (IntBlk.lt hki0)
 replace hkf0:=hkf0.keep hbX
 generalize v3.alloc (.cells #[.slice (some ⟨kd0,0,none⟩) dn0 dn0,.slice (some ⟨kg0,0,none⟩) n0 n0] 35)=v4 at *
 generalize hgX:v3.heap.size=gX0 at *
 clear hbX hgX
 have hlo0:C1≤kd0:=by omega
 have hlt0:=hX0.lt
 have xc0_0:=hX0.cell 0
 have xc0_1:=hX0.cell 1
 go_wp2_with fail
 refine (HCC.out _ _ _ _ _ hdn0 hn0 HLL0.out HT0.out HSM0.out (IntBlk.ints' hki0 HL0.out) (hkf0.frms HT0.out HLL0.out HLn0.out)).mono ?_
 rintro e v5 ⟨raR,anR,rcR,rfl,hVR,hbX⟩
 have hnn:nV=anR:=by rw [←HnV.out,hVR.1]
 subst hnn
 replace hVR:=hVR.weaken (lo':=gX0+1) (by omega) (Nat.le_refl _)
 replace hb:=bT' hb hbX hb.size
 replace hP0:=hP0.keep hbX hP0.lt
 replace hVS:=hVS.keep hbX
 replace hki0:=IntBlk.keep hki0 hbX (IntBlk.lt hki0)
 replace hkf0:=hkf0.keep hbX
 replace hX0:=hX0.keep hbX hX0.lt
 clear hbX
 clear xc0_0
 clear xc0_1
 obtain ⟨C2,hC2⟩:∃C2,v5.heap.size=C2:=⟨_,rfl⟩
 rw [hC2] at hVR
 clear hC2
 have hne1:(E != E)=false:=by simp
 go_wp2_with fail
 refine (eqFormS_c _ _ (hVR.frms HVR.out) (hVS.frms HVR.out) hVl HVR.out).mono ?_
 rintro e v7 ⟨rfl,hbX⟩
 replace hb:=bT' hb hbX hb.size
 replace hP0:=hP0.keep hbX hP0.lt
 replace hVS:=hVS.keep hbX
 replace hki0:=IntBlk.keep hki0 hbX (IntBlk.lt hki0)
 replace hkf0:=hkf0.keep hbX
 replace hX0:=hX0.keep hbX hX0.lt
 replace hVR:=hVR.keep hbX
 clear hbX
 go_upto_region 10 with fail
 have hbD:Below v7.heap.size v7 v7.drew:=(Below.refl _ _).drew
 replace hb:=hb.drew
 replace hP0:=hP0.keep hbD hP0.lt
 replace hVS:=hVS.keep hbD
 replace hki0:=IntBlk.keep hki0 hbD (IntBlk.lt hki0)
 replace hkf0:=hkf0.keep hbD
 replace hX0:=hX0.keep hbD hX0.lt
 replace hVR:=hVR.keep hbD
 clear hbD
 refine wp_region_held_drew (S:=(fun w'=>w'.cell? ⟨gX0,0,none⟩=some (.slice (some ⟨kd0,0,none⟩) dn0 dn0)∧w'.cell? ⟨gX0,1,none⟩=some (.slice (some ⟨kg0,0,none⟩) n0 n0)∧w'.cell? ⟨w.heap.size,0,none⟩=some (.slice da0 dn0 dc0)∧w'.cell? ⟨w.heap.size,1,none⟩=some (.slice a0 n0 c0))) (by kernel_rfl) ?_ (fun _=>?_)
 · ((try dsimp only);(exact ⟨hX0.cell 0,hX0.cell 1,hP0.cell 0,hP0.cell 1⟩))
 generalize v7.drew=v7d at *
 refine hdT 0 ?_
 refine hdT 1 ?_
 refine hdC 2 (fun K hK=>?_)
 (go_simp;(go_at_call 15;refine (toAlgebra_c dc0 c0 (HD0.out.keep hb) hdn0 (HF0.out.keep hb) hn0 HLL0.out).mono ?_;rintro e W1 ⟨md,mg,ms,rfl,hmd,hmg,mi,mB,hbX⟩);go_wp2_with fail)
 replace hb:=bT' hb hbX hb.size
 replace hP0:=hP0.keep hbX hP0.lt
 replace hVS:=hVS.keep hbX
 replace hki0:=IntBlk.keep hki0 hbX (IntBlk.lt hki0)
 replace hkf0:=hkf0.keep hbX
 replace hX0:=hX0.keep hbX hX0.lt
 replace hVR:=hVR.keep hbX
 clear hmd hmg hbX
 refine hK.out _ _ ?_ (fun _=>?_)
 · ((try dsimp only);(exact ⟨hX0.cell 0,hX0.cell 1,hP0.cell 0,hP0.cell 1⟩))
 clear hK K
 (try simp only [Act.put,pA,pB,pC])
 refine hdC 3 (fun K hK=>?_)
 (go_simp;(go_at_call 19;refine (eqAlgebra_c dn0 dn0 n0 n0 (IntBlk.ints' hki0 HL0.out) (IntBlk.ints' mi HL0.out) hdn0 (hkf0.frms HT0.out HLL0.out HLn0.out) (mB.frms HT0.out HLL0.out HLn0.out) hn0 HLL0.out).mono ?_;rintro e W2 ⟨rfl,hbX⟩);go_wp2_with fail)
 replace hb:=bT' hb hbX hb.size
 replace hP0:=hP0.keep hbX hP0.lt
 replace hVS:=hVS.keep hbX
 replace hki0:=IntBlk.keep hki0 hbX (IntBlk.lt hki0)
 replace hkf0:=hkf0.keep hbX
 replace hX0:=hX0.keep hbX hX0.lt
 replace hVR:=hVR.keep hbX
 clear mi mB hbX
 refine hK.out _ _ ?_ (fun _=>?_)
 · ((try dsimp only);(exact ⟨hX0.cell 0,hX0.cell 1,hP0.cell 0,hP0.cell 1⟩))
 clear hK K
 (try simp only [Act.put,pA,pB,pC])
 refine hdT 4 ?_
 refine wpAnyH_done (by kernel_rfl) ?_ _
 generalize hWW:W2=v8 at *
 clear hWW
 have xc0:=hX0.cell 0
 have xc1:=hX0.cell 1
 go_wp2_with fail
 refine (markAlgebra_c dn0 n0 hki0 HL0.out hdn0 hkg0 hkf0 HT0.out HLn0.out hn0 (by rw [HSL0.out];exact hSLb0) (by omega) (by omega)).mono ?_
 rintro e v9 ⟨rfl,hTo0⟩
 rw [HSL0.out]
 have hTo:Touch (fun k=>kd0≤k∧k<gX0) _ v9:=hTo0.mono (rk_range hkg0 (by omega) HKS0.out)
 clear hTo0
 clear xc0 xc1
 clear hki0 hkf0
 replace hb:=hb.trans (hTo.bel (B:=w.heap.size) (fun k hk=>by omega) hb.size)
 replace hP0:=hTo.own hP0 (by omega)
 replace hVS:=hVS.touch hTo (fun q h1 h2=>by omega)
 replace hX0:=hTo.own hX0 (by omega)
 replace hVR:=hVR.touch hTo (fun q h1 h2=>by omega)
 clear hTo
 generalize hK1:(1:Int)+(dn0:Nat)+(SL0 * 9:Nat)=K1 at *
 have hK1a:1≤K1:=by omega
 have hK1b:K1+9 * R0≤9437185:=by omega
 clear hK1
 have hKn:¬K1<0:=by omega
 go_wp2_with fail
 refine (eqFormS_c _ _ (hVR.frms HVR.out) (hVS.frms HVR.out) hVl HVR.out).mono ?_
 rintro e v10 ⟨rfl,hbX⟩
 replace hb:=bT' hb hbX hb.size
 replace hP0:=hP0.keep hbX hP0.lt
 replace hVS:=hVS.keep hbX
 replace hX0:=hX0.keep hbX hX0.lt
 replace hVR:=hVR.keep hbX
 clear hbX
 go_wp2_with fail
 refine (markFlsR_c rcR hVR hVl HVS.out (by omega) (by omega)).mono ?_
 rintro e v11 ⟨rfl,hOw,hTo⟩
 replace hb:=hb.trans (hTo.bel (B:=w.heap.size) (fun k hk=>by omega) hb.size)
 replace hP0:=hTo.own hP0 (by omega)
 replace hVS:=hVS.touch hTo (fun q h1 h2=>by omega)
 replace hX0:=hTo.own hX0 (by omega)
 clear hTo hVR
 generalize hM:(1:Int)+(sumLen V * 9:Nat)=M at *
 have HM:=Lib.hid hM
 have hmn:¬(M<0):=by omega
 clear hM
 go_wp2_with fail
 refine (heldFlsR_c rcR hOw hVl HVS.out (by omega) (by omega)).mono ?_
 rintro e v12 ⟨rfl,hbX⟩
 rw [HM.out]
 replace hb:=bT' hb hbX hb.size
 replace hP0:=hP0.keep hbX hP0.lt
 replace hVS:=hVS.keep hbX
 replace hX0:=hX0.keep hbX hX0.lt
 replace hOw:=hOw.keep hbX
 clear hbX
 have pc0_0:=hP0.cell 0
 have pc0_1:=hP0.cell 1
 go_wp2_with fail
 refine (toAlgebra_c dc0 c0 (HD0.out.keep hb) hdn0 (HF0.out.keep hb) hn0 HLL0.out).mono ?_
 rintro e v13 ⟨ud0,ug0,us0,rfl,hud0,hug0,hui0,huf0,hbX⟩
 clear pc0_0 pc0_1
 replace hb:=bT' hb hbX hb.size
 replace hP0:=hP0.keep hbX hP0.lt
 replace hVS:=hVS.keep hbX
 replace hX0:=hX0.keep hbX hX0.lt
 replace hOw:=hOw.keep hbX
 clear hbX
 have hloT:=hb.size
 have hlqT:=hP0.lt
 go_wp2_with fail
 refine (HCC.out _ _ _ _ _ hdn0 hn0 HLL0.out HT0.out HSM0.out (IntBlk.ints' hui0 HL0.out) (huf0.frms HT0.out HLL0.out HLn0.out)).mono ?_
 rintro e v14 ⟨raT,anT,rcT,rfl,hVT,hbX⟩
 have hnn:nV=anT:=by rw [←HnV.out,hVT.1]
 subst hnn
 replace hb:=bT' hb hbX hb.size
 replace hP0:=hP0.keep hbX hP0.lt
 replace hVS:=hVS.keep hbX
 replace hX0:=hX0.keep hbX hX0.lt
 replace hOw:=hOw.keep hbX
 replace hui0:=IntBlk.keep hui0 hbX (IntBlk.lt hui0)
 replace huf0:=huf0.keep hbX
 clear hbX
 clear hui0 huf0 hud0 hug0
 replace hVT:=hVT.weaken (lo':=w.heap.size+1) (by omega) (Nat.le_refl _)
 go_wp2_with fail
 refine (eqFormS_c _ _ (hVT.frms HVR.out) (hVS.frms HVR.out) hVl HVR.out).mono ?_
 rintro e v15 ⟨rfl,hbX⟩
 replace hb:=bT' hb hbX hb.size
 replace hP0:=hP0.keep hbX hP0.lt
 replace hVS:=hVS.keep hbX
 replace hX0:=hX0.keep hbX hX0.lt
 replace hOw:=hOw.keep hbX
 replace hVT:=hVT.keep hbX
 clear hbX
 go_wp2_with fail
 refine (heldFlsR_c rcR hOw hVl HVS.out (by omega) (by omega)).mono ?_
 rintro e v16 ⟨rfl,hbX⟩
 rw [HM.out]
 replace hb:=bT' hb hbX hb.size
 replace hP0:=hP0.keep hbX hP0.lt
 replace hVS:=hVS.keep hbX
 replace hX0:=hX0.keep hbX hX0.lt
 replace hOw:=hOw.keep hbX
 replace hVT:=hVT.keep hbX
 clear hbX
 go_wp2_with fail
 go_ret
 exact ⟨rfl,hb⟩
theorem sumCls_bd {V:List (List Tm)} {B:Nat} (h:∀ts∈V,ts.length≤B):sumLen V≤V.length * B:=by
 induction V with
 | nil=>simp [sumLen]
 | cons x l ih =>
   have h1:=h x (by simp);have h2:=ih (fun y hy=>h y (by simp [hy]));have h3:sumLen (x::l)=x.length+sumLen l:=(by simp [sumLen]);rw [h3,List.length_cons,Nat.succ_mul];omega
theorem classForms_walk (da : Option Addr) (dn dc : Nat) (zs : List Int) (a : Option Addr) (n c : Nat) (fss : List (List Tm)) (x : Int) (w : World) (hd : Ints w da dn zs) (hdm : (dn : Int) ≤ 9223372036854775807) (hF : Frms w a n fss) (hnm : (n : Int) ≤ 9223372036854775807) (hx : (Lit.int .i64 x).wf = true) :
    Calls Tryz.prog 6 #[.agg #[.slice da dn dc,.slice a n c],.int .i64 x] w fun e w'=>e=.returned (.bool true)∧Below w.heap.size w w':=by
 obtain ⟨h2,h3⟩:=csV_bd zs fss x
 have h4:=sumCls_bd h3
 have h5:(csV zs fss x).length * 120≤120 * 120:=Nat.mul_le_mul_right 120 h2
 exact lawCls_walk da dn dc zs a n c fss x w hd hdm hF hnm hx (csV zs fss x) (mtE zs fss x) _ rfl (by omega) (fun ts hts=>by have:=h3 ts hts;omega) (by omega)
  (fun w' gd gi p q h1 h2 h3 h4 _ h6 h7=>ClassForms_s x p q h6 h1 h7 h2 h3)
  (fun w' gd gi p q h1 h2 h3 h4 _ h6 h7=>ClassForms_c x p q h6 h1 h7 h2 h3)
end Go.Proofs.YtifcfoijcodjbaaGreat
