
import Derived.Test.YtikldofmpkidbaaLawForm
import Derived.Test.YtikldofmpkidbaaTbl
import Derived.Test.YtikldofmpkidbaaIsAlg
import Derived.Test.YtikldofmpkidbaaResult
import Derived.Test.YtikldofmpkidbaaHeld
import Derived.Test.YtikldofmpkidbaaIsFormB
namespace Go.Proofs.Ytikldofmpkidbaa
set_option maxRecDepth 100000
open Go.RowKit Go.Deep
set_option maxHeartbeats 16000000 in
theorem lawCon_walk (da0 : Option Addr) (dn0 dc0 : Nat) (zs0 : List Int) (a0 : Option Addr) (n0 c0 : Nat) (fss0 : List (List Tm)) (w : World) (hd0 : Ints w da0 dn0 zs0) (hdm0 : (dn0 : Int) ≤ 9223372036854775807) (hF0 : Frms w a0 n0 fss0) (hnm0 : (n0 : Int) ≤ 9223372036854775807)
    (V:List (List Int)) (E:Int) (nV:Nat) (hnV:V.length=nV) (hVl:nV≤1048576) (hVr:∀r∈V,r.length≤1048576) (hVs:totV V≤1048576)
    (CS:∀(w':World) (gd0 gi0 p0 q0:Nat),dn0≤1048576→n0≤1048576→(∀ts∈fss0,(ts.length:Int)≤1048576)→(∀ts∈fss0,∀t∈ts,IsTm t)→sumLen fss0≤1048576→Ints w' (some ⟨gd0,0,none⟩) dn0 zs0→FrmsN w' (some ⟨gi0,0,none⟩) n0 fss0→Calls Try.prog 23 #[.agg #[.slice (some ⟨gd0,0,none⟩) dn0 p0,.slice (some ⟨gi0,0,none⟩) n0 q0]] w' fun e w''=>∃ra rn rc,e=.returned (.tuple #[.slice ra rn rc,.int .i64 E])∧OwnT w'' w'.heap.size w''.heap.size ra rn V∧Below w'.heap.size w' w'')
    (CC:∀(w':World) (gd0 gi0 p0 q0:Nat),dn0≤1048576→n0≤1048576→(∀ts∈fss0,(ts.length:Int)≤1048576)→(∀ts∈fss0,∀t∈ts,IsTm t)→sumLen fss0≤1048576→Ints w' (some ⟨gd0,0,none⟩) dn0 zs0→FrmsN w' (some ⟨gi0,0,none⟩) n0 fss0→Calls Try.prog 24 #[.agg #[.slice (some ⟨gd0,0,none⟩) dn0 p0,.slice (some ⟨gi0,0,none⟩) n0 q0]] w' fun e w''=>∃ra rn rc,e=.returned (.tuple #[.slice ra rn rc,.int .i64 E])∧OwnT w'' w'.heap.size w''.heap.size ra rn V∧Below w'.heap.size w' w'') :
    Calls Try.prog 4 #[.agg #[.slice da0 dn0 dc0,.slice a0 n0 c0]] w fun e w'=>e=.returned (.bool true)∧Below w.heap.size w w':=by
 have HCS:=Lib.hid CS
 have HCC:=Lib.hid CC
 have HnV:=Lib.hid hnV
 have HVR:=Lib.hid hVr
 have HVS:=Lib.hid hVs
 clear CS CC hnV hVr hVs
 have HL0:=Lib.hid hd0.len
 have HLn0:=Lib.hid hF0.len
 have HD0:=Lib.hid hd0
 have HF0:=Lib.hid hF0
 have HT0:=Lib.hid hF0.tm
 have hP0:=Own.new w 25 #[.slice da0 dn0 dc0,.slice a0 n0 c0]
 have hb:=bA1 w (.cells #[.slice da0 dn0 dc0,.slice a0 n0 c0] 25)
 have hWB:w.heap.size+1≤(w.alloc (.cells #[.slice da0 dn0 dc0,.slice a0 n0 c0] 25)).heap.size:=by rw [sAl];omega
 rcases szA_spec (L:=1048576) (dn:=dn0) (n:=n0) (fss:=fss0) with hz | ⟨hR0a,hR0b,hR0c,hR0d,hR0e⟩
 · have HZ0:=Lib.hid hz;clear hz;go_enter Try.func4,Try.ntmps4
   go_upto_region 2 with fail
   generalize (w.alloc (.cells #[.slice da0 dn0 dc0,.slice a0 n0 c0] 25))=w0 at *;have p0_0:=hP0.cell 0;have p0_1:=hP0.cell 1;go_wp2_with fail
   refine (szAlgebra_c dc0 c0 1048576 (by omega) (by omega) hdm0 (HF0.out.keep hb) hnm0).mono ?_;rintro e ws0 ⟨rfl,hbX⟩;rw [HZ0.out];clear p0_0 p0_1;replace hb:=bT' hb hbX hb.size;replace hP0:=hP0.keep hbX hP0.lt;clear hbX;go_wp2_with fail
   go_ret
   exact ⟨rfl,hb⟩
 have hsum0:=szA_sum (L:=1048576) (dn:=dn0) (n:=n0) (fss:=fss0) (by omega)
 generalize hz0:szA 1048576 dn0 n0 fss0=R0 at *
 have HZ0:=Lib.hid hz0
 clear hz0
 have hdn0:dn0≤1048576:=by omega
 have hn0:n0≤1048576:=by omega
 have HLL0:=Lib.hid (show ∀ts∈fss0,(ts.length:Int)≤1048576 from fun ts hts=>by have:=hR0e ts hts;omega)
 have HSM0:=Lib.hid (show sumLen fss0≤1048576 by omega)
 have hRn0:¬R0<0:=by omega
 obtain ⟨SL0,hSL0⟩:∃SL,sumLen fss0=SL:=⟨_,rfl⟩
 have HSL0:=Lib.hid hSL0
 have hSLb0:SL0≤1048576:=by have:=HSM0.out;omega
 have hSQ0:(SL0:Int)+dn0+R0≤1048576:=by rw [←hSL0];omega
 clear hSL0 hsum0 hR0e
 go_enter Try.func4,Try.ntmps4
 go_upto_region 2 with fail
 generalize (w.alloc (.cells #[.slice da0 dn0 dc0,.slice a0 n0 c0] 25))=w0 at *
 have p0_0:=hP0.cell 0
 have p0_1:=hP0.cell 1
 go_wp2_with fail
 refine (szAlgebra_c dc0 c0 1048576 (by omega) (by omega) hdm0 (HF0.out.keep hb) hnm0).mono ?_
 rintro e ws0 ⟨rfl,hbX⟩
 rw [HZ0.out]
 clear p0_0 p0_1
 replace hb:=bT' hb hbX hb.size
 replace hP0:=hP0.keep hbX hP0.lt
 clear hbX
 clear hWB
 have pc0_0:=hP0.cell 0
 have pc0_1:=hP0.cell 1
 clear pc0_0 pc0_1
 have hGw:w.heap.size≤ws0.heap.size:=hb.size
 have hlP0:=hP0.lt
 have pc0_0:=hP0.cell 0
 have pc0_1:=hP0.cell 1
 go_wp2_with fail
 refine (toAlgebra_c dc0 c0 (HD0.out.keep hb) hdn0 (HF0.out.keep hb) hn0 HLL0.out).mono ?_
 rintro e v1 ⟨ud0,ug0,us0,rfl,hud0,hug0,hui0,huf0,hbX⟩
 clear pc0_0 pc0_1
 replace hb:=bT' hb hbX hb.size
 replace hP0:=hP0.keep hbX hP0.lt
 clear hbX
 have hloS:=hb.size
 have hlqS:=hP0.lt
 go_wp2_with fail
 refine (HCS.out _ _ _ _ _ hdn0 hn0 HLL0.out HT0.out HSM0.out (IntBlk.ints' hui0 HL0.out) (huf0.frmsN HT0.out HLn0.out)).mono ?_
 rintro e v2 ⟨raS,anS,rcS,rfl,hVS,hbX⟩
 have hnn:nV=anS:=by rw [←HnV.out,hVS.1]
 subst hnn
 replace hb:=bT' hb hbX hb.size
 replace hP0:=hP0.keep hbX hP0.lt
 replace hui0:=IntBlk.keep hui0 hbX (IntBlk.lt hui0)
 replace huf0:=huf0.keep hbX
 clear hbX
 clear hui0 huf0 hud0 hug0
 replace hVS:=hVS.weaken (lo':=w.heap.size+1) (by omega) (Nat.le_refl _)
 obtain ⟨C1,hC1⟩:∃C1,v2.heap.size=C1:=⟨_,rfl⟩
 rw [hC1] at hVS
 have hC1a:C1≤v2.heap.size:=Nat.le_of_eq hC1.symm
 have hPl:=hP0.lt
 rw [hC1] at hPl
 clear hC1
 have hQ0:w.heap.size<C1:=by omega
 have pc0_0:=hP0.cell 0
 have pc0_1:=hP0.cell 1
 go_wp2_with fail
 refine (toAlgebra_c dc0 c0 (HD0.out.keep hb) hdn0 (HF0.out.keep hb) hn0 HLL0.out).mono ?_
 rintro e v3 ⟨kd0,kg0,ks0,rfl,hkd0,hkg0,hki0,hkf0,hbX⟩
 clear pc0_0 pc0_1
 replace hb:=bT' hb hbX hb.size
 replace hP0:=hP0.keep hbX hP0.lt
 replace hVS:=hVS.keep hbX
 clear hbX
 go_upto_region 7 with fail
 have HKS0:=Lib.hid (fun x (hx:x∈ks0)=>(hkf0.lt x hx))
 have hkgl0:=hkf0.own.lt
 have hX0:=Own.new v3 33 #[.slice (some ⟨kd0,0,none⟩) dn0 dn0,.slice (some ⟨kg0,0,none⟩) n0 n0]
 have hbX:=bA1 v3 (.cells #[.slice (some ⟨kd0,0,none⟩) dn0 dn0,.slice (some ⟨kg0,0,none⟩) n0 n0] 33)
 replace hb:=bT' hb hbX hb.size
 replace hP0:=hP0.keep hbX hP0.lt
 replace hVS:=hVS.keep hbX
 replace hki0:=IntBlk.keep hki0 hbX (IntBlk.lt hki0)
 replace hkf0:=hkf0.keep hbX
 generalize v3.alloc (.cells #[.slice (some ⟨kd0,0,none⟩) dn0 dn0,.slice (some ⟨kg0,0,none⟩) n0 n0] 33)=v4 at *
 generalize hgX:v3.heap.size=gX0 at *
 clear hbX hgX
 have hlo0:C1≤kd0:=by omega
 have hlt0:=hX0.lt
 have xc0_0:=hX0.cell 0
 have xc0_1:=hX0.cell 1
 go_wp2_with fail
 refine (HCC.out _ _ _ _ _ hdn0 hn0 HLL0.out HT0.out HSM0.out (IntBlk.ints' hki0 HL0.out) (hkf0.frmsN HT0.out HLn0.out)).mono ?_
 rintro e v5 ⟨raR,anR,rcR,rfl,hVR,hbX⟩
 have hnn:nV=anR:=by rw [←HnV.out,hVR.1]
 subst hnn
 replace hVR:=hVR.weaken (lo':=gX0+1) (by omega) (Nat.le_refl _)
 replace hb:=bT' hb hbX hb.size
 replace hP0:=hP0.keep hbX hP0.lt
 replace hVS:=hVS.keep hbX
 replace hki0:=IntBlk.keep hki0 hbX (IntBlk.lt hki0)
 replace hkf0:=hkf0.keep hbX
 replace hX0:=hX0.keep hbX hX0.lt
 clear hbX
 clear xc0_0
 clear xc0_1
 obtain ⟨C2,hC2⟩:∃C2,v5.heap.size=C2:=⟨_,rfl⟩
 rw [hC2] at hVR
 clear hC2
 have hne1:(E != E)=false:=by simp
 go_wp2_with fail
 refine (eqTab_c _ _ hVR.tab hVS.tab hVl HVR.out).mono ?_
 rintro e v7 ⟨rfl,hbX⟩
 replace hb:=bT' hb hbX hb.size
 replace hP0:=hP0.keep hbX hP0.lt
 replace hVS:=hVS.keep hbX
 replace hki0:=IntBlk.keep hki0 hbX (IntBlk.lt hki0)
 replace hkf0:=hkf0.keep hbX
 replace hX0:=hX0.keep hbX hX0.lt
 replace hVR:=hVR.keep hbX
 clear hbX
 go_upto_region 10 with fail
 have hbD:Below v7.heap.size v7 v7.drew:=(Below.refl _ _).drew
 replace hb:=hb.drew
 replace hP0:=hP0.keep hbD hP0.lt
 replace hVS:=hVS.keep hbD
 replace hki0:=IntBlk.keep hki0 hbD (IntBlk.lt hki0)
 replace hkf0:=hkf0.keep hbD
 replace hX0:=hX0.keep hbD hX0.lt
 replace hVR:=hVR.keep hbD
 clear hbD
 refine wp_region_held_drew (S:=(fun w'=>w'.cell? ⟨gX0,0,none⟩=some (.slice (some ⟨kd0,0,none⟩) dn0 dn0)∧w'.cell? ⟨gX0,1,none⟩=some (.slice (some ⟨kg0,0,none⟩) n0 n0)∧w'.cell? ⟨w.heap.size,0,none⟩=some (.slice da0 dn0 dc0)∧w'.cell? ⟨w.heap.size,1,none⟩=some (.slice a0 n0 c0))) (by kernel_rfl) ?_ (fun _=>?_)
 · ((try dsimp only);(exact ⟨hX0.cell 0,hX0.cell 1,hP0.cell 0,hP0.cell 1⟩))
 generalize v7.drew=v7d at *
 refine hdT 0 ?_
 refine hdT 1 ?_
 refine hdC 2 (fun K hK=>?_)
 (go_simp;(go_at_call 18;refine (toAlgebra_c dc0 c0 (HD0.out.keep hb) hdn0 (HF0.out.keep hb) hn0 HLL0.out).mono ?_;rintro e W1 ⟨md,mg,ms,rfl,hmd,hmg,mi,mB,hbX⟩);go_wp2_with fail)
 replace hb:=bT' hb hbX hb.size
 replace hP0:=hP0.keep hbX hP0.lt
 replace hVS:=hVS.keep hbX
 replace hki0:=IntBlk.keep hki0 hbX (IntBlk.lt hki0)
 replace hkf0:=hkf0.keep hbX
 replace hX0:=hX0.keep hbX hX0.lt
 replace hVR:=hVR.keep hbX
 clear hmd hmg hbX
 refine hK.out _ _ ?_ (fun _=>?_)
 · ((try dsimp only);(exact ⟨hX0.cell 0,hX0.cell 1,hP0.cell 0,hP0.cell 1⟩))
 clear hK K
 (try simp only [Act.put,pA,pB,pC])
 refine hdC 3 (fun K hK=>?_)
 (go_simp;(go_at_call 21;refine (eqAlgebra_c dn0 dn0 n0 n0 (IntBlk.ints' hki0 HL0.out) (IntBlk.ints' mi HL0.out) hdn0 (hkf0.frms HT0.out HLL0.out HLn0.out) (mB.frms HT0.out HLL0.out HLn0.out) hn0 HLL0.out).mono ?_;rintro e W2 ⟨rfl,hbX⟩);go_wp2_with fail)
 replace hb:=bT' hb hbX hb.size
 replace hP0:=hP0.keep hbX hP0.lt
 replace hVS:=hVS.keep hbX
 replace hki0:=IntBlk.keep hki0 hbX (IntBlk.lt hki0)
 replace hkf0:=hkf0.keep hbX
 replace hX0:=hX0.keep hbX hX0.lt
 replace hVR:=hVR.keep hbX
 clear mi mB hbX
 refine hK.out _ _ ?_ (fun _=>?_)
 · ((try dsimp only);(exact ⟨hX0.cell 0,hX0.cell 1,hP0.cell 0,hP0.cell 1⟩))
 clear hK K
 (try simp only [Act.put,pA,pB,pC])
 refine hdT 4 ?_
 refine wpAnyH_done (by kernel_rfl) ?_ _
 generalize hWW:W2=v8 at *
 clear hWW
 have xc0:=hX0.cell 0
 have xc1:=hX0.cell 1
 go_wp2_with fail
 refine (markAlgebra_c dn0 n0 hki0 HL0.out hdn0 hkg0 hkf0 HT0.out HLn0.out hn0 (by rw [HSL0.out];exact hSLb0) (by omega) (by omega)).mono ?_
 rintro e v9 ⟨rfl,hTo0⟩
 rw [HSL0.out]
 have hTo:Touch (fun k=>kd0≤k∧k<gX0) _ v9:=hTo0.mono (rk_range hkg0 (by omega) HKS0.out)
 clear hTo0
 clear xc0 xc1
 clear hki0 hkf0
 replace hb:=hb.trans (hTo.bel (B:=w.heap.size) (fun k hk=>by omega) hb.size)
 replace hP0:=hTo.own hP0 (by omega)
 replace hVS:=hVS.touch hTo (fun q h1 h2=>by omega)
 replace hX0:=hTo.own hX0 (by omega)
 replace hVR:=hVR.touch hTo (fun q h1 h2=>by omega)
 clear hTo
 generalize hK1:(1:Int)+(dn0:Nat)+(SL0 * 9:Nat)=K1 at *
 have hK1a:1≤K1:=by omega
 have hK1b:K1+9 * R0≤9437185:=by omega
 clear hK1
 have hKn:¬K1<0:=by omega
 go_wp2_with fail
 refine (eqTab_c _ _ hVR.tab hVS.tab hVl HVR.out).mono ?_
 rintro e v10 ⟨rfl,hbX⟩
 replace hb:=bT' hb hbX hb.size
 replace hP0:=hP0.keep hbX hP0.lt
 replace hVS:=hVS.keep hbX
 replace hX0:=hX0.keep hbX hX0.lt
 replace hVR:=hVR.keep hbX
 clear hbX
 go_wp2_with fail
 refine (markTabR_c rcR hVR hVl HVR.out (by have:=HVS.out;omega) (by omega) (by omega)).mono ?_
 rintro e v11 ⟨rfl,hOw,hTo⟩
 replace hb:=hb.trans (hTo.bel (B:=w.heap.size) (fun k hk=>by omega) hb.size)
 replace hP0:=hTo.own hP0 (by omega)
 replace hVS:=hVS.touch hTo (fun q h1 h2=>by omega)
 replace hX0:=hTo.own hX0 (by omega)
 clear hTo hVR
 generalize hM:(1:Int)+(totV V:Nat)=M at *
 have HM:=Lib.hid hM
 have hmn:¬(M<0):=by omega
 clear hM
 go_wp2_with fail
 refine (heldTabR_c rcR hOw hVl (by have:=HVS.out;omega) (by omega) (by omega)).mono ?_
 rintro e v12 ⟨rfl,hbX⟩
 rw [HM.out]
 replace hb:=bT' hb hbX hb.size
 replace hP0:=hP0.keep hbX hP0.lt
 replace hVS:=hVS.keep hbX
 replace hX0:=hX0.keep hbX hX0.lt
 replace hOw:=hOw.keep hbX
 clear hbX
 have pc0_0:=hP0.cell 0
 have pc0_1:=hP0.cell 1
 go_wp2_with fail
 refine (toAlgebra_c dc0 c0 (HD0.out.keep hb) hdn0 (HF0.out.keep hb) hn0 HLL0.out).mono ?_
 rintro e v13 ⟨ud0,ug0,us0,rfl,hud0,hug0,hui0,huf0,hbX⟩
 clear pc0_0 pc0_1
 replace hb:=bT' hb hbX hb.size
 replace hP0:=hP0.keep hbX hP0.lt
 replace hVS:=hVS.keep hbX
 replace hX0:=hX0.keep hbX hX0.lt
 replace hOw:=hOw.keep hbX
 clear hbX
 have hloT:=hb.size
 have hlqT:=hP0.lt
 go_wp2_with fail
 refine (HCC.out _ _ _ _ _ hdn0 hn0 HLL0.out HT0.out HSM0.out (IntBlk.ints' hui0 HL0.out) (huf0.frmsN HT0.out HLn0.out)).mono ?_
 rintro e v14 ⟨raT,anT,rcT,rfl,hVT,hbX⟩
 have hnn:nV=anT:=by rw [←HnV.out,hVT.1]
 subst hnn
 replace hb:=bT' hb hbX hb.size
 replace hP0:=hP0.keep hbX hP0.lt
 replace hVS:=hVS.keep hbX
 replace hX0:=hX0.keep hbX hX0.lt
 replace hOw:=hOw.keep hbX
 replace hui0:=IntBlk.keep hui0 hbX (IntBlk.lt hui0)
 replace huf0:=huf0.keep hbX
 clear hbX
 clear hui0 huf0 hud0 hug0
 replace hVT:=hVT.weaken (lo':=w.heap.size+1) (by omega) (Nat.le_refl _)
 go_wp2_with fail
 refine (eqTab_c _ _ hVT.tab hVS.tab hVl HVR.out).mono ?_
 rintro e v15 ⟨rfl,hbX⟩
 replace hb:=bT' hb hbX hb.size
 replace hP0:=hP0.keep hbX hP0.lt
 replace hVS:=hVS.keep hbX
 replace hX0:=hX0.keep hbX hX0.lt
 replace hOw:=hOw.keep hbX
 replace hVT:=hVT.keep hbX
 clear hbX
 go_wp2_with fail
 refine (heldTabR_c rcR hOw hVl (by have:=HVS.out;omega) (by omega) (by omega)).mono ?_
 rintro e v16 ⟨rfl,hbX⟩
 rw [HM.out]
 replace hb:=bT' hb hbX hb.size
 replace hP0:=hP0.keep hbX hP0.lt
 replace hVS:=hVS.keep hbX
 replace hX0:=hX0.keep hbX hX0.lt
 replace hOw:=hOw.keep hbX
 replace hVT:=hVT.keep hbX
 clear hbX
 go_wp2_with fail
 go_ret
 exact ⟨rfl,hb⟩
theorem cellsP {w':World} {F b off n c k:Nat} {t:TypeId} {p0 p1 p2 p3 p4 p5 p6 p7 ft:Int} (hF:Own w' F t #[.slice (some ⟨b,off,none⟩) n c]) (hr:w'.rangeAt b (off+k * 9) (tcells ⟨[p0,p1,p2,p3,p4,p5,p6,p7],ft⟩)):w'.cell? ⟨F,0,none⟩=some (.slice (some ⟨b,off,none⟩) n c)∧w'.cell? ⟨b,off+k * 9,none⟩=some (.int .u8 p0)∧w'.cell? ⟨b,off+k * 9+1,none⟩=some (.int .u8 p1)∧w'.cell? ⟨b,off+k * 9+2,none⟩=some (.int .u8 p2)∧w'.cell? ⟨b,off+k * 9+3,none⟩=some (.int .u8 p3)∧w'.cell? ⟨b,off+k * 9+4,none⟩=some (.int .u8 p4)∧w'.cell? ⟨b,off+k * 9+5,none⟩=some (.int .u8 p5)∧w'.cell? ⟨b,off+k * 9+6,none⟩=some (.int .u8 p6)∧w'.cell? ⟨b,off+k * 9+7,none⟩=some (.int .u8 p7)∧w'.cell? ⟨b,off+k * 9+8,none⟩=some (.int .i64 ft):=
 ⟨hF.cell 0,hr 0 _ rfl,hr 1 _ rfl,hr 2 _ rfl,hr 3 _ rfl,hr 4 _ rfl,hr 5 _ rfl,hr 6 _ rfl,hr 7 _ rfl,hr 8 _ rfl⟩
def wlTo (m:List Int):Nat→Int
 | 0=>0
 | k+1=>wlTo m k+m.getD k 0
def wlen (m:List Int):Int:=wlTo m 8
theorem wlTo_bd {m:List Int} (h:IsMono m) (k:Nat):0≤wlTo m k∧wlTo m k≤255 * k:=by
 induction k with
 | zero=>simp [wlTo]
 | succ k ih =>
   have:=getD_mono h k;simp only [wlTo];omega
theorem wlTo_succ {m:List Int} {k:Nat} {y:Int} (hy:m[k]? = some y):wlTo m (k+1)=wlTo m k+y:=by
 rw [wlTo,List.getD_eq_getElem?_getD,hy];rfl
theorem wlen_bd {m:List Int} (h:IsMono m):0≤wlen m∧wlen m≤2040:=wlTo_bd h 8
theorem wordLength_c {w : World} {m : List Int} (hm : IsMono m) :
    Calls Try.prog 85 #[monoV m] w fun e w'=>e=.returned (.int .i64 (wlen m))∧Below w.heap.size w w':=by
 unfold monoV
 have hsz:(Try.prog.info? 86).map (·.size)=some (mcells m).toArray.size:=by rw [msize hm];exact Try.info_mono
 have HS:=Lib.hid hsz
 clear hsz
 go_enter Try.func85,Try.ntmps85
 go_wp2_with (refine wpList_load_row rfl 86 _ rfl _ rfl 86 (mcells m).toArray (0,0) _ (heap_alloc_new w _) Try.underlying86 rfl HS.out ?_)
 go_loop [3,7] (fun s i=>∃k:Nat,k≤8∧i=.int .i64 k∧s=.int .i64 (wlTo m k)) (fun _ i=>8 - (intOf i).toNat)
 case atStart=>exact ⟨0,Nat.zero_le _,rfl,rfl⟩
 case round=>
  obtain ⟨k,hk,rfl,rfl⟩:=hrel;by_cases hlt:k<8
  · obtain ⟨y,hy0,hy1,hy,HY⟩:=mono_at hm hlt;have hix:=run_index_one (P:=Try.prog) Try.underlying86 Try.info_u8 hlt (cs:=(mcells m).toArray) (v:=.int .u8 y) (by simpa using hy) Try.isAgg_u8;have b1:=(wlTo_bd hm k).1;have b2:=(wlTo_bd hm k).2
    go_wp2
    go_round
    case rel=>exact ⟨k+1,by omega,by go_num,by rw [wlTo_succ HY.out]⟩
    case measure=>simp [intOf];omega
  · go_wp2
    go_ret
    have:k=8:=(by omega);subst this;exact ⟨rfl,(Below.refl _ _).alloc (Nat.le_refl _) _⟩
theorem l02Word_c {w : World} {m : List Int} (hm : IsMono m) :
    Calls Try.prog 101 #[monoV m] w fun e w'=>e=.returned (.int .i64 (wlen m))∧Below w.heap.size w w':=by
 unfold monoV
 go_enter Try.func101,Try.ntmps101
 go_wp2
 go_loop [3,4] (fun s i=>∃k:Nat,k≤8∧i=.int .i64 k∧s=.int .i64 (wlTo m k)) (fun _ i=>8 - (intOf i).toNat)
 case atStart=>exact ⟨0,Nat.zero_le _,rfl,rfl⟩
 case round=>
  obtain ⟨k,hk,rfl,rfl⟩:=hrel;by_cases hlt:k<8
  · obtain ⟨y,hy0,hy1,hy,HY⟩:=mono_at hm hlt;have b1:=(wlTo_bd hm k).1;have b2:=(wlTo_bd hm k).2
    go_wp2
    go_round
    case rel=>exact ⟨k+1,by omega,by go_num,by rw [wlTo_succ HY.out]⟩
    case measure=>simp [intOf];omega
  · go_wp2
    go_ret
    have:k=8:=(by omega);subst this;exact ⟨rfl,(Below.refl _ _).alloc (Nat.le_refl _) _⟩
theorem wordLength8 {w : World} {v m0 m1 m2 m3 m4 m5 m6 m7 : Int} (hm : IsMono [m0, m1, m2, m3, m4, m5, m6, m7]) (hv : wlen [m0, m1, m2, m3, m4, m5, m6, m7] = v) :
    Calls Try.prog 85 #[.agg #[.int .u8 m0,.int .u8 m1,.int .u8 m2,.int .u8 m3,.int .u8 m4,.int .u8 m5,.int .u8 m6,.int .u8 m7]] w fun e w'=>e=.returned (.int .i64 v)∧Below w.heap.size w w':=by
 have:=wordLength_c (w:=w) hm
 rw [hv] at this
 exact this
theorem l02Word8 {w : World} {v m0 m1 m2 m3 m4 m5 m6 m7 : Int} (hm : IsMono [m0, m1, m2, m3, m4, m5, m6, m7]) (hv : wlen [m0, m1, m2, m3, m4, m5, m6, m7] = v) :
    Calls Try.prog 101 #[.agg #[.int .u8 m0,.int .u8 m1,.int .u8 m2,.int .u8 m3,.int .u8 m4,.int .u8 m5,.int .u8 m6,.int .u8 m7]] w fun e w'=>e=.returned (.int .i64 v)∧Below w.heap.size w w':=by
 have:=l02Word_c (w:=w) hm
 rw [hv] at this
 exact this
def wlAt (fs:List Tm) (k:Nat):Int:=match fs[k]? with | some t=>wlen t.m | none=>0
theorem wlAt_of {fs:List Tm} {k:Nat} {t:Tm} (h:fs[k]? = some t):wlAt fs k=wlen t.m:=by simp only [wlAt,h]
def leastTo (fs:List Tm):Nat→Int
 | 0=>0
 | k+1=>if k=0 then wlAt fs 0 else min (leastTo fs k) (wlAt fs k)
theorem leastTo_one (fs:List Tm):leastTo fs 1=wlAt fs 0:=by rw [leastTo,if_pos rfl]
theorem leastTo_succ {fs:List Tm} {k:Nat} (h:¬k=0):leastTo fs (k+1)=min (leastTo fs k) (wlAt fs k):=by rw [leastTo,if_neg h]
theorem leastTo_lt {fs:List Tm} {k:Nat} {x:Int} (h:¬k=0) (hx:wlAt fs k=x) (hl:x<leastTo fs k):leastTo fs (k+1)=x:=by rw [leastTo_succ h,hx];omega
theorem leastTo_ge {fs:List Tm} {k:Nat} {x:Int} (h:¬k=0) (hx:wlAt fs k=x) (hl:¬x<leastTo fs k):leastTo fs (k+1)=leastTo fs k:=by rw [leastTo_succ h,hx];omega
def leastW (fs:List Tm):Int:=leastTo fs fs.length
set_option maxHeartbeats 2000000 in
theorem l02Least_c {w : World} {a : Option Addr} {n : Nat} {fs : List Tm} (c : Nat) (h : Terms w a n fs) (hn : n ≤ 1048576) :
    Calls Try.prog 86 #[.agg #[.slice a n c]] w fun e w'=>e=.returned (.int .i64 (leastW fs))∧Below w.heap.size w w':=by
 have HL:=Lib.hid h.len
 have hb0:=bA1 w (.cells #[.slice a n c] 61)
 have hF0:=Own.new w 61 #[.slice a n c]
 go_enter Try.func86,Try.ntmps86
 go_wp2_with fail
 generalize w.alloc (.cells #[.slice a n c] 61)=w0 at *
 go_loopw [3,4] (fun o i wr=>∃k:Nat,k≤n∧i=.int .i64 k∧o=.int .i64 (leastTo fs k)∧Below w.heap.size w wr∧Own wr w.heap.size 61 #[.slice a n c]) (fun _ i _=>n - (intOf i).toNat)
 case atStart=>exact ⟨0,Nat.zero_le _,rfl,rfl,hb0,hF0⟩
 case round=>
  clear hb0 hF0;obtain ⟨k,hk,rfl,rfl,hb,hF⟩:=hrel;have c0:=hF.cell 0;by_cases hlt:k<n
  · obtain ⟨b,off,t,rfl,hbl,hr,ht,hx⟩:=(h.keep hb).at_ hlt;have HW:=Lib.hid (wlAt_of hx.out);obtain ⟨mt,ft⟩:=t;have hmt:IsMono mt:=ht.1;obtain ⟨p0,p1,p2,p3,p4,p5,p6,p7,rfl⟩:=mono8 hmt;obtain ⟨x,hxe⟩:∃x,wlen [p0,p1,p2,p3,p4,p5,p6,p7]=x:=⟨_,rfl⟩;have HX:=Lib.hid hxe;have HWX:Hid (wlAt fs k=x):=Lib.hid (HW.out.trans hxe);obtain ⟨l,hl⟩:∃l,leastTo fs k=l:=⟨_,rfl⟩;have HLT:=Lib.hid hl;rw [hl];clear hxe hl;have hi0:(0:Int)≤(k:Int):=(by omega);have hin:(k:Int)<(n:Int):=(by omega);by_cases hk0:k=0
    · subst hk0;rw [Nat.zero_mul,Nat.add_zero] at hr;obtain ⟨y0,y1,y2,y3,y4,y5,y6,y7,y8⟩:=nine hr;go_wp2_with fail
      refine (l02Word8 hmt HX.out).mono ?_;rintro e w1 ⟨rfl,hb1⟩;go_wp2_with fail
      go_roundw
      case rel=>exact ⟨1,by omega,by go_num,by rw [leastTo_one,HWX.out],bT' hb hb1 hb.size,hF.keep hb1 hF.lt⟩
      case measure=>simp [intOf] <;> omega
    · have hkb:((k:Int)==0)=false:=(by simp;omega);have HK0:=Lib.hid hk0;clear hk0;obtain ⟨y0,y1,y2,y3,y4,y5,y6,y7,y8⟩:=nine hr;by_cases hxl:x<l
      · go_wp2_with fail
        refine (l02Word8 hmt HX.out).mono ?_;rintro e w1 ⟨rfl,hb1⟩;go_wp2_with fail
        go_roundw
        case rel=>exact ⟨k+1,by omega,by go_num,by rw [leastTo_lt HK0.out HWX.out (by rw [HLT.out];exact hxl)],bT' hb hb1 hb.size,hF.keep hb1 hF.lt⟩
        case measure=>simp [intOf] <;> omega
      · go_wp2_with fail
        refine (l02Word8 hmt HX.out).mono ?_;rintro e w1 ⟨rfl,hb1⟩;go_wp2_with fail
        go_roundw
        case rel=>exact ⟨k+1,by omega,by go_num,by rw [leastTo_ge HK0.out HWX.out (by rw [HLT.out];omega),HLT.out],bT' hb hb1 hb.size,hF.keep hb1 hF.lt⟩
        case measure=>simp [intOf] <;> omega
  · have he:k=n:=(by omega);subst he;go_wp2_with fail
    go_ret
    exact ⟨ret_i (by rw [leastW,HL.out]),hb⟩
end Go.Proofs.Ytikldofmpkidbaa
