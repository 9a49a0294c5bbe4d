
import Derived.Test.YtndnkeijddagiaaAlgR
import Derived.Test.YtndnkeijddagiaaSubS
import Derived.Test.YtndnkeijddagiaaLawForm
import Derived.Test.YtndnkeijddagiaaNewA
import Derived.Test.YtndnkeijddagiaaIsAlg
namespace Go.Proofs.Ytndnkeijddagiaa
set_option maxRecDepth 100000
open Go.RowKit Go.Deep
set_option maxHeartbeats 16000000 in
theorem lawSub_walk (da0 : Option Addr) (dn0 dc0 : Nat) (zs0 : List Int) (a0 : Option Addr) (n0 c0 : Nat) (fss0 : List (List Tm)) (x1 : Int) (w : World) (hd0 : Ints w da0 dn0 zs0) (hdm0 : (dn0 : Int) ≤ 9223372036854775807) (hF0 : Frms w a0 n0 fss0) (hnm0 : (n0 : Int) ≤ 9223372036854775807) (_hx1 : (Lit.int .i64 x1).wf = true)
    (VD:List Int) (VI:List (List Tm)) (E:Int) (nD nI:Nat) (hnD:VD.length=nD) (hnI:VI.length=nI) (hDl:nD≤1048576) (hIl:nI≤1048576) (hIr:∀ts∈VI,(ts.length:Int)≤1048576) (hIs:sumLen VI≤1048576)
    (CS:∀(w':World) (gd0 gi0 p0 q0:Nat),dn0≤p0→n0≤q0→dn0≤1048576→n0≤1048576→(∀ts∈fss0,(ts.length:Int)≤1048576)→(∀ts∈fss0,∀t∈ts,IsTm t)→sumLen fss0≤1048576→Ints w' (some ⟨gd0,0,none⟩) dn0 zs0→FrmsN w' (some ⟨gi0,0,none⟩) n0 fss0→Calls Try.prog 49 #[.agg #[.slice (some ⟨gd0,0,none⟩) dn0 p0,.slice (some ⟨gi0,0,none⟩) n0 q0],.int .i64 x1] w' fun e w''=>∃ra an ac rb bn bc,e=.returned (.tuple #[.agg #[.slice ra an ac,.slice rb bn bc],.int .i64 E])∧OwnV w'' w'.heap.size w''.heap.size ra an VD∧OwnF w'' w'.heap.size w''.heap.size rb bn VI∧Below w'.heap.size w' w'')
    (CC:∀(w':World) (gd0 gi0 p0 q0:Nat),dn0≤p0→n0≤q0→dn0≤1048576→n0≤1048576→(∀ts∈fss0,(ts.length:Int)≤1048576)→(∀ts∈fss0,∀t∈ts,IsTm t)→sumLen fss0≤1048576→Ints w' (some ⟨gd0,0,none⟩) dn0 zs0→FrmsN w' (some ⟨gi0,0,none⟩) n0 fss0→Calls Try.prog 50 #[.agg #[.slice (some ⟨gd0,0,none⟩) dn0 p0,.slice (some ⟨gi0,0,none⟩) n0 q0],.int .i64 x1] w' fun e w''=>∃ra an ac rb bn bc,e=.returned (.tuple #[.agg #[.slice ra an ac,.slice rb bn bc],.int .i64 E])∧OwnV w'' w'.heap.size w''.heap.size ra an VD∧OwnF w'' w'.heap.size w''.heap.size rb bn VI∧Below w'.heap.size w' w'') :
    Calls Try.prog 13 #[.agg #[.slice da0 dn0 dc0,.slice a0 n0 c0],.int .i64 x1] w fun e w'=>e=.returned (.bool true)∧Below w.heap.size w w':=by
 have HCS:=Lib.hid CS
 have HCC:=Lib.hid CC
 have HnD:=Lib.hid hnD
 have HnI:=Lib.hid hnI
 have HIR:=Lib.hid hIr
 have HIS:=Lib.hid hIs
 clear CS CC hnD hnI hIr hIs
 have HL0:=Lib.hid hd0.len
 have HLn0:=Lib.hid hF0.len
 have HD0:=Lib.hid hd0
 have HF0:=Lib.hid hF0
 have HT0:=Lib.hid hF0.tm
 have hP0:=Own.new w 25 #[.slice da0 dn0 dc0,.slice a0 n0 c0]
 have hb:=bA1 w (.cells #[.slice da0 dn0 dc0,.slice a0 n0 c0] 25)
 have hWB:w.heap.size+1≤(w.alloc (.cells #[.slice da0 dn0 dc0,.slice a0 n0 c0] 25)).heap.size:=by rw [sAl];omega
 rcases szA_spec (L:=1048576) (dn:=dn0) (n:=n0) (fss:=fss0) with hz | ⟨hR0a,hR0b,hR0c,hR0d,hR0e⟩
 · have HZ0:=Lib.hid hz;clear hz;go_enter Try.func13,Try.ntmps13
   go_upto_region 2 with fail
   generalize (w.alloc (.cells #[.slice da0 dn0 dc0,.slice a0 n0 c0] 25))=w0 at *;have p0_0:=hP0.cell 0;have p0_1:=hP0.cell 1;go_wp2_with fail
   refine (szAlgebra_c dc0 c0 1048576 (by omega) (by omega) hdm0 (HF0.out.keep hb) hnm0).mono ?_;rintro e ws0 ⟨rfl,hbX⟩;rw [HZ0.out];clear p0_0 p0_1;replace hb:=bT' hb hbX hb.size;replace hP0:=hP0.keep hbX hP0.lt;clear hbX;go_wp2_with fail
   go_ret
   exact ⟨rfl,hb⟩
 have hsum0:=szA_sum (L:=1048576) (dn:=dn0) (n:=n0) (fss:=fss0) (by omega)
 generalize hz0:szA 1048576 dn0 n0 fss0=R0 at *
 have HZ0:=Lib.hid hz0
 clear hz0
 have hdn0:dn0≤1048576:=by omega
 have hn0:n0≤1048576:=by omega
 have HLL0:=Lib.hid (show ∀ts∈fss0,(ts.length:Int)≤1048576 from fun ts hts=>by have:=hR0e ts hts;omega)
 have HSM0:=Lib.hid (show sumLen fss0≤1048576 by omega)
 have hRn0:¬R0<0:=by omega
 obtain ⟨SL0,hSL0⟩:∃SL,sumLen fss0=SL:=⟨_,rfl⟩
 have HSL0:=Lib.hid hSL0
 have hSLb0:SL0≤1048576:=by have:=HSM0.out;omega
 have hSQ0:(SL0:Int)+dn0+R0≤1048576:=by rw [←hSL0];omega
 clear hSL0 hsum0 hR0e
 go_enter Try.func13,Try.ntmps13
 go_upto_region 2 with fail
 generalize (w.alloc (.cells #[.slice da0 dn0 dc0,.slice a0 n0 c0] 25))=w0 at *
 have p0_0:=hP0.cell 0
 have p0_1:=hP0.cell 1
 go_wp2_with fail
 refine (szAlgebra_c dc0 c0 1048576 (by omega) (by omega) hdm0 (HF0.out.keep hb) hnm0).mono ?_
 rintro e ws0 ⟨rfl,hbX⟩
 rw [HZ0.out]
 clear p0_0 p0_1
 replace hb:=bT' hb hbX hb.size
 replace hP0:=hP0.keep hbX hP0.lt
 clear hbX
 clear hWB
 have hGw:w.heap.size≤ws0.heap.size:=hb.size
 have hlP0:=hP0.lt
 have pc0_0:=hP0.cell 0
 have pc0_1:=hP0.cell 1
 go_wp2_with fail
 refine (toAlgebra_c dc0 c0 (HD0.out.keep hb) hdn0 (HF0.out.keep hb) hn0 HLL0.out).mono ?_
 rintro e v1 ⟨ud0,ug0,us0,rfl,hud0,hug0,hui0,huf0,hbX⟩
 clear pc0_0 pc0_1
 replace hb:=bT' hb hbX hb.size
 replace hP0:=hP0.keep hbX hP0.lt
 clear hbX
 have hloS:=hb.size
 go_wp2_with fail
 refine (HCS.out _ _ _ _ _ (Nat.le_refl _) (Nat.le_refl _) hdn0 hn0 HLL0.out HT0.out HSM0.out (IntBlk.ints' hui0 HL0.out) (huf0.frmsN HT0.out HLn0.out)).mono ?_
 rintro e v2 ⟨raS,anS,acS,rbS,bnS,bcS,rfl,hVS,hWS,hbX⟩
 have hnn:nD=anS:=by rw [←HnD.out,hVS.1]
 have hmm:nI=bnS:=by rw [←HnI.out,hWS.1]
 subst hnn
 subst hmm
 replace hb:=bT' hb hbX hb.size
 replace hP0:=hP0.keep hbX hP0.lt
 replace hui0:=IntBlk.keep hui0 hbX (IntBlk.lt hui0)
 replace huf0:=huf0.keep hbX
 clear hbX
 clear hui0 huf0 hud0 hug0
 replace hVS:=hVS.weaken (lo':=w.heap.size) hloS (Nat.le_refl _)
 replace hWS:=hWS.weaken (lo':=w.heap.size) hloS (Nat.le_refl _)
 go_upto_region 6 with fail
 have hBS:=Own.new v2 29 #[.slice raS nD acS,.slice rbS nI bcS]
 have hbX:=bA1 v2 (.cells #[.slice raS nD acS,.slice rbS nI bcS] 29)
 have hgS:w.heap.size≤v2.heap.size:=hb.size
 replace hb:=bT' hb hbX hb.size
 replace hP0:=hP0.keep hbX hP0.lt
 replace hVS:=hVS.keep hbX
 replace hWS:=hWS.keep hbX
 replace hVS:=hVS.weaken (hi':=(v2.alloc (.cells #[.slice raS nD acS,.slice rbS nI bcS] 29)).heap.size) (Nat.le_refl _) (by rw [sAl];omega)
 replace hWS:=hWS.weaken (hi':=(v2.alloc (.cells #[.slice raS nD acS,.slice rbS nI bcS] 29)).heap.size) (Nat.le_refl _) (by rw [sAl];omega)
 generalize v2.alloc (.cells #[.slice raS nD acS,.slice rbS nI bcS] 29)=wr at *
 generalize hgX:v2.heap.size=gBS at *
 clear hbX hgX
 have hBSl:=hBS.lt
 have hVS0:=hVS
 clear hVS0
 obtain ⟨C1,hC1⟩:∃C1,wr.heap.size=C1:=⟨_,rfl⟩
 rw [hC1] at hVS hWS hBSl
 have hC1a:C1≤wr.heap.size:=Nat.le_of_eq hC1.symm
 clear hC1
 have hQ0:w.heap.size<C1:=by omega
 have pc0_0:=hP0.cell 0
 have pc0_1:=hP0.cell 1
 go_wp2_with fail
 refine (toAlgebra_c dc0 c0 (HD0.out.keep hb) hdn0 (HF0.out.keep hb) hn0 HLL0.out).mono ?_
 rintro e v3 ⟨kd0,kg0,ks0,rfl,hkd0,hkg0,hki0,hkf0,hbX⟩
 clear pc0_0 pc0_1
 replace hb:=bT' hb hbX hb.size
 replace hP0:=hP0.keep hbX hP0.lt
 replace hVS:=hVS.keep hbX
 replace hWS:=hWS.keep hbX
 replace hBS:=hBS.keep hbX hBS.lt
 clear hbX
 go_upto_region 7 with fail
 have HKS0:=Lib.hid (fun x (hx:x∈ks0)=>(hkf0.lt x hx))
 have hkgl0:=hkf0.own.lt
 have hX0:=Own.new v3 29 #[.slice (some ⟨kd0,0,none⟩) dn0 dn0,.slice (some ⟨kg0,0,none⟩) n0 n0]
 have hbX:=bA1 v3 (.cells #[.slice (some ⟨kd0,0,none⟩) dn0 dn0,.slice (some ⟨kg0,0,none⟩) n0 n0] 29)
 replace hb:=bT' hb hbX hb.size
 replace hP0:=hP0.keep hbX hP0.lt
 replace hVS:=hVS.keep hbX
 replace hWS:=hWS.keep hbX
 replace hBS:=hBS.keep hbX hBS.lt
 replace hki0:=IntBlk.keep hki0 hbX (IntBlk.lt hki0)
 replace hkf0:=hkf0.keep hbX
 generalize v3.alloc (.cells #[.slice (some ⟨kd0,0,none⟩) dn0 dn0,.slice (some ⟨kg0,0,none⟩) n0 n0] 29)=v4 at *
 generalize hgX:v3.heap.size=gX0 at *
 clear hbX hgX
 have hlo0:C1≤kd0:=by omega
 have hlt0:=hX0.lt
 have xc0_0:=hX0.cell 0
 have xc0_1:=hX0.cell 1
 go_wp2_with fail
 refine (HCC.out _ _ _ _ _ (Nat.le_refl _) (Nat.le_refl _) hdn0 hn0 HLL0.out HT0.out HSM0.out (IntBlk.ints' hki0 HL0.out) (hkf0.frmsN HT0.out HLn0.out)).mono ?_
 rintro e v5 ⟨raR,anR,acR,rbR,bnR,bcR,rfl,hVR,hWR,hbX⟩
 have hnn:nD=anR:=by rw [←HnD.out,hVR.1]
 have hmm:nI=bnR:=by rw [←HnI.out,hWR.1]
 subst hnn
 subst hmm
 replace hVR:=hVR.weaken (lo':=gX0+1) (by omega) (Nat.le_refl _)
 replace hWR:=hWR.weaken (lo':=gX0+1) (by omega) (Nat.le_refl _)
 replace hb:=bT' hb hbX hb.size
 replace hP0:=hP0.keep hbX hP0.lt
 replace hVS:=hVS.keep hbX
 replace hWS:=hWS.keep hbX
 replace hBS:=hBS.keep hbX hBS.lt
 replace hki0:=IntBlk.keep hki0 hbX (IntBlk.lt hki0)
 replace hkf0:=hkf0.keep hbX
 replace hX0:=hX0.keep hbX hX0.lt
 clear hbX
 clear xc0_0
 clear xc0_1
 go_upto_region 8 with fail
 have hBR:=Own.new v5 29 #[.slice raR nD acR,.slice rbR nI bcR]
 have hbX:=bA1 v5 (.cells #[.slice raR nD acR,.slice rbR nI bcR] 29)
 have hC2s:=hX0.lt
 replace hb:=bT' hb hbX hb.size
 replace hP0:=hP0.keep hbX hP0.lt
 replace hVS:=hVS.keep hbX
 replace hWS:=hWS.keep hbX
 replace hBS:=hBS.keep hbX hBS.lt
 replace hki0:=IntBlk.keep hki0 hbX (IntBlk.lt hki0)
 replace hkf0:=hkf0.keep hbX
 replace hX0:=hX0.keep hbX hX0.lt
 replace hVR:=hVR.keep hbX
 replace hWR:=hWR.keep hbX
 generalize v5.alloc (.cells #[.slice raR nD acR,.slice rbR nI bcR] 29)=v6 at *
 generalize hgX:v5.heap.size=gBR at *
 clear hbX hgX
 have hne1:(E != E)=false:=by simp
 have p0:=hBR.cell 0
 have p1:=hBR.cell 1
 have q0:=hBS.cell 0
 have q1:=hBS.cell 1
 go_wp2_with fail
 refine (eqAlgebra_c _ _ _ _ hVR.ints hVS.ints hDl (hWR.frms HIR.out) (hWS.frms HIR.out) hIl HIR.out).mono ?_
 rintro e v7 ⟨rfl,hbX⟩
 clear p0 p1 q0 q1
 replace hb:=bT' hb hbX hb.size
 replace hP0:=hP0.keep hbX hP0.lt
 replace hVS:=hVS.keep hbX
 replace hWS:=hWS.keep hbX
 replace hBS:=hBS.keep hbX hBS.lt
 replace hki0:=IntBlk.keep hki0 hbX (IntBlk.lt hki0)
 replace hkf0:=hkf0.keep hbX
 replace hX0:=hX0.keep hbX hX0.lt
 replace hVR:=hVR.keep hbX
 replace hWR:=hWR.keep hbX
 replace hBR:=hBR.keep hbX hBR.lt
 clear hbX
 go_upto_region 10 with fail
 have hbD:Below v7.heap.size v7 v7.drew:=(Below.refl _ _).drew
 replace hb:=hb.drew
 replace hP0:=hP0.keep hbD hP0.lt
 replace hVS:=hVS.keep hbD
 replace hWS:=hWS.keep hbD
 replace hBS:=hBS.keep hbD hBS.lt
 replace hki0:=IntBlk.keep hki0 hbD (IntBlk.lt hki0)
 replace hkf0:=hkf0.keep hbD
 replace hX0:=hX0.keep hbD hX0.lt
 replace hVR:=hVR.keep hbD
 replace hWR:=hWR.keep hbD
 replace hBR:=hBR.keep hbD hBR.lt
 clear hbD
 refine wp_region_held_drew (S:=(fun w'=>w'.cell? ⟨gX0,0,none⟩=some (.slice (some ⟨kd0,0,none⟩) dn0 dn0)∧w'.cell? ⟨gX0,1,none⟩=some (.slice (some ⟨kg0,0,none⟩) n0 n0)∧w'.cell? ⟨w.heap.size,0,none⟩=some (.slice da0 dn0 dc0)∧w'.cell? ⟨w.heap.size,1,none⟩=some (.slice a0 n0 c0))) (by kernel_rfl) ?_ (fun _=>?_)
 · ((try dsimp only);(exact ⟨hX0.cell 0,hX0.cell 1,hP0.cell 0,hP0.cell 1⟩))
 generalize v7.drew=v7d at *
 refine hdT 0 ?_
 refine hdT 1 ?_
 refine hdC 2 (fun K hK=>?_)
 (go_simp;(go_at_call 16;refine (toAlgebra_c dc0 c0 (HD0.out.keep hb) hdn0 (HF0.out.keep hb) hn0 HLL0.out).mono ?_;rintro e W1 ⟨md,mg,ms,rfl,hmd,hmg,mi,mB,hbX⟩);go_wp2_with fail)
 replace hb:=bT' hb hbX hb.size
 replace hP0:=hP0.keep hbX hP0.lt
 replace hVS:=hVS.keep hbX
 replace hWS:=hWS.keep hbX
 replace hBS:=hBS.keep hbX hBS.lt
 replace hki0:=IntBlk.keep hki0 hbX (IntBlk.lt hki0)
 replace hkf0:=hkf0.keep hbX
 replace hX0:=hX0.keep hbX hX0.lt
 replace hVR:=hVR.keep hbX
 replace hWR:=hWR.keep hbX
 replace hBR:=hBR.keep hbX hBR.lt
 clear hmd hmg hbX
 refine hK.out _ _ ?_ (fun _=>?_)
 · ((try dsimp only);(exact ⟨hX0.cell 0,hX0.cell 1,hP0.cell 0,hP0.cell 1⟩))
 clear hK K
 (try simp only [Act.put,pA,pB,pC])
 refine hdC 3 (fun K hK=>?_)
 (go_simp;(go_at_call 18;refine (eqAlgebra_c dn0 dn0 n0 n0 (IntBlk.ints' hki0 HL0.out) (IntBlk.ints' mi HL0.out) hdn0 (hkf0.frms HT0.out HLL0.out HLn0.out) (mB.frms HT0.out HLL0.out HLn0.out) hn0 HLL0.out).mono ?_;rintro e W2 ⟨rfl,hbX⟩);go_wp2_with fail)
 replace hb:=bT' hb hbX hb.size
 replace hP0:=hP0.keep hbX hP0.lt
 replace hVS:=hVS.keep hbX
 replace hWS:=hWS.keep hbX
 replace hBS:=hBS.keep hbX hBS.lt
 replace hki0:=IntBlk.keep hki0 hbX (IntBlk.lt hki0)
 replace hkf0:=hkf0.keep hbX
 replace hX0:=hX0.keep hbX hX0.lt
 replace hVR:=hVR.keep hbX
 replace hWR:=hWR.keep hbX
 replace hBR:=hBR.keep hbX hBR.lt
 clear mi mB hbX
 refine hK.out _ _ ?_ (fun _=>?_)
 · ((try dsimp only);(exact ⟨hX0.cell 0,hX0.cell 1,hP0.cell 0,hP0.cell 1⟩))
 clear hK K
 (try simp only [Act.put,pA,pB,pC])
 refine hdT 4 ?_
 refine wpAnyH_done (by kernel_rfl) ?_ _
 generalize hWW:W2=v8 at *
 clear hWW
 have xc0:=hX0.cell 0
 have xc1:=hX0.cell 1
 go_wp2_with fail
 refine (markAlgebra_c dn0 n0 hki0 HL0.out hdn0 hkg0 hkf0 HT0.out HLn0.out hn0 (by rw [HSL0.out];exact hSLb0) (by omega) (by omega)).mono ?_
 rintro e v9 ⟨rfl,hTo0⟩
 rw [HSL0.out]
 have hTo:Touch (fun k=>kd0≤k∧k<gX0) _ v9:=hTo0.mono (rk_range hkg0 (by omega) HKS0.out)
 clear hTo0
 clear xc0 xc1
 clear hki0 hkf0
 replace hb:=hb.trans (hTo.bel (B:=w.heap.size) (fun k hk=>by omega) hb.size)
 replace hP0:=hTo.own hP0 (by omega)
 replace hVS:=hVS.touch hTo (fun q h1 h2=>by omega)
 replace hWS:=hWS.touch hTo (fun q h1 h2=>by omega)
 replace hBS:=hTo.own hBS (by omega)
 replace hX0:=hTo.own hX0 (by omega)
 replace hVR:=hVR.touch hTo (fun q h1 h2=>by omega)
 replace hWR:=hWR.touch hTo (fun q h1 h2=>by omega)
 replace hBR:=hTo.own hBR (by omega)
 clear hTo
 generalize hK1:(1:Int)+(dn0:Nat)+(SL0 * 9:Nat)=K1 at *
 have hK1a:1≤K1:=by omega
 have hK1b:K1+9 * R0≤9437185:=by omega
 clear hK1
 have hKn:¬K1<0:=by omega
 have p0:=hBR.cell 0
 have p1:=hBR.cell 1
 have q0:=hBS.cell 0
 have q1:=hBS.cell 1
 go_wp2_with fail
 refine (eqAlgebra_c _ _ _ _ hVR.ints hVS.ints hDl (hWR.frms HIR.out) (hWS.frms HIR.out) hIl HIR.out).mono ?_
 rintro e v10 ⟨rfl,hbX⟩
 clear p0 p1 q0 q1
 replace hb:=bT' hb hbX hb.size
 replace hP0:=hP0.keep hbX hP0.lt
 replace hVS:=hVS.keep hbX
 replace hWS:=hWS.keep hbX
 replace hBS:=hBS.keep hbX hBS.lt
 replace hX0:=hX0.keep hbX hX0.lt
 replace hVR:=hVR.keep hbX
 replace hWR:=hWR.keep hbX
 replace hBR:=hBR.keep hbX hBR.lt
 clear hbX
 have p0:=hBR.cell 0
 have p1:=hBR.cell 1
 go_wp2_with fail
 clear p0 p1
 refine (markAlgV_c acR bcR hVR hWR hDl hIl HIS.out (by omega) (by omega)).mono ?_
 rintro e v11 ⟨rfl,hOw,hMW,hTo⟩
 replace hb:=hb.trans (hTo.bel (B:=w.heap.size) (fun k hk=>by omega) hb.size)
 replace hP0:=hTo.own hP0 (by omega)
 replace hVS:=hVS.touch hTo (fun q h1 h2=>by omega)
 replace hWS:=hWS.touch hTo (fun q h1 h2=>by omega)
 replace hBS:=hTo.own hBS (by omega)
 replace hX0:=hTo.own hX0 (by omega)
 replace hBR:=hTo.own hBR (by omega)
 clear hTo hVR hWR
 generalize hM:(1:Int)+(nD:Nat)+(sumLen VI * 9:Nat)=M at *
 have HM:=Lib.hid hM
 have hmn:¬(M<0):=by omega
 clear hM
 have p0:=hBR.cell 0
 have p1:=hBR.cell 1
 go_wp2_with fail
 clear p0 p1
 refine (heldAlgV_c acR bcR hOw hMW hDl hIl HIS.out (by omega) (by omega)).mono ?_
 rintro e v12 ⟨rfl,hbX⟩
 rw [HM.out]
 replace hb:=bT' hb hbX hb.size
 replace hP0:=hP0.keep hbX hP0.lt
 replace hVS:=hVS.keep hbX
 replace hWS:=hWS.keep hbX
 replace hBS:=hBS.keep hbX hBS.lt
 replace hX0:=hX0.keep hbX hX0.lt
 replace hBR:=hBR.keep hbX hBR.lt
 replace hOw:=hOw.keep hbX
 replace hMW:=hMW.keep hbX
 clear hbX
 have pc0_0:=hP0.cell 0
 have pc0_1:=hP0.cell 1
 go_wp2_with fail
 refine (toAlgebra_c dc0 c0 (HD0.out.keep hb) hdn0 (HF0.out.keep hb) hn0 HLL0.out).mono ?_
 rintro e v13 ⟨ud0,ug0,us0,rfl,hud0,hug0,hui0,huf0,hbX⟩
 clear pc0_0 pc0_1
 replace hb:=bT' hb hbX hb.size
 replace hP0:=hP0.keep hbX hP0.lt
 replace hVS:=hVS.keep hbX
 replace hWS:=hWS.keep hbX
 replace hBS:=hBS.keep hbX hBS.lt
 replace hX0:=hX0.keep hbX hX0.lt
 replace hBR:=hBR.keep hbX hBR.lt
 replace hOw:=hOw.keep hbX
 replace hMW:=hMW.keep hbX
 clear hbX
 have hloT:=hb.size
 go_wp2_with fail
 refine (HCC.out _ _ _ _ _ (Nat.le_refl _) (Nat.le_refl _) hdn0 hn0 HLL0.out HT0.out HSM0.out (IntBlk.ints' hui0 HL0.out) (huf0.frmsN HT0.out HLn0.out)).mono ?_
 rintro e v14 ⟨raT,anT,acT,rbT,bnT,bcT,rfl,hVT,hWT,hbX⟩
 have hnn:nD=anT:=by rw [←HnD.out,hVT.1]
 have hmm:nI=bnT:=by rw [←HnI.out,hWT.1]
 subst hnn
 subst hmm
 replace hb:=bT' hb hbX hb.size
 replace hP0:=hP0.keep hbX hP0.lt
 replace hVS:=hVS.keep hbX
 replace hWS:=hWS.keep hbX
 replace hBS:=hBS.keep hbX hBS.lt
 replace hX0:=hX0.keep hbX hX0.lt
 replace hBR:=hBR.keep hbX hBR.lt
 replace hOw:=hOw.keep hbX
 replace hMW:=hMW.keep hbX
 replace hui0:=IntBlk.keep hui0 hbX (IntBlk.lt hui0)
 replace huf0:=huf0.keep hbX
 clear hbX
 clear hui0 huf0 hud0 hug0
 replace hVT:=hVT.weaken (lo':=w.heap.size) hloT (Nat.le_refl _)
 replace hWT:=hWT.weaken (lo':=w.heap.size) hloT (Nat.le_refl _)
 go_upto_region 25 with fail
 have hBT:=Own.new v14 29 #[.slice raT nD acT,.slice rbT nI bcT]
 have hbX:=bA1 v14 (.cells #[.slice raT nD acT,.slice rbT nI bcT] 29)
 have hgT:w.heap.size≤v14.heap.size:=hb.size
 replace hb:=bT' hb hbX hb.size
 replace hP0:=hP0.keep hbX hP0.lt
 replace hVS:=hVS.keep hbX
 replace hWS:=hWS.keep hbX
 replace hBS:=hBS.keep hbX hBS.lt
 replace hX0:=hX0.keep hbX hX0.lt
 replace hBR:=hBR.keep hbX hBR.lt
 replace hOw:=hOw.keep hbX
 replace hMW:=hMW.keep hbX
 replace hVT:=hVT.keep hbX
 replace hWT:=hWT.keep hbX
 replace hVT:=hVT.weaken (hi':=(v14.alloc (.cells #[.slice raT nD acT,.slice rbT nI bcT] 29)).heap.size) (Nat.le_refl _) (by rw [sAl];omega)
 replace hWT:=hWT.weaken (hi':=(v14.alloc (.cells #[.slice raT nD acT,.slice rbT nI bcT] 29)).heap.size) (Nat.le_refl _) (by rw [sAl];omega)
 generalize v14.alloc (.cells #[.slice raT nD acT,.slice rbT nI bcT] 29)=wrT at *
 generalize hgX:v14.heap.size=gBT at *
 clear hbX hgX
 have p0:=hBT.cell 0
 have p1:=hBT.cell 1
 have q0:=hBS.cell 0
 have q1:=hBS.cell 1
 go_wp2_with fail
 refine (eqAlgebra_c _ _ _ _ hVT.ints hVS.ints hDl (hWT.frms HIR.out) (hWS.frms HIR.out) hIl HIR.out).mono ?_
 rintro e v15 ⟨rfl,hbX⟩
 clear p0 p1 q0 q1
 replace hb:=bT' hb hbX hb.size
 replace hP0:=hP0.keep hbX hP0.lt
 replace hVS:=hVS.keep hbX
 replace hWS:=hWS.keep hbX
 replace hBS:=hBS.keep hbX hBS.lt
 replace hX0:=hX0.keep hbX hX0.lt
 replace hBR:=hBR.keep hbX hBR.lt
 replace hOw:=hOw.keep hbX
 replace hMW:=hMW.keep hbX
 replace hVT:=hVT.keep hbX
 replace hWT:=hWT.keep hbX
 replace hBT:=hBT.keep hbX hBT.lt
 clear hbX
 have p0:=hBR.cell 0
 have p1:=hBR.cell 1
 go_wp2_with fail
 clear p0 p1
 refine (heldAlgV_c acR bcR hOw hMW hDl hIl HIS.out (by omega) (by omega)).mono ?_
 rintro e v16 ⟨rfl,hbX⟩
 rw [HM.out]
 replace hb:=bT' hb hbX hb.size
 replace hP0:=hP0.keep hbX hP0.lt
 replace hVS:=hVS.keep hbX
 replace hWS:=hWS.keep hbX
 replace hBS:=hBS.keep hbX hBS.lt
 replace hX0:=hX0.keep hbX hX0.lt
 replace hBR:=hBR.keep hbX hBR.lt
 replace hOw:=hOw.keep hbX
 replace hMW:=hMW.keep hbX
 replace hVT:=hVT.keep hbX
 replace hWT:=hWT.keep hbX
 replace hBT:=hBT.keep hbX hBT.lt
 clear hbX
 go_wp2_with fail
 go_ret
 exact ⟨rfl,hb⟩
theorem sa_bd {zs:List Int} {ims:List (List Tm)} (h:isAlg zs ims=true):zs.length≤8∧ims.length≤8:=by
 have h1:=degsOk_len (isAlg_degs h)
 have h2:=isAlg_lenS h
 omega
theorem sa_alg {zs:List Int} {ims:List (List Tm)} {k:Int} (h:saE zs ims k=0):isAlg zs ims=true:=by
 cases hA:isAlg zs ims with
 | true=>rfl
 | false=>rw [saE,if_pos hA] at h;omega
theorem saV_bd (zs:List Int) (ims:List (List Tm)) (hT:∀im∈ims,∀u∈im,IsTm u) (k:Int):(saD zs ims k).length≤8∧(saI zs ims k).length≤8∧∀ts∈saI zs ims k,ts.length≤400:=by
 by_cases h:saE zs ims k=0
 · have hA:=sa_alg h;obtain ⟨h1,h2⟩:=sa_bd hA;rw [saD,saI,if_pos h,if_pos h];refine ⟨by rw [List.length_take];omega,by rw [List.length_take];omega,fun ts hts=>?_⟩;have hok:=isAlg_ok hA hT;obtain ⟨i,hi,rfl⟩:=List.mem_iff_getElem.1 (List.mem_of_mem_take hts);have:=(hok.at_ i).1
   rwa [List.getD_eq_getElem?_getD,List.getElem?_eq_getElem hi] at this
 · rw [saD,saI,if_neg h,if_neg h];simp
theorem sumLen_bdS {V:List (List Tm)} {k:Nat} (h:∀r∈V,r.length≤k):sumLen V≤V.length * k:=by
 induction V with
 | nil=>simp [sumLen]
 | cons r V ih =>
   have h1:=h r (by simp);have h2:=ih (fun x hx=>h x (by simp [hx]));simp only [sumLen,List.map_cons,List.sum_cons,List.length_cons,Nat.add_mul,Nat.one_mul] at h2 ⊢;omega
theorem subAlgebra_walk (da : Option Addr) (dn dc : Nat) (zs : List Int) (a : Option Addr) (n c : Nat) (fss : List (List Tm)) (x : Int) (w : World) (hd : Ints w da dn zs) (hdm : (dn : Int) ≤ 9223372036854775807) (hF : Frms w a n fss) (hnm : (n : Int) ≤ 9223372036854775807) (hx : (Lit.int .i64 x).wf = true) :
    Calls Try.prog 13 #[.agg #[.slice da dn dc,.slice a n c],.int .i64 x] w fun e w'=>e=.returned (.bool true)∧Below w.heap.size w w':=by
 obtain ⟨h1,h2,h3⟩:=saV_bd zs fss hF.tm x
 have h4:=sumLen_bdS h3
 have h5:(saI zs fss x).length * 400≤8 * 400:=Nat.mul_le_mul_right 400 h2
 exact lawSub_walk da dn dc zs a n c fss x w hd hdm hF hnm hx (saD zs fss x) (saI zs fss x) (saE zs fss x) _ _ rfl rfl (by omega) (by omega) (fun ts hts=>by have:=h3 ts hts;omega) (by omega)
  (fun w' gd gi p q hp hq h1 h2 h3 h4 h5 h6 h7=>SubAlgebra_s p q x hp hq h6 h1 h7 h2 h3 h4 h5)
  (fun w' gd gi p q hp hq h1 h2 h3 h4 h5 h6 h7=>SubAlgebra_c p q x hp hq h6 h1 h7 h2 h3 h4 h5)
end Go.Proofs.Ytndnkeijddagiaa
