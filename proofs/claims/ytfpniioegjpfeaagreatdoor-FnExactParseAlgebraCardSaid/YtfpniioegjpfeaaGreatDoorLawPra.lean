
import Derived.Test.YtfpniioegjpfeaaGreatDoorAlgR
import Derived.Test.YtfpniioegjpfeaaGreatDoorNewA
namespace Go.Proofs.YtfpniioegjpfeaaGreatDoor
set_option maxRecDepth 100000
open Go.RowKit Go.Deep
set_option maxHeartbeats 8000000 in
theorem lawPra_walk (l0 : List UInt8) (w : World) (hl0 : l0.length ≤ 1048576)
    (VD:List Int) (VI:List (List Tm)) (E:Int) (nD nI:Nat) (hnD:VD.length=nD) (hnI:VI.length=nI) (hDl:nD≤1048576) (hIl:nI≤1048576) (hIr:∀ts∈VI,(ts.length:Int)≤1048576) (hIs:sumLen VI≤1048576)
    (CS:∀(w':World),Below w.heap.size w w'→Calls Tryz.prog 13 #[str l0] w' fun e w''=>∃ra an ac rb bn bc,e=.returned (.tuple #[.agg #[.slice ra an ac,.slice rb bn bc],.int .i64 E])∧OwnV w'' w'.heap.size w''.heap.size ra an VD∧OwnF w'' w'.heap.size w''.heap.size rb bn VI∧Below w'.heap.size w' w'')
    (CC:∀(w':World),Below w.heap.size w w'→Calls Tryz.prog 14 #[str l0] w' fun e w''=>∃ra an ac rb bn bc,e=.returned (.tuple #[.agg #[.slice ra an ac,.slice rb bn bc],.int .i64 E])∧OwnV w'' w'.heap.size w''.heap.size ra an VD∧OwnF w'' w'.heap.size w''.heap.size rb bn VI∧Below w'.heap.size w' w'') :
    Calls Tryz.prog 4 #[str l0] w fun e w'=>e=.returned (.bool true)∧Below w.heap.size w w':=by
 have HCS:=Lib.hid CS
 have HCC:=Lib.hid CC
 have HnD:=Lib.hid hnD
 have HnI:=Lib.hid hnI
 have HIR:=Lib.hid hIr
 have HIS:=Lib.hid hIs
 clear CS CC hnD hnI hIr hIs
 go_enter Tryz.func4,Tryz.ntmps4
 have hb:=Below.refl w.heap.size w
 go_wp2_with fail
 refine (HCS.out w hb).mono ?_
 rintro e v1 ⟨raS,anS,acS,rbS,bnS,bcS,rfl,hVS,hWS,hbX⟩
 have hnn:nD=anS:=by rw [←HnD.out,hVS.1]
 have hmm:nI=bnS:=by rw [←HnI.out,hWS.1]
 subst hnn
 subst hmm
 replace hb:=bT' hb hbX hb.size
 clear hbX
 have hsbS:=hb.size
 go_upto_region 4 with fail
 have hBS:=Own.new v1 36 #[.slice raS nD acS,.slice rbS nI bcS]
 have hbX:=bA1 v1 (.cells #[.slice raS nD acS,.slice rbS nI bcS] 36)
 replace hb:=bT' hb hbX hb.size
 replace hVS:=hVS.keep hbX
 replace hWS:=hWS.keep hbX
 generalize v1.alloc (.cells #[.slice raS nD acS,.slice rbS nI bcS] 36)=v2 at *
 generalize hgX:v1.heap.size=gBS at *
 clear hbX hgX
 have hlBS:=hBS.lt
 go_wp2_with fail
 refine (HCC.out v2 hb).mono ?_
 rintro e v3 ⟨raR,anR,acR,rbR,bnR,bcR,rfl,hVR,hWR,hbX⟩
 have hnn:nD=anR:=by rw [←HnD.out,hVR.1]
 have hmm:nI=bnR:=by rw [←HnI.out,hWR.1]
 subst hnn
 subst hmm
 replace hVR:=hVR.weaken (lo':=gBS+1) (by omega) (Nat.le_refl _)
 replace hWR:=hWR.weaken (lo':=gBS+1) (by omega) (Nat.le_refl _)
 replace hb:=bT' hb hbX hb.size
 replace hVS:=hVS.keep hbX
 replace hWS:=hWS.keep hbX
 replace hBS:=hBS.keep hbX hBS.lt
 clear hbX
 have hsbR:=hb.size
 go_upto_region 5 with fail
 have hBR:=Own.new v3 36 #[.slice raR nD acR,.slice rbR nI bcR]
 have hbX:=bA1 v3 (.cells #[.slice raR nD acR,.slice rbR nI bcR] 36)
 replace hb:=bT' hb hbX hb.size
 replace hVS:=hVS.keep hbX
 replace hWS:=hWS.keep hbX
 replace hBS:=hBS.keep hbX hBS.lt
 replace hVR:=hVR.keep hbX
 replace hWR:=hWR.keep hbX
 generalize v3.alloc (.cells #[.slice raR nD acR,.slice rbR nI bcR] 36)=v4 at *
 generalize hgX:v3.heap.size=gBR at *
 clear hbX hgX
 have hlBR:=hBR.lt
 have hne1:(E != E)=false:=by simp
 have p0:=hBR.cell 0
 have p1:=hBR.cell 1
 have q0:=hBS.cell 0
 have q1:=hBS.cell 1
 go_wp2_with fail
 refine (eqAlgebra_c _ _ _ _ hVR.ints hVS.ints hDl (hWR.frms HIR.out) (hWS.frms HIR.out) hIl HIR.out).mono ?_
 rintro e v5 ⟨rfl,hbX⟩
 clear p0 p1 q0 q1
 replace hb:=bT' hb hbX hb.size
 replace hVS:=hVS.keep hbX
 replace hWS:=hWS.keep hbX
 replace hBS:=hBS.keep hbX hBS.lt
 replace hVR:=hVR.keep hbX
 replace hWR:=hWR.keep hbX
 replace hBR:=hBR.keep hbX hBR.lt
 clear hbX
 have p0:=hBR.cell 0
 have p1:=hBR.cell 1
 go_wp2_with fail
 clear p0 p1
 refine (markAlgV_c acR bcR hVR hWR hDl hIl HIS.out (by omega) (by omega)).mono ?_
 rintro e v6 ⟨rfl,hOw,hMW,hTo⟩
 replace hb:=hb.trans (hTo.bel (B:=w.heap.size) (fun k hk=>by omega) hb.size)
 replace hVS:=hVS.touch hTo (fun q h1 h2=>by omega)
 replace hWS:=hWS.touch hTo (fun q h1 h2=>by omega)
 replace hBS:=hTo.own hBS (by omega)
 replace hBR:=hTo.own hBR (by omega)
 clear hTo hVR hWR
 generalize hM:(1:Int)+(nD:Nat)+(sumLen VI * 9:Nat)=M at *
 have HM:=Lib.hid hM
 have hmn:¬(M<0):=by omega
 clear hM
 have p0:=hBR.cell 0
 have p1:=hBR.cell 1
 go_wp2_with fail
 clear p0 p1
 refine (heldAlgV_c acR bcR hOw hMW hDl hIl HIS.out (by omega) (by omega)).mono ?_
 rintro e v7 ⟨rfl,hbX⟩
 rw [HM.out]
 replace hb:=bT' hb hbX hb.size
 replace hVS:=hVS.keep hbX
 replace hWS:=hWS.keep hbX
 replace hBS:=hBS.keep hbX hBS.lt
 replace hBR:=hBR.keep hbX hBR.lt
 replace hOw:=hOw.keep hbX
 replace hMW:=hMW.keep hbX
 clear hbX
 have hBRl:=hBR.lt
 go_wp2_with fail
 refine (HCC.out v7 hb).mono ?_
 rintro e v8 ⟨raT,anT,acT,rbT,bnT,bcT,rfl,hVT,hWT,hbX⟩
 have hnn:nD=anT:=by rw [←HnD.out,hVT.1]
 have hmm:nI=bnT:=by rw [←HnI.out,hWT.1]
 subst hnn
 subst hmm
 replace hVT:=hVT.weaken (lo':=gBR+1) (by omega) (Nat.le_refl _)
 replace hWT:=hWT.weaken (lo':=gBR+1) (by omega) (Nat.le_refl _)
 replace hb:=bT' hb hbX hb.size
 replace hVS:=hVS.keep hbX
 replace hWS:=hWS.keep hbX
 replace hBS:=hBS.keep hbX hBS.lt
 replace hBR:=hBR.keep hbX hBR.lt
 replace hOw:=hOw.keep hbX
 replace hMW:=hMW.keep hbX
 clear hbX
 have hsbT:=hb.size
 go_upto_region 16 with fail
 have hBT:=Own.new v8 36 #[.slice raT nD acT,.slice rbT nI bcT]
 have hbX:=bA1 v8 (.cells #[.slice raT nD acT,.slice rbT nI bcT] 36)
 replace hb:=bT' hb hbX hb.size
 replace hVS:=hVS.keep hbX
 replace hWS:=hWS.keep hbX
 replace hBS:=hBS.keep hbX hBS.lt
 replace hBR:=hBR.keep hbX hBR.lt
 replace hOw:=hOw.keep hbX
 replace hMW:=hMW.keep hbX
 replace hVT:=hVT.keep hbX
 replace hWT:=hWT.keep hbX
 generalize v8.alloc (.cells #[.slice raT nD acT,.slice rbT nI bcT] 36)=v9 at *
 generalize hgX:v8.heap.size=gBT at *
 clear hbX hgX
 have hlBT:=hBT.lt
 have p0:=hBT.cell 0
 have p1:=hBT.cell 1
 have q0:=hBS.cell 0
 have q1:=hBS.cell 1
 go_wp2_with fail
 refine (eqAlgebra_c _ _ _ _ hVT.ints hVS.ints hDl (hWT.frms HIR.out) (hWS.frms HIR.out) hIl HIR.out).mono ?_
 rintro e v10 ⟨rfl,hbX⟩
 clear p0 p1 q0 q1
 replace hb:=bT' hb hbX hb.size
 replace hVS:=hVS.keep hbX
 replace hWS:=hWS.keep hbX
 replace hBS:=hBS.keep hbX hBS.lt
 replace hBR:=hBR.keep hbX hBR.lt
 replace hOw:=hOw.keep hbX
 replace hMW:=hMW.keep hbX
 replace hVT:=hVT.keep hbX
 replace hWT:=hWT.keep hbX
 replace hBT:=hBT.keep hbX hBT.lt
 clear hbX
 have p0:=hBR.cell 0
 have p1:=hBR.cell 1
 go_wp2_with fail
 clear p0 p1
 refine (heldAlgV_c acR bcR hOw hMW hDl hIl HIS.out (by omega) (by omega)).mono ?_
 rintro e v11 ⟨rfl,hbX⟩
 rw [HM.out]
 replace hb:=bT' hb hbX hb.size
 replace hVS:=hVS.keep hbX
 replace hWS:=hWS.keep hbX
 replace hBS:=hBS.keep hbX hBS.lt
 replace hBR:=hBR.keep hbX hBR.lt
 replace hOw:=hOw.keep hbX
 replace hMW:=hMW.keep hbX
 replace hVT:=hVT.keep hbX
 replace hWT:=hWT.keep hbX
 replace hBT:=hBT.keep hbX hBT.lt
 clear hbX
 go_wp2_with fail
 go_ret
 exact ⟨rfl,hb⟩
theorem okPr_alg {l:List UInt8} {r:List Int × List (List Tm)} (h:okPr l=some r):isAlg r.1 r.2=true:=by
 rw [okPr] at h
 split at h
 · split at h
   · rename_i hc;cases h
     exact hc.1
   · cases h
 · cases h
theorem pa_bd (l:List UInt8):(paZ l).length≤8∧(paI l).length≤8∧∀ts∈paI l,ts.length≤400:=by
 cases h:okPr l with
 | none =>
   obtain ⟨h1,h2,-⟩:=pa_no h;rw [h1,h2];simp
 | some r =>
   obtain ⟨h1,h2,-⟩:=pa_yes h;rw [h1,h2];have hA:=okPr_alg h;have hf:=isAlg_form hA;have h8:=degsOk_len (isAlg_degs hA);simp only [isAlg,Bool.and_eq_true,decide_eq_true_eq] at hA;exact ⟨h8,by omega,fun ts hts=>isForm_400 (hf ts hts)⟩
theorem sumLen_bd0 {V:List (List Tm)} {k:Nat} (h:∀r∈V,r.length≤k):sumLen V≤V.length * k:=by
 induction V with
 | nil=>simp [sumLen]
 | cons r V ih =>
   have h1:=h r (by simp);have h2:=ih (fun x hx=>h x (by simp [hx]));simp only [sumLen,List.map_cons,List.sum_cons,List.length_cons,Nat.add_mul,Nat.one_mul] at h2 ⊢;omega
set_option maxHeartbeats 1000000 in
theorem parseAlgebra_walk (s : ByteArray) (w : World) (hE : Errs w) (htab : Tab w) :
    Calls Tryz.prog 4 #[.string s] w fun e w'=>e=.returned (.bool true)∧Below w.heap.size w w':=by
 obtain ⟨l,rfl⟩:∃l:List UInt8,s=⟨l.toArray⟩:=⟨s.data.toList,rfl⟩
 have hsz:(⟨l.toArray⟩:ByteArray).size=l.length:=by simp [ByteArray.size]
 by_cases hl:l.length≤1048576
 · obtain ⟨h1,h2,h3⟩:=pa_bd l;have h4:=sumLen_bd0 h3;have h5:(paI l).length * 400≤8 * 400:=Nat.mul_le_mul_right 400 h2
   exact lawPra_walk l w hl (paZ l) (paI l) (paE l) _ _ rfl rfl (by omega) (by omega) (fun ts hts=>by have:=h3 ts hts;omega) (by omega)
    (fun w' hb=>(ParseAlgebra_s l hl).mono fun e w'' h=>by obtain ⟨da,dn,dc,ia,iN,ic,h1,h2,h3,h4⟩:=h;exact ⟨da,dn,dc,ia,iN,ic,h1,h2,h3,h4⟩)
    (fun w' hb=>(ParseAlgebra_c l hl (hE.keep hb) (htab.keep hb (Nat.le_refl _))).mono fun e w'' h=>by obtain ⟨da,dn,dc,ia,iN,ic,h1,h2,h3,h4⟩:=h;exact ⟨da,dn,dc,ia,iN,ic,h1,h2,h3,h4⟩)
 · go_enter Tryz.func4,Tryz.ntmps4
   go_wp2_with fail
   go_ret
   exact ⟨rfl,Below.refl _ _⟩
end Go.Proofs.YtfpniioegjpfeaaGreatDoor
