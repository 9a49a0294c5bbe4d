
import Derived.Test.YtifcfoijcodjbaaGreatRdcC
import Derived.Test.YtifcfoijcodjbaaGreatClsT
import Derived.Test.YtifcfoijcodjbaaGreatAlgR
import Derived.Test.YtifcfoijcodjbaaGreatTbl
import Derived.Test.YtifcfoijcodjbaaGreatDiffD
import Derived.Test.YtifcfoijcodjbaaGreatIsFormB
import Derived.Test.YtifcfoijcodjbaaGreatAlgS
namespace Go.Proofs.YtifcfoijcodjbaaGreat
set_option maxRecDepth 100000
open Go.RowKit Go.Deep
theorem facR_snoc {r:List Int} {C:List (List Int)} {k:Nat} {s:List Int} (h:C[k]? = some s):facR r (C.take (k+1))=facR r (C.take k)++[r.getD (fstN s) 0]:=by
 rw [facR,facR,take_sn h,List.map_append]
 rfl
set_option maxHeartbeats 4000000 in
theorem l03Class_c {w : World} {da : Option Addr} {dn : Nat} {zs : List Int} {a : Option Addr} {k : Nat} {ims : List (List Tm)} {m : Nat} {fa : Option Addr} {fn : Nat} {fs : List Tm} (dc c fc : Nat) (hd : Ints w da dn zs) (hF : Frms w a k ims) (hT : Terms w fa fn fs) (hfn : fn ≤ 1048576) (HA : AlgOk zs ims) (hA : isAlg zs ims = true) (hf : isForm zs fs = true) (hz : degsOk zs = true) (hm : m ≤ 20) (hc1 : cnt zs m ≤ 120) (hc2 : cnt zs (m + 1) ≤ 120) (hl : ¬ m = 0 → cnt zs (m - 1) ≤ 120) (hmem : ∀ t ∈ fs, t.m ∈ side zs m) :
    Calls Tryz.prog 54 #[.agg #[.slice da dn dc,.slice a k c],.int .i64 m,.agg #[.slice fa fn fc]] w fun e w'=>∃ra rn rc,e=.returned (.slice ra rn rc)∧OwnV w' w.heap.size w'.heap.size ra rn (facR (byR (rowT (side zs m) fs) (bdR zs ims m)) (csR zs ims m))∧Below w.heap.size w w':=by
 obtain ⟨ti,tz,hti,htz,hts,htb,htzs⟩:=Tryz.info_intA
 have HI:=Lib.hid hti
 have HZ:=Lib.hid htz
 have HS:=Lib.hid hts
 have HBt:=Lib.hid htb
 have HZs:=Lib.hid htzs
 have HD:=Lib.hid hd
 have HF:=Lib.hid hF
 have HT:=Lib.hid hT
 have HC1:=Lib.hid hc1
 have HC2:=Lib.hid hc2
 have HL:=Lib.hid hl
 have HME:=Lib.hid hmem
 have HSR:=Lib.hid (isForm_srt hf)
 have HRO:Hid (RowOk (cnt zs m) (rowT (side zs m) fs)):=Lib.hid (by have:=rowT_ok (V:=side zs m) (isForm_f hf);rwa [side_len] at this)
 have HBD:=Lib.hid (bdR_red HA hz m)
 have HCS:=Lib.hid (csR_red HA hz m)
 have hMl0:=bdR_len zs ims m
 have hMl1:=nbR_lt2 (zs:=zs) hl
 have hCl0:=csR_len zs ims m
 have HMl:Hid ((bdR zs ims m).length≤120∧(csR zs ims m).length≤120):=Lib.hid ⟨by omega,by omega⟩
 have hO:=(Own.new w 35 #[.slice da dn dc,.slice a k c]).alloc (.cells #[.slice fa fn fc] 39)
 have hG:=Own.new (w.alloc (.cells #[.slice da dn dc,.slice a k c] 35)) 39 #[.slice fa fn fc]
 rw [sAl] at hG
 have hb:=bTn (bA1 w (.cells #[.slice da dn dc,.slice a k c] 35)) (bA1 _ (.cells #[.slice fa fn fc] 39))
 clear hti htz hts htb htzs hd hF hT hc1 hc2 hl hmem hMl0 hMl1 hCl0
 go_enter Tryz.func54,Tryz.ntmps54
 go_upto_region 1 with fail
 generalize (w.alloc (.cells #[.slice da dn dc,.slice a k c] 35)).alloc (.cells #[.slice fa fn fc] 39)=w1 at *
 replace hO:Own w1.drew w.heap.size 35 #[.slice da dn dc,.slice a k c]:=hO
 replace hG:Own w1.drew (w.heap.size+1) 39 #[.slice fa fn fc]:=hG
 replace hb:Below w.heap.size w w1.drew:=hb.drew
 have hs:=hb.size
 refine wp_region_held_drew (S:=(fun w'=>w'.cell? ⟨w.heap.size,0,none⟩=some (.slice da dn dc)∧w'.cell? ⟨w.heap.size,1,none⟩=some (.slice a k c)∧w'.cell? ⟨w.heap.size+1,0,none⟩=some (.slice fa fn fc))) (by kernel_rfl) ?_ (fun _=>?_)
 · ((try dsimp only);(exact ⟨hO.cell 0,hO.cell 1,hG.cell 0⟩))
 generalize w1.drew=W0 at *
 refine hdT 0 ?_
 refine hdT 1 ?_
 refine hdT 2 ?_
 refine hdT 3 ?_
 refine hdT 6 ?_
 refine hdT 7 ?_
 refine hdC 4 (fun K hK=>?_)
 (go_simp;(go_at_call 109;refine (l01Mons_m (m:=m) dc (HD.out.keep hb) hz (by omega) HC1.out).mono ?_;rintro e W1 ⟨la,lc,rfl,hM,hbX⟩);go_wp2_with fail)
 replace hO:=hO.keep hbX hO.lt
 replace hG:=hG.keep hbX hG.lt
 replace hb:=bT' hb hbX hs
 replace hs:=hb.size
 clear hbX
 refine hK.out _ _ ?_ (fun _=>?_)
 · ((try dsimp only);(exact ⟨hO.cell 0,hO.cell 1,hG.cell 0⟩))
 clear hK K
 (try simp only [Act.put,pA,pB,pC])
 refine hdC 5 (fun K hK=>?_)
 (go_simp;(go_at_call 108;refine (vector3_c lc fc hM (ext_ord _ _) (by have:=HC1.out;omega) (HT.out.keep hb) hfn HSR.out HME.out).mono ?_;rintro e W2 ⟨gv,rfl,-,hV,hbX⟩);go_wp2_with fail)
 have hVI:Ints W2 (some ⟨gv,0,none⟩) (cnt zs m) (rowT (side zs m) fs):=(show IntBlk W2 gv (rowT (side zs m) fs) from hV).ints' (by rw [rowT_len,side_len])
 replace hO:=hO.keep hbX hO.lt
 replace hG:=hG.keep hbX hG.lt
 replace hb:=bT' hb hbX hs
 replace hs:=hb.size
 clear hbX hM hV
 refine hK.out _ _ ?_ (fun _=>?_)
 · ((try dsimp only);(exact ⟨hO.cell 0,hO.cell 1,hG.cell 0⟩))
 clear hK K
 (try simp only [Act.put,pA,pB,pC])
 refine hdC 8 (fun K hK=>?_)
 (go_simp;(go_at_call 110;refine (l03Bounds_c (m:=m) dc c (HD.out.keep hb) (HF.out.keep hb) HA hA hz hm HC1.out HC2.out HL.out).mono ?_;rintro e W3 ⟨qa,qn,qc,rfl,hTB,hbX⟩);go_wp2_with fail)
 replace hVI:=hVI.keep hbX
 replace hO:=hO.keep hbX hO.lt
 replace hG:=hG.keep hbX hG.lt
 replace hb:=bT' hb hbX hs
 replace hs:=hb.size
 clear hbX
 refine hK.out _ _ ?_ (fun _=>?_)
 · ((try dsimp only);(exact ⟨hO.cell 0,hO.cell 1,hG.cell 0⟩))
 clear hK K
 (try simp only [Act.put,pA,pB,pC])
 have hqn:qn≤1000:=by have:=hTB.1;have:=HMl.out.1;omega
 refine hdC 9 (fun K hK=>?_)
 (go_simp;(go_at_call 107;refine (l03By_c (cnt zs m) qc hVI hTB (by have:=HC1.out;omega) hqn HRO.out (fun t ht=>⟨HBD.out.ok t ht,HBD.out.fst t ht⟩)).mono ?_;rintro e W4 ⟨xa,xc,rfl,hX,hbX⟩);go_wp2_with fail)
 replace hO:=hO.keep hbX hO.lt
 replace hG:=hG.keep hbX hG.lt
 replace hb:=bT' hb hbX hs
 replace hs:=hb.size
 clear hbX hVI hTB hqn
 refine hK.out _ _ ?_ (fun _=>?_)
 · ((try dsimp only);(exact ⟨hO.cell 0,hO.cell 1,hG.cell 0⟩))
 clear hK K
 (try simp only [Act.put,pA,pB,pC])
 refine hdT 10 ?_
 refine wpAnyH_done (by kernel_rfl) ?_ _
 have c0:=hO.cell 0
 have c1:=hO.cell 1
 go_wp2_with fail
 refine (l03Classes_c (m:=m) dc c (HD.out.keep hb) (HF.out.keep hb) HA hA hz hm HC1.out HC2.out HL.out).mono ?_
 rintro e w3 ⟨ca,N,cc,rfl,hTC,hbX⟩
 replace hX:=hX.keep hbX
 replace hb:=bT' hb hbX hs
 replace hs:=hb.size
 clear hbX hO hG c0 c1
 have hNl:N≤120:=by have:=hTC.1;have:=HMl.out.2;omega
 have HX:=Lib.hid hX
 have HTC:=Lib.hid hTC
 have HNL:=Lib.hid hTC.1
 have HB:=Lib.hid hb
 have HSZ:=Lib.hid hs
 obtain ⟨R,hR⟩:∃R,byR (rowT (side zs m) fs) (bdR zs ims m)=R:=⟨_,rfl⟩
 obtain ⟨C,hC⟩:∃C,csR zs ims m=C:=⟨_,rfl⟩
 have HRK:=Lib.hid (byR_ok HRO.out HBD.out.ok)
 rw [hR] at HX HRK
 rw [hC] at HTC HNL HCS
 have HRE:=Lib.hid hR
 have HCE:=Lib.hid hC
 obtain ⟨W,hW⟩:∃W,cnt zs m=W:=⟨_,rfl⟩
 rw [hW] at HX HRK HCS
 have hWl:W≤120:=by rw [←hW];exact HC1.out
 have hR0:=empty_rowG w3 2 (Nat.le_refl w3.heap.size)
 have hb0:=bA1 w3 (.cells #[] 2)
 try rw [hW]
 clear hX hTC hb hs hR hC hW
 go_upto_region 3 with fail
 generalize w3.alloc (.cells #[] 2)=w5 at *
 obtain ⟨gO,hgO⟩:∃gO,w3.heap.size=gO:=⟨_,rfl⟩
 rw [hgO] at hR0 hb0
 try rw [hgO]
 have HGO:=Lib.hid hgO
 clear hgO
 go_upto_region 4 with fail
 go_loopw [9,10] (fun o y wx=>∃(j:Nat) (oa:Option Addr) (oc:Nat),j≤N∧y=.int .i64 j∧o=.slice oa j oc∧Below gO w3 wx∧wx.ownsRow gO 2 1 (.slice oa j oc) j ((facR R (C.take j)).map (Value.int .i64))) (fun _ y _=>N - (intOf y).toNat)
 case atStart=>exact ⟨0,_,_,Nat.zero_le _,rfl,rfl,hb0,hR0⟩
 case round=>
  clear hb0 hR0;obtain ⟨j,oa,oc,hj,rfl,rfl,hb,hRow⟩:=hrel;have HR:=Lib.hid hRow;clear hRow;have hj0:(0:Int)≤(j:Int):=(by omega);by_cases hin:j<N
  · obtain ⟨b1,off,s,ai,mi,ci,rfl,hbl,hcs,hIs,hx⟩:=(HTC.out.keep (by rw [HGO.out];exact hb)).at_ hin;have hsm:=List.mem_of_getElem? hx.out;have hsl:=(HCS.out.ok s hsm).len;have hsf:=HCS.out.fst s hsm;obtain rfl:W=mi:=(by have:=hIs.len;omega);have HFI:=Lib.hid (fstI_lt hsl hsf);have hjn:(j:Int)<(N:Int):=(by omega);have hszx:gO≤wr.heap.size:=(by have:=hb.size;have:=HGO.out;omega);have HIS:=Lib.hid hIs;obtain ⟨q,hq⟩:∃q,fstN s=q:=⟨_,rfl⟩;rw [hq] at hsf HFI;obtain ⟨b2,o2,x,rfl,hb2l,hcx,hxx⟩:=(HX.out.keep (by rw [HGO.out];exact hb)).at_ hsf;have hq0:(0:Int)≤(q:Int):=(by omega);have hqw:(q:Int)<(W:Int):=(by omega);have HSN:=Lib.hid (facR_snoc (r:=R) hx.out);have HXV:Hid (R.getD (fstN s) 0=x):=Lib.hid (by rw [hq,List.getD_eq_getElem?_getD,hxx.out];rfl);have HN:=Lib.hid (news1k wr (Value.int .i64 x) 2);have HO:=Lib.hid (show ∀u∈([Value.int .i64 x]:List Value),u.oneCell'=true by simp [Value.oneCell']);have hba:=bA1 wr (.cells #[.int .i64 x] 2);have HR4:=Lib.hid (HR.out.alloc (.cells #[.int .i64 x] 2));have HB4:=Lib.hid (bT' hb hba hszx);have HSX:=Lib.hid hszx;clear hx hsm hsl hIs hq hxx hba hb hszx hbl hb2l;go_wp2_with fail
    refine (l03First_c ci HIS.out (by omega)).mono ?_;rintro e w6 ⟨rfl,rfl⟩;rw [HFI.out]
    go_wp2_with (refine wpList_append_own_wide _ rfl (.tmp 31) (.tmp 40) 22 rfl gO 2 ti tz 1 8 Tryz.underlying22 HI.out HZ.out HS.out HBt.out HZs.out (by omega) (.slice oa j oc) j _ rfl HR4.out ⟨wr.heap.size, 0, none⟩ 1 1 [Value.int .i64 x] rfl rfl HN.out HO.out (by simp only [maxLen]; omega) (by omega) (by rw [sAl]; have := HSX.out; omega) (fun v' w' h2 h3 h4 => ?_)
                 have hb7:=grown_below HB4.out h3 (fun j e=>(HR4.out.lt j e).1) (by rw [sAl];have:=HSX.out;omega);obtain ⟨ya,yc,rfl⟩:=row_slice h2;have H2:=Lib.hid h2
                 clear h2 h3 h4)
    go_roundw
    case rel=>exact ⟨j+1,ya,yc,by omega,by go_num,rfl,hb7,by rw [HSN.out,HXV.out,List.map_append];exact H2.out⟩
    case measure=>simp [intOf] <;> omega
  · have he:j=N:=(by omega);subst he;have hrow:=HR.out;rw [List.take_of_length_le (Nat.le_of_eq HNL.out)] at hrow;obtain ⟨ra,rc,hre,hV⟩:=OwnV.of_row hrow;simp only [Value.slice.injEq,true_and] at hre;obtain ⟨rfl,rfl⟩:=hre;have hV2:=hV.weaken (lo':=w.heap.size) (by have:=HGO.out;have:=HSZ.out;omega) (Nat.le_refl _);have hbX:=bT' HB.out (by rw [←HGO.out] at hb;exact hb) HSZ.out;go_wp2_with fail
    go_ret
    exact ⟨oa,j,oc,rfl,by rw [HRE.out,HCE.out];exact hV2,hbX⟩
set_option maxHeartbeats 4000000 in
theorem l03Homogeneous_c {w : World} {da : Option Addr} {dn : Nat} {zs : List Int} {a : Option Addr} {n : Nat} {ims : List (List Tm)} {a2 : Option Addr} {n2 : Nat} {fs : List Tm} (cl : Bool) (dc c c2 : Nat) (hd : Ints w da dn zs) (hdn : dn ≤ 1048576) (hF : Frms w a n ims) (hn : n ≤ 1048576) (hL : ∀ im ∈ ims, (im.length : Int) ≤ 1048576) (h : Terms w a2 n2 fs) (hn2 : n2 ≤ 1048576) :
    Calls Tryz.prog 53 #[.agg #[.slice da dn dc,.slice a n c],.agg #[.slice a2 n2 c2],.bool cl] w fun e w'=>e=.returned (.tuple #[.int .i64 (hoN cl zs ims fs),.int .i64 (hoC cl zs ims fs)])∧Below w.heap.size w w':=by
 have HLL:=Lib.hid hL
 have HD:=Lib.hid hd
 have HF:=Lib.hid hF
 have HH:=Lib.hid h
 have HTM:=Lib.hid h.2.1
 have HT:=Lib.hid hF.tm
 have HL2:=Lib.hid h.len
 have HDL:=Lib.hid hd.len
 have hA:=(Own.new w 35 #[.slice da dn dc,.slice a n c]).alloc (.cells #[.slice a2 n2 c2] 39)
 have hG:=Own.new (w.alloc (.cells #[.slice da dn dc,.slice a n c] 35)) 39 #[.slice a2 n2 c2]
 rw [sAl] at hG
 have hb:=bTn (bA1 w (.cells #[.slice da dn dc,.slice a n c] 35)) (bA1 _ (.cells #[.slice a2 n2 c2] 39))
 have c0:=hA.cell 0
 have c1:=hA.cell 1
 have hfld:=field_form
 clear hL hd hF h
 cases hal:isAlg zs ims with
 | false =>
   have HA:=Lib.hid hal;have HC:=Lib.hid (hoC_1 (cl:=cl) (zs:=zs) (ims:=ims) (ts:=fs) (by rw [hal];rfl));clear hal;go_enter Tryz.func53,Tryz.ntmps53
   go_upto_region 1 with fail
   generalize (w.alloc (.cells #[.slice da dn dc,.slice a n c] 35)).alloc (.cells #[.slice a2 n2 c2] 39)=w0 at *;go_wp2_with fail
   refine (l02Is_c dc c (HD.out.keep hb) hdn (HF.out.keep hb) hn HLL.out).mono ?_;rintro e w1 ⟨rfl,hb1⟩;rw [HA.out];have hb2:=bT' hb hb1 hb.size;clear hb hb1 c0 c1;go_wp2_with fail
   go_ret2
   exact ⟨by rw [hoN_no (by rw [HC.out];omega),HC.out];rfl,hb2⟩
 | true =>
   have HA:=Lib.hid hal;have hz:=isAlg_dg hal;have HIF:Hid (isForm zs fs=(listOk zs fs && decide (fs.length≤400))):=Lib.hid (by rw [isForm,hz,Bool.true_and]);have hd8:dn≤8:=(by have:=degsOk_len hz;have:=HDL.out;omega);have HZ:=Lib.hid hz;clear hal hz
   cases hq:(listOk zs fs && decide (fs.length≤400)) with
   | false =>
     have HQ:=Lib.hid hq;have HC:=Lib.hid (hoC_1 (cl:=cl) (zs:=zs) (ims:=ims) (ts:=fs) (by rw [HA.out,HIF.out,hq];rfl));clear hq;go_enter Tryz.func53,Tryz.ntmps53
     go_upto_region 1 with fail
     generalize (w.alloc (.cells #[.slice da dn dc,.slice a n c] 35)).alloc (.cells #[.slice a2 n2 c2] 39)=w0 at *;go_wp2_with fail
     refine (l02Is_c dc c (HD.out.keep hb) hdn (HF.out.keep hb) hn HLL.out).mono ?_;rintro e w1 ⟨rfl,hb1⟩;rw [HA.out];have hA1:=hA.keep hb1 hA.lt;have hG1:=hG.keep hb1 hG.lt;have hb2:=bT' hb hb1 hb.size;clear hA hG hb hb1 c0 c1;have c0:=hA1.cell 0;have cg:=hG1.cell 0;go_wp2_with fail
     refine (l01Is_c dc c2 (HD.out.keep hb2) hdn (HH.out.keep hb2) hn2).mono ?_;rintro e w2 ⟨rfl,hb3⟩;rw [HQ.out];have hb4:=bT' hb2 hb3 hb2.size;clear hb2 hb3 hA1 hG1 c0 cg;go_wp2_with fail
     go_ret2
     exact ⟨by rw [hoN_no (by rw [HC.out];omega),HC.out];rfl,hb4⟩
   | true =>
     have HQ:=Lib.hid hq;have H1:Hid ((isAlg zs ims && isForm zs fs)=true):=Lib.hid (by rw [HA.out,HIF.out,hq];rfl);have hif:isForm zs fs=true:=(by rw [HIF.out,hq]);have HAO:=Lib.hid (isAlg_ok HA.out HT.out);have HK:=Lib.hid (isForm_fit hif);have HFB:=Lib.hid (isForm_f hif);have hn4:n2≤400:=(by have:=isForm_400 hif;have:=HL2.out;omega);have HMI:=Lib.hid (degsOk_mild HZ.out);have HLO:=Lib.hid (headW_lo HZ.out HTM.out);obtain ⟨N,hN⟩:∃N,(diffT zs ims [] fs).length=N:=⟨_,rfl⟩;have HN:=Lib.hid hN;have HCL:=Lib.hid (show closedB zs ims fs=(N==0) by rw [closedB,hN]);clear hq hif hN;go_enter Tryz.func53,Tryz.ntmps53
     go_upto_region 1 with fail
     generalize (w.alloc (.cells #[.slice da dn dc,.slice a n c] 35)).alloc (.cells #[.slice a2 n2 c2] 39)=w0 at *;go_wp2_with fail
     refine (l02Is_c dc c (HD.out.keep hb) hdn (HF.out.keep hb) hn HLL.out).mono ?_;rintro e w1 ⟨rfl,hb1⟩;rw [HA.out];have hA1:=hA.keep hb1 hA.lt;have hG1:=hG.keep hb1 hG.lt;have hb2:=bT' hb hb1 hb.size;clear hA hG hb hb1 c0 c1;have c0:=hA1.cell 0;have cg:=hG1.cell 0;go_wp2_with fail
     refine (l01Is_c dc c2 (HD.out.keep hb2) hdn (HH.out.keep hb2) hn2).mono ?_;rintro e w2 ⟨rfl,hb3⟩;rw [HQ.out];have hA2:=hA1.keep hb3 hA1.lt;have hG2:=hG1.keep hb3 hG1.lt;have hb4:=bT' hb2 hb3 hb2.size;clear hA1 hG1 hb2 hb3 c0 cg;have c0:=hA2.cell 0;have cg:=hG2.cell 0;go_wp2_with fail
     refine (l01Degree_c dc c2 (HD.out.keep hb4) hd8 HMI.out (HH.out.keep hb4) hn2).mono ?_;rintro e w3 ⟨rfl,hb5⟩;have hA3:=hA2.keep hb5 hA2.lt;have hG3:=hG2.keep hb5 hG2.lt;have hb6:=bT' hb4 hb5 hb4.size;clear hA2 hG2 hb4 hb5 c0 cg
     cases hw:allW zs fs with
     | false =>
       have HC:=Lib.hid (hoC_5 (cl:=cl) H1.out (by rw [hw];rfl));go_wp2_with fail
       go_ret2
       exact ⟨by rw [hoN_no (by rw [HC.out];omega),HC.out];rfl,hb6⟩
     | true =>
       obtain ⟨v,hv⟩:∃v,degA zs fs=v:=⟨_,rfl⟩;have hvh:headW zs fs=v:=(by rw [degA,if_pos hw] at hv;exact hv);rw [hv];have HVH:=Lib.hid hvh;have HW:=Lib.hid hw;have hlo:=HLO.out;rw [hvh] at hlo;have HLV:=Lib.hid hlo;clear hw hv hvh hlo
       cases cl with
       | false =>
         have H2:Hid ((allW zs fs && (!false || closedB zs ims fs))=true):=Lib.hid (by rw [HW.out];rfl);by_cases hv2:20<v
         · have HC:=Lib.hid (hoC_2 (cl:=false) H1.out H2.out (by rw [HVH.out];exact hv2));go_wp2_with fail
           go_ret2
           exact ⟨by rw [hoN_no (by rw [HC.out];omega),HC.out];rfl,hb6⟩
         · obtain ⟨H,hH⟩:∃H:Nat,(v+1).toNat=H:=⟨_,rfl⟩;have hw1:IntKind.i64.wrap (v+1)=(H:Int):=(by have:=HLV.out;rw [IntWalk.i64_in _ (by omega)];omega);have hw2:IntKind.i64.wrap (v - 1)=v - 1:=by have:=HLV.out;rw [IntWalk.i64_in _ (by omega)]
           have HMF:Hid (Calls Tryz.prog 81 #[.agg #[.slice da dn dc,.slice a n c],.int .i64 (v - 1),.int .i64 H] w3 fun e w'=>e=.returned (.bool (!many zs (low1 v) (H - low1 v)))∧Below w3.heap.size w3 w'):=Lib.hid (by
            have h1:=HLV.out;refine within3_c dc c (HD.out.keep hb6) HZ.out ?_ (by unfold low1;omega) (by omega);unfold low1;by_cases h3:v - 1<0
            · exact Or.inr ⟨h3,by omega⟩
            · exact Or.inl ⟨h3,by omega⟩)
           have HHH:=Lib.hid hH;have c0:=hA3.cell 0;have c1:=hA3.cell 1;clear hH;cases hm:many zs (low1 v) (H - low1 v)
           all_goals
            have HM:=Lib.hid hm;rw [hm] at HMF;clear hm;go_wp2_with fail
            try rw [hw2]
            refine HMF.out.mono ?_;rintro e w9 ⟨rfl,hb9⟩;have hb10:=bT' hb6 hb9 hb6.size;go_wp2_with fail
            go_ret2
           · have HC:=hoC_0 (cl:=false) H1.out H2.out (by rw [HVH.out];omega) (by rw [HVH.out,HHH.out];exact HM.out);exact ⟨by rw [hoN_yes HC,HC,HVH.out];rfl,hb10⟩
           · have HC:=hoC_3 (cl:=false) H1.out H2.out (by rw [HVH.out];omega) (by rw [HVH.out,HHH.out];exact HM.out);exact ⟨by rw [hoN_no (by rw [HC];omega),HC];rfl,hb10⟩
       | true =>
         have c0:=hA3.cell 0;have c1:=hA3.cell 1;have cg:=hG3.cell 0;go_wp2_with fail
         refine (l02D_c dc c c2 (HD.out.keep hb6) (HF.out.keep hb6) (HH.out.keep hb6) HAO.out HMI.out HK.out HFB.out hn4).mono ?_;rintro e w4 ⟨u,rfl,hU,hb7⟩;obtain ⟨ua,un,uc,rfl⟩:=hU.isSlice
         have hul:un=N:=by
          have h2:=HN.out
          rcases hU.1.2 with ⟨h0,h1⟩ | ⟨g',cap,cur,hv',-⟩
          · simp only [Value.slice.injEq] at h0;omega
          · simp only [Value.slice.injEq] at hv';omega
         subst hul;have hb8:=bT' hb6 hb7 hb6.size;have hA4:=hA3.keep hb7 hA3.lt;have hG4:=hG3.keep hb7 hG3.lt;clear hb6 hb7 hA3 hG3 c0 c1 cg hU;by_cases hN0:un=0
         · subst hN0;have H2:Hid ((allW zs fs && (!true || closedB zs ims fs))=true):=Lib.hid (by rw [HW.out,HCL.out];rfl);by_cases hv2:20<v
           · have HC:=Lib.hid (hoC_2 (cl:=true) H1.out H2.out (by rw [HVH.out];exact hv2));go_wp2_with fail
             go_ret2
             exact ⟨by rw [hoN_no (by rw [HC.out];omega),HC.out];rfl,hb8⟩
           · obtain ⟨H,hH⟩:∃H:Nat,(v+1).toNat=H:=⟨_,rfl⟩;have hw1:IntKind.i64.wrap (v+1)=(H:Int):=(by have:=HLV.out;rw [IntWalk.i64_in _ (by omega)];omega);have hw2:IntKind.i64.wrap (v - 1)=v - 1:=by have:=HLV.out;rw [IntWalk.i64_in _ (by omega)]
             have HMF:Hid (Calls Tryz.prog 81 #[.agg #[.slice da dn dc,.slice a n c],.int .i64 (v - 1),.int .i64 H] w4 fun e w'=>e=.returned (.bool (!many zs (low1 v) (H - low1 v)))∧Below w4.heap.size w4 w'):=Lib.hid (by
              have h1:=HLV.out;refine within3_c dc c (HD.out.keep hb8) HZ.out ?_ (by unfold low1;omega) (by omega);unfold low1;by_cases h3:v - 1<0
              · exact Or.inr ⟨h3,by omega⟩
              · exact Or.inl ⟨h3,by omega⟩)
             have HHH:=Lib.hid hH;have c0:=hA4.cell 0;have c1:=hA4.cell 1;clear hH;cases hm:many zs (low1 v) (H - low1 v)
             all_goals
              have HM:=Lib.hid hm;rw [hm] at HMF;clear hm;go_wp2_with fail
              try rw [hw2]
              refine HMF.out.mono ?_;rintro e w9 ⟨rfl,hb9⟩;have hb10:=bT' hb8 hb9 hb8.size;go_wp2_with fail
              go_ret2
             · have HC:=hoC_0 (cl:=true) H1.out H2.out (by rw [HVH.out];omega) (by rw [HVH.out,HHH.out];exact HM.out);exact ⟨by rw [hoN_yes HC,HC,HVH.out];rfl,hb10⟩
             · have HC:=hoC_3 (cl:=true) H1.out H2.out (by rw [HVH.out];omega) (by rw [HVH.out,HHH.out];exact HM.out);exact ⟨by rw [hoN_no (by rw [HC];omega),HC];rfl,hb10⟩
         · have hN1:(0:Int)<(un:Int):=(by omega);have HC:=Lib.hid (hoC_5 (cl:=true) H1.out (by rw [HW.out,HCL.out];simpa using hN0));go_wp2_with fail
           go_ret2
           exact ⟨by rw [hoN_no (by rw [HC.out];omega),HC.out];rfl,hb8⟩
set_option maxHeartbeats 4000000 in
theorem ClassOf_s {w : World} {da : Option Addr} {dn : Nat} {zs : List Int} {a : Option Addr} {n : Nat} {ims : List (List Tm)} {a2 : Option Addr} {n2 : Nat} {fs : List Tm} (dc c c2 : Nat) (hd : Ints w da dn zs) (hdn : dn ≤ 1048576) (hF : Frms w a n ims) (hn : n ≤ 1048576) (hL : ∀ im ∈ ims, (im.length : Int) ≤ 1048576) (h : Terms w a2 n2 fs) (hn2 : n2 ≤ 1048576) :
    Calls Tryz.prog 14 #[.agg #[.slice da dn dc,.slice a n c],.agg #[.slice a2 n2 c2]] w fun e w'=>∃ra rn rc,e=.returned (.tuple #[.slice ra rn rc,.int .i64 (hoC true zs ims fs)])∧OwnV w' w.heap.size w'.heap.size ra rn (coV zs ims fs)∧Below w.heap.size w w':=by
 have HLL:=Lib.hid hL
 have HD:=Lib.hid hd
 have HF:=Lib.hid hF
 have HH:=Lib.hid h
 have HTM:=Lib.hid h.2.1
 have HT:=Lib.hid hF.tm
 have hO:=(Own.new w 35 #[.slice da dn dc,.slice a n c]).alloc (.cells #[.slice a2 n2 c2] 39)
 have hG:=Own.new (w.alloc (.cells #[.slice da dn dc,.slice a n c] 35)) 39 #[.slice a2 n2 c2]
 rw [sAl] at hG
 have hb:=bTn (bA1 w (.cells #[.slice da dn dc,.slice a n c] 35)) (bA1 _ (.cells #[.slice a2 n2 c2] 39))
 have c0:=hO.cell 0
 have c1:=hO.cell 1
 have cg:=hG.cell 0
 clear hL hd hF h
 go_enter Tryz.func14,Tryz.ntmps14
 go_upto_region 1 with fail
 generalize (w.alloc (.cells #[.slice da dn dc,.slice a n c] 35)).alloc (.cells #[.slice a2 n2 c2] 39)=w0 at *
 go_wp2_with fail
 refine (l03Homogeneous_c true dc c c2 (HD.out.keep hb) hdn (HF.out.keep hb) hn HLL.out (HH.out.keep hb) hn2).mono ?_
 rintro e w1 ⟨rfl,hbX⟩
 have hs:=hb.size
 replace hO:=hO.keep hbX hO.lt
 replace hG:=hG.keep hbX hG.lt
 replace hb:=bT' hb hbX hs
 replace hs:=hb.size
 clear hbX c0 c1 cg
 by_cases hc0:hoC true zs ims fs=0
 · rw [hoN_yes hc0];obtain ⟨v,hv⟩:∃v,headW zs fs=v:=⟨_,rfl⟩;obtain ⟨hA,hf,hcase⟩:=ho_facts hc0 HTM.out;have hz:=isAlg_dg hA;have HAO:=isAlg_ok hA HT.out;have HC0:=Lib.hid hc0;rw [hc0,hv];clear hc0
   rcases hcase with ⟨h1,h2,h3⟩ | ⟨m,h2,h3,h4,h5,h6,h7⟩
   · obtain rfl:v=-1:=(by omega);have HV:=Lib.hid (coV_neg (zs:=zs) (ims:=ims) (ts:=fs) (by omega));clear h1 h2 h3 hv hA hf hz HAO;go_wp2_with fail
     go_ret2
     exact ⟨some ⟨w1.heap.size,0,none⟩,0,0,by rw [HC0.out];rfl,by rw [HV.out];exact ⟨rfl,fun h=>absurd h (by omega)⟩,bT' hb (bA1 w1 _) hs⟩
   · obtain rfl:v=(m:Int):=(by omega);have HV:=Lib.hid (coV_yes HC0.out h2);have hm0:¬(m:Int)<0:=(by omega);have c0:=hO.cell 0;have c1:=hO.cell 1;have cg:=hG.cell 0;have HHf:=Lib.hid hf;have HHA:=Lib.hid hA;have HHZ:=Lib.hid hz;have HHO:=Lib.hid HAO;have H3:=Lib.hid h3;have H4:=Lib.hid h4;have H5:=Lib.hid h5;have H6:=Lib.hid h6;have H7:=Lib.hid h7;clear hf hA hz HAO h2 h3 h4 h5 h6 h7 hv;go_wp2_with fail
     refine (l03Class_c (m:=m) dc c c2 (HD.out.keep hb) (HF.out.keep hb) (HH.out.keep hb) hn2 HHO.out HHA.out HHf.out HHZ.out H3.out H4.out H5.out H6.out H7.out).mono ?_;rintro e w2 ⟨ra,rn,rc,rfl,hV,hbX⟩;have hV2:=hV.weaken hs (Nat.le_refl _);replace hb:=bT' hb hbX hs;clear hV hbX hO hG c0 c1 cg;go_wp2_with fail
     go_ret2
     exact ⟨ra,rn,rc,by rw [HC0.out];rfl,by rw [HV.out];exact hV2,hb⟩
 · have hcb:(hoC true zs ims fs != 0)=true:=(by simpa using hc0);rw [hoN_no hc0];have HC:=Lib.hid hc0;obtain ⟨q,hq⟩:∃q,hoC true zs ims fs=q:=⟨_,rfl⟩;rw [hq] at hcb hc0 ⊢;have HQ:=Lib.hid hq;clear hq;go_wp2_with fail
   go_ret2
   exact ⟨none,0,0,by rw [HQ.out];rfl,by rw [coV_no HC.out];exact OwnV.none_,hb⟩
open Go.RowKit Go.Deep Go.ChangeShapes Go.WideShapes
section
variable {H:Type} {enc:TypeId × Value→H} {w:World} {spare:Nat→Bool} {held:Bool}
theorem form_len {t u : TypeId} {a : Option Addr} {n c : Nat} {d : DataW H} {p : List MemPlace} {fd : Field} (ht : Tryz.prog.underlying t = some (.struct #[fd])) (hfd : fd.type = u) (hof : fd.offset = 0) (hCu : Tryz.prog.cellsOf u = 1)
    (hu:Tryz.prog.underlying u=some (.slice 161)) (h:DataW.Trod enc Tryz.prog w 0 spare held t (.agg #[.slice a n c]) d p):(n:Int)≤9223372036854775807:=by
 obtain ⟨fuel,hf⟩:=h
 obtain ⟨xs,k,_,_,hlen,hxl,hx⟩:=DataW.trod_struct ht hf
 have h0:=hx 0 fd rfl
 rw [hfd,hof,hCu,List.drop_zero,List.getElem?_eq_getElem (by rw [hxl];simp)] at h0
 simp only [Value.cells] at h0
 rcases open_slice hu h0 with ⟨hcs,_⟩ | ⟨x,l,c',m,k,D,Pl,hcs,_,hl,hm,hmm,_,hx⟩
 · simp at hcs;omega
 · simp at hcs
   have:(maxLen:Int)≤9223372036854775807:=(by decide);omega
end
open Go.RowKit Go.Deep
theorem eqIntsV_c {w : World} {lo hi lo' hi' n : Nat} {a a' : Option Addr} {V : List Int} (c c' : Nat) (h : OwnV w lo hi a n V) (h' : OwnV w lo' hi' a' n V) (hn : n ≤ 1048576) :
    Calls Tryz.prog 18 #[.slice a n c,.slice a' n c'] w fun e w'=>e=.returned (.bool true)∧Below w.heap.size w w':=by
 refine (eqInt64S_c c c' h.ints h'.ints hn hn).mono ?_
 rintro e w' ⟨rfl,m,rfl⟩
 exact ⟨by rw [decide_eq_true rfl],below_drewN (Below.refl _ _) m⟩
def MarkedI (w:World) (a:Option Addr) (n:Nat) (K:Int):Prop:=n=0∨∃g cs,a=some ⟨g,0,none⟩∧Own w g 2 (markA (mkI K) cs n)∧n≤cs.size
theorem MarkedI.keep {w w':World} {a:Option Addr} {n:Nat} {K:Int} (h:MarkedI w a n K) (hb:Below w.heap.size w w'):MarkedI w' a n K:=by
 rcases h with h | ⟨g,cs,h1,h2,h3⟩
 · exact Or.inl h
 · exact Or.inr ⟨g,cs,h1,h2.keep hb h2.lt,h3⟩
theorem markI0v_c {w:World} (a:Option Addr) (c:Nat) (K:Int):Calls Tryz.prog 23 #[.slice a 0 c,.int .i64 K] w fun e w'=>e=.returned (.int .i64 K)∧Below w.heap.size w w':=by
 go_enter Tryz.func23,Tryz.ntmps23
 go_wp2
 go_loopw [5,1] (fun i v wr=>i=.int .i64 0∧v=.int .i64 K∧wr=w) (fun _ _ _=>0)
 case atStart=>exact ⟨rfl,rfl,rfl⟩
 case round=>
  obtain ⟨rfl,rfl,rfl⟩:=hrel
  go_wp2
  go_ret
  exact ⟨rfl,Below.refl _ _⟩
theorem heldI0v_c {w:World} (a:Option Addr) (c:Nat) (K:Int):Calls Tryz.prog 24 #[.slice a 0 c,.int .i64 K] w fun e w'=>e=.returned (.int .i64 K)∧Below w.heap.size w w':=by
 go_enter Tryz.func24,Tryz.ntmps24
 go_wp2
 go_loopw [5,1] (fun i v wr=>i=.int .i64 0∧v=.int .i64 K∧wr=w) (fun _ _ _=>0)
 case atStart=>exact ⟨rfl,rfl,rfl⟩
 case round=>
  obtain ⟨rfl,rfl,rfl⟩:=hrel
  go_wp2
  go_ret
  exact ⟨rfl,Below.refl _ _⟩
theorem markIntsV_c {w : World} {lo hi n : Nat} {a : Option Addr} {V : List Int} {K : Int} (c : Nat) (h : OwnV w lo hi a n V) (hn : n ≤ 1048576) (hK : 0 ≤ K) (hK2 : K ≤ 10000000) :
    Calls Tryz.prog 23 #[.slice a n c,.int .i64 K] w fun e w'=>e=.returned (.int .i64 (K+(n:Nat)))∧MarkedI w' a n K∧Touch (fun k=>lo≤k∧k<hi) w w':=by
 by_cases h0:n=0
 · subst h0;refine (markI0v_c a c K).mono ?_;rintro e w' ⟨rfl,hb⟩;exact ⟨ret_i (by simp),Or.inl rfl,Touch.of_below hb⟩
 · obtain ⟨g,cs,rfl,h2,h3,h4,h5,h6⟩:=h.2 (by omega);refine (markInt64S_c c h4 h5 (fun _=>rfl) hn hK (by omega)).mono ?_;rintro e w' ⟨rfl,hO,hT⟩;exact ⟨rfl,Or.inr ⟨g,cs,rfl,hO,h5⟩,(Touch.of_only hT).mono (fun k e=>by omega)⟩
theorem heldIntsV_c {w : World} {n : Nat} {a : Option Addr} {K : Int} (c : Nat) (h : MarkedI w a n K) (hn : n ≤ 1048576) (hK : 0 ≤ K) (hK2 : K ≤ 10000000) :
    Calls Tryz.prog 24 #[.slice a n c,.int .i64 K] w fun e w'=>e=.returned (.int .i64 (K+(n:Nat)))∧Below w.heap.size w w':=by
 rcases h with rfl | ⟨g,cs,rfl,h1,h2⟩
 · refine (heldI0v_c a c K).mono ?_;rintro e w' ⟨rfl,hb⟩;exact ⟨ret_i (by simp),hb⟩
 · exact heldInt64S_c c h1 h2 (fun _=>rfl) hn hK (by omega)
end Go.Proofs.YtifcfoijcodjbaaGreat
