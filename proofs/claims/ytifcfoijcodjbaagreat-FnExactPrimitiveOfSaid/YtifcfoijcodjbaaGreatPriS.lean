
import Derived.Test.YtifcfoijcodjbaaGreatPriP
import Derived.Test.YtifcfoijcodjbaaGreatByK
import Derived.Test.YtifcfoijcodjbaaGreatFmS
namespace Go.Proofs.YtifcfoijcodjbaaGreat
set_option maxRecDepth 100000
open Go.RowKit Go.Deep
theorem row_full {w:World} {B g n:Nat} {t:TypeId} {xs:List Value} (h:Own w g t xs.toArray) (hB:B≤g) (hn:xs.length=n) (hm:n≤1000):w.ownsRow B t 1 (.slice (some ⟨g,0,none⟩) n n) n xs:=
 ⟨by rw [hn,Nat.mul_one],Or.inr ⟨g,n,xs.toArray,rfl,hB,h,Nat.le_refl _,by simp [maxLen];omega,by simp [hn],by simp [←hn]⟩⟩
theorem zeroR_fstP (R:List Int):zeroR R=decide (fstI R<0):=by
 rw [zeroR,fstI]
 split
 · rename_i h;rw [decide_eq_true h,decide_eq_false (by omega)];rfl
 · rename_i h;rw [decide_eq_false h,decide_eq_true (by omega)];rfl
theorem zeroR_pos {W:Nat} {R:List Int} (h:zeroR R=false) (hW:R.length=W):0<W:=by
 rw [zeroR] at h
 simp only [Bool.not_eq_eq_eq_not,Bool.not_false,decide_eq_true_eq] at h
 omega
def pmB (zs:List Int) (ims:List (List Tm)) (ts:List Tm) (m:Nat):List Tm:=if zeroR (byR (rowT (side zs m) ts) (bdR zs ims m))=true then pmR zs ims ts m else []
set_option maxHeartbeats 8000000 in
theorem l03Primitive_c {w : World} {da : Option Addr} {dn : Nat} {zs : List Int} {a : Option Addr} {kA : Nat} {ims : List (List Tm)} {m q : Nat} {fa : Option Addr} {fn : Nat} {fs : List Tm} (dc c fc : Nat) (hd : Ints w da dn zs) (hF : Frms w a kA ims) (hT : Terms w fa fn fs) (hfn : fn ≤ 1048576) (HA : AlgOk zs ims) (hA : isAlg zs ims = true) (hf : isForm zs fs = true) (hz : degsOk zs = true) (hq : q + 1 = m) (hm : m ≤ 20) (hc1 : cnt zs m ≤ 120) (hc2 : cnt zs q ≤ 120) (hmem : ∀ t ∈ fs, t.m ∈ side zs m) (hne : ¬ fs = []) :
    Calls Tryz.prog 66 #[.agg #[.slice da dn dc,.slice a kA c],.int .i64 m,.agg #[.slice fa fn fc]] w fun e w'=>∃v,e=.returned (.tuple #[.agg #[v],.bool (zeroR (byR (rowT (side zs m) fs) (bdR zs ims m)))])∧OwnR w' w.heap.size v (pmB zs ims fs m)∧Below w.heap.size w w':=by
 obtain ⟨tiR,tzR,htiR,htzR,htsR,htbR,htzsR⟩:=Tryz.info_intsA
 have HIR:=Lib.hid htiR
 have HZR:=Lib.hid htzR
 have HSR:=Lib.hid htsR
 have HBtR:=Lib.hid htbR
 have HZsR:=Lib.hid htzsR
 obtain ⟨i0,hi0,hz0,hs0,hby0⟩:=Tryz.info_zero
 have HI0:=Lib.hid (And.intro hi0 (And.intro hz0 (And.intro hs0 hby0)))
 have HD:=Lib.hid hd
 have HF:=Lib.hid hF
 have HT:=Lib.hid hT
 have HC1:=Lib.hid hc1
 have HC2:=Lib.hid hc2
 have HME:=Lib.hid hmem
 have HSRT:=Lib.hid (isForm_srt hf)
 have HRO:Hid (RowOk (cnt zs m) (rowT (side zs m) fs)):=Lib.hid (by have:=rowT_ok (V:=side zs m) (isForm_f hf);rwa [side_len] at this)
 have HNZ:=Lib.hid (zeroR_low (isForm_f hf) hmem hne)
 have hL0:=lgR_red HA hz m
 have hlg:lgR zs ims m=redR (longR (mrR zs ims q)):=by rw [lgR,if_neg (by omega),show m - 1=q by omega]
 have hnb:nbR zs m=cnt zs q:=by rw [nbR,if_neg (by omega),show m - 1=q by omega]
 have hlo:loS zs m=side zs q:=by rw [loS,if_neg (by omega),show m - 1=q by omega]
 have hbd:=bndR_lg HA hz (ims:=ims) m
 rw [hlg,hnb] at hL0
 rw [hlg] at hbd
 have HRED:=Lib.hid hL0
 have HBD:=Lib.hid hbd
 have HPR:Hid (pmR zs ims fs m=fmR (side zs q) (sumL (cnt zs q) (cnt zs m) (rowT (side zs m) fs) (redR (longR (mrR zs ims q))))):=Lib.hid (by rw [pmR,hlo,hnb,hlg,sumL,priR_len,hbd])
 have HMO:Hid (∀r∈mrR zs ims q,RowOk (cnt zs m) r):=Lib.hid (by have:=row_ok HA hz q (ims:=ims);rw [hq] at this;rw [mrR,hq];exact this)
 have HML:=Lib.hid (mrR_len zs ims q)
 have hclo:clR zs ims q=cloR (cnt zs m) (redR (longR (mrR zs ims q))):=by rw [clR,hq]
 have HCLO:=Lib.hid hclo
 have HM1:Hid ((m:Int) - 1=(q:Int)):=Lib.hid (by omega)
 have HMW:Hid (IntKind.i64.wrap ((m:Int) - 1)=(q:Int)):=Lib.hid (by rw [IntWalk.i64_in _ (by omega)];omega)
 have HQ:=Lib.hid hq
 have hq20:q≤20:=by omega
 have hO:=((Own.new w 35 #[.slice da dn dc,.slice a kA c]).alloc (.cells #[.slice fa fn fc] 39)).alloc (.cells #[.slice none 0 0] 39)
 have hG:=(Own.new (w.alloc (.cells #[.slice da dn dc,.slice a kA c] 35)) 39 #[.slice fa fn fc]).alloc (.cells #[.slice none 0 0] 39)
 have hX:=Own.new ((w.alloc (.cells #[.slice da dn dc,.slice a kA c] 35)).alloc (.cells #[.slice fa fn fc] 39)) 39 #[.slice none 0 0]
 simp only [sAl] at hG hX
 have hb:=bTn (bTn (bA1 w (.cells #[.slice da dn dc,.slice a kA c] 35)) (bA1 _ (.cells #[.slice fa fn fc] 39))) (bA1 _ (.cells #[.slice none 0 0] 39))
 clear htiR htzR htsR htbR htzsR hi0 hz0 hs0 hby0 hd hF hT hc1 hc2 hmem hL0 hlg hnb hlo hbd hclo hq hne
 go_enter Tryz.func66,Tryz.ntmps66
 go_upto_region 1 with fail
 generalize ((w.alloc (.cells #[.slice da dn dc,.slice a kA c] 35)).alloc (.cells #[.slice fa fn fc] 39)).alloc (.cells #[.slice none 0 0] 39)=w1 at *
 obtain ⟨gX,hgX⟩:∃gX,w.heap.size+1+1=gX:=⟨_,rfl⟩
 rw [hgX] at hX
 try rw [hgX]
 have hgx1:w.heap.size≤gX:=by omega
 clear hgX
 replace hO:Own w1.drew w.heap.size 35 #[.slice da dn dc,.slice a kA c]:=hO
 replace hG:Own w1.drew (w.heap.size+1) 39 #[.slice fa fn fc]:=hG
 replace hX:Own w1.drew gX 39 #[.slice none 0 0]:=hX
 replace hb:Below w.heap.size w w1.drew:=hb.drew
 have hs:=hb.size
 refine wp_region_held_drew (S:=(fun w'=>w'.cell? ⟨w.heap.size,0,none⟩=some (.slice da dn dc))) (by kernel_rfl) ?_ (fun _=>?_)
 · ((try dsimp only);(exact hO.cell 0))
 generalize w1.drew=W0 at *
 refine hdT 0 ?_
 refine hdT 1 ?_
 refine hdT 2 ?_
 refine hdT 3 ?_
 refine hdT 5 ?_
 refine hdT 6 ?_
 refine hdT 7 ?_
 refine hdC 4 (fun K hK=>?_)
 (go_simp;(go_at_call 109;(try rw [HMW.out]);(try rw [HM1.out]);refine (l01Mons_m (m:=q) dc (HD.out.keep hb) hz (by omega) HC2.out).mono ?_;rintro e W1 ⟨la,lc,rfl,hMq,hbX⟩);go_wp2_with fail)
 replace hO:=hO.keep hbX hO.lt
 replace hG:=hG.keep hbX hG.lt
 replace hX:=hX.keep hbX hX.lt
 replace hb:=bT' hb hbX hs
 replace hs:=hb.size
 clear hbX
 refine hK.out _ _ ?_ (fun _=>?_)
 · ((try dsimp only);(exact hO.cell 0))
 clear hK K
 (try simp only [Act.put,pA,pB,pC])
 refine hdC 8 (fun K hK=>?_)
 (go_simp;(go_at_call 109;refine (l01Mons_m (m:=m) dc (HD.out.keep hb) hz (by omega) HC1.out).mono ?_;rintro e W2 ⟨lb,ld,rfl,hMm,hbX⟩);go_wp2_with fail)
 replace hMq:=hMq.keep hbX
 replace hO:=hO.keep hbX hO.lt
 replace hG:=hG.keep hbX hG.lt
 replace hX:=hX.keep hbX hX.lt
 replace hb:=bT' hb hbX hs
 replace hs:=hb.size
 clear hbX
 refine hK.out _ _ ?_ (fun _=>?_)
 · ((try dsimp only);(exact hO.cell 0))
 clear hK K
 (try simp only [Act.put,pA,pB,pC])
 refine hdT 9 ?_
 refine hdT 10 ?_
 refine wpAnyH_done (by kernel_rfl) ?_ _
 have c0:=hO.cell 0
 have c1:=hO.cell 1
 go_wp2_with fail
 (try rw [HMW.out])
 (try rw [HM1.out])
 refine (l03Matrix_c (m:=q) dc c (HD.out.keep hb) (HF.out.keep hb) HA hA hz (degs_one hz) hq20 HC2.out (by rw [HQ.out];exact HC1.out)).mono ?_
 rintro e w3 ⟨ra,rc,rfl,hT0,hbX⟩
 have hT:Tab w3 ra (cnt zs q) (mrR zs ims q):=hT0.tab
 replace hMq:=hMq.keep hbX
 replace hMm:=hMm.keep hbX
 replace hO:=hO.keep hbX hO.lt
 replace hG:=hG.keep hbX hG.lt
 replace hX:=hX.keep hbX hX.lt
 replace hb:=bT' hb hbX hs
 replace hs:=hb.size
 clear hbX hT0 c0 c1
 obtain ⟨W,hW⟩:∃W,cnt zs m=W:=⟨_,rfl⟩
 obtain ⟨N,hN⟩:∃N,cnt zs q=N:=⟨_,rfl⟩
 obtain ⟨M,hM⟩:∃M,mrR zs ims q=M:=⟨_,rfl⟩
 obtain ⟨r0,hr0⟩:∃r0,rowT (side zs m) fs=r0:=⟨_,rfl⟩
 rw [hW] at hMm HRO HRED HBD HPR HMO HCLO
 rw [hN] at hMq hT HRED HPR HML
 rw [hM] at hT HRED HBD HPR HMO HML HCLO
 rw [hr0] at HRO HPR HNZ
 try rw [hW]
 try rw [hN]
 have hWl:W≤120:=by rw [←hW];exact HC1.out
 have hNl:N≤120:=by rw [←hN];exact HC2.out
 have HWE:=Lib.hid hW
 have HNE:=Lib.hid hN
 have HRE:=Lib.hid hr0
 have HT3:=Lib.hid hT
 have HO3:=Lib.hid hO
 have HG3:=Lib.hid hG
 have HX3:=Lib.hid hX
 have HQ3:=Lib.hid hMq
 have HM3:=Lib.hid hMm
 have HB3:=Lib.hid hb
 have HS3:=Lib.hid hs
 clear hW hN hM hr0 hT hO hG hX hMq hMm hb hs
 have hb0:=bA1 w3 (.cells #[] 22)
 have hR0:=empty_rowG w3 22 (Nat.le_refl w3.heap.size)
 go_upto_region 3 with fail
 generalize w3.alloc (.cells #[] 22)=w4 at *
 obtain ⟨gO,hgO⟩:∃gO,w3.heap.size=gO:=⟨_,rfl⟩
 rw [hgO] at hR0 hb0
 try rw [hgO]
 have HGO:=Lib.hid hgO
 clear hgO
 have HW0:Hid (RwO w4 gO [] ((longR M).take 0)):=Lib.hid (by rw [List.take_zero];exact RwO.nil _ _)
 go_upto_region 4 with fail
 go_loopw [12,13] (fun l y wr=>∃(k:Nat) (la:Option Addr) (lc:Nat) (vs:List Value),k≤N∧y=.int .i64 k∧l=.slice la k lc∧Below gO w3 wr∧wr.ownsRow gO 22 1 (.slice la k lc) k vs∧Hid (RwO wr gO vs ((longR M).take k))) (fun _ y _=>N - (intOf y).toNat)
 case atStart=>exact ⟨0,_,_,[],Nat.zero_le _,rfl,rfl,hb0,hR0,HW0⟩
 case round=>
  clear hb0 hR0 HW0;obtain ⟨k,xa,xc,vs,hk,rfl,rfl,hb,hR,HW⟩:=hrel;have HR:=Lib.hid hR;clear hR;have hk0:(0:Int)≤(k:Int):=(by omega);by_cases hin:k<N
  · obtain ⟨b1,off,s,ai,mi,ci,rfl,hbl,hcs,hIs,hx⟩:=(HT3.out.keep (by rw [HGO.out];exact hb)).at_ hin;have hsk:=HMO.out s (List.mem_of_getElem? hx.out);obtain rfl:W=mi:=(by have:=hIs.len;have:=hsk.len;omega);have HLT:=Lib.hid (longR_take hx.out);have hkn:(k:Int)<(N:Int):=(by omega);have hsz:gO≤wr.heap.size:=(by have:=hb.size;have:=HGO.out;omega);have HSL:=Lib.hid hsk.len;have hwk:IntKind.i64.wrap ((W:Int)+(k:Int))=((W+k:Nat):Int):=(by rw [IntWalk.i64_in _ (by omega)];omega);obtain ⟨v1,w1,g,c2,w2',hr1,hr2,hg1,hg2,ho2,hb2⟩:=long_row hsz ci N hIs (by omega) (by omega) (by omega) 22 22;have HR1:=Lib.hid hr1;have HR2:=Lib.hid hr2
    have hcv:w2'.cell? ⟨g,W+k,none⟩=some (.int .i64 0):=by
     rw [ho2.cellAt (W+k) (by omega),List.getElem?_map,List.getElem?_append_right (by rw [HSL.out];omega),HSL.out,List.getElem?_replicate,if_pos (by omega)];rfl
    have hfz:=ho2.frozenAt (W+k);have hb3:=hb2.setCell (p:=⟨g,W+k,none⟩) (by dsimp only;omega) (.int .i64 1);have hst:=(ho2.stored (W+k) (.int .i64 1)).1;rw [←List.map_set,unit_set HSL.out] at hst;have HR3:=row_keep HR.out hb3;have HW3:=HW.out.keep hb3;have hsz3:=hb3.size;have hbw3:=bT' hb hb3 hsz;have hss:(w2'.setCell ⟨g,W+k,none⟩ (.int .i64 1)).heap.size=w2'.heap.size:=(by simp);have hnw:=news1k (w2'.setCell ⟨g,W+k,none⟩ (.int .i64 1)) (Value.slice (some ⟨g,0,none⟩) (W+N) c2) 22;rw [hss] at hnw;have HN:=Lib.hid hnw;have HO:=Lib.hid (show ∀u∈([Value.slice (some ⟨g,0,none⟩) (W+N) c2]:List Value),u.oneCell'=true by simp [Value.oneCell']);have hba:=bA1 (w2'.setCell ⟨g,W+k,none⟩ (.int .i64 1)) (.cells #[.slice (some ⟨g,0,none⟩) (W+N) c2] 22);have HR4:=Lib.hid (HR3.alloc (.cells #[.slice (some ⟨g,0,none⟩) (W+N) c2] 22));have HW4:=Lib.hid ((HW3.snoc (t:=s++unitR N k) (by rw [List.length_append,HSL.out,unitR_len];exact hst)).keep hba);have HB4:=Lib.hid (bT' hbw3 hba (Nat.le_trans hsz hsz3));have HSZ:=Lib.hid (Nat.le_trans hsz hsz3);have HLT2:Hid ((longR M).take (k+1)=(longR M).take k++[s++unitR N k]):=Lib.hid (by rw [HLT.out,HML.out]);clear hnw hss hx hsk hr1 hr2 ho2 hb hb2 HR HW hb3 hst hbw3 hba HR3 HW3 hg1 hg2 hsz hsz3 hIs
    go_wp2_with (first
     | refine Lib.wpList_append_run _ rfl (.tmp 39) (.tmp 43) 22 22 rfl _ _ rfl rfl _ _ HR1.out ?_
     | refine Lib.wpList_append_run _ rfl (.tmp 44) (.tmp 46) 22 3 rfl _ _ rfl rfl _ _ HR2.out ?_
     | (refine wpList_append_own_wide _ rfl (.tmp 53) (.tmp 55) 68 rfl gO 22 tiR tzR 1 24 Tryz.underlying68 HIR.out HZR.out HSR.out HBtR.out HZsR.out (by omega) (.slice xa k xc) k vs rfl HR4.out ⟨w2'.heap.size, 0, none⟩ 1 1 [Value.slice (some ⟨g, 0, none⟩) (W + N) c2] rfl rfl HN.out HO.out (by simp only [maxLen]; omega) (by omega) (by rw [sAl]; have := HSZ.out; omega) (fun v' w' h2 h3 h4 => ?_)
        have hb5:=grown_below HB4.out h3 (fun j e=>(HR4.out.lt j e).1) (by rw [sAl];have:=HSZ.out;omega);have HW5:=Lib.hid (HW4.out.grown HR4.out (by decide) h3);obtain ⟨ya,yc,rfl⟩:=row_slice h2;have H2:=Lib.hid h2
        clear h2 h3 h4))
    go_roundw
    case rel=>exact ⟨k+1,ya,yc,_,by omega,by go_num,rfl,hb5,H2.out,by rw [HLT2.out];exact HW5⟩
    case measure=>simp [intOf] <;> omega
  · have he:k=N:=(by omega);subst he;have hW1:=HW.out;rw [List.take_of_length_le (by rw [longR_len,HML.out];exact Nat.le_refl _)] at hW1;obtain ⟨ta,tc,hte,hTT⟩:=hW1.tab HR.out;simp only [Value.slice.injEq,true_and] at hte;obtain ⟨rfl,rfl⟩:=hte;have HLK:Hid (∀r∈longR M,RowOk (W+k) r):=Lib.hid (by have:=longR_ok HMO.out;rwa [HML.out] at this);have hrl:=redR_le (longR M);rw [longR_len,HML.out] at hrl;have hbw:Below w3.heap.size w3 wr:=(by rw [HGO.out];exact hb);have hs9:=hbw.size;have hG:=HG3.out.keep hbw HG3.out.lt;have hb9:=bT' HB3.out hbw HS3.out;have hs:=hb9.size;have hMm:=HM3.out.keep hbw;have cg:=hG.cell 0;have HTT:=Lib.hid hTT;have HBW:=Lib.hid hbw;have HRL:=Lib.hid hrl;clear hW1 HW HR hb hTT hbw hG hrl hs9;go_wp2_with fail
    refine (vector3_c ld fc hMm (ext_ord _ _) (by omega) (HT.out.keep hb9) hfn HSRT.out HME.out).mono ?_;rintro e w5 ⟨gv,rfl,hgv,hV,hbX⟩;rw [HRE.out] at hV;have hlen:(r0.map (Value.int .i64)).length=W:=(by rw [List.length_map,HRO.out.len]);obtain ⟨v2,w6,hr2,ho2,hg2⟩:=run_append_zeros (P:=Tryz.prog) w5 wr.heap.size 22 3 22 2 i0 _ (.int .i64 0) .i64 .i64 Tryz.underlying22 Tryz.underlying3 HI0.out.1 HI0.out.2.1 HI0.out.2.2.1 HI0.out.2.2.2 (by rfl) (by rfl) (.slice (some ⟨gv,0,none⟩) W W) W (r0.map (Value.int .i64)) (row_full hV hgv hlen (by omega)) k (by omega) hbX.size;have hb6:=grown_below hbX hg2 (fun q e=>by have:gv=q:=(by simpa [Value.ownBlock] using e);omega) hbX.size;rw [show List.replicate k (Value.int .i64 0)=(List.replicate k (0:Int)).map (Value.int .i64) by simp,←List.map_append] at ho2;have hl2:(r0++List.replicate k (0:Int)).length=W+k:=(by rw [List.length_append,List.length_replicate,HRO.out.len]);obtain ⟨va,vc,rfl,hIV⟩:=ints_row ho2 hl2;have HVC:=Lib.hid (row_cap ho2);have HR2:=Lib.hid hr2;have HIV:=Lib.hid hIV;have hTT6:=HTT.out.keep hb6;have hb10:=bT' hb9 hb6 hs;have hs10:=hb10.size;have HBW6:=Lib.hid (bT' HBW.out hb6 HBW.out.size);clear hV hbX hr2 ho2 hg2 hIV hb6 hb9 hMm cg hlen hl2 hs HBW HTT;go_wp2_with (refine Lib.wpList_append_run _ rfl (.tmp 59) (.tmp 61) 22 3 rfl _ _ rfl rfl _ _ HR2.out ?_)
    refine (l03Reduce_c (m:=W+k) xc hTT6 (by omega) (by omega) HLK.out).mono ?_;rintro e w7 ⟨b',N',c',rfl,hL2,hbX⟩;have hIV7:=HIV.out.keep hbX;have hTL:=hL2.1;have hN':N'≤k:=(by have:=hTL.1;have:=HRL.out;omega);have hb11:=bT' hb10 hbX hs10;have HBW7:=Lib.hid (bT' HBW6.out hbX HBW6.out.size);clear hL2 hTT6 hb10 hs10 hbX HIV HBW6;go_wp2_with fail
    refine (l03By_k vc c' hIV7 hTL (by omega) (by omega) (HRO.out.app (rep_ok k)) (fun t ht=>⟨HRED.out.ok t ht,HRED.out.fst t ht⟩) HVC.out).mono ?_;rintro e w8 ⟨ea,ec,rfl,hI8,hec,hbX⟩;have hb12:=bT' hb11 hbX hb11.size;have HBW8:=Lib.hid (bT' HBW7.out hbX HBW7.out.size);clear hIV7 hTL hN' hb11 hbX HBW7 HVC;have hWp:=zeroR_pos HNZ.out HRO.out.len;have hfr:=front_eq HRED.out HRO.out;obtain ⟨b2,o2,rfl,hb2l,hc2⟩:=hI8.2 (by omega);obtain ⟨L,hL⟩:∃L,redR (longR M)=L:=⟨_,rfl⟩;rw [hL] at HRED HBD HPR HCLO hfr hc2;obtain ⟨R,hR⟩:∃R,byR (r0++List.replicate k 0) L=R:=⟨_,rfl⟩;rw [hR] at hfr hc2;have hRl:R.length=W+k:=(by rw [←hR];exact (byR_ok (HRO.out.app (rep_ok k)) HRED.out.ok).len);have hRb:∀x∈R,0≤x∧x≤10006:=(by rw [←hR];exact (byR_ok (HRO.out.app (rep_ok k)) HRED.out.ok).bd);have hIF:Ints w8 (some ⟨b2,o2,none⟩) W (R.take W):=⟨by rw [List.length_take,hRl];omega,fun _=>⟨b2,o2,rfl,hb2l,fun i hi=>by rw [take_getD,if_pos hi];exact hc2 i (by omega)⟩⟩;have HIB:=Lib.hid (show Ints w8 (some ⟨b2,o2+W,none⟩) k (R.drop W) from ⟨by rw [List.length_drop,hRl];omega,fun _=>⟨b2,o2+W,rfl,hb2l,fun i hi=>by rw [drop_getD,Nat.add_assoc];exact hc2 (W+i) (by omega)⟩⟩);have HOB:Hid (RowOk k (R.drop W)):=Lib.hid ⟨by rw [List.length_drop,hRl];omega,fun x hx=>hRb x (List.mem_of_mem_drop hx)⟩;have HOW:Hid (byR (lessR (List.replicate k 0) (R.drop W) 1) (cloR W L)=sumL k W r0 L):=Lib.hid (by rw [←hR];exact own_eq HRED.out HRO.out);have HCR:=Lib.hid (cloR_red HRED.out);have hcl:=cloR_len W L;have HLL:Hid (L.length≤k):=Lib.hid (by rw [←hL];exact HRL.out)
    have HK0:Hid (k=0→byR r0 (bndR W L)=r0):=Lib.hid (fun h=>by
     have h1:L=[]:=List.length_eq_zero_iff.1 (by have:=HLL.out;omega)
     rw [h1];rfl)
    have HCN:Hid ((cloR W L).length≤120):=Lib.hid (by have:=HLL.out;omega);rw [hfr] at hIF;have HBB:Hid (byR r0 (bdR zs ims m)=byR r0 (bndR W L)):=Lib.hid (by rw [HBD.out]);have hbd8:hb12=hb12:=rfl;clear hbd8 hI8 hfr hc2 hR hRl hRb hcl hL;go_wp2_with fail
    refine (l03First_c ec hIF (by omega)).mono ?_;rintro e w9 ⟨rfl,rfl⟩;have hzf:=zeroR_fstP (byR r0 (bndR W L));obtain ⟨fi,hfi⟩:∃fi,fstI (byR r0 (bndR W L))=fi:=⟨_,rfl⟩;rw [hfi] at hzf ⊢;clear hfi hIF hb2l;have hX:=HX3.out.keep HBW8.out HX3.out.lt
    cases hzb:zeroR (byR r0 (bndR W L)) with
    | false =>
      rw [hzb] at hzf;have hge:fi ≥ 0:=(by have:=of_decide_eq_false hzf.symm;omega);have HZB:Hid (zeroR (byR r0 (bdR zs ims m))=false):=Lib.hid (by rw [HBB.out,hzb]);have cR:=hX.cell 0;have fR:=hX.frozen 0;clear hzf hzb;go_wp2_with fail
      have q4:=hX.set 0 (.slice none 0 0);refine bodyPost_ret (results_row2 rfl _ _ gX 39 #[.slice none 0 0] (0,0) _ rfl q4 Tryz.underlying39 rfl Tryz.info_form) rfl ⟨.slice none 0 0,by rw [HRE.out,HZB.out];rfl,?_,hb12.setCell (p:=⟨gX,0,none⟩) (by dsimp only;omega) _⟩;rw [pmB,HRE.out,HZB.out,if_neg (by simp)];exact World.ownsRow_nil _ _ _ _
    | true =>
      rw [hzb] at hzf;have hlt:fi<0:=of_decide_eq_true hzf.symm;have HZB:Hid (zeroR (byR r0 (bdR zs ims m))=true):=Lib.hid (by rw [HBB.out,hzb])
      have hkp:0<k:=by
       by_cases h:k=0
       · rw [HK0.out h,HNZ.out] at hzb;exact absurd hzb (by simp)
       · omega
      have hnw:¬ec=W:=(by omega);have hwe:W≤ec:=(by omega);clear hzf hzb HK0;have hO:=HO3.out.keep HBW8.out HO3.out.lt;have hs:=hb12.size;go_upto_region 12 with fail
      have hMq:=HQ3.out.keep HBW8.out;have hdr:Below w8.heap.size w8 w8.drew:=(Below.refl _ _).drew;replace hO:=hO.keep hdr hO.lt;replace hX:=hX.keep hdr hX.lt;replace hMq:=hMq.keep hdr;have hIB:=HIB.out.keep hdr;have hb:=bT' hb12 hdr hs;replace hs:=hb.size;clear hdr hb12 HIB;refine wp_region_held_drew (S:=(fun w'=>w'.cell? ⟨w.heap.size,0,none⟩=some (.slice da dn dc)∧w'.cell? ⟨w.heap.size,1,none⟩=some (.slice a kA c))) (by kernel_rfl) ?_ (fun _=>?_)
      · ((try dsimp only);(exact ⟨hO.cell 0,hO.cell 1⟩))
      generalize w8.drew=W0 at *;refine hdT 0 ?_;refine hdT 1 ?_;refine hdT 3 ?_;refine hdT 4 ?_;refine hdT 7 ?_;refine hdT 8 ?_;refine hdT 9 ?_;refine wpAnyH_ready (rs:=[2,5]) (by kernel_rfl) (by simp) ?_;refine AllReadyH.cons (hdAt (i:=2) rfl) (fun K hK=>?_) (AllReadyH.cons (hdAt (i:=5) rfl) (fun K hK=>?_) AllReadyH.nil)
      · have hmk:=made_ints2 k (by omega) W0
        (go_simp;try go_wp2_with fail)
        have hbX:=bA1 W0 (.cells (Array.replicate k (Value.int .i64 0)) 2);have hZ:=Own.new W0 2 (Array.replicate k (Value.int .i64 0));replace hO:=hO.keep hbX hO.lt;replace hX:=hX.keep hbX hX.lt;replace hMq:=hMq.keep hbX;replace hb:=bT' hb hbX hs;replace hs:=hb.size;replace hIB:=hIB.keep hbX;clear hbX hmk;generalize W0.alloc (.cells (Array.replicate k (Value.int .i64 0)) 2)=W1 at *;obtain ⟨gZ,hgZ⟩:∃x,W0.heap.size=x:=⟨_,rfl⟩;rw [hgZ] at hZ
        try rw [hgZ]
        clear hgZ;refine hK.out _ _ ?_ (fun _=>?_)
        · ((try dsimp only);(exact ⟨hO.cell 0,hO.cell 1⟩))
        clear hK K
        (try simp only [Act.put,pA,pB,pC])
        refine hdC 5 (fun K hK=>?_)
        (go_simp;try go_wp2_with fail)
        refine hK.out _ _ ?_ (fun _=>?_)
        · ((try dsimp only);(exact ⟨hO.cell 0,hO.cell 1⟩))
        clear hK K
        (try simp only [Act.put,pA,pB,pC])
        have hIZ:Ints W1 (some ⟨gZ,0,none⟩) k (List.replicate k 0):=ints_of_own (by simpa using hZ) List.length_replicate;refine hdC 6 (fun K hK=>?_)
        (go_simp;(go_at_call 126;refine (l03Less_c k (ec - W) 1 hIZ hIB (by omega) (rep_ok k).bd HOB.out.bd (by omega)).mono ?_;rintro e W2 ⟨gL,rfl,hgL,hL,hbX⟩);go_wp2_with fail)
        have hIL:Ints W2 (some ⟨gL,0,none⟩) k (lessR (List.replicate k 0) (R.drop W) 1):=ints_of_own hL (lessR_ok List.length_replicate HOB.out.len 1).len;replace hO:=hO.keep hbX hO.lt;replace hX:=hX.keep hbX hX.lt;replace hMq:=hMq.keep hbX;replace hb:=bT' hb hbX hs;replace hs:=hb.size;clear hbX hIZ hIB hZ hL hgL;refine hK.out _ _ ?_ (fun _=>?_)
        · ((try dsimp only);(exact ⟨hO.cell 0,hO.cell 1⟩))
        clear hK K
        (try simp only [Act.put,pA,pB,pC])
        refine hdC 10 (fun K hK=>?_)
        (go_simp;(go_at_call 127;(try rw [HMW.out]);(try rw [HM1.out]);refine (l03Closed_c0 (m:=q) dc c (HD.out.keep hb) (HF.out.keep hb) HA hA hz hq20 (by rw [HNE.out];omega) (by rw [HQ.out,HWE.out];omega)).mono ?_;rintro e W3 ⟨ta2,tn,tc2,rfl,hTC,hbX⟩);go_wp2_with fail)
        rw [HCLO.out] at hTC;replace hIL:=hIL.keep hbX;replace hO:=hO.keep hbX hO.lt;replace hX:=hX.keep hbX hX.lt;replace hMq:=hMq.keep hbX;replace hb:=bT' hb hbX hs;replace hs:=hb.size;clear hbX;refine hK.out _ _ ?_ (fun _=>?_)
        · ((try dsimp only);(exact ⟨hO.cell 0,hO.cell 1⟩))
        clear hK K
        (try simp only [Act.put,pA,pB,pC])
        have htn:tn≤1000:=(by have:=hTC.1;have:=HCN.out;omega);refine hdC 11 (fun K hK=>?_)
        (go_simp;(go_at_call 107;refine (l03By_c k tc2 hIL hTC (by omega) htn (lessR_ok List.length_replicate HOB.out.len 1) (fun t ht=>⟨HCR.out.ok t ht,HCR.out.fst t ht⟩)).mono ?_;rintro e W4 ⟨ua,uc,rfl,hU,hbX⟩);go_wp2_with fail)
        rw [HOW.out] at hU;replace hO:=hO.keep hbX hO.lt;replace hX:=hX.keep hbX hX.lt;replace hMq:=hMq.keep hbX;replace hb:=bT' hb hbX hs;replace hs:=hb.size;clear hbX hIL hTC htn;refine hK.out _ _ ?_ (fun _=>?_)
        · ((try dsimp only);(exact ⟨hO.cell 0,hO.cell 1⟩))
        clear hK K
        (try simp only [Act.put,pA,pB,pC])
        refine hdT 12 ?_;refine wpAnyH_done (by kernel_rfl) ?_ _;go_wp2_with fail
        refine (l03Form_c lc uc hMq hU (sumL_ok HRED.out).bd (by omega)).mono ?_;rintro e w11 ⟨vv,rfl,hOR,hbX⟩;obtain ⟨va2,vn2,vc2,rfl⟩:=hOR.isSlice;have HSW:=Lib.hid hs;have hgl:=hX.lt;replace hX:=hX.keep hbX hX.lt;replace hb:=bT' hb hbX hs;clear hbX hU hMq hO;have cR:=hX.cell 0;have fR:=hX.frozen 0;have HOR:=Lib.hid hOR;clear hOR;go_wp2_with fail
        have q4:=hX.set 0 (.slice va2 vn2 vc2);refine bodyPost_ret (results_row2 rfl _ _ gX 39 #[.slice va2 vn2 vc2] (0,0) _ rfl q4 Tryz.underlying39 rfl Tryz.info_form) rfl ⟨.slice va2 vn2 vc2,by rw [HRE.out,HZB.out];rfl,?_,hb.setCell (p:=⟨gX,0,none⟩) (by dsimp only;omega) _⟩;rw [pmB,HRE.out,HZB.out,if_pos rfl,HPR.out];exact (HOR.out.set (p:=⟨gX,0,none⟩) (by dsimp only;exact hgl) _).weaken HSW.out
      · (go_simp;try go_wp2_with fail)
        refine hK.out _ _ ?_ (fun _=>?_)
        · ((try dsimp only);(exact ⟨hO.cell 0,hO.cell 1⟩))
        clear hK K
        (try simp only [Act.put,pA,pB,pC])
        refine hdC 2 (fun K hK=>?_);have hmk:=made_ints2 k (by omega) W0
        (go_simp;try go_wp2_with fail)
        have hbX:=bA1 W0 (.cells (Array.replicate k (Value.int .i64 0)) 2);have hZ:=Own.new W0 2 (Array.replicate k (Value.int .i64 0));replace hO:=hO.keep hbX hO.lt;replace hX:=hX.keep hbX hX.lt;replace hMq:=hMq.keep hbX;replace hb:=bT' hb hbX hs;replace hs:=hb.size;replace hIB:=hIB.keep hbX;clear hbX hmk;generalize W0.alloc (.cells (Array.replicate k (Value.int .i64 0)) 2)=W1 at *;obtain ⟨gZ,hgZ⟩:∃x,W0.heap.size=x:=⟨_,rfl⟩;rw [hgZ] at hZ
        try rw [hgZ]
        clear hgZ;refine hK.out _ _ ?_ (fun _=>?_)
        · ((try dsimp only);(exact ⟨hO.cell 0,hO.cell 1⟩))
        clear hK K
        (try simp only [Act.put,pA,pB,pC])
        have hIZ:Ints W1 (some ⟨gZ,0,none⟩) k (List.replicate k 0):=ints_of_own (by simpa using hZ) List.length_replicate;refine hdC 6 (fun K hK=>?_)
        (go_simp;(go_at_call 126;refine (l03Less_c k (ec - W) 1 hIZ hIB (by omega) (rep_ok k).bd HOB.out.bd (by omega)).mono ?_;rintro e W2 ⟨gL,rfl,hgL,hL,hbX⟩);go_wp2_with fail)
        have hIL:Ints W2 (some ⟨gL,0,none⟩) k (lessR (List.replicate k 0) (R.drop W) 1):=ints_of_own hL (lessR_ok List.length_replicate HOB.out.len 1).len;replace hO:=hO.keep hbX hO.lt;replace hX:=hX.keep hbX hX.lt;replace hMq:=hMq.keep hbX;replace hb:=bT' hb hbX hs;replace hs:=hb.size;clear hbX hIZ hIB hZ hL hgL;refine hK.out _ _ ?_ (fun _=>?_)
        · ((try dsimp only);(exact ⟨hO.cell 0,hO.cell 1⟩))
        clear hK K
        (try simp only [Act.put,pA,pB,pC])
        refine hdC 10 (fun K hK=>?_)
        (go_simp;(go_at_call 127;(try rw [HMW.out]);(try rw [HM1.out]);refine (l03Closed_c0 (m:=q) dc c (HD.out.keep hb) (HF.out.keep hb) HA hA hz hq20 (by rw [HNE.out];omega) (by rw [HQ.out,HWE.out];omega)).mono ?_;rintro e W3 ⟨ta2,tn,tc2,rfl,hTC,hbX⟩);go_wp2_with fail)
        rw [HCLO.out] at hTC;replace hIL:=hIL.keep hbX;replace hO:=hO.keep hbX hO.lt;replace hX:=hX.keep hbX hX.lt;replace hMq:=hMq.keep hbX;replace hb:=bT' hb hbX hs;replace hs:=hb.size;clear hbX;refine hK.out _ _ ?_ (fun _=>?_)
        · ((try dsimp only);(exact ⟨hO.cell 0,hO.cell 1⟩))
        clear hK K
        (try simp only [Act.put,pA,pB,pC])
        have htn:tn≤1000:=(by have:=hTC.1;have:=HCN.out;omega);refine hdC 11 (fun K hK=>?_)
        (go_simp;(go_at_call 107;refine (l03By_c k tc2 hIL hTC (by omega) htn (lessR_ok List.length_replicate HOB.out.len 1) (fun t ht=>⟨HCR.out.ok t ht,HCR.out.fst t ht⟩)).mono ?_;rintro e W4 ⟨ua,uc,rfl,hU,hbX⟩);go_wp2_with fail)
        rw [HOW.out] at hU;replace hO:=hO.keep hbX hO.lt;replace hX:=hX.keep hbX hX.lt;replace hMq:=hMq.keep hbX;replace hb:=bT' hb hbX hs;replace hs:=hb.size;clear hbX hIL hTC htn;refine hK.out _ _ ?_ (fun _=>?_)
        · ((try dsimp only);(exact ⟨hO.cell 0,hO.cell 1⟩))
        clear hK K
        (try simp only [Act.put,pA,pB,pC])
        refine hdT 12 ?_;refine wpAnyH_done (by kernel_rfl) ?_ _;go_wp2_with fail
        refine (l03Form_c lc uc hMq hU (sumL_ok HRED.out).bd (by omega)).mono ?_;rintro e w11 ⟨vv,rfl,hOR,hbX⟩;obtain ⟨va2,vn2,vc2,rfl⟩:=hOR.isSlice;have HSW:=Lib.hid hs;have hgl:=hX.lt;replace hX:=hX.keep hbX hX.lt;replace hb:=bT' hb hbX hs;clear hbX hU hMq hO;have cR:=hX.cell 0;have fR:=hX.frozen 0;have HOR:=Lib.hid hOR;clear hOR;go_wp2_with fail
        have q4:=hX.set 0 (.slice va2 vn2 vc2);refine bodyPost_ret (results_row2 rfl _ _ gX 39 #[.slice va2 vn2 vc2] (0,0) _ rfl q4 Tryz.underlying39 rfl Tryz.info_form) rfl ⟨.slice va2 vn2 vc2,by rw [HRE.out,HZB.out];rfl,?_,hb.setCell (p:=⟨gX,0,none⟩) (by dsimp only;omega) _⟩;rw [pmB,HRE.out,HZB.out,if_pos rfl,HPR.out];exact (HOR.out.set (p:=⟨gX,0,none⟩) (by dsimp only;exact hgl) _).weaken HSW.out
end Go.Proofs.YtifcfoijcodjbaaGreat
