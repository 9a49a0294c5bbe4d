
import Derived.Test.YtifcfoijcodjbaaGreatKerS
import Derived.Test.YtifcfoijcodjbaaGreatRedT
namespace Go.Proofs.YtifcfoijcodjbaaGreat
set_option maxRecDepth 100000
open Go.RowKit Go.Deep
theorem Tryz.info_zero:∃i,Tryz.prog.info? 2=some i∧i.zero=some (.int .i64 0)∧i.size=1∧i.bytes=8:=by
 have h:(Tryz.prog.info? 2).map (fun i=>(i.zero,i.size,i.bytes))=some (some (.int .i64 0),1,8):=by kernel_rfl
 obtain ⟨i,hi,hzz⟩:=Option.map_eq_some_iff.1 h
 simp only [Prod.mk.injEq] at hzz
 exact ⟨i,hi,hzz.1,hzz.2.1,hzz.2.2⟩
theorem row_weak {w:World} {B B' sz n:Nat} {t:TypeId} {v:Value} {xs:List Value} (h:w.ownsRow B t sz v n xs) (hB:B'≤B):w.ownsRow B' t sz v n xs:=
 ⟨h.1,h.2.imp id fun ⟨g,cap,cur,hv,hb,r⟩=>⟨g,cap,cur,hv,by omega,r⟩⟩
theorem news1k (w:World) (v:Value) (t:TypeId):∀j u,([v]:List Value)[j]? = some u→(w.alloc (.cells #[v] t)).cell? ((⟨w.heap.size,0,none⟩:Addr).add j)=some u:=fun j u hu=>by
 rw [Addr.add_mid]
 exact (Own.new w t #[v]).range j u hu
theorem long_row {w : World} {B : Nat} (hB : B ≤ w.heap.size) {ai : Option Addr} {W : Nat} {r : List Int} (c N : Nat) (hI : Ints w ai W r) (hW : W ≤ 1000) (hN : N ≤ 1000) (hN0 : 0 < N) (ty ty2 : TypeId) :
    ∃v1 w1 g c2 w2,(Builtin.append_ #[22,22] ty #[.slice (some ⟨w.heap.size,0,none⟩) 0 0,.slice ai W c]).run Tryz.prog (w.alloc (.cells #[] 2))=.ok v1 w1∧(Builtin.append_ #[22,3] ty2 #[v1,.int .i64 N]).run Tryz.prog w1=.ok (.slice (some ⟨g,0,none⟩) (W+N) c2) w2 ∧
     w.heap.size≤g∧g<w2.heap.size∧w2.ownsRow B 2 1 (.slice (some ⟨g,0,none⟩) (W+N) c2) (W+N) ((r++List.replicate N 0).map (Value.int .i64))∧Below w.heap.size w w2:=by
 obtain ⟨i,hi,hz,hs,hby⟩:=Tryz.info_zero
 have ho0:=empty_rowG w 2 (Nat.le_refl w.heap.size)
 have hba:=bA1 w (.cells #[] 2)
 obtain ⟨v1,w1,hr1,ho1,hg1⟩:=run_append_ints (P:=Tryz.prog) (w.alloc (.cells #[] 2)) w.heap.size 22 ty 2 i _ Tryz.underlying22 hi hz hs hby (by rfl) _ 0 [] ho0 c (hI.keep hba) (by omega) (by rw [sAl];omega)
 have hb1:=grown_below hba hg1 (fun k e=>by have:w.heap.size=k:=(by simpa [Value.ownBlock] using e);omega) (by rw [sAl];omega)
 obtain ⟨v2,w2,hr2,ho2,hg2⟩:=run_append_zeros (P:=Tryz.prog) w1 w.heap.size 22 3 ty2 2 i _ (.int .i64 0) .i64 .i64 Tryz.underlying22 Tryz.underlying3 hi hz hs hby (by rfl) (by rfl) v1 (0+W) _ ho1 N (by omega) hb1.size
 have hb2:=grown_below hb1 hg2 (fun k e=>(ho1.lt k e).1) hb1.size
 rw [Nat.zero_add,List.nil_append] at ho2
 rw [show List.replicate N (Value.int .i64 0)=(List.replicate N (0:Int)).map (Value.int .i64) by simp,←List.map_append] at ho2
 rcases ho2.2 with ⟨h0,h1⟩ | ⟨g,cap,cur,hv,hbg,hg,r1⟩
 · omega
 · subst hv;refine ⟨v1,w1,g,cap,w2,hr1,hr2,hbg,(show Own w2 g _ cur from hg).lt,⟨ho2.1,Or.inr ⟨g,cap,cur,rfl,by omega,hg,r1⟩⟩,hb2⟩
set_option maxHeartbeats 4000000 in
theorem l03Kernel_c {w : World} {ra : Option Addr} {N W : Nat} {M : List (List Int)} (rc : Nat) (hT : Tab w ra N M) (hok : ∀ r ∈ M, RowOk W r) (hN : N ≤ 120) (hW : W ≤ 120) :
    Calls Tryz.prog 179 #[.slice ra N rc,.int .i64 W] w fun e w'=>∃b' N' c',e=.returned (.slice b' N' c')∧Tab w' b' N' (cloR W (redR (longR M)))∧Below w.heap.size w w':=by
 obtain ⟨tiR,tzR,htiR,htzR,htsR,htbR,htzsR⟩:=Tryz.info_intsA
 have HIR:=Lib.hid htiR
 have HZR:=Lib.hid htzR
 have HSR:=Lib.hid htsR
 have HBtR:=Lib.hid htbR
 have HZsR:=Lib.hid htzsR
 have HT:=Lib.hid hT
 have HML:=Lib.hid hT.1
 have HOK:=Lib.hid hok
 clear htiR htzR htsR htbR htzsR hT hok
 have hb0:=bA1 w (.cells #[] 22)
 have hR0:=empty_rowG w 22 (Nat.le_refl w.heap.size)
 go_enter Tryz.func179,Tryz.ntmps179
 go_upto_region 3 with fail
 generalize w.alloc (.cells #[] 22)=w2 at *
 obtain ⟨gO,hgO⟩:∃gO,w.heap.size=gO:=⟨_,rfl⟩
 rw [hgO] at hR0 hb0 ⊢
 have HGO:=Lib.hid hgO
 clear hgO
 have HW0:Hid (RwO w2 gO [] ((longR M).take 0)):=Lib.hid (by rw [List.take_zero];exact RwO.nil _ _)
 go_upto_region 4 with fail
 go_loopw [6,7] (fun l y wr=>∃(k:Nat) (la:Option Addr) (lc:Nat) (vs:List Value),k≤N∧y=.int .i64 k∧l=.slice la k lc∧Below gO w wr∧wr.ownsRow gO 22 1 (.slice la k lc) k vs∧Hid (RwO wr gO vs ((longR M).take k))) (fun _ y _=>N - (intOf y).toNat)
 case atStart=>exact ⟨0,_,_,[],Nat.zero_le _,rfl,rfl,hb0,hR0,HW0⟩
 case round=>
  clear hb0 hR0 HW0;obtain ⟨k,la,lc,vs,hk,rfl,rfl,hb,hR,HW⟩:=hrel;have HR:=Lib.hid hR;clear hR;have hk0:(0:Int)≤(k:Int):=(by omega);by_cases hin:k<N
  · obtain ⟨b1,off,s,ai,mi,ci,rfl,hbl,hcs,hIs,hx⟩:=(HT.out.keep (by rw [HGO.out];exact hb)).at_ hin;have hsk:=HOK.out s (List.mem_of_getElem? hx.out);obtain rfl:W=mi:=(by have:=hIs.len;have:=hsk.len;omega);have HLT:=Lib.hid (longR_take hx.out);have hkn:(k:Int)<(N:Int):=(by omega);have hsz:gO≤wr.heap.size:=(by have:=hb.size;have:=HGO.out;omega);have HSL:=Lib.hid hsk.len;have hwk:IntKind.i64.wrap ((W:Int)+(k:Int))=((W+k:Nat):Int):=(by rw [IntWalk.i64_in _ (by omega)];omega);obtain ⟨v1,w1,g,c2,w2',hr1,hr2,hg1,hg2,ho2,hb2⟩:=long_row hsz ci N hIs (by omega) (by omega) (by omega) 22 22;have HR1:=Lib.hid hr1;have HR2:=Lib.hid hr2
    have hcv:w2'.cell? ⟨g,W+k,none⟩=some (.int .i64 0):=by
     rw [ho2.cellAt (W+k) (by omega),List.getElem?_map,List.getElem?_append_right (by rw [HSL.out];omega),HSL.out,List.getElem?_replicate,if_pos (by omega)];rfl
    have hfz:=ho2.frozenAt (W+k);have hb3:=hb2.setCell (p:=⟨g,W+k,none⟩) (by dsimp only;omega) (.int .i64 1);have hst:=(ho2.stored (W+k) (.int .i64 1)).1;rw [←List.map_set,unit_set HSL.out] at hst;have HR3:=row_keep HR.out hb3;have HW3:=HW.out.keep hb3;have hsz3:=hb3.size;have hbw3:=bT' hb hb3 hsz;have hss:(w2'.setCell ⟨g,W+k,none⟩ (.int .i64 1)).heap.size=w2'.heap.size:=(by simp);have hnw:=news1k (w2'.setCell ⟨g,W+k,none⟩ (.int .i64 1)) (Value.slice (some ⟨g,0,none⟩) (W+N) c2) 22;rw [hss] at hnw;have HN:=Lib.hid hnw;have HO:=Lib.hid (show ∀u∈([Value.slice (some ⟨g,0,none⟩) (W+N) c2]:List Value),u.oneCell'=true by simp [Value.oneCell']);have hba:=bA1 (w2'.setCell ⟨g,W+k,none⟩ (.int .i64 1)) (.cells #[.slice (some ⟨g,0,none⟩) (W+N) c2] 22);have HR4:=Lib.hid (HR3.alloc (.cells #[.slice (some ⟨g,0,none⟩) (W+N) c2] 22));have HW4:=Lib.hid ((HW3.snoc (t:=s++unitR N k) (by rw [List.length_append,HSL.out,unitR_len];exact hst)).keep hba);have HB4:=Lib.hid (bT' hbw3 hba (Nat.le_trans hsz hsz3));have HSZ:=Lib.hid (Nat.le_trans hsz hsz3);have HLT2:Hid ((longR M).take (k+1)=(longR M).take k++[s++unitR N k]):=Lib.hid (by rw [HLT.out,HML.out]);clear hnw hss hx hsk hr1 hr2 ho2 hb hb2 HR HW hb3 hst hbw3 hba HR3 HW3 hg1 hg2 hsz hsz3 hIs
    go_wp2_with (first
     | refine Lib.wpList_append_run _ rfl (.tmp 19) (.tmp 23) 22 22 rfl _ _ rfl rfl _ _ HR1.out ?_
     | refine Lib.wpList_append_run _ rfl (.tmp 24) (.tmp 25) 22 3 rfl _ _ rfl rfl _ _ HR2.out ?_
     | (refine wpList_append_own_wide _ rfl (.tmp 32) (.tmp 34) 68 rfl gO 22 tiR tzR 1 24 Tryz.underlying68 HIR.out HZR.out HSR.out HBtR.out HZsR.out (by omega) (.slice la k lc) k vs rfl HR4.out ⟨w2'.heap.size, 0, none⟩ 1 1 [Value.slice (some ⟨g, 0, none⟩) (W + N) c2] rfl rfl HN.out HO.out (by simp only [maxLen]; omega) (by omega) (by rw [sAl]; have := HSZ.out; omega) (fun v' w' h2 h3 h4 => ?_)
        have hb5:=grown_below HB4.out h3 (fun j e=>(HR4.out.lt j e).1) (by rw [sAl];have:=HSZ.out;omega);have HW5:=Lib.hid (HW4.out.grown HR4.out (by decide) h3);obtain ⟨xa,xc,rfl⟩:=row_slice h2;have H2:=Lib.hid h2
        clear h2 h3 h4))
    go_roundw
    case rel=>exact ⟨k+1,xa,xc,_,by omega,by go_num,rfl,hb5,H2.out,by rw [HLT2.out];exact HW5⟩
    case measure=>simp [intOf] <;> omega
  · have he:k=N:=(by omega);subst he;have hW1:=HW.out;rw [List.take_of_length_le (by rw [longR_len,HML.out];exact Nat.le_refl _)] at hW1;obtain ⟨ta,tc,hte,hTT⟩:=hW1.tab HR.out;simp only [Value.slice.injEq,true_and] at hte;obtain ⟨rfl,rfl⟩:=hte;have HLK:Hid (∀r∈longR M,RowOk (W+k) r):=Lib.hid (by have:=longR_ok HOK.out;rwa [HML.out] at this);have hrl:=redR_le (longR M);rw [longR_len,HML.out] at hrl;have hRR:Hid (RedI (W+k) (redR (longR M))):=Lib.hid (redR_redI HLK.out).1;have hsz:gO≤wr.heap.size:=(by have:=hb.size;have:=HGO.out;omega);clear hW1 HW HR;go_wp2_with fail
    refine (l03Reduce_c (m:=W+k) lc hTT (by omega) (by omega) HLK.out).mono ?_;rintro e w4 ⟨b',N',c',rfl,hL2,hb4⟩;have hNl:N'≤k:=(by have:=hL2.1.1;omega);have hb5:=bT' hb hb4 hsz;have HB5:=Lib.hid hb5;have hsz4:gO≤w4.heap.size:=Nat.le_trans hsz hb4.size;have HL2:=Lib.hid hL2;have HLL:=Lib.hid hL2.1.1;obtain ⟨L,hL⟩:∃L,redR (longR M)=L:=⟨_,rfl⟩;rw [hL] at HL2 HLL hRR;have HLE:=Lib.hid hL;have HSZ4:=Lib.hid hsz4;have hb6:=bA1 w4 (.cells #[] 22);have hR0:=empty_rowG w4 22 (Nat.le_refl w4.heap.size);clear hTT hb hb4 hL2 hL hb5 hsz hsz4 hrl;go_upto_region 11 with fail
    generalize w4.alloc (.cells #[] 22)=w5 at *;have HW0:Hid (RwO w5 w4.heap.size [] (cloR W (L.take 0))):=Lib.hid (RwO.nil _ _);obtain ⟨gC,hgC⟩:∃gC,w4.heap.size=gC:=⟨_,rfl⟩;rw [hgC] at hR0 hb6 HW0
    try rw [hgC]
    have HGC:=Lib.hid hgC;clear hgC;go_upto_region 12 with fail
    go_loopw [9,10] (fun o y wx=>∃(j d:Nat) (oa:Option Addr) (oc:Nat) (vs:List Value),j≤N'∧d≤j∧y=.int .i64 j∧o=.slice oa d oc∧Below gC w4 wx∧wx.ownsRow gC 22 1 (.slice oa d oc) d vs∧Hid (RwO wx gC vs (cloR W (L.take j)))) (fun _ y _=>N' - (intOf y).toNat)
    case atStart=>exact ⟨0,0,_,_,[],Nat.zero_le _,Nat.le_refl _,rfl,rfl,hb6,hR0,HW0⟩
    case round=>
     clear hb6 hR0 HW0;obtain ⟨j,d,oa,oc,vs,hj,hdj,rfl,rfl,hb,hR,HW⟩:=hrel;have HR:=Lib.hid hR;clear hR;have hj0:(0:Int)≤(j:Int):=(by omega);by_cases hin:j<N'
     · obtain ⟨b1,off,s,ai,mi,ci,rfl,hbl,hcs,hIs,hx,hcap⟩:=(HL2.out.keep (by rw [HGC.out];exact hb)).at_ hin;have hsm:=List.mem_of_getElem? hx.out;have hsl:=(hRR.out.ok s hsm).len;have hsf:=hRR.out.fst s hsm;obtain rfl:W+k=mi:=(by have:=hIs.len;omega);have HFI:=Lib.hid (fstI_lt hsl hsf);have hjn:(j:Int)<(N':Int):=(by omega);have hszx:gC≤wr.heap.size:=(by have:=hb.size;have:=HGC.out;omega);by_cases hfw:W≤fstN s
       · have HCL:=Lib.hid (cloR_yes hx.out hfw);have hge:(W:Int)≤(fstN s:Int):=(by omega);obtain ⟨b2,o2,rfl,hb2l,hc2⟩:=hIs.2 (by omega);have HIS0:=Lib.hid hIs;have hne:¬ci=W:=by omega
         have hI2:Ints wr (some ⟨b2,o2+W,none⟩) k (s.drop W):=⟨by rw [List.length_drop,hsl];omega,fun _=>⟨b2,o2+W,rfl,hb2l,fun i hi=>by
          have:=hc2 (W+i) (by omega);rw [←Nat.add_assoc] at this
          rw [this,drop_getD]⟩⟩
         obtain ⟨i6,hi6,hz6,hs6,hby6⟩:=Tryz.info_zero;obtain ⟨v1,w1,hr1,ho1,hg1⟩:=run_append_ints (P:=Tryz.prog) (wr.alloc (.cells #[] 2)) wr.heap.size 22 22 2 i6 _ Tryz.underlying22 hi6 hz6 hs6 hby6 (by rfl) _ 0 [] (empty_rowG wr 2 (Nat.le_refl _)) (ci - W) (hI2.keep (bA1 wr _)) (by omega) (by rw [sAl];omega);have hb3:=grown_below (bA1 wr (.cells #[] 2)) hg1 (fun q e=>by have:wr.heap.size=q:=(by simpa [Value.ownBlock] using e);omega) (by rw [sAl];omega);rw [Nat.zero_add,List.nil_append] at ho1;obtain ⟨va,vc,rfl⟩:=row_slice ho1;have HR1:=Lib.hid hr1;have HR3:=row_keep HR.out hb3;have HW3:=HW.out.keep hb3;have hsz3:=hb3.size;have hbw3:=bT' hb hb3 hszx;have HN:=Lib.hid (news1k w1 (Value.slice va k vc) 22);have HO:=Lib.hid (show ∀u∈([Value.slice va k vc]:List Value),u.oneCell'=true by simp [Value.oneCell']);have hba:=bA1 w1 (.cells #[.slice va k vc] 22);have HR4:=Lib.hid (HR3.alloc (.cells #[.slice va k vc] 22))
         have ho1':w1.ownsRow gC 2 1 (.slice va k vc) (s.drop W).length ((s.drop W).map (Value.int .i64)):=by
          have:=row_weak ho1 hszx
          rwa [show (s.drop W).length=k by rw [List.length_drop,hsl];omega]
         have HW4:=Lib.hid ((HW3.snoc ho1').keep hba);have HB4:=Lib.hid (bT' hbw3 hba (Nat.le_trans hszx hsz3));have HSZ:=Lib.hid (Nat.le_trans hszx hsz3);clear hx hsm hsl hsf hr1 ho1 ho1' hb hb3 HR HW hbw3 hba HR3 HW3 hg1 hszx hsz3 hIs hI2 hc2 hcap hi6 hz6 hs6 hby6;have HIS:=Lib.hid (show Ints wr (some ⟨b2,o2,none⟩) (W+k) s from HIS0.out);go_wp2_with fail
         refine (l03First_c ci HIS.out (by omega)).mono ?_;rintro e w6 ⟨rfl,rfl⟩;rw [HFI.out]
         go_wp2_with (first
          | refine Lib.wpList_append_run _ rfl (.tmp 53) (.tmp 59) 22 22 rfl _ _ rfl rfl _ _ HR1.out ?_
          | (refine wpList_append_own_wide _ rfl (.tmp 52) (.tmp 61) 68 rfl gC 22 tiR tzR 1 24 Tryz.underlying68 HIR.out HZR.out HSR.out HBtR.out HZsR.out (by omega) (.slice oa d oc) d vs rfl HR4.out ⟨w1.heap.size, 0, none⟩ 1 1 [Value.slice va k vc] rfl rfl HN.out HO.out (by simp only [maxLen]; omega) (by omega) (by rw [sAl]; have := HSZ.out; omega) (fun v' w' h2 h3 h4 => ?_)
             have hb7:=grown_below HB4.out h3 (fun j e=>(HR4.out.lt j e).1) (by rw [sAl];have:=HSZ.out;omega);have HW7:=Lib.hid (HW4.out.grown HR4.out (by decide) h3);obtain ⟨xa,xc,rfl⟩:=row_slice h2;have H2:=Lib.hid h2
             clear h2 h3 h4))
         go_roundw
         case rel=>exact ⟨j+1,d+1,xa,xc,_,by omega,by omega,by go_num,rfl,hb7,H2.out,by rw [HCL.out];exact HW7⟩
         case measure=>simp [intOf] <;> omega
       · have HCL:=Lib.hid (cloR_no hx.out hfw);have hge:¬(W:Int)≤(fstN s:Int):=(by omega);have HIS:=Lib.hid hIs;clear hx hsm hsl hsf hIs hcap;go_wp2_with fail
         refine (l03First_c ci HIS.out (by omega)).mono ?_;rintro e w6 ⟨rfl,rfl⟩;rw [HFI.out];go_wp2_with fail
         go_roundw
         case rel=>exact ⟨j+1,d,oa,oc,vs,by omega,by omega,by go_num,rfl,hb,HR.out,by rw [HCL.out];exact HW.out⟩
         case measure=>simp [intOf] <;> omega
     · have he:j=N':=(by omega);subst he;have hW1:=HW.out;rw [List.take_of_length_le (Nat.le_of_eq HLL.out)] at hW1;obtain ⟨ta,tc,hte,hTT⟩:=hW1.tab HR.out;simp only [Value.slice.injEq,true_and] at hte;obtain ⟨rfl,rfl⟩:=hte;have HCK:Hid (∀r∈cloR W L,RowOk k r):=Lib.hid (cloR_red hRR.out).ok;have hbX:=bT' HB5.out (by rw [←HGC.out] at hb;exact hb) HSZ4.out;have hszx:gO≤wr.heap.size:=(by have:=hbX.size;have:=HGO.out;omega);have HEQ:Hid (redR (cloR W L)=cloR W (redR (longR M))):=Lib.hid (by rw [←HLE.out];exact cloR_self HOK.out);clear hW1 HW HR hb;go_wp2_with fail
       refine (l03Reduce_c (m:=k) oc hTT (by omega) (by omega) HCK.out).mono ?_;rintro e w7 ⟨b8,N8,c8,rfl,hL8,hb8⟩;have hb9:=bT' hbX hb8 hszx;clear hTT hbX hb8;go_wp2_with fail
       go_ret
       exact ⟨b8,N8,c8,rfl,by rw [←HEQ.out];exact hL8.1,by rw [HGO.out];exact hb9⟩
set_option maxHeartbeats 4000000 in
theorem l03Closed_c0 {w : World} {da : Option Addr} {dn : Nat} {zs : List Int} {a : Option Addr} {k : Nat} {ims : List (List Tm)} {m : Nat} (dc c : Nat) (hd : Ints w da dn zs) (hF : Frms w a k ims) (HA : AlgOk zs ims) (hA : isAlg zs ims = true) (hz : degsOk zs = true) (hm : m ≤ 20) (hc1 : cnt zs m ≤ 120) (hc2 : cnt zs (m + 1) ≤ 120) :
    Calls Tryz.prog 127 #[.agg #[.slice da dn dc,.slice a k c],.int .i64 m] w fun e w'=>∃ra rn rc,e=.returned (.slice ra rn rc)∧Tab w' ra rn (clR zs ims m)∧Below w.heap.size w w':=by
 have HD:=Lib.hid hd
 have HF:=Lib.hid hF
 have HMM:=Lib.hid (row_ok HA hz m)
 have HM1:=Lib.hid (show IntKind.i64.wrap ((m:Int)+1)=((m+1:Nat):Int) by rw [IntWalk.i64_in _ (by omega)];omega)
 have hO1:=Own.new w 35 #[.slice da dn dc,.slice a k c]
 have hb2:=bA1 w (.cells #[.slice da dn dc,.slice a k c] 35)
 clear hd hF
 go_enter Tryz.func127,Tryz.ntmps127
 go_upto_region 1 with fail
 generalize hw1:w.alloc (.cells #[.slice da dn dc,.slice a k c] 35)=w1 at *
 clear hw1
 replace hO1:Own w1.drew w.heap.size 35 #[.slice da dn dc,.slice a k c]:=hO1
 replace hb2:Below w.heap.size w w1.drew:=hb2.drew
 have hs2:=hb2.size
 refine wp_region_held_drew (S:=(fun w'=>w'.cell? ⟨w.heap.size,0,none⟩=some (.slice da dn dc)∧w'.cell? ⟨w.heap.size,1,none⟩=some (.slice a k c))) (by kernel_rfl) ?_ (fun _=>?_)
 · ((try dsimp only);(exact ⟨hO1.cell 0,hO1.cell 1⟩))
 generalize w1.drew=W0 at *
 refine hdT 0 ?_
 refine hdT 1 ?_
 refine hdT 3 ?_
 refine hdT 4 ?_
 refine hdT 5 ?_
 refine hdT 6 ?_
 refine hdC 2 (fun K hK=>?_)
 (go_simp;(go_at_call 124;refine (l03Matrix_c (m:=m) dc c (HD.out.keep hb2) (HF.out.keep hb2) HA hA hz (degs_one hz) hm hc1 hc2).mono ?_;rintro e W1 ⟨ra,rc,rfl,hT0,hbX⟩);go_wp2_with fail)
 have hT:Tab W1 ra (cnt zs m) (mrR zs ims m):=hT0.tab
 replace hO1:=hO1.keep hbX hO1.lt
 replace hb2:=bT' hb2 hbX hs2
 replace hs2:=hb2.size
 clear hbX hT0
 refine hK.out _ _ ?_ (fun _=>?_)
 · ((try dsimp only);(exact ⟨hO1.cell 0,hO1.cell 1⟩))
 clear hK K
 (try simp only [Act.put,pA,pB,pC])
 refine hdC 7 (fun K hK=>?_)
 (go_simp;(go_at_call 109;rw [HM1.out];refine (l01Mons_m (m:=m+1) dc (HD.out.keep hb2) hz (by omega) hc2).mono ?_;rintro e W2 ⟨la,lc,rfl,hM,hbX⟩);go_wp2_with fail)
 replace hT:=hT.keep hbX
 replace hO1:=hO1.keep hbX hO1.lt
 replace hb2:=bT' hb2 hbX hs2
 replace hs2:=hb2.size
 clear hbX hM
 refine hK.out _ _ ?_ (fun _=>?_)
 · ((try dsimp only);(exact ⟨hO1.cell 0,hO1.cell 1⟩))
 clear hK K
 (try simp only [Act.put,pA,pB,pC])
 refine hdT 8 ?_
 refine hdC 9 (fun K hK=>?_)
 (go_simp;(go_at_call 179;refine (l03Kernel_c (W:=cnt zs (m+1)) rc hT HMM.out hc1 hc2).mono ?_;rintro e W3 ⟨b',N',c',rfl,hK3,hbX⟩);go_wp2_with fail)
 replace hO1:=hO1.keep hbX hO1.lt
 replace hb2:=bT' hb2 hbX hs2
 clear hbX hT hs2
 refine hK.out _ _ ?_ (fun _=>?_)
 · ((try dsimp only);(exact ⟨hO1.cell 0,hO1.cell 1⟩))
 clear hK K
 (try simp only [Act.put,pA,pB,pC])
 refine hdT 10 ?_
 refine wpAnyH_done (by kernel_rfl) ?_ _
 go_wp2_with fail
 go_ret
 exact ⟨b',N',c',rfl,hK3,hb2⟩
theorem l03Closed_c {w : World} {da : Option Addr} {dn : Nat} {zs : List Int} {a : Option Addr} {k : Nat} {ims : List (List Tm)} {m : Nat} (dc c : Nat) (hd : Ints w da dn zs) (hF : Frms w a k ims) (HA : AlgOk zs ims) (hA : isAlg zs ims = true) (hz : degsOk zs = true) (hm : m ≤ 20) (hc1 : cnt zs m ≤ 120) (hc2 : cnt zs (m + 1) ≤ 120) (_hl : ¬ m = 0 → cnt zs (m - 1) ≤ 120) :
    Calls Tryz.prog 127 #[.agg #[.slice da dn dc,.slice a k c],.int .i64 m] w fun e w'=>∃ra rn rc,e=.returned (.slice ra rn rc)∧Tab w' ra rn (clR zs ims m)∧Below w.heap.size w w':=
 l03Closed_c0 dc c hd hF HA hA hz hm hc1 hc2
set_option maxHeartbeats 1000000 in
theorem l03By_k {w : World} {a b : Option Addr} {m N : Nat} {r : List Int} {L : List (List Int)} (c c2 : Nat) (h : Ints w a m r) (hT : Tab w b N L) (hm : m ≤ 1000) (hN : N ≤ 1000) (hr : RowOk m r) (hL : ∀ s ∈ L, RowOk m s ∧ fstN s < m) (hc : m ≤ c) :
    Calls Tryz.prog 107 #[.slice a m c,.slice b N c2] w fun e w'=>∃a' c',e=.returned (.slice a' m c')∧Ints w' a' m (byR r L)∧m≤c'∧Below w.heap.size w w':=by
 have HT:=Lib.hid hT
 have HLn:=Lib.hid hT.1
 have HL:=Lib.hid hL
 have HR0:Hid (RowOk m r∧byR r L=byR r (L.drop 0)):=Lib.hid ⟨hr,by rw [List.drop_zero]⟩
 obtain ⟨Y,hY⟩:∃Y,byR r L=Y:=⟨_,rfl⟩
 rw [hY] at HR0 ⊢
 clear hT hL hr hY
 go_enter Tryz.func107,Tryz.ntmps107
 go_upto_region 2 with fail
 go_loopw [5,0] (fun y z wr=>∃(k:Nat) (ra:Option Addr) (rc:Nat) (r1:List Int),k≤N∧y=.int .i64 k∧m≤rc∧z=.slice ra m rc∧Below w.heap.size w wr∧Ints wr ra m r1∧Hid (RowOk m r1∧Y=byR r1 (L.drop k))) (fun y _ _=>N - (intOf y).toNat)
 case atStart=>exact ⟨0,a,c,r,Nat.zero_le _,rfl,hc,rfl,Below.refl _ _,h,HR0⟩
 case round=>
  clear h HR0;obtain ⟨k,ra,rc,r1,hk,rfl,hrc,rfl,hb,hI,HR⟩:=hrel;have hk0:(0:Int)≤(k:Int):=(by omega);by_cases hkn:k<N
  · have hki:(k:Int)<(N:Int):=(by omega);obtain ⟨b1,off,s,ai,mi,ci,rfl,hbl,hcs,hIs,hx⟩:=(HT.out.keep hb).at_ hkn;have hs:=HL.out s (List.mem_of_getElem? hx.out);obtain rfl:mi=m:=(by have:=hIs.len;have:=hs.1.len;omega);have hfs:=fstI_lt hs.1.len hs.2;obtain ⟨p,hp⟩:∃p,fstN s=p:=⟨_,rfl⟩;have hpm:p<mi:=(by rw [←hp];exact hs.2);rw [hp] at hfs;obtain ⟨b2,o2,x,rfl,hbl2,hcx,hxx⟩:=hI.at_ hpm;have hgx:r1.getD p 0=x:=by rw [List.getD_eq_getElem?_getD,hxx.out];rfl
    have HST:Hid (Y=byR (if x=0 then r1 else lessR r1 s x) (L.drop (k+1))):=Lib.hid (by
     rw [HR.out.2,rdrop hx.out,byR,hp,hgx])
    have hxb:=HR.out.1.at_ p;rw [hgx] at hxb;have HFS:=Lib.hid hfs;have HS:=Lib.hid hs.1;have HIS:=Lib.hid hIs;have hp0:(0:Int)≤(p:Int):=(by omega);have hpi:(p:Int)<(mi:Int):=(by omega);clear hs hfs hp hgx hIs;by_cases hx0:x=0
    · subst hx0;go_wp2_with (go_at_call 112;refine (l03First_c ci HIS.out (by omega)).mono ?_;rintro e w2 ⟨rfl,rfl⟩;rw [HFS.out])
      go_roundw
      case rel=>exact ⟨k+1,_,rc,r1,by omega,by go_num,hrc,rfl,hb,hI,Lib.hid ⟨HR.out.1,by have:=HST.out;simpa using this⟩⟩
      case measure=>simp [intOf] <;> omega
    · have hxn:(x != 0)=true:=(by simpa using hx0);go_upto_region 6 with (go_at_call 112;refine (l03First_c ci HIS.out (by omega)).mono ?_;rintro e w2 ⟨rfl,rfl⟩;rw [HFS.out])
      have HI:=Lib.hid hI;clear hI;have hI:Ints wr.drew (some ⟨b2,o2,none⟩) mi r1:=HI.out;have hIs:Ints wr.drew ai mi s:=HIS.out;replace hb:Below w.heap.size w wr.drew:=hb.drew;replace hcs:wr.drew.cell? ⟨b1,off+k,none⟩=some (.slice ai mi ci):=hcs;replace hcx:wr.drew.cell? ⟨b2,o2+p,none⟩=some (.int .i64 x):=hcx;replace hbl:b1<wr.drew.heap.size:=hbl;replace hbl2:b2<wr.drew.heap.size:=hbl2;clear HI HIS;refine wp_region_held_drew (S:=(fun w'=>w'.cell? ⟨b1,off+k,none⟩=some (.slice ai mi ci)∧w'.cell? ⟨b2,o2+p,none⟩=some (.int .i64 x))) (by kernel_rfl) ?_ (fun _=>?_)
      · ((try dsimp only);(exact ⟨hcs,hcx⟩))
      generalize wr.drew=W0d at *;refine hdT 0 ?_;refine hdT 1 ?_;refine hdT 2 ?_;refine hdT 3 ?_;refine hdT 4 ?_;refine hdT 5 ?_;refine hdT 6 ?_;refine hdT 7 ?_;refine hdT 8 ?_;refine hdC 9 (fun K hK=>?_)
      (go_simp;(go_at_call 126;refine (l03Less_c rc ci x hI hIs (by omega) HR.out.1.bd HS.out.bd (by omega)).mono ?_;rintro e W1 ⟨gN,rfl,hgN,hG,hbX⟩);go_wp2_with fail)
      replace hcs:=(hbX.cell (p:=⟨b1,off+k,none⟩) hbl).trans hcs;replace hcx:=(hbX.cell (p:=⟨b2,o2+p,none⟩) hbl2).trans hcx;replace hb:=bT' hb hbX hb.size;clear hI hIs hgN hbX;refine hK.out _ _ ?_ (fun _=>?_)
      · ((try dsimp only);(exact ⟨hcs,hcx⟩))
      clear hK K
      (try simp only [Act.put,pA,pB,pC])
      (refine hdTake (i:=10) (v:=?_) rfl (by kernel_rfl) (by kernel_rfl) (by kernel_rfl) (fun _ _ _ h=>h) (by rfl) ?_ (by assumption) ?_;rotate_left;(intro w hSw;(try dsimp only at hSw);go_simp;(try with_reducible rfl));(try simp only [Act.put,List.setIfInBounds_toArray,List.set_cons_zero]))
      refine wpAnyH_done (by kernel_rfl) ?_ _;go_wp2_with fail
      go_roundw
      case rel=>exact ⟨k+1,_,mi,lessR r1 s x,by omega,by go_num,Nat.le_refl _,rfl,hb,ints_of_own hG (lessR_ok HR.out.1.len HS.out.len x).len,Lib.hid ⟨lessR_ok HR.out.1.len HS.out.len x,by have:=HST.out;rwa [if_neg hx0] at this⟩⟩
      case measure=>simp [intOf] <;> omega
  · have he:k=N:=(by omega);subst he;go_wp2_with fail
    go_ret
    refine ⟨ra,rc,rfl,?_,hrc,hb⟩;rw [HR.out.2,List.drop_of_length_le (Nat.le_of_eq HLn.out)];exact hI
end Go.Proofs.YtifcfoijcodjbaaGreat
