
import Derived.Test.YtndnkeijddagiaaWithP
namespace Go.Proofs.Ytndnkeijddagiaa
set_option maxRecDepth 100000
open Go.RowKit Go.Deep
def shFs (s:Nat) (fss:List (List Tm)):List (List Tm):=fss.map (fun ts=>ts.map (shT s))
theorem shFs_take {s k:Nat} {fss:List (List Tm)} {ts:List Tm} (h:fss[k]? = some ts):shFs s (fss.take (k+1))=shFs s (fss.take k)++[ts.map (shT s)]:=by
 rw [shFs,List.take_add_one,h,List.map_append]
 rfl
theorem shFs_tm {s:Nat} {fss:List (List Tm)} (h:∀ts∈fss,∀t∈ts,IsTm t) (hs:s≤8):∀ts∈shFs s fss,∀t∈ts,IsTm t:=by
 intro ts hts t ht
 obtain ⟨us,hu,rfl⟩:=List.mem_map.1 hts
 obtain ⟨v,hv,rfl⟩:=List.mem_map.1 ht
 exact shT_tm (h us hu v hv) hs
theorem tm_app {V U:List (List Tm)} (h:∀ts∈V,∀t∈ts,IsTm t) (hf:∀ts∈U,∀t∈ts,IsTm t):∀ts∈V++U,∀t∈ts,IsTm t:=by
 intro ts hts
 rcases List.mem_append.1 hts with h1 | h1
 · exact h ts h1
 · exact hf ts h1
def prE (zs:List Int) (ims:List (List Tm)) (ys:List Int) (jms:List (List Tm)):Int:=
 if isAlg zs ims=false∨isAlg ys jms=false then 1 else if zs.length+ys.length > 8 then 3 else 0
def prD (zs:List Int) (ims:List (List Tm)) (ys:List Int) (jms:List (List Tm)):List Int:=if prE zs ims ys jms=0 then zs++ys else []
def prI (zs:List Int) (ims:List (List Tm)) (ys:List Int) (jms:List (List Tm)):List (List Tm):=if prE zs ims ys jms=0 then ims++shFs zs.length jms else []
theorem pr_err {zs:List Int} {ims:List (List Tm)} {ys:List Int} {jms:List (List Tm)} {e:Int} (h:prE zs ims ys jms=e) (h0:¬e=0):prE zs ims ys jms=e∧prD zs ims ys jms=[]∧prI zs ims ys jms=[]:=
 ⟨h,by rw [prD,if_neg (by rw [h];exact h0)],by rw [prI,if_neg (by rw [h];exact h0)]⟩
theorem pr_1 {zs:List Int} {ims:List (List Tm)} {ys:List Int} {jms:List (List Tm)} (h:isAlg zs ims=false∨isAlg ys jms=false):prE zs ims ys jms=1:=by rw [prE,if_pos h]
theorem pr_3 {zs:List Int} {ims:List (List Tm)} {ys:List Int} {jms:List (List Tm)} (h1:isAlg zs ims=true) (h2:isAlg ys jms=true) (h3:zs.length+ys.length > 8):prE zs ims ys jms=3:=by
 rw [prE,if_neg (by simp [h1,h2]),if_pos h3]
theorem pr_0 {zs:List Int} {ims:List (List Tm)} {ys:List Int} {jms:List (List Tm)} (h1:isAlg zs ims=true) (h2:isAlg ys jms=true) (h3:¬zs.length+ys.length > 8):prE zs ims ys jms=0∧prD zs ims ys jms=zs++ys∧prI zs ims ys jms=ims++shFs zs.length jms:=by
 have e:prE zs ims ys jms=0:=by rw [prE,if_neg (by simp [h1,h2]),if_neg h3]
 exact ⟨e,by rw [prD,if_pos e],by rw [prI,if_pos e]⟩
set_option maxHeartbeats 8000000 in
theorem l02Product_c {w : World} {g1 o1 dn1 n1 g2 o2 dn2 : Nat} {zs ys : List Int} {a1 a2 : Option Addr} {ims jms : List (List Tm)} (dc1 c1 dc2 c2 : Nat) (hd1 : Ints w (some ⟨g1, o1, none⟩) dn1 zs) (hdn1 : dn1 ≤ 8) (hF1 : Frms w a1 n1 ims) (hn1 : n1 ≤ 8) (hL1 : ∀ im ∈ ims, (im.length : Int) ≤ 1048576) (hT1 : ∀ ts ∈ ims, ∀ t ∈ ts, IsTm t)
    (hd2:Ints w (some ⟨g2,o2,none⟩) dn2 ys) (hdn2:dn2≤8) (hF2:Frms w a2 dn2 jms) (hL2:∀im∈jms,(im.length:Int)≤1048576) (hT2:∀ts∈jms,∀t∈ts,IsTm t) :
    Calls Try.prog 83 #[.agg #[.slice (some ⟨g1,o1,none⟩) dn1 dc1,.slice a1 n1 c1],.agg #[.slice (some ⟨g2,o2,none⟩) dn2 dc2,.slice a2 dn2 c2]] w fun e w'=>∃ya yc ua uc,e=.returned (.agg #[.slice ya (dn1+dn2) yc,.slice ua (n1+dn2) uc])∧OwnV w' w.heap.size w'.heap.size ya (dn1+dn2) (zs++ys)∧OwnF w' w.heap.size w'.heap.size ua (n1+dn2) (ims++shFs dn1 jms)∧Below w.heap.size w w':=by
 have HLL1:=Lib.hid hL1
 have HLL2:=Lib.hid hL2
 have HTT1:=Lib.hid hT1
 have HTT2:=Lib.hid hT2
 have HFF1:=Lib.hid hF1
 have HFF2:=Lib.hid hF2
 have HLn1:=Lib.hid hF1.len
 have HLn2:=Lib.hid hF2.len
 have HD2:=Lib.hid hd2
 have HDL2:=Lib.hid hd2.len
 obtain ⟨ti,tz,hti,htz,hts,htb,htzs⟩:=Try.info_formA
 have HI:=Lib.hid hti
 have HZ:=Lib.hid htz
 have HS:=Lib.hid hts
 have HBt:=Lib.hid htb
 have HZs:=Lib.hid htzs
 clear hti htz hts htb htzs
 obtain ⟨ti2,tz2,hti,htz,hts,htb,htzs⟩:=Try.info_intA
 have HI2:=Lib.hid hti
 have HZ2:=Lib.hid htz
 have HS2:=Lib.hid hts
 have HBt2:=Lib.hid htb
 have HZs2:=Lib.hid htzs
 clear hti htz hts htb htzs
 clear hL1 hL2 hT1 hT2 hF1 hF2 hd2
 obtain ⟨hA,hB,hR,hb⟩:=own3' w 29 29 29 #[.slice (some ⟨g1,o1,none⟩) dn1 dc1,.slice a1 n1 c1] #[.slice (some ⟨g2,o2,none⟩) dn2 dc2,.slice a2 dn2 c2] #[.slice none 0 0,.slice none 0 0]
 have hB0:w.heap.size+2<(((w.alloc (.cells #[.slice (some ⟨g1,o1,none⟩) dn1 dc1,.slice a1 n1 c1] 29)).alloc (.cells #[.slice (some ⟨g2,o2,none⟩) dn2 dc2,.slice a2 dn2 c2] 29)).alloc (.cells #[.slice none 0 0,.slice none 0 0] 29)).heap.size:=by rw [sAl,sAl,sAl];omega
 go_enter Try.func83,Try.ntmps83
 go_upto_region 1 with fail
 generalize ((w.alloc (.cells #[.slice (some ⟨g1,o1,none⟩) dn1 dc1,.slice a1 n1 c1] 29)).alloc (.cells #[.slice (some ⟨g2,o2,none⟩) dn2 dc2,.slice a2 dn2 c2] 29)).alloc (.cells #[.slice none 0 0,.slice none 0 0] 29)=w0 at *
 rw [show w.heap.size+1+1=w.heap.size+2 by omega] at hR
 have c0:=hA.cell 0
 have c1':=hA.cell 1
 go_wp2_with fail
 refine (l02Own_c dc1 c1 (hd1.keep hb) (by omega) (HFF1.out.keep hb) (by omega) HLL1.out).mono ?_
 rintro e w1 ⟨xa,xc,va,vc,vs,rfl,hD,hI,hW0,hb1⟩
 have hBs:=hb1.size
 replace hA:=hA.keep hb1 hA.lt
 replace hB:=hB.keep hb1 hB.lt
 replace hR:=hR.keep hb1 hR.lt
 replace hb:=bT' hb hb1 hb.size
 obtain ⟨B0,hB0e⟩:∃B0,w0.heap.size=B0:=⟨_,rfl⟩
 rw [hB0e] at hB0 hD hI hW0 hBs
 clear hb1 c0 c1' hB0e
 have hlX:B0≤w1.heap.size:=hBs
 have hO:=Own.new w1 29 #[.slice xa dn1 xc,.slice va n1 vc]
 have hbX:=bA1 w1 (.cells #[.slice xa dn1 xc,.slice va n1 vc] 29)
 have HD:=Lib.hid (row_keep hD hbX)
 have HI2:=Lib.hid (row_keep hI hbX)
 have hW:=Lib.hid (hW0.keep hbX)
 replace hA:=hA.keep hbX hA.lt
 replace hB:=hB.keep hbX hB.lt
 replace hR:=hR.keep hbX hR.lt
 replace hb:=bT' hb hbX hb.size
 replace hBs:=Nat.le_trans hBs hbX.size
 clear hD hI hW0 hbX
 go_upto_region 2 with fail
 generalize w1.alloc (.cells #[.slice xa dn1 xc,.slice va n1 vc] 29)=w2 at *
 generalize w1.heap.size=gX at *
 go_upto_region 3 with fail
 go_loopw [6] (fun y wr=>∃(k:Nat) (xa:Option Addr) (xc:Nat) (va:Option Addr) (vc:Nat) (vs:List Value),k≤dn2∧y=.int .i64 k∧Below w.heap.size w wr∧B0≤wr.heap.size∧Own wr w.heap.size 29 #[.slice (some ⟨g1,o1,none⟩) dn1 dc1,.slice a1 n1 c1]∧Own wr (w.heap.size+1) 29 #[.slice (some ⟨g2,o2,none⟩) dn2 dc2,.slice a2 dn2 c2]∧Own wr (w.heap.size+2) 29 #[.slice none 0 0,.slice none 0 0]∧Own wr gX 29 #[.slice xa (dn1+k) xc,.slice va (n1+k) vc]∧Hid (wr.ownsRow B0 2 1 (.slice xa (dn1+k) xc) (dn1+k) ((zs++ys.take k).map (Value.int .i64)))∧Hid (wr.ownsRow B0 47 1 (.slice va (n1+k) vc) (n1+k) vs)∧Hid (Vals wr B0 vs (ims++shFs dn1 (jms.take k)))) (fun y _=>dn2 - (intOf y).toNat)
 case atStart=>exact ⟨0,xa,xc,va,vc,vs,Nat.zero_le _,rfl,hb,hBs,hA,hB,hR,hO,Lib.hid (by simpa using HD.out),HI2,Lib.hid (by simpa [shFs] using hW.out)⟩
 case round=>
  clear hb hBs hA hB hR hO HD HI2 hW;obtain ⟨k,xa,xc,va,vc,vs,hk,rfl,hb,hBs,hA,hB,hR,hO,HD,HI2,hW⟩:=hrel;have cB:=hB.cell 0;by_cases hin:k<dn2
  · obtain ⟨b,off,ts,ai,ni,ci,rfl,hbl,hc0,hT0,hni,hx⟩:=HFF2.out.at_ hin;obtain ⟨bd,od,z,hde,hbd,hcd,hz⟩:=HD2.out.at_ hin
    injection hde with hde
    injection hde with e1 e2
    subst e1 e2;have HC0:=Lib.hid hc0;have HCD:=Lib.hid hcd;have HTK:=Lib.hid (shFs_take (s:=dn1) hx.out);have HZK:=Lib.hid (take_snoc hz.out);have hni2:ni≤1048576:=(by have:=HLL2.out ts (List.mem_of_getElem? hx.out);have:=hT0.len;omega);have hk0:(0:Int)≤(k:Int):=(by omega);have hkn:(k:Int)<(dn2:Int):=(by omega);clear hc0 hcd;go_upto_region 5 with fail
    have hD:wr.drew.ownsRow B0 2 1 (.slice xa (dn1+k) xc) (dn1+k) ((zs++ys.take k).map (Value.int .i64)):=HD.out;have hI:wr.drew.ownsRow B0 47 1 (.slice va (n1+k) vc) (n1+k) vs:=HI2.out;replace hA:Own wr.drew w.heap.size 29 #[.slice (some ⟨g1,o1,none⟩) dn1 dc1,.slice a1 n1 c1]:=hA;replace hB:Own wr.drew (w.heap.size+1) 29 #[.slice (some ⟨g2,o2,none⟩) dn2 dc2,.slice (some ⟨b,off,none⟩) dn2 c2]:=hB;replace hR:Own wr.drew (w.heap.size+2) 29 #[.slice none 0 0,.slice none 0 0]:=hR;replace hO:Own wr.drew gX 29 #[.slice xa (dn1+k) xc,.slice va (n1+k) vc]:=hO;replace hW:Hid (Vals wr.drew B0 vs (ims++shFs dn1 (jms.take k))):=Lib.hid (hW.out.keep ((Below.refl _ _).drew));replace hb:Below w.heap.size w wr.drew:=hb.drew;replace hBs:B0≤wr.drew.heap.size:=hBs;have HOD:Hid (∀u∈([Value.int .i64 z]:List Value),u.oneCell'=true):=Lib.hid (by simp [Value.oneCell']);clear HD HI2 cB;refine wp_region_held_drew (S:=(fun w'=>w'.cell? ⟨w.heap.size+1,0,none⟩=some (.slice (some ⟨g2,o2,none⟩) dn2 dc2)∧w'.cell? ⟨g2,o2+k,none⟩=some (.int .i64 z))) (by kernel_rfl) ?_ (fun _=>?_)
    · ((try dsimp only);(exact ⟨hB.cell 0,(World.cell?_of_block (a:=⟨g2,o2+k,none⟩) (hb.block g2 hbd)).trans HCD.out⟩))
    generalize wr.drew=W0d at *;refine hdT 0 ?_;refine hdT 2 ?_;refine hdT 3 ?_;refine hdT 4 ?_;refine hdT 5 ?_;refine hdT 6 ?_;refine wpAnyH_ready (rs:=[1,7]) (by kernel_rfl) (by simp) ?_;refine AllReadyH.cons (hdAt (i:=1) rfl) (fun K hK=>?_) (AllReadyH.cons (hdAt (i:=7) rfl) (fun K hK=>?_) AllReadyH.nil)
    · skip
      have cO1:=hO.cell 0
      (go_simp;try go_wp2_with fail)
      refine hK.out _ _ ?_ (fun _=>?_)
      · ((try dsimp only);(exact ⟨hB.cell 0,(World.cell?_of_block (a:=⟨g2,o2+k,none⟩) (hb.block g2 hbd)).trans HCD.out⟩))
      clear hK K
      (try simp only [Act.put,pA,pB,pC])
      refine hdC 7 (fun K hK=>?_)
      (go_simp;try go_wp2_with fail)
      have hN:=Own.new W0d 2 #[.int .i64 z];have hbX:=bA1 W0d (.cells #[.int .i64 z] 2);replace hA:=hA.keep hbX hA.lt;replace hB:=hB.keep hbX hB.lt;replace hR:=hR.keep hbX hR.lt;replace hD:=row_keep hD hbX;replace hI:=row_keep hI hbX;replace hW:=Lib.hid (hW.out.keep hbX);replace hb:=bT' hb hbX hb.size;replace hBs:=Nat.le_trans hBs hbX.size;replace hO:=hO.keep hbX hO.lt;generalize W0d.alloc (.cells #[.int .i64 z] 2)=W1 at *;generalize hhNg:W0d.heap.size=ghN at *;clear hbX hhNg;refine hK.out _ _ ?_ (fun _=>?_)
      · ((try dsimp only);(exact ⟨hB.cell 0,(World.cell?_of_block (a:=⟨g2,o2+k,none⟩) (hb.block g2 hbd)).trans HCD.out⟩))
      clear hK K
      (try simp only [Act.put,pA,pB,pC])
      refine hdC 8 (fun K hK=>?_);have HNW:Hid (∀j u,([Value.int .i64 z]:List Value)[j]? = some u→W1.cell? ((⟨ghN,0,none⟩:Addr).add j)=some u):=Lib.hid (fun j u hu=>by rw [Addr.add_mid];exact hN.range j u hu);have HRW:=Lib.hid hD;have hszW:B0≤W1.heap.size:=hBs;rw [if_pos (by rfl)];refine wp_append_own_wide _ (.tmp 17) (.tmp 23) 22 rfl B0 2 ti2 tz2 1 8 Try.underlying22 HI2.out HZ2.out HS2.out HBt2.out HZs2.out (by omega) (.slice xa (dn1+k) xc) (dn1+k) _ rfl HRW.out ⟨ghN,0,none⟩ 1 1 [Value.int .i64 z] rfl rfl HNW.out HOD.out (by simp only [maxLen];omega) (by omega) hszW (fun v' W2 h2 h3 h4=>?_);obtain ⟨xad,xcd,rfl⟩:=row_slice h2;replace hA:=hA.grown h3 (own_ne_row hA HRW.out (by decide));replace hB:=hB.grown h3 (own_ne_row hB HRW.out (by decide));replace hR:=hR.grown h3 (own_ne_row hR HRW.out (by decide));replace hI:=row_grown hI HRW.out (by decide) h3;replace hW:=Lib.hid (vals_grown hW.out HRW.out (by decide) h3);replace hb:=grown_below hb h3 (fun j e=>by have:=(HRW.out.lt j e).1;omega) hb.size;replace hBs:=Nat.le_trans hBs h3.size;replace hO:=hO.grown h3 (own_ne_row hO HRW.out (by decide));have H2:=Lib.hid h2;clear h2 h4 hD hN;clear HNW HRW hszW h3;refine hK.out _ _ ?_ (fun _=>?_)
      · ((try dsimp only);(exact ⟨hB.cell 0,(World.cell?_of_block (a:=⟨g2,o2+k,none⟩) (hb.block g2 hbd)).trans HCD.out⟩))
      clear hK K
      (try simp only [Act.put,pA,pB,pC])
      refine hdT 9 ?_;refine hdC 10 (fun K hK=>?_);have cO2:=hO.cell 0;have fO2:=hO.frozen 0
      (go_simp;go_wp2_with fail)
      replace hA:=hA.far (p:=⟨gX,0,none⟩) (by dsimp only;omega) (.slice xad (dn1+k+1) xcd);replace hB:=hB.far (p:=⟨gX,0,none⟩) (by dsimp only;omega) (.slice xad (dn1+k+1) xcd);replace hR:=hR.far (p:=⟨gX,0,none⟩) (by dsimp only;omega) (.slice xad (dn1+k+1) xcd);have H5:=Lib.hid (row_far (p:=⟨gX,0,none⟩) H2.out hO (by decide) (.slice xad (dn1+k+1) xcd));replace hI:=row_far (p:=⟨gX,0,none⟩) hI hO (by decide) (.slice xad (dn1+k+1) xcd);replace hW:=Lib.hid (vals_far (p:=⟨gX,0,none⟩) hW.out hO (by decide) (.slice xad (dn1+k+1) xcd));replace hb:=hb.setCell (p:=⟨gX,0,none⟩) (by dsimp only;omega) (.slice xad (dn1+k+1) xcd);replace hBs:B0≤(W2.setCell ⟨gX,0,none⟩ (.slice xad (dn1+k+1) xcd)).heap.size:=(by simpa using hBs);replace hO:=hO.set 0 (.slice xad (dn1+k+1) xcd);generalize W2.setCell ⟨gX,0,none⟩ (.slice xad (dn1+k+1) xcd)=W3 at *;clear cO2 fO2;refine hK.out _ _ ?_ (fun _=>?_)
      · ((try dsimp only);(exact ⟨hB.cell 0,(World.cell?_of_block (a:=⟨g2,o2+k,none⟩) (hb.block g2 hbd)).trans HCD.out⟩))
      clear hK K
      (try simp only [Act.put,pA,pB,pC])
      refine wpAnyH_done (by kernel_rfl) ?_ _;have hD:=H5.out;clear H5;have HDx:=Lib.hid hD;have HIx:=Lib.hid hI;clear hD hI;go_upto_region 6 with fail
      have hD:W3.drew.ownsRow B0 2 1 (.slice xad (dn1+k+1) xcd) (dn1+k+1) ((zs++ys.take k).map (Value.int .i64)++[.int .i64 z]):=HDx.out;have hI:W3.drew.ownsRow B0 47 1 (.slice va (n1+k) vc) (n1+k) vs:=HIx.out;replace hA:=hA.drew;replace hB:=hB.drew;replace hR:=hR.drew;replace hO:=hO.drew;replace hW:=Lib.hid (hW.out.keep ((Below.refl _ _).drew:Below W3.heap.size W3 W3.drew));replace hb:=hb.drew;replace hBs:B0≤W3.drew.heap.size:=hBs;clear HDx HIx;refine wp_region_held_drew (S:=(fun w'=>w'.cell? ⟨w.heap.size+1,1,none⟩=some (.slice (some ⟨b,off,none⟩) dn2 c2)∧w'.cell? ⟨b,off+k,none⟩=some (.slice ai ni ci)∧w'.cell? ⟨w.heap.size,0,none⟩=some (.slice (some ⟨g1,o1,none⟩) dn1 dc1))) (by kernel_rfl) ?_ (fun _=>?_)
      · ((try dsimp only);(exact ⟨hB.cell 1,(World.cell?_of_block (a:=⟨b,off+k,none⟩) (hb.block b hbl)).trans HC0.out,hA.cell 0⟩))
      generalize W3.drew=W3x at *;refine hdT 0 ?_;refine hdT 2 ?_;refine hdT 3 ?_;refine hdT 4 ?_;refine hdT 5 ?_;refine hdT 6 ?_;refine hdT 7 ?_;refine hdT 8 ?_;refine hdT 9 ?_;refine wpAnyH_ready (rs:=[1,10]) (by kernel_rfl) (by simp) ?_;refine AllReadyH.cons (hdAt (i:=1) rfl) (fun K hK=>?_) (AllReadyH.cons (hdAt (i:=10) rfl) (fun K hK=>?_) AllReadyH.nil)
      · skip
        have cO1:=hO.cell 1
        (go_simp;try go_wp2_with fail)
        refine hK.out _ _ ?_ (fun _=>?_)
        · ((try dsimp only);(exact ⟨hB.cell 1,(World.cell?_of_block (a:=⟨b,off+k,none⟩) (hb.block b hbl)).trans HC0.out,hA.cell 0⟩))
        clear hK K
        (try simp only [Act.put,pA,pB,pC])
        refine hdC 10 (fun K hK=>?_);have HLT:=Lib.hid hW.out.lt;have hbs:=hBs
        (go_simp;(go_at_call 94;refine (l02Copy_c ci dn1 (hT0.keep hb) hni2 hdn1).mono ?_;rintro e W1 ⟨va2,vc2,rfl,hV,hbX⟩);go_wp2_with fail)
        replace hA:=hA.keep hbX hA.lt;replace hB:=hB.keep hbX hB.lt;replace hR:=hR.keep hbX hR.lt;replace hD:=row_keep hD hbX;replace hI:=row_keep hI hbX;replace hW:=Lib.hid (hW.out.keep hbX);replace hb:=bT' hb hbX hb.size;replace hBs:=Nat.le_trans hBs hbX.size;replace hO:=hO.keep hbX hO.lt;replace hW:=Lib.hid (hW.out.snoc HLT.out hbs hV);have HON:Hid (∀u∈([Value.slice va2 ni vc2]:List Value),u.oneCell'=true):=Lib.hid (by simp [Value.oneCell']);clear HLT hbs hV;clear hbX;refine hK.out _ _ ?_ (fun _=>?_)
        · ((try dsimp only);(exact ⟨hB.cell 1,(World.cell?_of_block (a:=⟨b,off+k,none⟩) (hb.block b hbl)).trans HC0.out,hA.cell 0⟩))
        clear hK K
        (try simp only [Act.put,pA,pB,pC])
        refine hdC 11 (fun K hK=>?_)
        (go_simp;try go_wp2_with fail)
        have hN:=Own.new W1 47 #[.slice va2 ni vc2];have hbX:=bA1 W1 (.cells #[.slice va2 ni vc2] 47);replace hA:=hA.keep hbX hA.lt;replace hB:=hB.keep hbX hB.lt;replace hR:=hR.keep hbX hR.lt;replace hD:=row_keep hD hbX;replace hI:=row_keep hI hbX;replace hW:=Lib.hid (hW.out.keep hbX);replace hb:=bT' hb hbX hb.size;replace hBs:=Nat.le_trans hBs hbX.size;replace hO:=hO.keep hbX hO.lt;generalize W1.alloc (.cells #[.slice va2 ni vc2] 47)=W2 at *;generalize hhNg:W1.heap.size=ghN at *;clear hbX hhNg;refine hK.out _ _ ?_ (fun _=>?_)
        · ((try dsimp only);(exact ⟨hB.cell 1,(World.cell?_of_block (a:=⟨b,off+k,none⟩) (hb.block b hbl)).trans HC0.out,hA.cell 0⟩))
        clear hK K
        (try simp only [Act.put,pA,pB,pC])
        refine hdC 12 (fun K hK=>?_);have HNW:Hid (∀j u,([Value.slice va2 ni vc2]:List Value)[j]? = some u→W2.cell? ((⟨ghN,0,none⟩:Addr).add j)=some u):=Lib.hid (fun j u hu=>by rw [Addr.add_mid];exact hN.range j u hu);have HRW:=Lib.hid hI;have hszW:B0≤W2.heap.size:=hBs;rw [if_pos (by rfl)];refine wp_append_own_wide _ (.tmp 27) (.tmp 37) 27 rfl B0 47 ti tz 1 24 Try.underlying27 HI.out HZ.out HS.out HBt.out HZs.out (by omega) (.slice va (n1+k) vc) (n1+k) _ rfl HRW.out ⟨ghN,0,none⟩ 1 1 [Value.slice va2 ni vc2] rfl rfl HNW.out HON.out (by simp only [maxLen];omega) (by omega) hszW (fun v' W3 h2 h3 h4=>?_);obtain ⟨xai,xci,rfl⟩:=row_slice h2;replace hA:=hA.grown h3 (own_ne_row hA HRW.out (by decide));replace hB:=hB.grown h3 (own_ne_row hB HRW.out (by decide));replace hR:=hR.grown h3 (own_ne_row hR HRW.out (by decide));replace hD:=row_grown hD HRW.out (by decide) h3;replace hW:=Lib.hid (hW.out.grown h3 (fun q e=>row_own HRW.out e));replace hb:=grown_below hb h3 (fun j e=>by have:=(HRW.out.lt j e).1;omega) hb.size;replace hBs:=Nat.le_trans hBs h3.size;replace hO:=hO.grown h3 (own_ne_row hO HRW.out (by decide));have H2:=Lib.hid h2;clear h2 h4 hI hN;clear HNW HRW hszW h3;refine hK.out _ _ ?_ (fun _=>?_)
        · ((try dsimp only);(exact ⟨hB.cell 1,(World.cell?_of_block (a:=⟨b,off+k,none⟩) (hb.block b hbl)).trans HC0.out,hA.cell 0⟩))
        clear hK K
        (try simp only [Act.put,pA,pB,pC])
        refine hdT 13 ?_;refine hdC 14 (fun K hK=>?_);have cO2:=hO.cell 1;have fO2:=hO.frozen 1
        (go_simp;go_wp2_with fail)
        replace hA:=hA.far (p:=⟨gX,1,none⟩) (by dsimp only;omega) (.slice xai (n1+k+1) xci);replace hB:=hB.far (p:=⟨gX,1,none⟩) (by dsimp only;omega) (.slice xai (n1+k+1) xci);replace hR:=hR.far (p:=⟨gX,1,none⟩) (by dsimp only;omega) (.slice xai (n1+k+1) xci);replace hD:=row_far (p:=⟨gX,1,none⟩) hD hO (by decide) (.slice xai (n1+k+1) xci);have H6:=Lib.hid (row_far (p:=⟨gX,1,none⟩) H2.out hO (by decide) (.slice xai (n1+k+1) xci));replace hW:=Lib.hid (vals_far (p:=⟨gX,1,none⟩) hW.out hO (by decide) (.slice xai (n1+k+1) xci));replace hb:=hb.setCell (p:=⟨gX,1,none⟩) (by dsimp only;omega) (.slice xai (n1+k+1) xci);replace hBs:B0≤(W3.setCell ⟨gX,1,none⟩ (.slice xai (n1+k+1) xci)).heap.size:=(by simpa using hBs);replace hO:=hO.set 1 (.slice xai (n1+k+1) xci);generalize W3.setCell ⟨gX,1,none⟩ (.slice xai (n1+k+1) xci)=W4 at *;clear cO2 fO2;refine hK.out _ _ ?_ (fun _=>?_)
        · ((try dsimp only);(exact ⟨hB.cell 1,(World.cell?_of_block (a:=⟨b,off+k,none⟩) (hb.block b hbl)).trans HC0.out,hA.cell 0⟩))
        clear hK K
        (try simp only [Act.put,pA,pB,pC])
        refine wpAnyH_done (by kernel_rfl) ?_ _;go_wp2_with fail
        go_roundw
        case rel=>
         refine ⟨k+1,xad,xcd,xai,xci,vs++[.slice va2 ni vc2],by omega,by go_num,hb,hBs,hA,hB,hR,hO,Lib.hid ?_,H6,?_⟩
         · have q:=hD;rw [HZK.out,←List.append_assoc,List.map_append];exact q
         · rw [HTK.out,←List.append_assoc];exact hW
        case measure=>simp [intOf] <;> omega
      · skip
        have HLT:=Lib.hid hW.out.lt;have hbs:=hBs
        (go_simp;(go_at_call 94;refine (l02Copy_c ci dn1 (hT0.keep hb) hni2 hdn1).mono ?_;rintro e W5 ⟨va2,vc2,rfl,hV,hbX⟩);go_wp2_with fail)
        replace hA:=hA.keep hbX hA.lt;replace hB:=hB.keep hbX hB.lt;replace hR:=hR.keep hbX hR.lt;replace hD:=row_keep hD hbX;replace hI:=row_keep hI hbX;replace hW:=Lib.hid (hW.out.keep hbX);replace hb:=bT' hb hbX hb.size;replace hBs:=Nat.le_trans hBs hbX.size;replace hO:=hO.keep hbX hO.lt;replace hW:=Lib.hid (hW.out.snoc HLT.out hbs hV);have HON:Hid (∀u∈([Value.slice va2 ni vc2]:List Value),u.oneCell'=true):=Lib.hid (by simp [Value.oneCell']);clear HLT hbs hV;clear hbX;refine hK.out _ _ ?_ (fun _=>?_)
        · ((try dsimp only);(exact ⟨hB.cell 1,(World.cell?_of_block (a:=⟨b,off+k,none⟩) (hb.block b hbl)).trans HC0.out,hA.cell 0⟩))
        clear hK K
        (try simp only [Act.put,pA,pB,pC])
        refine wpAnyH_ready (rs:=[1,11]) (by kernel_rfl) (by simp) ?_;refine AllReadyH.cons (hdAt (i:=1) rfl) (fun K hK=>?_) (AllReadyH.cons (hdAt (i:=11) rfl) (fun K hK=>?_) AllReadyH.nil)
        · skip
          have cO1:=hO.cell 1
          (go_simp;try go_wp2_with fail)
          refine hK.out _ _ ?_ (fun _=>?_)
          · ((try dsimp only);(exact ⟨hB.cell 1,(World.cell?_of_block (a:=⟨b,off+k,none⟩) (hb.block b hbl)).trans HC0.out,hA.cell 0⟩))
          clear hK K
          (try simp only [Act.put,pA,pB,pC])
          refine hdC 11 (fun K hK=>?_)
          (go_simp;try go_wp2_with fail)
          have hN:=Own.new W5 47 #[.slice va2 ni vc2];have hbX:=bA1 W5 (.cells #[.slice va2 ni vc2] 47);replace hA:=hA.keep hbX hA.lt;replace hB:=hB.keep hbX hB.lt;replace hR:=hR.keep hbX hR.lt;replace hD:=row_keep hD hbX;replace hI:=row_keep hI hbX;replace hW:=Lib.hid (hW.out.keep hbX);replace hb:=bT' hb hbX hb.size;replace hBs:=Nat.le_trans hBs hbX.size;replace hO:=hO.keep hbX hO.lt;generalize W5.alloc (.cells #[.slice va2 ni vc2] 47)=W6 at *;generalize hhNg:W5.heap.size=ghN at *;clear hbX hhNg;refine hK.out _ _ ?_ (fun _=>?_)
          · ((try dsimp only);(exact ⟨hB.cell 1,(World.cell?_of_block (a:=⟨b,off+k,none⟩) (hb.block b hbl)).trans HC0.out,hA.cell 0⟩))
          clear hK K
          (try simp only [Act.put,pA,pB,pC])
          refine hdC 12 (fun K hK=>?_);have HNW:Hid (∀j u,([Value.slice va2 ni vc2]:List Value)[j]? = some u→W6.cell? ((⟨ghN,0,none⟩:Addr).add j)=some u):=Lib.hid (fun j u hu=>by rw [Addr.add_mid];exact hN.range j u hu);have HRW:=Lib.hid hI;have hszW:B0≤W6.heap.size:=hBs;rw [if_pos (by rfl)];refine wp_append_own_wide _ (.tmp 27) (.tmp 37) 27 rfl B0 47 ti tz 1 24 Try.underlying27 HI.out HZ.out HS.out HBt.out HZs.out (by omega) (.slice va (n1+k) vc) (n1+k) _ rfl HRW.out ⟨ghN,0,none⟩ 1 1 [Value.slice va2 ni vc2] rfl rfl HNW.out HON.out (by simp only [maxLen];omega) (by omega) hszW (fun v' W7 h2 h3 h4=>?_);obtain ⟨xai,xci,rfl⟩:=row_slice h2;replace hA:=hA.grown h3 (own_ne_row hA HRW.out (by decide));replace hB:=hB.grown h3 (own_ne_row hB HRW.out (by decide));replace hR:=hR.grown h3 (own_ne_row hR HRW.out (by decide));replace hD:=row_grown hD HRW.out (by decide) h3;replace hW:=Lib.hid (hW.out.grown h3 (fun q e=>row_own HRW.out e));replace hb:=grown_below hb h3 (fun j e=>by have:=(HRW.out.lt j e).1;omega) hb.size;replace hBs:=Nat.le_trans hBs h3.size;replace hO:=hO.grown h3 (own_ne_row hO HRW.out (by decide));have H2:=Lib.hid h2;clear h2 h4 hI hN;clear HNW HRW hszW h3;refine hK.out _ _ ?_ (fun _=>?_)
          · ((try dsimp only);(exact ⟨hB.cell 1,(World.cell?_of_block (a:=⟨b,off+k,none⟩) (hb.block b hbl)).trans HC0.out,hA.cell 0⟩))
          clear hK K
          (try simp only [Act.put,pA,pB,pC])
          refine hdT 13 ?_;refine hdC 14 (fun K hK=>?_);have cO2:=hO.cell 1;have fO2:=hO.frozen 1
          (go_simp;go_wp2_with fail)
          replace hA:=hA.far (p:=⟨gX,1,none⟩) (by dsimp only;omega) (.slice xai (n1+k+1) xci);replace hB:=hB.far (p:=⟨gX,1,none⟩) (by dsimp only;omega) (.slice xai (n1+k+1) xci);replace hR:=hR.far (p:=⟨gX,1,none⟩) (by dsimp only;omega) (.slice xai (n1+k+1) xci);replace hD:=row_far (p:=⟨gX,1,none⟩) hD hO (by decide) (.slice xai (n1+k+1) xci);have H6:=Lib.hid (row_far (p:=⟨gX,1,none⟩) H2.out hO (by decide) (.slice xai (n1+k+1) xci));replace hW:=Lib.hid (vals_far (p:=⟨gX,1,none⟩) hW.out hO (by decide) (.slice xai (n1+k+1) xci));replace hb:=hb.setCell (p:=⟨gX,1,none⟩) (by dsimp only;omega) (.slice xai (n1+k+1) xci);replace hBs:B0≤(W7.setCell ⟨gX,1,none⟩ (.slice xai (n1+k+1) xci)).heap.size:=(by simpa using hBs);replace hO:=hO.set 1 (.slice xai (n1+k+1) xci);generalize W7.setCell ⟨gX,1,none⟩ (.slice xai (n1+k+1) xci)=W8 at *;clear cO2 fO2;refine hK.out _ _ ?_ (fun _=>?_)
          · ((try dsimp only);(exact ⟨hB.cell 1,(World.cell?_of_block (a:=⟨b,off+k,none⟩) (hb.block b hbl)).trans HC0.out,hA.cell 0⟩))
          clear hK K
          (try simp only [Act.put,pA,pB,pC])
          refine wpAnyH_done (by kernel_rfl) ?_ _;go_wp2_with fail
          go_roundw
          case rel=>
           refine ⟨k+1,xad,xcd,xai,xci,vs++[.slice va2 ni vc2],by omega,by go_num,hb,hBs,hA,hB,hR,hO,Lib.hid ?_,H6,?_⟩
           · have q:=hD;rw [HZK.out,←List.append_assoc,List.map_append];exact q
           · rw [HTK.out,←List.append_assoc];exact hW
          case measure=>simp [intOf] <;> omega
        · skip
          (go_simp;try go_wp2_with fail)
          have hN:=Own.new W5 47 #[.slice va2 ni vc2];have hbX:=bA1 W5 (.cells #[.slice va2 ni vc2] 47);replace hA:=hA.keep hbX hA.lt;replace hB:=hB.keep hbX hB.lt;replace hR:=hR.keep hbX hR.lt;replace hD:=row_keep hD hbX;replace hI:=row_keep hI hbX;replace hW:=Lib.hid (hW.out.keep hbX);replace hb:=bT' hb hbX hb.size;replace hBs:=Nat.le_trans hBs hbX.size;replace hO:=hO.keep hbX hO.lt;generalize W5.alloc (.cells #[.slice va2 ni vc2] 47)=W9 at *;generalize hhNg:W5.heap.size=ghN at *;clear hbX hhNg;refine hK.out _ _ ?_ (fun _=>?_)
          · ((try dsimp only);(exact ⟨hB.cell 1,(World.cell?_of_block (a:=⟨b,off+k,none⟩) (hb.block b hbl)).trans HC0.out,hA.cell 0⟩))
          clear hK K
          (try simp only [Act.put,pA,pB,pC])
          refine hdC 1 (fun K hK=>?_);have cO1:=hO.cell 1
          (go_simp;try go_wp2_with fail)
          refine hK.out _ _ ?_ (fun _=>?_)
          · ((try dsimp only);(exact ⟨hB.cell 1,(World.cell?_of_block (a:=⟨b,off+k,none⟩) (hb.block b hbl)).trans HC0.out,hA.cell 0⟩))
          clear hK K
          (try simp only [Act.put,pA,pB,pC])
          refine hdC 12 (fun K hK=>?_);have HNW:Hid (∀j u,([Value.slice va2 ni vc2]:List Value)[j]? = some u→W9.cell? ((⟨ghN,0,none⟩:Addr).add j)=some u):=Lib.hid (fun j u hu=>by rw [Addr.add_mid];exact hN.range j u hu);have HRW:=Lib.hid hI;have hszW:B0≤W9.heap.size:=hBs;rw [if_pos (by rfl)];refine wp_append_own_wide _ (.tmp 27) (.tmp 37) 27 rfl B0 47 ti tz 1 24 Try.underlying27 HI.out HZ.out HS.out HBt.out HZs.out (by omega) (.slice va (n1+k) vc) (n1+k) _ rfl HRW.out ⟨ghN,0,none⟩ 1 1 [Value.slice va2 ni vc2] rfl rfl HNW.out HON.out (by simp only [maxLen];omega) (by omega) hszW (fun v' W10 h2 h3 h4=>?_);obtain ⟨xai,xci,rfl⟩:=row_slice h2;replace hA:=hA.grown h3 (own_ne_row hA HRW.out (by decide));replace hB:=hB.grown h3 (own_ne_row hB HRW.out (by decide));replace hR:=hR.grown h3 (own_ne_row hR HRW.out (by decide));replace hD:=row_grown hD HRW.out (by decide) h3;replace hW:=Lib.hid (hW.out.grown h3 (fun q e=>row_own HRW.out e));replace hb:=grown_below hb h3 (fun j e=>by have:=(HRW.out.lt j e).1;omega) hb.size;replace hBs:=Nat.le_trans hBs h3.size;replace hO:=hO.grown h3 (own_ne_row hO HRW.out (by decide));have H2:=Lib.hid h2;clear h2 h4 hI hN;clear HNW HRW hszW h3;refine hK.out _ _ ?_ (fun _=>?_)
          · ((try dsimp only);(exact ⟨hB.cell 1,(World.cell?_of_block (a:=⟨b,off+k,none⟩) (hb.block b hbl)).trans HC0.out,hA.cell 0⟩))
          clear hK K
          (try simp only [Act.put,pA,pB,pC])
          refine hdT 13 ?_;refine hdC 14 (fun K hK=>?_);have cO2:=hO.cell 1;have fO2:=hO.frozen 1
          (go_simp;go_wp2_with fail)
          replace hA:=hA.far (p:=⟨gX,1,none⟩) (by dsimp only;omega) (.slice xai (n1+k+1) xci);replace hB:=hB.far (p:=⟨gX,1,none⟩) (by dsimp only;omega) (.slice xai (n1+k+1) xci);replace hR:=hR.far (p:=⟨gX,1,none⟩) (by dsimp only;omega) (.slice xai (n1+k+1) xci);replace hD:=row_far (p:=⟨gX,1,none⟩) hD hO (by decide) (.slice xai (n1+k+1) xci);have H6:=Lib.hid (row_far (p:=⟨gX,1,none⟩) H2.out hO (by decide) (.slice xai (n1+k+1) xci));replace hW:=Lib.hid (vals_far (p:=⟨gX,1,none⟩) hW.out hO (by decide) (.slice xai (n1+k+1) xci));replace hb:=hb.setCell (p:=⟨gX,1,none⟩) (by dsimp only;omega) (.slice xai (n1+k+1) xci);replace hBs:B0≤(W10.setCell ⟨gX,1,none⟩ (.slice xai (n1+k+1) xci)).heap.size:=(by simpa using hBs);replace hO:=hO.set 1 (.slice xai (n1+k+1) xci);generalize W10.setCell ⟨gX,1,none⟩ (.slice xai (n1+k+1) xci)=W11 at *;clear cO2 fO2;refine hK.out _ _ ?_ (fun _=>?_)
          · ((try dsimp only);(exact ⟨hB.cell 1,(World.cell?_of_block (a:=⟨b,off+k,none⟩) (hb.block b hbl)).trans HC0.out,hA.cell 0⟩))
          clear hK K
          (try simp only [Act.put,pA,pB,pC])
          refine wpAnyH_done (by kernel_rfl) ?_ _;go_wp2_with fail
          go_roundw
          case rel=>
           refine ⟨k+1,xad,xcd,xai,xci,vs++[.slice va2 ni vc2],by omega,by go_num,hb,hBs,hA,hB,hR,hO,Lib.hid ?_,H6,?_⟩
           · have q:=hD;rw [HZK.out,←List.append_assoc,List.map_append];exact q
           · rw [HTK.out,←List.append_assoc];exact hW
          case measure=>simp [intOf] <;> omega
    · skip
      (go_simp;try go_wp2_with fail)
      have hN:=Own.new W0d 2 #[.int .i64 z];have hbX:=bA1 W0d (.cells #[.int .i64 z] 2);replace hA:=hA.keep hbX hA.lt;replace hB:=hB.keep hbX hB.lt;replace hR:=hR.keep hbX hR.lt;replace hD:=row_keep hD hbX;replace hI:=row_keep hI hbX;replace hW:=Lib.hid (hW.out.keep hbX);replace hb:=bT' hb hbX hb.size;replace hBs:=Nat.le_trans hBs hbX.size;replace hO:=hO.keep hbX hO.lt;generalize W0d.alloc (.cells #[.int .i64 z] 2)=W4 at *;generalize hhNg:W0d.heap.size=ghN at *;clear hbX hhNg;refine hK.out _ _ ?_ (fun _=>?_)
      · ((try dsimp only);(exact ⟨hB.cell 0,(World.cell?_of_block (a:=⟨g2,o2+k,none⟩) (hb.block g2 hbd)).trans HCD.out⟩))
      clear hK K
      (try simp only [Act.put,pA,pB,pC])
      refine hdC 1 (fun K hK=>?_);have cO1:=hO.cell 0
      (go_simp;try go_wp2_with fail)
      refine hK.out _ _ ?_ (fun _=>?_)
      · ((try dsimp only);(exact ⟨hB.cell 0,(World.cell?_of_block (a:=⟨g2,o2+k,none⟩) (hb.block g2 hbd)).trans HCD.out⟩))
      clear hK K
      (try simp only [Act.put,pA,pB,pC])
      refine hdC 8 (fun K hK=>?_);have HNW:Hid (∀j u,([Value.int .i64 z]:List Value)[j]? = some u→W4.cell? ((⟨ghN,0,none⟩:Addr).add j)=some u):=Lib.hid (fun j u hu=>by rw [Addr.add_mid];exact hN.range j u hu);have HRW:=Lib.hid hD;have hszW:B0≤W4.heap.size:=hBs;rw [if_pos (by rfl)];refine wp_append_own_wide _ (.tmp 17) (.tmp 23) 22 rfl B0 2 ti2 tz2 1 8 Try.underlying22 HI2.out HZ2.out HS2.out HBt2.out HZs2.out (by omega) (.slice xa (dn1+k) xc) (dn1+k) _ rfl HRW.out ⟨ghN,0,none⟩ 1 1 [Value.int .i64 z] rfl rfl HNW.out HOD.out (by simp only [maxLen];omega) (by omega) hszW (fun v' W5 h2 h3 h4=>?_);obtain ⟨xad,xcd,rfl⟩:=row_slice h2;replace hA:=hA.grown h3 (own_ne_row hA HRW.out (by decide));replace hB:=hB.grown h3 (own_ne_row hB HRW.out (by decide));replace hR:=hR.grown h3 (own_ne_row hR HRW.out (by decide));replace hI:=row_grown hI HRW.out (by decide) h3;replace hW:=Lib.hid (vals_grown hW.out HRW.out (by decide) h3);replace hb:=grown_below hb h3 (fun j e=>by have:=(HRW.out.lt j e).1;omega) hb.size;replace hBs:=Nat.le_trans hBs h3.size;replace hO:=hO.grown h3 (own_ne_row hO HRW.out (by decide));have H2:=Lib.hid h2;clear h2 h4 hD hN;clear HNW HRW hszW h3;refine hK.out _ _ ?_ (fun _=>?_)
      · ((try dsimp only);(exact ⟨hB.cell 0,(World.cell?_of_block (a:=⟨g2,o2+k,none⟩) (hb.block g2 hbd)).trans HCD.out⟩))
      clear hK K
      (try simp only [Act.put,pA,pB,pC])
      refine hdT 9 ?_;refine hdC 10 (fun K hK=>?_);have cO2:=hO.cell 0;have fO2:=hO.frozen 0
      (go_simp;go_wp2_with fail)
      replace hA:=hA.far (p:=⟨gX,0,none⟩) (by dsimp only;omega) (.slice xad (dn1+k+1) xcd);replace hB:=hB.far (p:=⟨gX,0,none⟩) (by dsimp only;omega) (.slice xad (dn1+k+1) xcd);replace hR:=hR.far (p:=⟨gX,0,none⟩) (by dsimp only;omega) (.slice xad (dn1+k+1) xcd);have H5:=Lib.hid (row_far (p:=⟨gX,0,none⟩) H2.out hO (by decide) (.slice xad (dn1+k+1) xcd));replace hI:=row_far (p:=⟨gX,0,none⟩) hI hO (by decide) (.slice xad (dn1+k+1) xcd);replace hW:=Lib.hid (vals_far (p:=⟨gX,0,none⟩) hW.out hO (by decide) (.slice xad (dn1+k+1) xcd));replace hb:=hb.setCell (p:=⟨gX,0,none⟩) (by dsimp only;omega) (.slice xad (dn1+k+1) xcd);replace hBs:B0≤(W5.setCell ⟨gX,0,none⟩ (.slice xad (dn1+k+1) xcd)).heap.size:=(by simpa using hBs);replace hO:=hO.set 0 (.slice xad (dn1+k+1) xcd);generalize W5.setCell ⟨gX,0,none⟩ (.slice xad (dn1+k+1) xcd)=W6 at *;clear cO2 fO2;refine hK.out _ _ ?_ (fun _=>?_)
      · ((try dsimp only);(exact ⟨hB.cell 0,(World.cell?_of_block (a:=⟨g2,o2+k,none⟩) (hb.block g2 hbd)).trans HCD.out⟩))
      clear hK K
      (try simp only [Act.put,pA,pB,pC])
      refine wpAnyH_done (by kernel_rfl) ?_ _;have hD:=H5.out;clear H5;have HDx:=Lib.hid hD;have HIx:=Lib.hid hI;clear hD hI;go_upto_region 6 with fail
      have hD:W6.drew.ownsRow B0 2 1 (.slice xad (dn1+k+1) xcd) (dn1+k+1) ((zs++ys.take k).map (Value.int .i64)++[.int .i64 z]):=HDx.out;have hI:W6.drew.ownsRow B0 47 1 (.slice va (n1+k) vc) (n1+k) vs:=HIx.out;replace hA:=hA.drew;replace hB:=hB.drew;replace hR:=hR.drew;replace hO:=hO.drew;replace hW:=Lib.hid (hW.out.keep ((Below.refl _ _).drew:Below W6.heap.size W6 W6.drew));replace hb:=hb.drew;replace hBs:B0≤W6.drew.heap.size:=hBs;clear HDx HIx;refine wp_region_held_drew (S:=(fun w'=>w'.cell? ⟨w.heap.size+1,1,none⟩=some (.slice (some ⟨b,off,none⟩) dn2 c2)∧w'.cell? ⟨b,off+k,none⟩=some (.slice ai ni ci)∧w'.cell? ⟨w.heap.size,0,none⟩=some (.slice (some ⟨g1,o1,none⟩) dn1 dc1))) (by kernel_rfl) ?_ (fun _=>?_)
      · ((try dsimp only);(exact ⟨hB.cell 1,(World.cell?_of_block (a:=⟨b,off+k,none⟩) (hb.block b hbl)).trans HC0.out,hA.cell 0⟩))
      generalize W6.drew=W6x at *;refine hdT 0 ?_;refine hdT 2 ?_;refine hdT 3 ?_;refine hdT 4 ?_;refine hdT 5 ?_;refine hdT 6 ?_;refine hdT 7 ?_;refine hdT 8 ?_;refine hdT 9 ?_;refine wpAnyH_ready (rs:=[1,10]) (by kernel_rfl) (by simp) ?_;refine AllReadyH.cons (hdAt (i:=1) rfl) (fun K hK=>?_) (AllReadyH.cons (hdAt (i:=10) rfl) (fun K hK=>?_) AllReadyH.nil)
      · skip
        have cO1:=hO.cell 1
        (go_simp;try go_wp2_with fail)
        refine hK.out _ _ ?_ (fun _=>?_)
        · ((try dsimp only);(exact ⟨hB.cell 1,(World.cell?_of_block (a:=⟨b,off+k,none⟩) (hb.block b hbl)).trans HC0.out,hA.cell 0⟩))
        clear hK K
        (try simp only [Act.put,pA,pB,pC])
        refine hdC 10 (fun K hK=>?_);have HLT:=Lib.hid hW.out.lt;have hbs:=hBs
        (go_simp;(go_at_call 94;refine (l02Copy_c ci dn1 (hT0.keep hb) hni2 hdn1).mono ?_;rintro e W1 ⟨va2,vc2,rfl,hV,hbX⟩);go_wp2_with fail)
        replace hA:=hA.keep hbX hA.lt;replace hB:=hB.keep hbX hB.lt;replace hR:=hR.keep hbX hR.lt;replace hD:=row_keep hD hbX;replace hI:=row_keep hI hbX;replace hW:=Lib.hid (hW.out.keep hbX);replace hb:=bT' hb hbX hb.size;replace hBs:=Nat.le_trans hBs hbX.size;replace hO:=hO.keep hbX hO.lt;replace hW:=Lib.hid (hW.out.snoc HLT.out hbs hV);have HON:Hid (∀u∈([Value.slice va2 ni vc2]:List Value),u.oneCell'=true):=Lib.hid (by simp [Value.oneCell']);clear HLT hbs hV;clear hbX;refine hK.out _ _ ?_ (fun _=>?_)
        · ((try dsimp only);(exact ⟨hB.cell 1,(World.cell?_of_block (a:=⟨b,off+k,none⟩) (hb.block b hbl)).trans HC0.out,hA.cell 0⟩))
        clear hK K
        (try simp only [Act.put,pA,pB,pC])
        refine hdC 11 (fun K hK=>?_)
        (go_simp;try go_wp2_with fail)
        have hN:=Own.new W1 47 #[.slice va2 ni vc2];have hbX:=bA1 W1 (.cells #[.slice va2 ni vc2] 47);replace hA:=hA.keep hbX hA.lt;replace hB:=hB.keep hbX hB.lt;replace hR:=hR.keep hbX hR.lt;replace hD:=row_keep hD hbX;replace hI:=row_keep hI hbX;replace hW:=Lib.hid (hW.out.keep hbX);replace hb:=bT' hb hbX hb.size;replace hBs:=Nat.le_trans hBs hbX.size;replace hO:=hO.keep hbX hO.lt;generalize W1.alloc (.cells #[.slice va2 ni vc2] 47)=W2 at *;generalize hhNg:W1.heap.size=ghN at *;clear hbX hhNg;refine hK.out _ _ ?_ (fun _=>?_)
        · ((try dsimp only);(exact ⟨hB.cell 1,(World.cell?_of_block (a:=⟨b,off+k,none⟩) (hb.block b hbl)).trans HC0.out,hA.cell 0⟩))
        clear hK K
        (try simp only [Act.put,pA,pB,pC])
        refine hdC 12 (fun K hK=>?_);have HNW:Hid (∀j u,([Value.slice va2 ni vc2]:List Value)[j]? = some u→W2.cell? ((⟨ghN,0,none⟩:Addr).add j)=some u):=Lib.hid (fun j u hu=>by rw [Addr.add_mid];exact hN.range j u hu);have HRW:=Lib.hid hI;have hszW:B0≤W2.heap.size:=hBs;rw [if_pos (by rfl)];refine wp_append_own_wide _ (.tmp 27) (.tmp 37) 27 rfl B0 47 ti tz 1 24 Try.underlying27 HI.out HZ.out HS.out HBt.out HZs.out (by omega) (.slice va (n1+k) vc) (n1+k) _ rfl HRW.out ⟨ghN,0,none⟩ 1 1 [Value.slice va2 ni vc2] rfl rfl HNW.out HON.out (by simp only [maxLen];omega) (by omega) hszW (fun v' W3 h2 h3 h4=>?_);obtain ⟨xai,xci,rfl⟩:=row_slice h2;replace hA:=hA.grown h3 (own_ne_row hA HRW.out (by decide));replace hB:=hB.grown h3 (own_ne_row hB HRW.out (by decide));replace hR:=hR.grown h3 (own_ne_row hR HRW.out (by decide));replace hD:=row_grown hD HRW.out (by decide) h3;replace hW:=Lib.hid (hW.out.grown h3 (fun q e=>row_own HRW.out e));replace hb:=grown_below hb h3 (fun j e=>by have:=(HRW.out.lt j e).1;omega) hb.size;replace hBs:=Nat.le_trans hBs h3.size;replace hO:=hO.grown h3 (own_ne_row hO HRW.out (by decide));have H2:=Lib.hid h2;clear h2 h4 hI hN;clear HNW HRW hszW h3;refine hK.out _ _ ?_ (fun _=>?_)
        · ((try dsimp only);(exact ⟨hB.cell 1,(World.cell?_of_block (a:=⟨b,off+k,none⟩) (hb.block b hbl)).trans HC0.out,hA.cell 0⟩))
        clear hK K
        (try simp only [Act.put,pA,pB,pC])
        refine hdT 13 ?_;refine hdC 14 (fun K hK=>?_);have cO2:=hO.cell 1;have fO2:=hO.frozen 1
        (go_simp;go_wp2_with fail)
        replace hA:=hA.far (p:=⟨gX,1,none⟩) (by dsimp only;omega) (.slice xai (n1+k+1) xci);replace hB:=hB.far (p:=⟨gX,1,none⟩) (by dsimp only;omega) (.slice xai (n1+k+1) xci);replace hR:=hR.far (p:=⟨gX,1,none⟩) (by dsimp only;omega) (.slice xai (n1+k+1) xci);replace hD:=row_far (p:=⟨gX,1,none⟩) hD hO (by decide) (.slice xai (n1+k+1) xci);have H6:=Lib.hid (row_far (p:=⟨gX,1,none⟩) H2.out hO (by decide) (.slice xai (n1+k+1) xci));replace hW:=Lib.hid (vals_far (p:=⟨gX,1,none⟩) hW.out hO (by decide) (.slice xai (n1+k+1) xci));replace hb:=hb.setCell (p:=⟨gX,1,none⟩) (by dsimp only;omega) (.slice xai (n1+k+1) xci);replace hBs:B0≤(W3.setCell ⟨gX,1,none⟩ (.slice xai (n1+k+1) xci)).heap.size:=(by simpa using hBs);replace hO:=hO.set 1 (.slice xai (n1+k+1) xci);generalize W3.setCell ⟨gX,1,none⟩ (.slice xai (n1+k+1) xci)=W4 at *;clear cO2 fO2;refine hK.out _ _ ?_ (fun _=>?_)
        · ((try dsimp only);(exact ⟨hB.cell 1,(World.cell?_of_block (a:=⟨b,off+k,none⟩) (hb.block b hbl)).trans HC0.out,hA.cell 0⟩))
        clear hK K
        (try simp only [Act.put,pA,pB,pC])
        refine wpAnyH_done (by kernel_rfl) ?_ _;go_wp2_with fail
        go_roundw
        case rel=>
         refine ⟨k+1,xad,xcd,xai,xci,vs++[.slice va2 ni vc2],by omega,by go_num,hb,hBs,hA,hB,hR,hO,Lib.hid ?_,H6,?_⟩
         · have q:=hD;rw [HZK.out,←List.append_assoc,List.map_append];exact q
         · rw [HTK.out,←List.append_assoc];exact hW
        case measure=>simp [intOf] <;> omega
      · skip
        have HLT:=Lib.hid hW.out.lt;have hbs:=hBs
        (go_simp;(go_at_call 94;refine (l02Copy_c ci dn1 (hT0.keep hb) hni2 hdn1).mono ?_;rintro e W5 ⟨va2,vc2,rfl,hV,hbX⟩);go_wp2_with fail)
        replace hA:=hA.keep hbX hA.lt;replace hB:=hB.keep hbX hB.lt;replace hR:=hR.keep hbX hR.lt;replace hD:=row_keep hD hbX;replace hI:=row_keep hI hbX;replace hW:=Lib.hid (hW.out.keep hbX);replace hb:=bT' hb hbX hb.size;replace hBs:=Nat.le_trans hBs hbX.size;replace hO:=hO.keep hbX hO.lt;replace hW:=Lib.hid (hW.out.snoc HLT.out hbs hV);have HON:Hid (∀u∈([Value.slice va2 ni vc2]:List Value),u.oneCell'=true):=Lib.hid (by simp [Value.oneCell']);clear HLT hbs hV;clear hbX;refine hK.out _ _ ?_ (fun _=>?_)
        · ((try dsimp only);(exact ⟨hB.cell 1,(World.cell?_of_block (a:=⟨b,off+k,none⟩) (hb.block b hbl)).trans HC0.out,hA.cell 0⟩))
        clear hK K
        (try simp only [Act.put,pA,pB,pC])
        refine wpAnyH_ready (rs:=[1,11]) (by kernel_rfl) (by simp) ?_;refine AllReadyH.cons (hdAt (i:=1) rfl) (fun K hK=>?_) (AllReadyH.cons (hdAt (i:=11) rfl) (fun K hK=>?_) AllReadyH.nil)
        · skip
          have cO1:=hO.cell 1
          (go_simp;try go_wp2_with fail)
          refine hK.out _ _ ?_ (fun _=>?_)
          · ((try dsimp only);(exact ⟨hB.cell 1,(World.cell?_of_block (a:=⟨b,off+k,none⟩) (hb.block b hbl)).trans HC0.out,hA.cell 0⟩))
          clear hK K
          (try simp only [Act.put,pA,pB,pC])
          refine hdC 11 (fun K hK=>?_)
          (go_simp;try go_wp2_with fail)
          have hN:=Own.new W5 47 #[.slice va2 ni vc2];have hbX:=bA1 W5 (.cells #[.slice va2 ni vc2] 47);replace hA:=hA.keep hbX hA.lt;replace hB:=hB.keep hbX hB.lt;replace hR:=hR.keep hbX hR.lt;replace hD:=row_keep hD hbX;replace hI:=row_keep hI hbX;replace hW:=Lib.hid (hW.out.keep hbX);replace hb:=bT' hb hbX hb.size;replace hBs:=Nat.le_trans hBs hbX.size;replace hO:=hO.keep hbX hO.lt;generalize W5.alloc (.cells #[.slice va2 ni vc2] 47)=W6 at *;generalize hhNg:W5.heap.size=ghN at *;clear hbX hhNg;refine hK.out _ _ ?_ (fun _=>?_)
          · ((try dsimp only);(exact ⟨hB.cell 1,(World.cell?_of_block (a:=⟨b,off+k,none⟩) (hb.block b hbl)).trans HC0.out,hA.cell 0⟩))
          clear hK K
          (try simp only [Act.put,pA,pB,pC])
          refine hdC 12 (fun K hK=>?_);have HNW:Hid (∀j u,([Value.slice va2 ni vc2]:List Value)[j]? = some u→W6.cell? ((⟨ghN,0,none⟩:Addr).add j)=some u):=Lib.hid (fun j u hu=>by rw [Addr.add_mid];exact hN.range j u hu);have HRW:=Lib.hid hI;have hszW:B0≤W6.heap.size:=hBs;rw [if_pos (by rfl)];refine wp_append_own_wide _ (.tmp 27) (.tmp 37) 27 rfl B0 47 ti tz 1 24 Try.underlying27 HI.out HZ.out HS.out HBt.out HZs.out (by omega) (.slice va (n1+k) vc) (n1+k) _ rfl HRW.out ⟨ghN,0,none⟩ 1 1 [Value.slice va2 ni vc2] rfl rfl HNW.out HON.out (by simp only [maxLen];omega) (by omega) hszW (fun v' W7 h2 h3 h4=>?_);obtain ⟨xai,xci,rfl⟩:=row_slice h2;replace hA:=hA.grown h3 (own_ne_row hA HRW.out (by decide));replace hB:=hB.grown h3 (own_ne_row hB HRW.out (by decide));replace hR:=hR.grown h3 (own_ne_row hR HRW.out (by decide));replace hD:=row_grown hD HRW.out (by decide) h3;replace hW:=Lib.hid (hW.out.grown h3 (fun q e=>row_own HRW.out e));replace hb:=grown_below hb h3 (fun j e=>by have:=(HRW.out.lt j e).1;omega) hb.size;replace hBs:=Nat.le_trans hBs h3.size;replace hO:=hO.grown h3 (own_ne_row hO HRW.out (by decide));have H2:=Lib.hid h2;clear h2 h4 hI hN;clear HNW HRW hszW h3;refine hK.out _ _ ?_ (fun _=>?_)
          · ((try dsimp only);(exact ⟨hB.cell 1,(World.cell?_of_block (a:=⟨b,off+k,none⟩) (hb.block b hbl)).trans HC0.out,hA.cell 0⟩))
          clear hK K
          (try simp only [Act.put,pA,pB,pC])
          refine hdT 13 ?_;refine hdC 14 (fun K hK=>?_);have cO2:=hO.cell 1;have fO2:=hO.frozen 1
          (go_simp;go_wp2_with fail)
          replace hA:=hA.far (p:=⟨gX,1,none⟩) (by dsimp only;omega) (.slice xai (n1+k+1) xci);replace hB:=hB.far (p:=⟨gX,1,none⟩) (by dsimp only;omega) (.slice xai (n1+k+1) xci);replace hR:=hR.far (p:=⟨gX,1,none⟩) (by dsimp only;omega) (.slice xai (n1+k+1) xci);replace hD:=row_far (p:=⟨gX,1,none⟩) hD hO (by decide) (.slice xai (n1+k+1) xci);have H6:=Lib.hid (row_far (p:=⟨gX,1,none⟩) H2.out hO (by decide) (.slice xai (n1+k+1) xci));replace hW:=Lib.hid (vals_far (p:=⟨gX,1,none⟩) hW.out hO (by decide) (.slice xai (n1+k+1) xci));replace hb:=hb.setCell (p:=⟨gX,1,none⟩) (by dsimp only;omega) (.slice xai (n1+k+1) xci);replace hBs:B0≤(W7.setCell ⟨gX,1,none⟩ (.slice xai (n1+k+1) xci)).heap.size:=(by simpa using hBs);replace hO:=hO.set 1 (.slice xai (n1+k+1) xci);generalize W7.setCell ⟨gX,1,none⟩ (.slice xai (n1+k+1) xci)=W8 at *;clear cO2 fO2;refine hK.out _ _ ?_ (fun _=>?_)
          · ((try dsimp only);(exact ⟨hB.cell 1,(World.cell?_of_block (a:=⟨b,off+k,none⟩) (hb.block b hbl)).trans HC0.out,hA.cell 0⟩))
          clear hK K
          (try simp only [Act.put,pA,pB,pC])
          refine wpAnyH_done (by kernel_rfl) ?_ _;go_wp2_with fail
          go_roundw
          case rel=>
           refine ⟨k+1,xad,xcd,xai,xci,vs++[.slice va2 ni vc2],by omega,by go_num,hb,hBs,hA,hB,hR,hO,Lib.hid ?_,H6,?_⟩
           · have q:=hD;rw [HZK.out,←List.append_assoc,List.map_append];exact q
           · rw [HTK.out,←List.append_assoc];exact hW
          case measure=>simp [intOf] <;> omega
        · skip
          (go_simp;try go_wp2_with fail)
          have hN:=Own.new W5 47 #[.slice va2 ni vc2];have hbX:=bA1 W5 (.cells #[.slice va2 ni vc2] 47);replace hA:=hA.keep hbX hA.lt;replace hB:=hB.keep hbX hB.lt;replace hR:=hR.keep hbX hR.lt;replace hD:=row_keep hD hbX;replace hI:=row_keep hI hbX;replace hW:=Lib.hid (hW.out.keep hbX);replace hb:=bT' hb hbX hb.size;replace hBs:=Nat.le_trans hBs hbX.size;replace hO:=hO.keep hbX hO.lt;generalize W5.alloc (.cells #[.slice va2 ni vc2] 47)=W9 at *;generalize hhNg:W5.heap.size=ghN at *;clear hbX hhNg;refine hK.out _ _ ?_ (fun _=>?_)
          · ((try dsimp only);(exact ⟨hB.cell 1,(World.cell?_of_block (a:=⟨b,off+k,none⟩) (hb.block b hbl)).trans HC0.out,hA.cell 0⟩))
          clear hK K
          (try simp only [Act.put,pA,pB,pC])
          refine hdC 1 (fun K hK=>?_);have cO1:=hO.cell 1
          (go_simp;try go_wp2_with fail)
          refine hK.out _ _ ?_ (fun _=>?_)
          · ((try dsimp only);(exact ⟨hB.cell 1,(World.cell?_of_block (a:=⟨b,off+k,none⟩) (hb.block b hbl)).trans HC0.out,hA.cell 0⟩))
          clear hK K
          (try simp only [Act.put,pA,pB,pC])
          refine hdC 12 (fun K hK=>?_);have HNW:Hid (∀j u,([Value.slice va2 ni vc2]:List Value)[j]? = some u→W9.cell? ((⟨ghN,0,none⟩:Addr).add j)=some u):=Lib.hid (fun j u hu=>by rw [Addr.add_mid];exact hN.range j u hu);have HRW:=Lib.hid hI;have hszW:B0≤W9.heap.size:=hBs;rw [if_pos (by rfl)];refine wp_append_own_wide _ (.tmp 27) (.tmp 37) 27 rfl B0 47 ti tz 1 24 Try.underlying27 HI.out HZ.out HS.out HBt.out HZs.out (by omega) (.slice va (n1+k) vc) (n1+k) _ rfl HRW.out ⟨ghN,0,none⟩ 1 1 [Value.slice va2 ni vc2] rfl rfl HNW.out HON.out (by simp only [maxLen];omega) (by omega) hszW (fun v' W10 h2 h3 h4=>?_);obtain ⟨xai,xci,rfl⟩:=row_slice h2;replace hA:=hA.grown h3 (own_ne_row hA HRW.out (by decide));replace hB:=hB.grown h3 (own_ne_row hB HRW.out (by decide));replace hR:=hR.grown h3 (own_ne_row hR HRW.out (by decide));replace hD:=row_grown hD HRW.out (by decide) h3;replace hW:=Lib.hid (hW.out.grown h3 (fun q e=>row_own HRW.out e));replace hb:=grown_below hb h3 (fun j e=>by have:=(HRW.out.lt j e).1;omega) hb.size;replace hBs:=Nat.le_trans hBs h3.size;replace hO:=hO.grown h3 (own_ne_row hO HRW.out (by decide));have H2:=Lib.hid h2;clear h2 h4 hI hN;clear HNW HRW hszW h3;refine hK.out _ _ ?_ (fun _=>?_)
          · ((try dsimp only);(exact ⟨hB.cell 1,(World.cell?_of_block (a:=⟨b,off+k,none⟩) (hb.block b hbl)).trans HC0.out,hA.cell 0⟩))
          clear hK K
          (try simp only [Act.put,pA,pB,pC])
          refine hdT 13 ?_;refine hdC 14 (fun K hK=>?_);have cO2:=hO.cell 1;have fO2:=hO.frozen 1
          (go_simp;go_wp2_with fail)
          replace hA:=hA.far (p:=⟨gX,1,none⟩) (by dsimp only;omega) (.slice xai (n1+k+1) xci);replace hB:=hB.far (p:=⟨gX,1,none⟩) (by dsimp only;omega) (.slice xai (n1+k+1) xci);replace hR:=hR.far (p:=⟨gX,1,none⟩) (by dsimp only;omega) (.slice xai (n1+k+1) xci);replace hD:=row_far (p:=⟨gX,1,none⟩) hD hO (by decide) (.slice xai (n1+k+1) xci);have H6:=Lib.hid (row_far (p:=⟨gX,1,none⟩) H2.out hO (by decide) (.slice xai (n1+k+1) xci));replace hW:=Lib.hid (vals_far (p:=⟨gX,1,none⟩) hW.out hO (by decide) (.slice xai (n1+k+1) xci));replace hb:=hb.setCell (p:=⟨gX,1,none⟩) (by dsimp only;omega) (.slice xai (n1+k+1) xci);replace hBs:B0≤(W10.setCell ⟨gX,1,none⟩ (.slice xai (n1+k+1) xci)).heap.size:=(by simpa using hBs);replace hO:=hO.set 1 (.slice xai (n1+k+1) xci);generalize W10.setCell ⟨gX,1,none⟩ (.slice xai (n1+k+1) xci)=W11 at *;clear cO2 fO2;refine hK.out _ _ ?_ (fun _=>?_)
          · ((try dsimp only);(exact ⟨hB.cell 1,(World.cell?_of_block (a:=⟨b,off+k,none⟩) (hb.block b hbl)).trans HC0.out,hA.cell 0⟩))
          clear hK K
          (try simp only [Act.put,pA,pB,pC])
          refine wpAnyH_done (by kernel_rfl) ?_ _;go_wp2_with fail
          go_roundw
          case rel=>
           refine ⟨k+1,xad,xcd,xai,xci,vs++[.slice va2 ni vc2],by omega,by go_num,hb,hBs,hA,hB,hR,hO,Lib.hid ?_,H6,?_⟩
           · have q:=hD;rw [HZK.out,←List.append_assoc,List.map_append];exact q
           · rw [HTK.out,←List.append_assoc];exact hW
          case measure=>simp [intOf] <;> omega
  · have he:k=dn2:=(by omega);subst he;have hZ:ys.take k=ys:=List.take_of_length_le (Nat.le_of_eq HDL2.out);have hJ:jms.take k=jms:=List.take_of_length_le (Nat.le_of_eq HLn2.out);rw [hZ] at HD;rw [hJ] at hW;clear hZ hJ;have k0:=hO.cell 0;have k1:=hO.cell 1;have r0:=hR.cell 0;have r1:=hR.cell 1;have f0:=hR.frozen 0;have f1:=hR.frozen 1;go_wp2_with fail
    have s2:=((hR.set 0 (.slice xa (dn1+k) xc)).set 1 (.slice va (n1+k) vc));have q1:=row_far (p:=⟨w.heap.size+2,1,none⟩) (row_far (p:=⟨w.heap.size+2,0,none⟩) HD.out hR (by decide) (.slice xa (dn1+k) xc)) (hR.set 0 _) (by decide) (.slice va (n1+k) vc);have q2:=row_far (p:=⟨w.heap.size+2,1,none⟩) (row_far (p:=⟨w.heap.size+2,0,none⟩) HI2.out hR (by decide) (.slice xa (dn1+k) xc)) (hR.set 0 _) (by decide) (.slice va (n1+k) vc);have q3:=vals_far (p:=⟨w.heap.size+2,1,none⟩) (vals_far (p:=⟨w.heap.size+2,0,none⟩) hW.out hR (by decide) (.slice xa (dn1+k) xc)) (hR.set 0 _) (by decide) (.slice va (n1+k) vc);have q4:=(hb.setCell (p:=⟨w.heap.size+2,0,none⟩) (by dsimp only;omega) (.slice xa (dn1+k) xc)).setCell (p:=⟨w.heap.size+2,1,none⟩) (by dsimp only;omega) (.slice va (n1+k) vc);obtain ⟨d1,d2,hdd,hDV⟩:=OwnV.of_row q1;simp only [Value.slice.injEq] at hdd;obtain ⟨rfl,-,rfl⟩:=hdd;obtain ⟨i1,i2,hii,hIF⟩:=q3.ownF_row (by rw [List.length_append,HLn1.out,shFs,List.length_map,HLn2.out]) q2 (tm_app HTT1.out (shFs_tm HTT2.out hdn1));simp only [Value.slice.injEq] at hii;obtain ⟨rfl,-,rfl⟩:=hii;exact bodyPost_ret (results_cell_row rfl _ _ (w.heap.size+2) 29 #[.slice xa (dn1+k) xc,.slice va (n1+k) vc] (0,0) _ rfl s2 Try.underlying29 rfl Try.info_alg) rfl ⟨xa,xc,va,vc,rfl,hDV.weaken (by omega) (Nat.le_refl _),hIF.weaken (by omega) (Nat.le_refl _),q4⟩
set_option maxHeartbeats 8000000 in
theorem ProductOfAlgebras_s {w : World} {g1 o1 dn1 i1 j1 n1 g2 o2 dn2 i2 j2 n2 : Nat} {zs ys : List Int} {ims jms : List (List Tm)} (dc1 c1 dc2 c2 : Nat) (hd1 : Ints w (some ⟨g1, o1, none⟩) dn1 zs) (hdn1 : dn1 ≤ 1048576) (hN1 : FrmsN w (some ⟨i1, j1, none⟩) n1 ims) (hn1 : n1 ≤ 1048576) (hL1 : ∀ im ∈ ims, (im.length : Int) ≤ 1048576) (hT1 : ∀ ts ∈ ims, ∀ t ∈ ts, IsTm t)
    (hd2:Ints w (some ⟨g2,o2,none⟩) dn2 ys) (hdn2:dn2≤1048576) (hN2:FrmsN w (some ⟨i2,j2,none⟩) n2 jms) (hn2:n2≤1048576) (hL2:∀im∈jms,(im.length:Int)≤1048576) (hT2:∀ts∈jms,∀t∈ts,IsTm t) :
    Calls Try.prog 33 #[.agg #[.slice (some ⟨g1,o1,none⟩) dn1 dc1,.slice (some ⟨i1,j1,none⟩) n1 c1],.agg #[.slice (some ⟨g2,o2,none⟩) dn2 dc2,.slice (some ⟨i2,j2,none⟩) n2 c2]] w fun e w'=>∃a an ac b bn bc,e=.returned (.tuple #[.agg #[.slice a an ac,.slice b bn bc],.int .i64 (prE zs ims ys jms)])∧OwnV w' w.heap.size w'.heap.size a an (prD zs ims ys jms)∧OwnF w' w.heap.size w'.heap.size b bn (prI zs ims ys jms)∧Below w.heap.size w w':=by
 have HLL1:=Lib.hid hL1
 have HLL2:=Lib.hid hL2
 have HTT1:=Lib.hid hT1
 have HTT2:=Lib.hid hT2
 have HN1:=Lib.hid hN1
 have HN2:=Lib.hid hN2
 have HF1:=Lib.hid (hN1.frms hL1)
 have HF2:=Lib.hid (hN2.frms hL2)
 have HLn1:=Lib.hid hN1.1
 have HLn2:=Lib.hid hN2.1
 have HHd1:=Lib.hid hd1
 have HHd2:=Lib.hid hd2
 have HDL1:=Lib.hid hd1.len
 have HDL2:=Lib.hid hd2.len
 clear hL1 hL2 hT1 hT2 hN1 hN2
 obtain ⟨hA,hB,hR,hb⟩:=own3' w 29 29 29 #[.slice (some ⟨g1,o1,none⟩) dn1 dc1,.slice (some ⟨i1,j1,none⟩) n1 c1] #[.slice (some ⟨g2,o2,none⟩) dn2 dc2,.slice (some ⟨i2,j2,none⟩) n2 c2] #[.slice none 0 0,.slice none 0 0]
 have hB0:w.heap.size+2<(((w.alloc (.cells #[.slice (some ⟨g1,o1,none⟩) dn1 dc1,.slice (some ⟨i1,j1,none⟩) n1 c1] 29)).alloc (.cells #[.slice (some ⟨g2,o2,none⟩) dn2 dc2,.slice (some ⟨i2,j2,none⟩) n2 c2] 29)).alloc (.cells #[.slice none 0 0,.slice none 0 0] 29)).heap.size:=by rw [sAl,sAl,sAl];omega
 cases hal1:isAlg zs ims
 case false=>
  have HE:=Lib.hid (pr_err (pr_1 (ims:=ims) (zs:=zs) (ys:=ys) (jms:=jms) (Or.inl hal1)) (by omega));have HA1:=Lib.hid hal1;clear hal1;go_enter Try.func33,Try.ntmps33
  go_upto_region 1 with fail
  generalize ((w.alloc (.cells #[.slice (some ⟨g1,o1,none⟩) dn1 dc1,.slice (some ⟨i1,j1,none⟩) n1 c1] 29)).alloc (.cells #[.slice (some ⟨g2,o2,none⟩) dn2 dc2,.slice (some ⟨i2,j2,none⟩) n2 c2] 29)).alloc (.cells #[.slice none 0 0,.slice none 0 0] 29)=w0 at *;rw [show w.heap.size+1+1=w.heap.size+2 by omega] at hR;have hBs:w0.heap.size≤w0.heap.size:=Nat.le_refl _;have c0:=hA.cell 0;have c1':=hA.cell 1;go_wp2_with fail
  refine (l02Is_c dc1 c1 (HHd1.out.keep hb) hdn1 (HF1.out.keep hb) hn1 HLL1.out).mono ?_;rintro e w1 ⟨rfl,hb1⟩;rw [HA1.out];clear c0 c1';replace hA:=hA.keep hb1 hA.lt;replace hB:=hB.keep hb1 hB.lt;replace hR:=hR.keep hb1 hR.lt;replace hb:=bT' hb hb1 hb.size;replace hBs:=Nat.le_trans hBs hb1.size;clear hb1;have r0:=hR.cell 0;have r1:=hR.cell 1;have f0:=hR.frozen 0;have f1:=hR.frozen 1;go_wp2_with fail
  have s2:=((hR.set 0 (.slice none 0 0)).set 1 (.slice none 0 0));refine bodyPost_ret (results_row2 rfl _ _ (w.heap.size+2) 29 #[.slice none 0 0,.slice none 0 0] (0,0) _ rfl s2 Try.underlying29 rfl Try.info_alg) rfl ⟨none,0,0,none,0,0,by rw [(HE.out).1];rfl,by rw [(HE.out).2.1];exact OwnV.none_,by rw [(HE.out).2.2];exact OwnF.none_,?_⟩;exact (hb.setCell (p:=⟨w.heap.size+2,0,none⟩) (by dsimp only;omega) _).setCell (p:=⟨w.heap.size+2,1,none⟩) (by dsimp only;omega) _
 have HA1:=Lib.hid hal1
 clear hal1
 go_enter Try.func33,Try.ntmps33
 go_upto_region 1 with fail
 generalize ((w.alloc (.cells #[.slice (some ⟨g1,o1,none⟩) dn1 dc1,.slice (some ⟨i1,j1,none⟩) n1 c1] 29)).alloc (.cells #[.slice (some ⟨g2,o2,none⟩) dn2 dc2,.slice (some ⟨i2,j2,none⟩) n2 c2] 29)).alloc (.cells #[.slice none 0 0,.slice none 0 0] 29)=w0 at *
 rw [show w.heap.size+1+1=w.heap.size+2 by omega] at hR
 have hBs:w0.heap.size≤w0.heap.size:=Nat.le_refl _
 have c0:=hA.cell 0
 have c1':=hA.cell 1
 go_wp2_with fail
 refine (l02Is_c dc1 c1 (HHd1.out.keep hb) hdn1 (HF1.out.keep hb) hn1 HLL1.out).mono ?_
 rintro e w1 ⟨rfl,hb1⟩
 rw [HA1.out]
 clear c0 c1'
 replace hA:=hA.keep hb1 hA.lt
 replace hB:=hB.keep hb1 hB.lt
 replace hR:=hR.keep hb1 hR.lt
 replace hb:=bT' hb hb1 hb.size
 replace hBs:=Nat.le_trans hBs hb1.size
 clear hb1
 obtain ⟨B0,hB0e⟩:∃B0,w0.heap.size=B0:=⟨_,rfl⟩
 rw [hB0e] at hB0 hBs
 clear hB0e
 have d0:=hB.cell 0
 have d1:=hB.cell 1
 go_wp2_with fail
 refine (l02Is_c dc2 c2 (HHd2.out.keep hb) hdn2 (HF2.out.keep hb) hn2 HLL2.out).mono ?_
 rintro e w2 ⟨rfl,hb1⟩
 clear d0 d1
 replace hA:=hA.keep hb1 hA.lt
 replace hB:=hB.keep hb1 hB.lt
 replace hR:=hR.keep hb1 hR.lt
 replace hb:=bT' hb hb1 hb.size
 replace hBs:=Nat.le_trans hBs hb1.size
 clear hb1
 cases hal2:isAlg ys jms
 case false=>
  have HE:=Lib.hid (pr_err (pr_1 (ims:=ims) (zs:=zs) (Or.inr hal2)) (by omega));clear hal2;have r0:=hR.cell 0;have r1:=hR.cell 1;have f0:=hR.frozen 0;have f1:=hR.frozen 1;go_wp2_with fail
  have s2:=((hR.set 0 (.slice none 0 0)).set 1 (.slice none 0 0));refine bodyPost_ret (results_row2 rfl _ _ (w.heap.size+2) 29 #[.slice none 0 0,.slice none 0 0] (0,0) _ rfl s2 Try.underlying29 rfl Try.info_alg) rfl ⟨none,0,0,none,0,0,by rw [(HE.out).1];rfl,by rw [(HE.out).2.1];exact OwnV.none_,by rw [(HE.out).2.2];exact OwnF.none_,?_⟩;exact (hb.setCell (p:=⟨w.heap.size+2,0,none⟩) (by dsimp only;omega) _).setCell (p:=⟨w.heap.size+2,1,none⟩) (by dsimp only;omega) _
 have HA2:=Lib.hid hal2
 clear hal2
 have h8a:dn1≤8:=by have:=degsOk_len (isAlg_degs HA1.out);have:=HDL1.out;omega
 have h8b:dn2≤8:=by have:=degsOk_len (isAlg_degs HA2.out);have:=HDL2.out;omega
 have h8c:n1≤8:=by have:=isAlg_lenQ2 HA1.out;have:=HLn1.out;have:=HDL1.out;omega
 obtain rfl:n2=dn2:=by have:=isAlg_lenQ2 HA2.out;have:=HLn2.out;have:=HDL2.out;omega
 have c0:=hA.cell 0
 have d0:=hB.cell 0
 by_cases hbig:8<dn1+n2
 case pos=>
  have HE:=Lib.hid (pr_err (pr_3 HA1.out HA2.out (by rw [HDL1.out,HDL2.out];exact hbig)) (by omega));have hbi:(8:Int)<(dn1:Int)+(n2:Int):=(by omega);have r0:=hR.cell 0;have r1:=hR.cell 1;have f0:=hR.frozen 0;have f1:=hR.frozen 1;go_wp2_with fail
  have s2:=((hR.set 0 (.slice none 0 0)).set 1 (.slice none 0 0));refine bodyPost_ret (results_row2 rfl _ _ (w.heap.size+2) 29 #[.slice none 0 0,.slice none 0 0] (0,0) _ rfl s2 Try.underlying29 rfl Try.info_alg) rfl ⟨none,0,0,none,0,0,by rw [(HE.out).1];rfl,by rw [(HE.out).2.1];exact OwnV.none_,by rw [(HE.out).2.2];exact OwnF.none_,?_⟩;exact (hb.setCell (p:=⟨w.heap.size+2,0,none⟩) (by dsimp only;omega) _).setCell (p:=⟨w.heap.size+2,1,none⟩) (by dsimp only;omega) _
 have HE:=Lib.hid (pr_0 HA1.out HA2.out (by rw [HDL1.out,HDL2.out];exact hbig))
 have hbi:¬(8:Int)<(dn1:Int)+(n2:Int):=by omega
 have c1':=hA.cell 1
 have d1:=hB.cell 1
 go_wp2_with fail
 refine (l02Product_c dc1 c1 dc2 c2 (HHd1.out.keep hb) h8a (HF1.out.keep hb) h8c HLL1.out HTT1.out (HHd2.out.keep hb) h8b (HF2.out.keep hb) HLL2.out HTT2.out).mono ?_
 rintro e w4 ⟨ra,rac,rb,rbc,rfl,hV,hVF,hb1⟩
 have hBs':=hBs
 clear c0 c1' d0 d1
 replace hA:=hA.keep hb1 hA.lt
 replace hB:=hB.keep hb1 hB.lt
 replace hR:=hR.keep hb1 hR.lt
 replace hb:=bT' hb hb1 hb.size
 replace hBs:=Nat.le_trans hBs hb1.size
 clear hb1
 replace hV:=hV.weaken (lo':=B0) hBs' (Nat.le_refl _)
 replace hVF:=hVF.weaken (lo':=B0) hBs' (Nat.le_refl _)
 have r0:=hR.cell 0
 have r1:=hR.cell 1
 have f0:=hR.frozen 0
 have f1:=hR.frozen 1
 clear hBs'
 go_wp2_with fail
 have hTo:Touch (fun k=>k=w.heap.size+2) w4 ((w4.setCell ⟨w.heap.size+2,0,none⟩ (.slice ra (dn1+n2) rac)).setCell ⟨w.heap.size+2,1,none⟩ (.slice rb (n1+n2) rbc)):=Touch.of_only (((Only.refl (w.heap.size+2) w4).set 0 _).set 1 _)
 have s2:=(hR.set 0 (.slice ra (dn1+n2) rac)).set 1 (.slice rb (n1+n2) rbc)
 refine bodyPost_ret (results_row2 rfl _ _ (w.heap.size+2) 29 #[.slice ra (dn1+n2) rac,.slice rb (n1+n2) rbc] (0,0) _ rfl s2 Try.underlying29 rfl Try.info_alg) rfl ⟨ra,dn1+n2,rac,rb,n1+n2,rbc,by rw [HE.out.1];rfl,?_,?_,?_⟩
 · rw [HE.out.2.1];exact (hV.touch hTo (fun q h1 h2=>by omega)).weaken (by omega) hTo.below.size
 · rw [HE.out.2.2,HDL1.out];exact (hVF.touch hTo (fun q h1 h2=>by omega)).weaken (by omega) hTo.below.size
 · exact (hb.setCell (p:=⟨w.heap.size+2,0,none⟩) (by dsimp only;omega) _).setCell (p:=⟨w.heap.size+2,1,none⟩) (by dsimp only;omega) _
end Go.Proofs.Ytndnkeijddagiaa
