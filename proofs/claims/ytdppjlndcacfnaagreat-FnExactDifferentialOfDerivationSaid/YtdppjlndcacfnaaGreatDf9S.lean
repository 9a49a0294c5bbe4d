
import Derived.Test.YtdppjlndcacfnaaGreatBr9S
import Derived.Test.YtdppjlndcacfnaaGreatFdim
namespace Go.Proofs.YtdppjlndcacfnaaGreat
set_option maxRecDepth 100000
open Go.RowKit Go.Deep
theorem isAlg_lenB9 {zs:List Int} {ims:List (List Tm)} (h:isAlg zs ims=true):ims.length=zs.length:=by
 simp only [isAlg,Bool.and_eq_true,decide_eq_true_eq] at h
 exact h.2.1
theorem isAlg_formB9 {zs:List Int} {ims:List (List Tm)} (h:isAlg zs ims=true) {i:Nat} {ts:List Tm} (hi:ims[i]? = some ts):isForm zs ts=true:=by
 have hl:=isAlg_lenB9 h
 have hk:=(List.getElem?_eq_some_iff.1 hi).1
 simp only [isAlg,Bool.and_eq_true] at h
 have h4:=List.all_eq_true.1 h.2.2.1 i (List.mem_range.2 hk)
 have h5:=okIm_of (z:=zs[i]'(by omega)) (List.getElem?_eq_getElem (show i<zs.length by omega)) hi rfl
 rw [h4] at h5
 exact zeroOr_form h5.symm
set_option maxHeartbeats 8000000 in
theorem l09Boundary_c {w : World} {da : Option Addr} {dn : Nat} {zs : List Int} {a : Option Addr} {n : Nat} {ims : List (List Tm)} {a2 : Option Addr} {n2 : Nat} {gss : List (List Tm)} (dc c : Nat) (k : Int) (c2 : Nat) (hd : Ints w da dn zs) (hdn : dn ≤ 1048576) (hF : Frms w a n ims) (hn : n ≤ 1048576) (hL : ∀ im ∈ ims, (im.length : Int) ≤ 1048576) (hF2 : Frms w a2 n2 gss) (hn2 : n2 ≤ 1048576) (hL2 : ∀ im ∈ gss, (im.length : Int) ≤ 1048576) (hT2 : ∀ ts ∈ gss, ∀ t ∈ ts, IsTm t) (hB : derB zs ims k gss = true) :
    Calls Tryz.prog 43 #[.agg #[.slice da dn dc,.slice a n c],.agg #[.int .i64 k,.slice a2 n2 c2]] w fun e w'=>∃rb bn bc,e=.returned (.agg #[.int .i64 (k - 1),.slice rb bn bc])∧OwnF w' w.heap.size w'.heap.size rb bn (brs (dfAt zs ims k gss) dn)∧Below w.heap.size w w':=by
 have H1:=Lib.hid hB
 clear hB
 obtain ⟨ti,tz,hti,htz,hts,htb,htzs⟩:=Tryz.info_formA
 have HI:=Lib.hid hti
 have HZ:=Lib.hid htz
 have HSz:=Lib.hid hts
 have HBt:=Lib.hid htb
 have HZs:=Lib.hid htzs
 clear hti htz hts htb htzs
 have HLn2:=Lib.hid hF2.len
 have HLn:=Lib.hid hF.len
 have HLL:=Lib.hid hL
 have HLL2:=Lib.hid hL2
 have HT2:=Lib.hid hT2
 have HDL:=Lib.hid hd.len
 have HD:=Lib.hid hd
 have HF:=Lib.hid hF
 have HF2:=Lib.hid hF2
 clear hL hL2 hT2
 obtain ⟨hA,hT,hR,hb⟩:=own3' w 36 32 32 #[.slice da dn dc,.slice a n c] #[.int .i64 k,.slice a2 n2 c2] #[.int .i64 0,.slice none 0 0]
 go_enter Tryz.func43,Tryz.ntmps43
 go_upto_region 1 with fail
 generalize ((w.alloc (.cells #[.slice da dn dc,.slice a n c] 36)).alloc (.cells #[.int .i64 k,.slice a2 n2 c2] 32)).alloc (.cells #[.int .i64 0,.slice none 0 0] 32)=w0 at *
 generalize hg2:w.heap.size+1+1=g2 at *
 generalize hg1:w.heap.size+1=g1 at *
 generalize hg0:w.heap.size=g0 at *
 have HG:=Lib.hid hg0
 have e1:=hg1
 have e2:=hg2
 clear hg0 hg1 hg2
 have hl2:=derB_len H1.out
 have HAL:=Lib.hid (derB_alg H1.out)
 obtain rfl:dn=n2:=by have:=HLn2.out;have:=HDL.out;omega
 obtain rfl:dn=n:=by have:=isAlg_lenB9 HAL.out;have:=HLn.out;have:=HDL.out;omega
 have h8:dn≤8:=by have:=derB_len8 H1.out;have:=HDL.out;omega
 obtain ⟨hk0,hk12⟩:=derB_k H1.out
 have HWR:Hid (IntKind.i64.wrap (k - 1)=k - 1):=Lib.hid (by rw [IntKind.wrap_i64];omega)
 have HF400a:=Lib.hid (fun (i:Nat) ts (hi:ims[i]? = some ts)=>isAlg_formB9 HAL.out hi)
 have HF400b:=Lib.hid (fun (i:Nat) ts (hi:gss[i]? = some ts)=>derB_form H1.out hi)
 have HAO1:=Lib.hid (isAlg_ok HAL.out HF.out.tm)
 have HAO2:=Lib.hid (derB_ok H1.out HT2.out)
 have HMI:=Lib.hid (degsOk_mild (derB_degs H1.out))
 clear hl2
 obtain ⟨D,hD⟩:∃D,k - 1=D:=⟨_,rfl⟩
 have hwr:=HWR.out
 rw [hD] at hwr
 have HDE:=Lib.hid hD
 have hO:=Own.new w0 32 #[.int .i64 D,.slice none 0 0]
 have hbX:=bA1 w0 (.cells #[.int .i64 D,.slice none 0 0] 32)
 have hlR:=hR.lt
 have s0:=hT.cell 0
 go_upto_region 2 with fail
 try rw [hD]
 clear s0 hwr hD
 replace hb:=bT' hb hbX (by have:=hA.lt;omega)
 replace hA:=hA.keep hbX hA.lt
 replace hT:=hT.keep hbX hT.lt
 replace hR:=hR.keep hbX hR.lt
 clear hbX
 generalize w0.alloc (.cells #[.int .i64 D,.slice none 0 0] 32)=w3 at *
 generalize w0.heap.size=gX at *
 go_upto_region 3 with fail
 go_loopw [6] (fun y wr=>∃(p:Nat) (va0:Option Addr) (vc0:Nat) (vs:List Value),p≤dn∧y=.int .i64 p∧Below g0 w wr∧Own wr g0 36 #[.slice da dn dc,.slice a dn c]∧Own wr g1 32 #[.int .i64 k,.slice a2 dn c2]∧Own wr g2 32 #[.int .i64 0,.slice none 0 0]∧Own wr gX 32 #[.int .i64 D,.slice va0 p vc0]∧wr.ownsRow g0 59 1 (.slice va0 p vc0) p vs∧Hid (Vals wr g0 vs (brs (dfAt zs ims k gss) p))) (fun y _=>dn - (intOf y).toNat)
 case atStart=>exact ⟨0,none,0,[],Nat.zero_le _,rfl,hb,hA,hT,hR,hO,World.ownsRow_nil _ _ _ _,Lib.hid (Vals.nil _ _)⟩
 case round=>
  clear hb hA hT hR hO;obtain ⟨p,va0,vc0,vs,hp,rfl,hb,hA,hT,hR,hO,hI,hW⟩:=hrel;have HIR:=Lib.hid hI;clear hI;have s1:=hT.cell 1;by_cases hpn:p<dn
  · obtain ⟨b1,o1,fs,x1,m1,d1,rfl,hl1,hc1,hTa,hm1,hx1⟩:=HF.out.at_ hpn;obtain ⟨b2,o2,gs,x2,m2,d2,rfl,hl2,hc2,hTb,hm2,hx2⟩:=HF2.out.at_ hpn;have hga:w.heap.size≤g0:=Nat.le_of_eq HG.out;have hgb:g0≤w.heap.size:=Nat.le_of_eq HG.out.symm;have fa:=HF400a.out p fs hx1.out;have fb:=HF400b.out p gs hx2.out;have HFa:=Lib.hid (isForm_f fa);have HFb:=Lib.hid (isForm_f fb);have HOKa:=Lib.hid (isForm_fit fa);have HOKb:=Lib.hid (isForm_fit fb);have hm1':m1≤400:=(by have:=isForm_400 fa;have:=hTa.len;omega);have hm2':m2≤400:=(by have:=isForm_400 fb;have:=hTb.len;omega);have e1g:ims.getD p []=fs:=(by rw [List.getD_eq_getElem?_getD,hx1.out];rfl);have e2g:gss.getD p []=gs:=(by rw [List.getD_eq_getElem?_getD,hx2.out];rfl);have HS1:=Lib.hid (df9_at HAO1.out HAO2.out p);have HS2:=Lib.hid (ap9_at HAO2.out HAO1.out k p);rw [e2g] at HS1;rw [e1g] at HS2;have HSM:Hid (dfAt zs ims k gss p=addT (sg9 k 1) (diffT zs ims [] gs) (applyT zs gss k [] fs)):=Lib.hid (by rw [dfAt,two9,e1g,e2g]);have HY1T:=Lib.hid HS1.out.1.tm;have HY2T:=Lib.hid HS2.out.1.tm;have HY1L:=Lib.hid HS1.out.1.len;have HY2L:=Lib.hid HS2.out.1.len;have HY1B:=Lib.hid HS1.out.1.bd;have HY2B:=Lib.hid HS2.out.1.bd;have HC1:=Lib.hid hc1;have HC2:=Lib.hid hc2;have HTa:=Lib.hid hTa;have HTb:=Lib.hid hTb;clear hc1 hc2 hTa hTb fa fb e1g e2g;have hp0:(0:Int)≤(p:Int):=(by omega);have hpd:(p:Int)<(dn:Int):=(by omega);go_upto_region 5 with fail
    clear s1;replace hA:Own wr.drew g0 36 #[.slice da dn dc,.slice (some ⟨b1,o1,none⟩) dn c]:=hA;replace hT:Own wr.drew g1 32 #[.int .i64 k,.slice (some ⟨b2,o2,none⟩) dn c2]:=hT;replace hR:Own wr.drew g2 32 #[.int .i64 0,.slice none 0 0]:=hR;replace hO:Own wr.drew gX 32 #[.int .i64 D,.slice va0 p vc0]:=hO;have hI:wr.drew.ownsRow g0 59 1 (.slice va0 p vc0) p vs:=HIR.out;replace hW:Hid (Vals wr.drew g0 vs (brs (dfAt zs ims k gss) p)):=Lib.hid (hW.out.keep ((Below.refl _ _).drew));replace hb:Below w.heap.size w wr.drew:=(by rw [HG.out];exact hb.drew);clear HIR;refine wp_region_held_drew (S:=(fun w'=>w'.cell? ⟨g0,0,none⟩=some (.slice da dn dc)∧w'.cell? ⟨g0,1,none⟩=some (.slice (some ⟨b1,o1,none⟩) dn c)∧w'.cell? ⟨g1,0,none⟩=some (.int .i64 k)∧w'.cell? ⟨g1,1,none⟩=some (.slice (some ⟨b2,o2,none⟩) dn c2)∧w'.cell? ⟨b1,o1+p,none⟩=some (.slice x1 m1 d1)∧w'.cell? ⟨b2,o2+p,none⟩=some (.slice x2 m2 d2))) (by kernel_rfl) ?_ (fun _=>?_)
    · ((try dsimp only);(exact ⟨hA.cell 0,hA.cell 1,hT.cell 0,hT.cell 1,(World.cell?_of_block (a:=⟨b1,o1+p,none⟩) (hb.block b1 hl1)).trans HC1.out,(World.cell?_of_block (a:=⟨b2,o2+p,none⟩) (hb.block b2 hl2)).trans HC2.out⟩))
    generalize wr.drew=W0d at *;refine hdT 0 ?_;refine hdT 2 ?_;refine hdT 3 ?_;refine hdT 4 ?_;refine hdT 5 ?_;refine hdT 6 ?_;refine hdT 7 ?_;refine hdT 9 ?_;refine hdT 10 ?_;refine hdT 11 ?_;refine hdT 12 ?_;refine hdT 13 ?_;refine hdT 14 ?_;refine hdT 15 ?_;refine hdT 17 ?_;refine hdT 18 ?_;refine wpAnyH_ready (rs:=[1,8]) (by kernel_rfl) (by simp) ?_;refine AllReadyH.cons (hdAt (i:=1) rfl) (fun K hK=>?_) (AllReadyH.cons (hdAt (i:=8) rfl) (fun K hK=>?_) AllReadyH.nil)
    · skip
      have cO1:=hO.cell 1
      (go_simp;try go_wp2_with fail)
      refine hK.out _ _ ?_ (fun _=>?_)
      · ((try dsimp only);(exact ⟨hA.cell 0,hA.cell 1,hT.cell 0,hT.cell 1,(World.cell?_of_block (a:=⟨b1,o1+p,none⟩) (hb.block b1 hl1)).trans HC1.out,(World.cell?_of_block (a:=⟨b2,o2+p,none⟩) (hb.block b2 hl2)).trans HC2.out⟩))
      clear hK K
      (try simp only [Act.put,pA,pB,pC])
      refine hdC 8 (fun K hK=>?_)
      (go_simp;(go_at_call 71;refine (l02D_c dc c d2 (HD.out.keep hb) (HF.out.keep hb) (HTb.out.keep hb) HAO1.out HMI.out HOKb.out HFb.out hm2').mono ?_;rintro e W1 ⟨v1,rfl,hY1f,hbX⟩;have hY1:=hY1f.r;clear hY1f;obtain ⟨y1a,y1n,q1,rfl⟩:=OwnR.isSlice hY1);go_wp2_with fail)
      replace hA:=hA.keep hbX hA.lt;replace hT:=hT.keep hbX hT.lt;replace hR:=hR.keep hbX hR.lt;replace hI:=row_keep hI hbX;replace hW:=Lib.hid (hW.out.keep hbX);replace hb:=bT' hb hbX hb.size;replace hO:=hO.keep hbX hO.lt;clear hbX;refine hK.out _ _ ?_ (fun _=>?_)
      · ((try dsimp only);(exact ⟨hA.cell 0,hA.cell 1,hT.cell 0,hT.cell 1,(World.cell?_of_block (a:=⟨b1,o1+p,none⟩) (hb.block b1 hl1)).trans HC1.out,(World.cell?_of_block (a:=⟨b2,o2+p,none⟩) (hb.block b2 hl2)).trans HC2.out⟩))
      clear hK K
      (try simp only [Act.put,pA,pB,pC])
      refine hdC 16 (fun K hK=>?_)
      (go_simp;(go_at_call 31;refine (l09Apply_c dc c k c2 d1 (HD.out.keep hb) (HF2.out.keep hb) HAO2.out HMI.out ⟨hk0,hk12⟩ (HTa.out.keep hb) HOKa.out HFa.out hm1').mono ?_;rintro e W2 ⟨v2,rfl,hY2,hbX⟩;obtain ⟨y2a,y2n,q2,rfl⟩:=OwnR.isSlice hY2);go_wp2_with fail)
      replace hA:=hA.keep hbX hA.lt;replace hT:=hT.keep hbX hT.lt;replace hR:=hR.keep hbX hR.lt;replace hI:=row_keep hI hbX;replace hW:=Lib.hid (hW.out.keep hbX);replace hb:=bT' hb hbX hb.size;replace hO:=hO.keep hbX hO.lt;replace hY1:=hY1.keep hbX;clear hbX;refine hK.out _ _ ?_ (fun _=>?_)
      · ((try dsimp only);(exact ⟨hA.cell 0,hA.cell 1,hT.cell 0,hT.cell 1,(World.cell?_of_block (a:=⟨b1,o1+p,none⟩) (hb.block b1 hl1)).trans HC1.out,(World.cell?_of_block (a:=⟨b2,o2+p,none⟩) (hb.block b2 hl2)).trans HC2.out⟩))
      clear hK K
      (try simp only [Act.put,pA,pB,pC])
      refine hdC 19 (fun K hK=>?_)
      (go_simp;(go_at_call 32;refine (l09Sign_c k 1 _ (by omega) (by omega) (by omega) (by omega)).mono ?_;rintro e W3 ⟨rfl,hbX⟩);go_wp2_with fail)
      replace hA:=hA.keep hbX hA.lt;replace hT:=hT.keep hbX hT.lt;replace hR:=hR.keep hbX hR.lt;replace hI:=row_keep hI hbX;replace hW:=Lib.hid (hW.out.keep hbX);replace hb:=bT' hb hbX hb.size;replace hO:=hO.keep hbX hO.lt;replace hY1:=hY1.keep hbX;replace hY2:=hY2.keep hbX;clear hbX;refine hK.out _ _ ?_ (fun _=>?_)
      · ((try dsimp only);(exact ⟨hA.cell 0,hA.cell 1,hT.cell 0,hT.cell 1,(World.cell?_of_block (a:=⟨b1,o1+p,none⟩) (hb.block b1 hl1)).trans HC1.out,(World.cell?_of_block (a:=⟨b2,o2+p,none⟩) (hb.block b2 hl2)).trans HC2.out⟩))
      clear hK K
      (try simp only [Act.put,pA,pB,pC])
      refine hdC 20 (fun K hK=>?_);have HLT:=Lib.hid hW.out.lt;have hbs:g0≤_:=Nat.le_of_lt hA.lt;have HYL:Hid (y1n+y2n≤4000000):=Lib.hid (by have:=(OwnR.read hY1 HY1T.out).len;have:=(OwnR.read hY2 HY2T.out).len;have:=HY1L.out;have:=HY2L.out;omega)
      (go_simp;(go_at_call 30;refine (l01Add_c q1 q2 (sg9 k 1) (sg9_rg k 1).1 (sg9_rg k 1).2 (OwnR.read hY1 HY1T.out) (OwnR.read hY2 HY2T.out) HYL.out HY1B.out HY2B.out).mono ?_;rintro e W4 ⟨v,rfl,hV0,hbX⟩);go_wp2_with fail)
      replace hA:=hA.keep hbX hA.lt;replace hT:=hT.keep hbX hT.lt;replace hR:=hR.keep hbX hR.lt;replace hI:=row_keep hI hbX;replace hW:=Lib.hid (hW.out.keep hbX);replace hb:=bT' hb hbX hb.size;replace hO:=hO.keep hbX hO.lt;replace hY1:=hY1.keep hbX;replace hY2:=hY2.keep hbX;have hV:=hV0.r;clear hV0 hY1 hY2 HYL;obtain ⟨va,vn,vc,rfl⟩:=hV.isSlice;replace hW:=Lib.hid (hW.out.snoc HLT.out hbs hV);have HON:Hid (∀u∈([Value.slice va vn vc]:List Value),u.oneCell'=true):=Lib.hid (by simp [Value.oneCell']);clear HLT hbs hV;clear hbX;refine hK.out _ _ ?_ (fun _=>?_)
      · ((try dsimp only);(exact ⟨hA.cell 0,hA.cell 1,hT.cell 0,hT.cell 1,(World.cell?_of_block (a:=⟨b1,o1+p,none⟩) (hb.block b1 hl1)).trans HC1.out,(World.cell?_of_block (a:=⟨b2,o2+p,none⟩) (hb.block b2 hl2)).trans HC2.out⟩))
      clear hK K
      (try simp only [Act.put,pA,pB,pC])
      refine hdC 21 (fun K hK=>?_)
      (go_simp;try go_wp2_with fail)
      have hN:=Own.new W4 59 #[.slice va vn vc];have hbX:=bA1 W4 (.cells #[.slice va vn vc] 59);replace hA:=hA.keep hbX hA.lt;replace hT:=hT.keep hbX hT.lt;replace hR:=hR.keep hbX hR.lt;replace hI:=row_keep hI hbX;replace hW:=Lib.hid (hW.out.keep hbX);replace hb:=bT' hb hbX hb.size;replace hO:=hO.keep hbX hO.lt;generalize W4.alloc (.cells #[.slice va vn vc] 59)=W5 at *;generalize hhNg:W4.heap.size=ghN at *;clear hbX hhNg;refine hK.out _ _ ?_ (fun _=>?_)
      · ((try dsimp only);(exact ⟨hA.cell 0,hA.cell 1,hT.cell 0,hT.cell 1,(World.cell?_of_block (a:=⟨b1,o1+p,none⟩) (hb.block b1 hl1)).trans HC1.out,(World.cell?_of_block (a:=⟨b2,o2+p,none⟩) (hb.block b2 hl2)).trans HC2.out⟩))
      clear hK K
      (try simp only [Act.put,pA,pB,pC])
      refine hdC 22 (fun K hK=>?_);have HNW:Hid (∀j u,([Value.slice va vn vc]:List Value)[j]? = some u→W5.cell? ((⟨ghN,0,none⟩:Addr).add j)=some u):=Lib.hid (fun j u hu=>by rw [Addr.add_mid];exact hN.range j u hu);have HRW:=Lib.hid hI;have hszW:g0≤W5.heap.size:=(by have:=hA.lt;omega);rw [if_pos (by rfl)];refine wp_append_own_wide _ (.tmp 19) (.tmp 39) 30 rfl g0 59 ti tz 1 24 Tryz.underlying30 HI.out HZ.out HSz.out HBt.out HZs.out (by omega) (.slice va0 p vc0) p _ rfl HRW.out ⟨ghN,0,none⟩ 1 1 [Value.slice va vn vc] rfl rfl HNW.out HON.out (by simp only [maxLen];omega) (by omega) hszW (fun v' W6 h2 h3 h4=>?_);obtain ⟨xa9,xc9,rfl⟩:=row_slice h2;replace hA:=hA.grown h3 (own_ne_row hA HRW.out (by decide));replace hT:=hT.grown h3 (own_ne_row hT HRW.out (by decide));replace hR:=hR.grown h3 (own_ne_row hR HRW.out (by decide));replace hW:=Lib.hid (hW.out.grown h3 (fun q e=>row_own HRW.out e));replace hb:=grown_below hb h3 (fun j e=>by have:=(HRW.out.lt j e).1;omega) hb.size;replace hO:=hO.grown h3 (own_ne_row hO HRW.out (by decide));have H2:=Lib.hid h2;clear h2 h4 hI hN;clear HNW HRW hszW h3;refine hK.out _ _ ?_ (fun _=>?_)
      · ((try dsimp only);(exact ⟨hA.cell 0,hA.cell 1,hT.cell 0,hT.cell 1,(World.cell?_of_block (a:=⟨b1,o1+p,none⟩) (hb.block b1 hl1)).trans HC1.out,(World.cell?_of_block (a:=⟨b2,o2+p,none⟩) (hb.block b2 hl2)).trans HC2.out⟩))
      clear hK K
      (try simp only [Act.put,pA,pB,pC])
      refine hdT 23 ?_;refine hdC 24 (fun K hK=>?_);have cO2:=hO.cell 1;have fO2:=hO.frozen 1
      (go_simp;go_wp2_with fail)
      replace hA:=hA.far (p:=⟨gX,1,none⟩) (by dsimp only;omega) (.slice xa9 (p+1) xc9);replace hT:=hT.far (p:=⟨gX,1,none⟩) (by dsimp only;omega) (.slice xa9 (p+1) xc9);replace hR:=hR.far (p:=⟨gX,1,none⟩) (by dsimp only;omega) (.slice xa9 (p+1) xc9);have H5:=Lib.hid (row_far9 (p:=⟨gX,1,none⟩) H2.out hO (by decide) (.slice xa9 (p+1) xc9));replace hW:=Lib.hid (vals_far9 (p:=⟨gX,1,none⟩) hW.out hO (by decide) (.slice xa9 (p+1) xc9));replace hb:=hb.setCell (p:=⟨gX,1,none⟩) (by dsimp only;omega) (.slice xa9 (p+1) xc9);replace hO:=hO.set 1 (.slice xa9 (p+1) xc9);generalize W6.setCell ⟨gX,1,none⟩ (.slice xa9 (p+1) xc9)=W7 at *;refine hK.out _ _ ?_ (fun _=>?_)
      · ((try dsimp only);(exact ⟨hA.cell 0,hA.cell 1,hT.cell 0,hT.cell 1,(World.cell?_of_block (a:=⟨b1,o1+p,none⟩) (hb.block b1 hl1)).trans HC1.out,(World.cell?_of_block (a:=⟨b2,o2+p,none⟩) (hb.block b2 hl2)).trans HC2.out⟩))
      clear hK K
      (try simp only [Act.put,pA,pB,pC])
      refine wpAnyH_done (by kernel_rfl) ?_ _;go_wp2_with fail
      go_roundw
      case rel=>exact ⟨p+1,xa9,xc9,vs++[.slice va vn vc],by omega,by go_num,by rw [←HG.out];exact hb,hA,hT,hR,hO,H5.out,by rw [brs_succ,HSM.out];exact hW⟩
      case measure=>simp [intOf] <;> omega
    · skip
      (go_simp;(go_at_call 71;refine (l02D_c dc c d2 (HD.out.keep hb) (HF.out.keep hb) (HTb.out.keep hb) HAO1.out HMI.out HOKb.out HFb.out hm2').mono ?_;rintro e W8 ⟨v1,rfl,hY1f,hbX⟩;have hY1:=hY1f.r;clear hY1f;obtain ⟨y1a,y1n,q1,rfl⟩:=OwnR.isSlice hY1);go_wp2_with fail)
      replace hA:=hA.keep hbX hA.lt;replace hT:=hT.keep hbX hT.lt;replace hR:=hR.keep hbX hR.lt;replace hI:=row_keep hI hbX;replace hW:=Lib.hid (hW.out.keep hbX);replace hb:=bT' hb hbX hb.size;replace hO:=hO.keep hbX hO.lt;clear hbX;refine hK.out _ _ ?_ (fun _=>?_)
      · ((try dsimp only);(exact ⟨hA.cell 0,hA.cell 1,hT.cell 0,hT.cell 1,(World.cell?_of_block (a:=⟨b1,o1+p,none⟩) (hb.block b1 hl1)).trans HC1.out,(World.cell?_of_block (a:=⟨b2,o2+p,none⟩) (hb.block b2 hl2)).trans HC2.out⟩))
      clear hK K
      (try simp only [Act.put,pA,pB,pC])
      refine wpAnyH_ready (rs:=[1,16]) (by kernel_rfl) (by simp) ?_;refine AllReadyH.cons (hdAt (i:=1) rfl) (fun K hK=>?_) (AllReadyH.cons (hdAt (i:=16) rfl) (fun K hK=>?_) AllReadyH.nil)
      · skip
        have cO1:=hO.cell 1
        (go_simp;try go_wp2_with fail)
        refine hK.out _ _ ?_ (fun _=>?_)
        · ((try dsimp only);(exact ⟨hA.cell 0,hA.cell 1,hT.cell 0,hT.cell 1,(World.cell?_of_block (a:=⟨b1,o1+p,none⟩) (hb.block b1 hl1)).trans HC1.out,(World.cell?_of_block (a:=⟨b2,o2+p,none⟩) (hb.block b2 hl2)).trans HC2.out⟩))
        clear hK K
        (try simp only [Act.put,pA,pB,pC])
        refine hdC 16 (fun K hK=>?_)
        (go_simp;(go_at_call 31;refine (l09Apply_c dc c k c2 d1 (HD.out.keep hb) (HF2.out.keep hb) HAO2.out HMI.out ⟨hk0,hk12⟩ (HTa.out.keep hb) HOKa.out HFa.out hm1').mono ?_;rintro e W9 ⟨v2,rfl,hY2,hbX⟩;obtain ⟨y2a,y2n,q2,rfl⟩:=OwnR.isSlice hY2);go_wp2_with fail)
        replace hA:=hA.keep hbX hA.lt;replace hT:=hT.keep hbX hT.lt;replace hR:=hR.keep hbX hR.lt;replace hI:=row_keep hI hbX;replace hW:=Lib.hid (hW.out.keep hbX);replace hb:=bT' hb hbX hb.size;replace hO:=hO.keep hbX hO.lt;replace hY1:=hY1.keep hbX;clear hbX;refine hK.out _ _ ?_ (fun _=>?_)
        · ((try dsimp only);(exact ⟨hA.cell 0,hA.cell 1,hT.cell 0,hT.cell 1,(World.cell?_of_block (a:=⟨b1,o1+p,none⟩) (hb.block b1 hl1)).trans HC1.out,(World.cell?_of_block (a:=⟨b2,o2+p,none⟩) (hb.block b2 hl2)).trans HC2.out⟩))
        clear hK K
        (try simp only [Act.put,pA,pB,pC])
        refine hdC 19 (fun K hK=>?_)
        (go_simp;(go_at_call 32;refine (l09Sign_c k 1 _ (by omega) (by omega) (by omega) (by omega)).mono ?_;rintro e W10 ⟨rfl,hbX⟩);go_wp2_with fail)
        replace hA:=hA.keep hbX hA.lt;replace hT:=hT.keep hbX hT.lt;replace hR:=hR.keep hbX hR.lt;replace hI:=row_keep hI hbX;replace hW:=Lib.hid (hW.out.keep hbX);replace hb:=bT' hb hbX hb.size;replace hO:=hO.keep hbX hO.lt;replace hY1:=hY1.keep hbX;replace hY2:=hY2.keep hbX;clear hbX;refine hK.out _ _ ?_ (fun _=>?_)
        · ((try dsimp only);(exact ⟨hA.cell 0,hA.cell 1,hT.cell 0,hT.cell 1,(World.cell?_of_block (a:=⟨b1,o1+p,none⟩) (hb.block b1 hl1)).trans HC1.out,(World.cell?_of_block (a:=⟨b2,o2+p,none⟩) (hb.block b2 hl2)).trans HC2.out⟩))
        clear hK K
        (try simp only [Act.put,pA,pB,pC])
        refine hdC 20 (fun K hK=>?_);have HLT:=Lib.hid hW.out.lt;have hbs:g0≤_:=Nat.le_of_lt hA.lt;have HYL:Hid (y1n+y2n≤4000000):=Lib.hid (by have:=(OwnR.read hY1 HY1T.out).len;have:=(OwnR.read hY2 HY2T.out).len;have:=HY1L.out;have:=HY2L.out;omega)
        (go_simp;(go_at_call 30;refine (l01Add_c q1 q2 (sg9 k 1) (sg9_rg k 1).1 (sg9_rg k 1).2 (OwnR.read hY1 HY1T.out) (OwnR.read hY2 HY2T.out) HYL.out HY1B.out HY2B.out).mono ?_;rintro e W11 ⟨v,rfl,hV0,hbX⟩);go_wp2_with fail)
        replace hA:=hA.keep hbX hA.lt;replace hT:=hT.keep hbX hT.lt;replace hR:=hR.keep hbX hR.lt;replace hI:=row_keep hI hbX;replace hW:=Lib.hid (hW.out.keep hbX);replace hb:=bT' hb hbX hb.size;replace hO:=hO.keep hbX hO.lt;replace hY1:=hY1.keep hbX;replace hY2:=hY2.keep hbX;have hV:=hV0.r;clear hV0 hY1 hY2 HYL;obtain ⟨va,vn,vc,rfl⟩:=hV.isSlice;replace hW:=Lib.hid (hW.out.snoc HLT.out hbs hV);have HON:Hid (∀u∈([Value.slice va vn vc]:List Value),u.oneCell'=true):=Lib.hid (by simp [Value.oneCell']);clear HLT hbs hV;clear hbX;refine hK.out _ _ ?_ (fun _=>?_)
        · ((try dsimp only);(exact ⟨hA.cell 0,hA.cell 1,hT.cell 0,hT.cell 1,(World.cell?_of_block (a:=⟨b1,o1+p,none⟩) (hb.block b1 hl1)).trans HC1.out,(World.cell?_of_block (a:=⟨b2,o2+p,none⟩) (hb.block b2 hl2)).trans HC2.out⟩))
        clear hK K
        (try simp only [Act.put,pA,pB,pC])
        refine hdC 21 (fun K hK=>?_)
        (go_simp;try go_wp2_with fail)
        have hN:=Own.new W11 59 #[.slice va vn vc];have hbX:=bA1 W11 (.cells #[.slice va vn vc] 59);replace hA:=hA.keep hbX hA.lt;replace hT:=hT.keep hbX hT.lt;replace hR:=hR.keep hbX hR.lt;replace hI:=row_keep hI hbX;replace hW:=Lib.hid (hW.out.keep hbX);replace hb:=bT' hb hbX hb.size;replace hO:=hO.keep hbX hO.lt;generalize W11.alloc (.cells #[.slice va vn vc] 59)=W12 at *;generalize hhNg:W11.heap.size=ghN at *;clear hbX hhNg;refine hK.out _ _ ?_ (fun _=>?_)
        · ((try dsimp only);(exact ⟨hA.cell 0,hA.cell 1,hT.cell 0,hT.cell 1,(World.cell?_of_block (a:=⟨b1,o1+p,none⟩) (hb.block b1 hl1)).trans HC1.out,(World.cell?_of_block (a:=⟨b2,o2+p,none⟩) (hb.block b2 hl2)).trans HC2.out⟩))
        clear hK K
        (try simp only [Act.put,pA,pB,pC])
        refine hdC 22 (fun K hK=>?_);have HNW:Hid (∀j u,([Value.slice va vn vc]:List Value)[j]? = some u→W12.cell? ((⟨ghN,0,none⟩:Addr).add j)=some u):=Lib.hid (fun j u hu=>by rw [Addr.add_mid];exact hN.range j u hu);have HRW:=Lib.hid hI;have hszW:g0≤W12.heap.size:=(by have:=hA.lt;omega);rw [if_pos (by rfl)];refine wp_append_own_wide _ (.tmp 19) (.tmp 39) 30 rfl g0 59 ti tz 1 24 Tryz.underlying30 HI.out HZ.out HSz.out HBt.out HZs.out (by omega) (.slice va0 p vc0) p _ rfl HRW.out ⟨ghN,0,none⟩ 1 1 [Value.slice va vn vc] rfl rfl HNW.out HON.out (by simp only [maxLen];omega) (by omega) hszW (fun v' W13 h2 h3 h4=>?_);obtain ⟨xa9,xc9,rfl⟩:=row_slice h2;replace hA:=hA.grown h3 (own_ne_row hA HRW.out (by decide));replace hT:=hT.grown h3 (own_ne_row hT HRW.out (by decide));replace hR:=hR.grown h3 (own_ne_row hR HRW.out (by decide));replace hW:=Lib.hid (hW.out.grown h3 (fun q e=>row_own HRW.out e));replace hb:=grown_below hb h3 (fun j e=>by have:=(HRW.out.lt j e).1;omega) hb.size;replace hO:=hO.grown h3 (own_ne_row hO HRW.out (by decide));have H2:=Lib.hid h2;clear h2 h4 hI hN;clear HNW HRW hszW h3;refine hK.out _ _ ?_ (fun _=>?_)
        · ((try dsimp only);(exact ⟨hA.cell 0,hA.cell 1,hT.cell 0,hT.cell 1,(World.cell?_of_block (a:=⟨b1,o1+p,none⟩) (hb.block b1 hl1)).trans HC1.out,(World.cell?_of_block (a:=⟨b2,o2+p,none⟩) (hb.block b2 hl2)).trans HC2.out⟩))
        clear hK K
        (try simp only [Act.put,pA,pB,pC])
        refine hdT 23 ?_;refine hdC 24 (fun K hK=>?_);have cO2:=hO.cell 1;have fO2:=hO.frozen 1
        (go_simp;go_wp2_with fail)
        replace hA:=hA.far (p:=⟨gX,1,none⟩) (by dsimp only;omega) (.slice xa9 (p+1) xc9);replace hT:=hT.far (p:=⟨gX,1,none⟩) (by dsimp only;omega) (.slice xa9 (p+1) xc9);replace hR:=hR.far (p:=⟨gX,1,none⟩) (by dsimp only;omega) (.slice xa9 (p+1) xc9);have H5:=Lib.hid (row_far9 (p:=⟨gX,1,none⟩) H2.out hO (by decide) (.slice xa9 (p+1) xc9));replace hW:=Lib.hid (vals_far9 (p:=⟨gX,1,none⟩) hW.out hO (by decide) (.slice xa9 (p+1) xc9));replace hb:=hb.setCell (p:=⟨gX,1,none⟩) (by dsimp only;omega) (.slice xa9 (p+1) xc9);replace hO:=hO.set 1 (.slice xa9 (p+1) xc9);generalize W13.setCell ⟨gX,1,none⟩ (.slice xa9 (p+1) xc9)=W14 at *;refine hK.out _ _ ?_ (fun _=>?_)
        · ((try dsimp only);(exact ⟨hA.cell 0,hA.cell 1,hT.cell 0,hT.cell 1,(World.cell?_of_block (a:=⟨b1,o1+p,none⟩) (hb.block b1 hl1)).trans HC1.out,(World.cell?_of_block (a:=⟨b2,o2+p,none⟩) (hb.block b2 hl2)).trans HC2.out⟩))
        clear hK K
        (try simp only [Act.put,pA,pB,pC])
        refine wpAnyH_done (by kernel_rfl) ?_ _;go_wp2_with fail
        go_roundw
        case rel=>exact ⟨p+1,xa9,xc9,vs++[.slice va vn vc],by omega,by go_num,by rw [←HG.out];exact hb,hA,hT,hR,hO,H5.out,by rw [brs_succ,HSM.out];exact hW⟩
        case measure=>simp [intOf] <;> omega
      · skip
        (go_simp;(go_at_call 31;refine (l09Apply_c dc c k c2 d1 (HD.out.keep hb) (HF2.out.keep hb) HAO2.out HMI.out ⟨hk0,hk12⟩ (HTa.out.keep hb) HOKa.out HFa.out hm1').mono ?_;rintro e W15 ⟨v2,rfl,hY2,hbX⟩;obtain ⟨y2a,y2n,q2,rfl⟩:=OwnR.isSlice hY2);go_wp2_with fail)
        replace hA:=hA.keep hbX hA.lt;replace hT:=hT.keep hbX hT.lt;replace hR:=hR.keep hbX hR.lt;replace hI:=row_keep hI hbX;replace hW:=Lib.hid (hW.out.keep hbX);replace hb:=bT' hb hbX hb.size;replace hO:=hO.keep hbX hO.lt;replace hY1:=hY1.keep hbX;clear hbX;refine hK.out _ _ ?_ (fun _=>?_)
        · ((try dsimp only);(exact ⟨hA.cell 0,hA.cell 1,hT.cell 0,hT.cell 1,(World.cell?_of_block (a:=⟨b1,o1+p,none⟩) (hb.block b1 hl1)).trans HC1.out,(World.cell?_of_block (a:=⟨b2,o2+p,none⟩) (hb.block b2 hl2)).trans HC2.out⟩))
        clear hK K
        (try simp only [Act.put,pA,pB,pC])
        refine wpAnyH_ready (rs:=[1,19]) (by kernel_rfl) (by simp) ?_;refine AllReadyH.cons (hdAt (i:=1) rfl) (fun K hK=>?_) (AllReadyH.cons (hdAt (i:=19) rfl) (fun K hK=>?_) AllReadyH.nil)
        · skip
          have cO1:=hO.cell 1
          (go_simp;try go_wp2_with fail)
          refine hK.out _ _ ?_ (fun _=>?_)
          · ((try dsimp only);(exact ⟨hA.cell 0,hA.cell 1,hT.cell 0,hT.cell 1,(World.cell?_of_block (a:=⟨b1,o1+p,none⟩) (hb.block b1 hl1)).trans HC1.out,(World.cell?_of_block (a:=⟨b2,o2+p,none⟩) (hb.block b2 hl2)).trans HC2.out⟩))
          clear hK K
          (try simp only [Act.put,pA,pB,pC])
          refine hdC 19 (fun K hK=>?_)
          (go_simp;(go_at_call 32;refine (l09Sign_c k 1 _ (by omega) (by omega) (by omega) (by omega)).mono ?_;rintro e W16 ⟨rfl,hbX⟩);go_wp2_with fail)
          replace hA:=hA.keep hbX hA.lt;replace hT:=hT.keep hbX hT.lt;replace hR:=hR.keep hbX hR.lt;replace hI:=row_keep hI hbX;replace hW:=Lib.hid (hW.out.keep hbX);replace hb:=bT' hb hbX hb.size;replace hO:=hO.keep hbX hO.lt;replace hY1:=hY1.keep hbX;replace hY2:=hY2.keep hbX;clear hbX;refine hK.out _ _ ?_ (fun _=>?_)
          · ((try dsimp only);(exact ⟨hA.cell 0,hA.cell 1,hT.cell 0,hT.cell 1,(World.cell?_of_block (a:=⟨b1,o1+p,none⟩) (hb.block b1 hl1)).trans HC1.out,(World.cell?_of_block (a:=⟨b2,o2+p,none⟩) (hb.block b2 hl2)).trans HC2.out⟩))
          clear hK K
          (try simp only [Act.put,pA,pB,pC])
          refine hdC 20 (fun K hK=>?_);have HLT:=Lib.hid hW.out.lt;have hbs:g0≤_:=Nat.le_of_lt hA.lt;have HYL:Hid (y1n+y2n≤4000000):=Lib.hid (by have:=(OwnR.read hY1 HY1T.out).len;have:=(OwnR.read hY2 HY2T.out).len;have:=HY1L.out;have:=HY2L.out;omega)
          (go_simp;(go_at_call 30;refine (l01Add_c q1 q2 (sg9 k 1) (sg9_rg k 1).1 (sg9_rg k 1).2 (OwnR.read hY1 HY1T.out) (OwnR.read hY2 HY2T.out) HYL.out HY1B.out HY2B.out).mono ?_;rintro e W17 ⟨v,rfl,hV0,hbX⟩);go_wp2_with fail)
          replace hA:=hA.keep hbX hA.lt;replace hT:=hT.keep hbX hT.lt;replace hR:=hR.keep hbX hR.lt;replace hI:=row_keep hI hbX;replace hW:=Lib.hid (hW.out.keep hbX);replace hb:=bT' hb hbX hb.size;replace hO:=hO.keep hbX hO.lt;replace hY1:=hY1.keep hbX;replace hY2:=hY2.keep hbX;have hV:=hV0.r;clear hV0 hY1 hY2 HYL;obtain ⟨va,vn,vc,rfl⟩:=hV.isSlice;replace hW:=Lib.hid (hW.out.snoc HLT.out hbs hV);have HON:Hid (∀u∈([Value.slice va vn vc]:List Value),u.oneCell'=true):=Lib.hid (by simp [Value.oneCell']);clear HLT hbs hV;clear hbX;refine hK.out _ _ ?_ (fun _=>?_)
          · ((try dsimp only);(exact ⟨hA.cell 0,hA.cell 1,hT.cell 0,hT.cell 1,(World.cell?_of_block (a:=⟨b1,o1+p,none⟩) (hb.block b1 hl1)).trans HC1.out,(World.cell?_of_block (a:=⟨b2,o2+p,none⟩) (hb.block b2 hl2)).trans HC2.out⟩))
          clear hK K
          (try simp only [Act.put,pA,pB,pC])
          refine hdC 21 (fun K hK=>?_)
          (go_simp;try go_wp2_with fail)
          have hN:=Own.new W17 59 #[.slice va vn vc];have hbX:=bA1 W17 (.cells #[.slice va vn vc] 59);replace hA:=hA.keep hbX hA.lt;replace hT:=hT.keep hbX hT.lt;replace hR:=hR.keep hbX hR.lt;replace hI:=row_keep hI hbX;replace hW:=Lib.hid (hW.out.keep hbX);replace hb:=bT' hb hbX hb.size;replace hO:=hO.keep hbX hO.lt;generalize W17.alloc (.cells #[.slice va vn vc] 59)=W18 at *;generalize hhNg:W17.heap.size=ghN at *;clear hbX hhNg;refine hK.out _ _ ?_ (fun _=>?_)
          · ((try dsimp only);(exact ⟨hA.cell 0,hA.cell 1,hT.cell 0,hT.cell 1,(World.cell?_of_block (a:=⟨b1,o1+p,none⟩) (hb.block b1 hl1)).trans HC1.out,(World.cell?_of_block (a:=⟨b2,o2+p,none⟩) (hb.block b2 hl2)).trans HC2.out⟩))
          clear hK K
          (try simp only [Act.put,pA,pB,pC])
          refine hdC 22 (fun K hK=>?_);have HNW:Hid (∀j u,([Value.slice va vn vc]:List Value)[j]? = some u→W18.cell? ((⟨ghN,0,none⟩:Addr).add j)=some u):=Lib.hid (fun j u hu=>by rw [Addr.add_mid];exact hN.range j u hu);have HRW:=Lib.hid hI;have hszW:g0≤W18.heap.size:=(by have:=hA.lt;omega);rw [if_pos (by rfl)];refine wp_append_own_wide _ (.tmp 19) (.tmp 39) 30 rfl g0 59 ti tz 1 24 Tryz.underlying30 HI.out HZ.out HSz.out HBt.out HZs.out (by omega) (.slice va0 p vc0) p _ rfl HRW.out ⟨ghN,0,none⟩ 1 1 [Value.slice va vn vc] rfl rfl HNW.out HON.out (by simp only [maxLen];omega) (by omega) hszW (fun v' W19 h2 h3 h4=>?_);obtain ⟨xa9,xc9,rfl⟩:=row_slice h2;replace hA:=hA.grown h3 (own_ne_row hA HRW.out (by decide));replace hT:=hT.grown h3 (own_ne_row hT HRW.out (by decide));replace hR:=hR.grown h3 (own_ne_row hR HRW.out (by decide));replace hW:=Lib.hid (hW.out.grown h3 (fun q e=>row_own HRW.out e));replace hb:=grown_below hb h3 (fun j e=>by have:=(HRW.out.lt j e).1;omega) hb.size;replace hO:=hO.grown h3 (own_ne_row hO HRW.out (by decide));have H2:=Lib.hid h2;clear h2 h4 hI hN;clear HNW HRW hszW h3;refine hK.out _ _ ?_ (fun _=>?_)
          · ((try dsimp only);(exact ⟨hA.cell 0,hA.cell 1,hT.cell 0,hT.cell 1,(World.cell?_of_block (a:=⟨b1,o1+p,none⟩) (hb.block b1 hl1)).trans HC1.out,(World.cell?_of_block (a:=⟨b2,o2+p,none⟩) (hb.block b2 hl2)).trans HC2.out⟩))
          clear hK K
          (try simp only [Act.put,pA,pB,pC])
          refine hdT 23 ?_;refine hdC 24 (fun K hK=>?_);have cO2:=hO.cell 1;have fO2:=hO.frozen 1
          (go_simp;go_wp2_with fail)
          replace hA:=hA.far (p:=⟨gX,1,none⟩) (by dsimp only;omega) (.slice xa9 (p+1) xc9);replace hT:=hT.far (p:=⟨gX,1,none⟩) (by dsimp only;omega) (.slice xa9 (p+1) xc9);replace hR:=hR.far (p:=⟨gX,1,none⟩) (by dsimp only;omega) (.slice xa9 (p+1) xc9);have H5:=Lib.hid (row_far9 (p:=⟨gX,1,none⟩) H2.out hO (by decide) (.slice xa9 (p+1) xc9));replace hW:=Lib.hid (vals_far9 (p:=⟨gX,1,none⟩) hW.out hO (by decide) (.slice xa9 (p+1) xc9));replace hb:=hb.setCell (p:=⟨gX,1,none⟩) (by dsimp only;omega) (.slice xa9 (p+1) xc9);replace hO:=hO.set 1 (.slice xa9 (p+1) xc9);generalize W19.setCell ⟨gX,1,none⟩ (.slice xa9 (p+1) xc9)=W20 at *;refine hK.out _ _ ?_ (fun _=>?_)
          · ((try dsimp only);(exact ⟨hA.cell 0,hA.cell 1,hT.cell 0,hT.cell 1,(World.cell?_of_block (a:=⟨b1,o1+p,none⟩) (hb.block b1 hl1)).trans HC1.out,(World.cell?_of_block (a:=⟨b2,o2+p,none⟩) (hb.block b2 hl2)).trans HC2.out⟩))
          clear hK K
          (try simp only [Act.put,pA,pB,pC])
          refine wpAnyH_done (by kernel_rfl) ?_ _;go_wp2_with fail
          go_roundw
          case rel=>exact ⟨p+1,xa9,xc9,vs++[.slice va vn vc],by omega,by go_num,by rw [←HG.out];exact hb,hA,hT,hR,hO,H5.out,by rw [brs_succ,HSM.out];exact hW⟩
          case measure=>simp [intOf] <;> omega
        · skip
          (go_simp;(go_at_call 32;refine (l09Sign_c k 1 _ (by omega) (by omega) (by omega) (by omega)).mono ?_;rintro e W21 ⟨rfl,hbX⟩);go_wp2_with fail)
          replace hA:=hA.keep hbX hA.lt;replace hT:=hT.keep hbX hT.lt;replace hR:=hR.keep hbX hR.lt;replace hI:=row_keep hI hbX;replace hW:=Lib.hid (hW.out.keep hbX);replace hb:=bT' hb hbX hb.size;replace hO:=hO.keep hbX hO.lt;replace hY1:=hY1.keep hbX;replace hY2:=hY2.keep hbX;clear hbX;refine hK.out _ _ ?_ (fun _=>?_)
          · ((try dsimp only);(exact ⟨hA.cell 0,hA.cell 1,hT.cell 0,hT.cell 1,(World.cell?_of_block (a:=⟨b1,o1+p,none⟩) (hb.block b1 hl1)).trans HC1.out,(World.cell?_of_block (a:=⟨b2,o2+p,none⟩) (hb.block b2 hl2)).trans HC2.out⟩))
          clear hK K
          (try simp only [Act.put,pA,pB,pC])
          refine wpAnyH_ready (rs:=[1,20]) (by kernel_rfl) (by simp) ?_;refine AllReadyH.cons (hdAt (i:=1) rfl) (fun K hK=>?_) (AllReadyH.cons (hdAt (i:=20) rfl) (fun K hK=>?_) AllReadyH.nil)
          · skip
            have cO1:=hO.cell 1
            (go_simp;try go_wp2_with fail)
            refine hK.out _ _ ?_ (fun _=>?_)
            · ((try dsimp only);(exact ⟨hA.cell 0,hA.cell 1,hT.cell 0,hT.cell 1,(World.cell?_of_block (a:=⟨b1,o1+p,none⟩) (hb.block b1 hl1)).trans HC1.out,(World.cell?_of_block (a:=⟨b2,o2+p,none⟩) (hb.block b2 hl2)).trans HC2.out⟩))
            clear hK K
            (try simp only [Act.put,pA,pB,pC])
            refine hdC 20 (fun K hK=>?_);have HLT:=Lib.hid hW.out.lt;have hbs:g0≤_:=Nat.le_of_lt hA.lt;have HYL:Hid (y1n+y2n≤4000000):=Lib.hid (by have:=(OwnR.read hY1 HY1T.out).len;have:=(OwnR.read hY2 HY2T.out).len;have:=HY1L.out;have:=HY2L.out;omega)
            (go_simp;(go_at_call 30;refine (l01Add_c q1 q2 (sg9 k 1) (sg9_rg k 1).1 (sg9_rg k 1).2 (OwnR.read hY1 HY1T.out) (OwnR.read hY2 HY2T.out) HYL.out HY1B.out HY2B.out).mono ?_;rintro e W22 ⟨v,rfl,hV0,hbX⟩);go_wp2_with fail)
            replace hA:=hA.keep hbX hA.lt;replace hT:=hT.keep hbX hT.lt;replace hR:=hR.keep hbX hR.lt;replace hI:=row_keep hI hbX;replace hW:=Lib.hid (hW.out.keep hbX);replace hb:=bT' hb hbX hb.size;replace hO:=hO.keep hbX hO.lt;replace hY1:=hY1.keep hbX;replace hY2:=hY2.keep hbX;have hV:=hV0.r;clear hV0 hY1 hY2 HYL;obtain ⟨va,vn,vc,rfl⟩:=hV.isSlice;replace hW:=Lib.hid (hW.out.snoc HLT.out hbs hV);have HON:Hid (∀u∈([Value.slice va vn vc]:List Value),u.oneCell'=true):=Lib.hid (by simp [Value.oneCell']);clear HLT hbs hV;clear hbX;refine hK.out _ _ ?_ (fun _=>?_)
            · ((try dsimp only);(exact ⟨hA.cell 0,hA.cell 1,hT.cell 0,hT.cell 1,(World.cell?_of_block (a:=⟨b1,o1+p,none⟩) (hb.block b1 hl1)).trans HC1.out,(World.cell?_of_block (a:=⟨b2,o2+p,none⟩) (hb.block b2 hl2)).trans HC2.out⟩))
            clear hK K
            (try simp only [Act.put,pA,pB,pC])
            refine hdC 21 (fun K hK=>?_)
            (go_simp;try go_wp2_with fail)
            have hN:=Own.new W22 59 #[.slice va vn vc];have hbX:=bA1 W22 (.cells #[.slice va vn vc] 59);replace hA:=hA.keep hbX hA.lt;replace hT:=hT.keep hbX hT.lt;replace hR:=hR.keep hbX hR.lt;replace hI:=row_keep hI hbX;replace hW:=Lib.hid (hW.out.keep hbX);replace hb:=bT' hb hbX hb.size;replace hO:=hO.keep hbX hO.lt;generalize W22.alloc (.cells #[.slice va vn vc] 59)=W23 at *;generalize hhNg:W22.heap.size=ghN at *;clear hbX hhNg;refine hK.out _ _ ?_ (fun _=>?_)
            · ((try dsimp only);(exact ⟨hA.cell 0,hA.cell 1,hT.cell 0,hT.cell 1,(World.cell?_of_block (a:=⟨b1,o1+p,none⟩) (hb.block b1 hl1)).trans HC1.out,(World.cell?_of_block (a:=⟨b2,o2+p,none⟩) (hb.block b2 hl2)).trans HC2.out⟩))
            clear hK K
            (try simp only [Act.put,pA,pB,pC])
            refine hdC 22 (fun K hK=>?_);have HNW:Hid (∀j u,([Value.slice va vn vc]:List Value)[j]? = some u→W23.cell? ((⟨ghN,0,none⟩:Addr).add j)=some u):=Lib.hid (fun j u hu=>by rw [Addr.add_mid];exact hN.range j u hu);have HRW:=Lib.hid hI;have hszW:g0≤W23.heap.size:=(by have:=hA.lt;omega);rw [if_pos (by rfl)];refine wp_append_own_wide _ (.tmp 19) (.tmp 39) 30 rfl g0 59 ti tz 1 24 Tryz.underlying30 HI.out HZ.out HSz.out HBt.out HZs.out (by omega) (.slice va0 p vc0) p _ rfl HRW.out ⟨ghN,0,none⟩ 1 1 [Value.slice va vn vc] rfl rfl HNW.out HON.out (by simp only [maxLen];omega) (by omega) hszW (fun v' W24 h2 h3 h4=>?_);obtain ⟨xa9,xc9,rfl⟩:=row_slice h2;replace hA:=hA.grown h3 (own_ne_row hA HRW.out (by decide));replace hT:=hT.grown h3 (own_ne_row hT HRW.out (by decide));replace hR:=hR.grown h3 (own_ne_row hR HRW.out (by decide));replace hW:=Lib.hid (hW.out.grown h3 (fun q e=>row_own HRW.out e));replace hb:=grown_below hb h3 (fun j e=>by have:=(HRW.out.lt j e).1;omega) hb.size;replace hO:=hO.grown h3 (own_ne_row hO HRW.out (by decide));have H2:=Lib.hid h2;clear h2 h4 hI hN;clear HNW HRW hszW h3;refine hK.out _ _ ?_ (fun _=>?_)
            · ((try dsimp only);(exact ⟨hA.cell 0,hA.cell 1,hT.cell 0,hT.cell 1,(World.cell?_of_block (a:=⟨b1,o1+p,none⟩) (hb.block b1 hl1)).trans HC1.out,(World.cell?_of_block (a:=⟨b2,o2+p,none⟩) (hb.block b2 hl2)).trans HC2.out⟩))
            clear hK K
            (try simp only [Act.put,pA,pB,pC])
            refine hdT 23 ?_;refine hdC 24 (fun K hK=>?_);have cO2:=hO.cell 1;have fO2:=hO.frozen 1
            (go_simp;go_wp2_with fail)
            replace hA:=hA.far (p:=⟨gX,1,none⟩) (by dsimp only;omega) (.slice xa9 (p+1) xc9);replace hT:=hT.far (p:=⟨gX,1,none⟩) (by dsimp only;omega) (.slice xa9 (p+1) xc9);replace hR:=hR.far (p:=⟨gX,1,none⟩) (by dsimp only;omega) (.slice xa9 (p+1) xc9);have H5:=Lib.hid (row_far9 (p:=⟨gX,1,none⟩) H2.out hO (by decide) (.slice xa9 (p+1) xc9));replace hW:=Lib.hid (vals_far9 (p:=⟨gX,1,none⟩) hW.out hO (by decide) (.slice xa9 (p+1) xc9));replace hb:=hb.setCell (p:=⟨gX,1,none⟩) (by dsimp only;omega) (.slice xa9 (p+1) xc9);replace hO:=hO.set 1 (.slice xa9 (p+1) xc9);generalize W24.setCell ⟨gX,1,none⟩ (.slice xa9 (p+1) xc9)=W25 at *;refine hK.out _ _ ?_ (fun _=>?_)
            · ((try dsimp only);(exact ⟨hA.cell 0,hA.cell 1,hT.cell 0,hT.cell 1,(World.cell?_of_block (a:=⟨b1,o1+p,none⟩) (hb.block b1 hl1)).trans HC1.out,(World.cell?_of_block (a:=⟨b2,o2+p,none⟩) (hb.block b2 hl2)).trans HC2.out⟩))
            clear hK K
            (try simp only [Act.put,pA,pB,pC])
            refine wpAnyH_done (by kernel_rfl) ?_ _;go_wp2_with fail
            go_roundw
            case rel=>exact ⟨p+1,xa9,xc9,vs++[.slice va vn vc],by omega,by go_num,by rw [←HG.out];exact hb,hA,hT,hR,hO,H5.out,by rw [brs_succ,HSM.out];exact hW⟩
            case measure=>simp [intOf] <;> omega
          · skip
            have HLT:=Lib.hid hW.out.lt;have hbs:g0≤_:=Nat.le_of_lt hA.lt;have HYL:Hid (y1n+y2n≤4000000):=Lib.hid (by have:=(OwnR.read hY1 HY1T.out).len;have:=(OwnR.read hY2 HY2T.out).len;have:=HY1L.out;have:=HY2L.out;omega)
            (go_simp;(go_at_call 30;refine (l01Add_c q1 q2 (sg9 k 1) (sg9_rg k 1).1 (sg9_rg k 1).2 (OwnR.read hY1 HY1T.out) (OwnR.read hY2 HY2T.out) HYL.out HY1B.out HY2B.out).mono ?_;rintro e W26 ⟨v,rfl,hV0,hbX⟩);go_wp2_with fail)
            replace hA:=hA.keep hbX hA.lt;replace hT:=hT.keep hbX hT.lt;replace hR:=hR.keep hbX hR.lt;replace hI:=row_keep hI hbX;replace hW:=Lib.hid (hW.out.keep hbX);replace hb:=bT' hb hbX hb.size;replace hO:=hO.keep hbX hO.lt;replace hY1:=hY1.keep hbX;replace hY2:=hY2.keep hbX;have hV:=hV0.r;clear hV0 hY1 hY2 HYL;obtain ⟨va,vn,vc,rfl⟩:=hV.isSlice;replace hW:=Lib.hid (hW.out.snoc HLT.out hbs hV);have HON:Hid (∀u∈([Value.slice va vn vc]:List Value),u.oneCell'=true):=Lib.hid (by simp [Value.oneCell']);clear HLT hbs hV;clear hbX;refine hK.out _ _ ?_ (fun _=>?_)
            · ((try dsimp only);(exact ⟨hA.cell 0,hA.cell 1,hT.cell 0,hT.cell 1,(World.cell?_of_block (a:=⟨b1,o1+p,none⟩) (hb.block b1 hl1)).trans HC1.out,(World.cell?_of_block (a:=⟨b2,o2+p,none⟩) (hb.block b2 hl2)).trans HC2.out⟩))
            clear hK K
            (try simp only [Act.put,pA,pB,pC])
            refine wpAnyH_ready (rs:=[1,21]) (by kernel_rfl) (by simp) ?_;refine AllReadyH.cons (hdAt (i:=1) rfl) (fun K hK=>?_) (AllReadyH.cons (hdAt (i:=21) rfl) (fun K hK=>?_) AllReadyH.nil)
            · skip
              have cO1:=hO.cell 1
              (go_simp;try go_wp2_with fail)
              refine hK.out _ _ ?_ (fun _=>?_)
              · ((try dsimp only);(exact ⟨hA.cell 0,hA.cell 1,hT.cell 0,hT.cell 1,(World.cell?_of_block (a:=⟨b1,o1+p,none⟩) (hb.block b1 hl1)).trans HC1.out,(World.cell?_of_block (a:=⟨b2,o2+p,none⟩) (hb.block b2 hl2)).trans HC2.out⟩))
              clear hK K
              (try simp only [Act.put,pA,pB,pC])
              refine hdC 21 (fun K hK=>?_)
              (go_simp;try go_wp2_with fail)
              have hN:=Own.new W26 59 #[.slice va vn vc];have hbX:=bA1 W26 (.cells #[.slice va vn vc] 59);replace hA:=hA.keep hbX hA.lt;replace hT:=hT.keep hbX hT.lt;replace hR:=hR.keep hbX hR.lt;replace hI:=row_keep hI hbX;replace hW:=Lib.hid (hW.out.keep hbX);replace hb:=bT' hb hbX hb.size;replace hO:=hO.keep hbX hO.lt;generalize W26.alloc (.cells #[.slice va vn vc] 59)=W27 at *;generalize hhNg:W26.heap.size=ghN at *;clear hbX hhNg;refine hK.out _ _ ?_ (fun _=>?_)
              · ((try dsimp only);(exact ⟨hA.cell 0,hA.cell 1,hT.cell 0,hT.cell 1,(World.cell?_of_block (a:=⟨b1,o1+p,none⟩) (hb.block b1 hl1)).trans HC1.out,(World.cell?_of_block (a:=⟨b2,o2+p,none⟩) (hb.block b2 hl2)).trans HC2.out⟩))
              clear hK K
              (try simp only [Act.put,pA,pB,pC])
              refine hdC 22 (fun K hK=>?_);have HNW:Hid (∀j u,([Value.slice va vn vc]:List Value)[j]? = some u→W27.cell? ((⟨ghN,0,none⟩:Addr).add j)=some u):=Lib.hid (fun j u hu=>by rw [Addr.add_mid];exact hN.range j u hu);have HRW:=Lib.hid hI;have hszW:g0≤W27.heap.size:=(by have:=hA.lt;omega);rw [if_pos (by rfl)];refine wp_append_own_wide _ (.tmp 19) (.tmp 39) 30 rfl g0 59 ti tz 1 24 Tryz.underlying30 HI.out HZ.out HSz.out HBt.out HZs.out (by omega) (.slice va0 p vc0) p _ rfl HRW.out ⟨ghN,0,none⟩ 1 1 [Value.slice va vn vc] rfl rfl HNW.out HON.out (by simp only [maxLen];omega) (by omega) hszW (fun v' W28 h2 h3 h4=>?_);obtain ⟨xa9,xc9,rfl⟩:=row_slice h2;replace hA:=hA.grown h3 (own_ne_row hA HRW.out (by decide));replace hT:=hT.grown h3 (own_ne_row hT HRW.out (by decide));replace hR:=hR.grown h3 (own_ne_row hR HRW.out (by decide));replace hW:=Lib.hid (hW.out.grown h3 (fun q e=>row_own HRW.out e));replace hb:=grown_below hb h3 (fun j e=>by have:=(HRW.out.lt j e).1;omega) hb.size;replace hO:=hO.grown h3 (own_ne_row hO HRW.out (by decide));have H2:=Lib.hid h2;clear h2 h4 hI hN;clear HNW HRW hszW h3;refine hK.out _ _ ?_ (fun _=>?_)
              · ((try dsimp only);(exact ⟨hA.cell 0,hA.cell 1,hT.cell 0,hT.cell 1,(World.cell?_of_block (a:=⟨b1,o1+p,none⟩) (hb.block b1 hl1)).trans HC1.out,(World.cell?_of_block (a:=⟨b2,o2+p,none⟩) (hb.block b2 hl2)).trans HC2.out⟩))
              clear hK K
              (try simp only [Act.put,pA,pB,pC])
              refine hdT 23 ?_;refine hdC 24 (fun K hK=>?_);have cO2:=hO.cell 1;have fO2:=hO.frozen 1
              (go_simp;go_wp2_with fail)
              replace hA:=hA.far (p:=⟨gX,1,none⟩) (by dsimp only;omega) (.slice xa9 (p+1) xc9);replace hT:=hT.far (p:=⟨gX,1,none⟩) (by dsimp only;omega) (.slice xa9 (p+1) xc9);replace hR:=hR.far (p:=⟨gX,1,none⟩) (by dsimp only;omega) (.slice xa9 (p+1) xc9);have H5:=Lib.hid (row_far9 (p:=⟨gX,1,none⟩) H2.out hO (by decide) (.slice xa9 (p+1) xc9));replace hW:=Lib.hid (vals_far9 (p:=⟨gX,1,none⟩) hW.out hO (by decide) (.slice xa9 (p+1) xc9));replace hb:=hb.setCell (p:=⟨gX,1,none⟩) (by dsimp only;omega) (.slice xa9 (p+1) xc9);replace hO:=hO.set 1 (.slice xa9 (p+1) xc9);generalize W28.setCell ⟨gX,1,none⟩ (.slice xa9 (p+1) xc9)=W29 at *;refine hK.out _ _ ?_ (fun _=>?_)
              · ((try dsimp only);(exact ⟨hA.cell 0,hA.cell 1,hT.cell 0,hT.cell 1,(World.cell?_of_block (a:=⟨b1,o1+p,none⟩) (hb.block b1 hl1)).trans HC1.out,(World.cell?_of_block (a:=⟨b2,o2+p,none⟩) (hb.block b2 hl2)).trans HC2.out⟩))
              clear hK K
              (try simp only [Act.put,pA,pB,pC])
              refine wpAnyH_done (by kernel_rfl) ?_ _;go_wp2_with fail
              go_roundw
              case rel=>exact ⟨p+1,xa9,xc9,vs++[.slice va vn vc],by omega,by go_num,by rw [←HG.out];exact hb,hA,hT,hR,hO,H5.out,by rw [brs_succ,HSM.out];exact hW⟩
              case measure=>simp [intOf] <;> omega
            · skip
              (go_simp;try go_wp2_with fail)
              have hN:=Own.new W26 59 #[.slice va vn vc];have hbX:=bA1 W26 (.cells #[.slice va vn vc] 59);replace hA:=hA.keep hbX hA.lt;replace hT:=hT.keep hbX hT.lt;replace hR:=hR.keep hbX hR.lt;replace hI:=row_keep hI hbX;replace hW:=Lib.hid (hW.out.keep hbX);replace hb:=bT' hb hbX hb.size;replace hO:=hO.keep hbX hO.lt;generalize W26.alloc (.cells #[.slice va vn vc] 59)=W30 at *;generalize hhNg:W26.heap.size=ghN at *;clear hbX hhNg;refine hK.out _ _ ?_ (fun _=>?_)
              · ((try dsimp only);(exact ⟨hA.cell 0,hA.cell 1,hT.cell 0,hT.cell 1,(World.cell?_of_block (a:=⟨b1,o1+p,none⟩) (hb.block b1 hl1)).trans HC1.out,(World.cell?_of_block (a:=⟨b2,o2+p,none⟩) (hb.block b2 hl2)).trans HC2.out⟩))
              clear hK K
              (try simp only [Act.put,pA,pB,pC])
              refine hdC 1 (fun K hK=>?_);have cO1:=hO.cell 1
              (go_simp;try go_wp2_with fail)
              refine hK.out _ _ ?_ (fun _=>?_)
              · ((try dsimp only);(exact ⟨hA.cell 0,hA.cell 1,hT.cell 0,hT.cell 1,(World.cell?_of_block (a:=⟨b1,o1+p,none⟩) (hb.block b1 hl1)).trans HC1.out,(World.cell?_of_block (a:=⟨b2,o2+p,none⟩) (hb.block b2 hl2)).trans HC2.out⟩))
              clear hK K
              (try simp only [Act.put,pA,pB,pC])
              refine hdC 22 (fun K hK=>?_);have HNW:Hid (∀j u,([Value.slice va vn vc]:List Value)[j]? = some u→W30.cell? ((⟨ghN,0,none⟩:Addr).add j)=some u):=Lib.hid (fun j u hu=>by rw [Addr.add_mid];exact hN.range j u hu);have HRW:=Lib.hid hI;have hszW:g0≤W30.heap.size:=(by have:=hA.lt;omega);rw [if_pos (by rfl)];refine wp_append_own_wide _ (.tmp 19) (.tmp 39) 30 rfl g0 59 ti tz 1 24 Tryz.underlying30 HI.out HZ.out HSz.out HBt.out HZs.out (by omega) (.slice va0 p vc0) p _ rfl HRW.out ⟨ghN,0,none⟩ 1 1 [Value.slice va vn vc] rfl rfl HNW.out HON.out (by simp only [maxLen];omega) (by omega) hszW (fun v' W31 h2 h3 h4=>?_);obtain ⟨xa9,xc9,rfl⟩:=row_slice h2;replace hA:=hA.grown h3 (own_ne_row hA HRW.out (by decide));replace hT:=hT.grown h3 (own_ne_row hT HRW.out (by decide));replace hR:=hR.grown h3 (own_ne_row hR HRW.out (by decide));replace hW:=Lib.hid (hW.out.grown h3 (fun q e=>row_own HRW.out e));replace hb:=grown_below hb h3 (fun j e=>by have:=(HRW.out.lt j e).1;omega) hb.size;replace hO:=hO.grown h3 (own_ne_row hO HRW.out (by decide));have H2:=Lib.hid h2;clear h2 h4 hI hN;clear HNW HRW hszW h3;refine hK.out _ _ ?_ (fun _=>?_)
              · ((try dsimp only);(exact ⟨hA.cell 0,hA.cell 1,hT.cell 0,hT.cell 1,(World.cell?_of_block (a:=⟨b1,o1+p,none⟩) (hb.block b1 hl1)).trans HC1.out,(World.cell?_of_block (a:=⟨b2,o2+p,none⟩) (hb.block b2 hl2)).trans HC2.out⟩))
              clear hK K
              (try simp only [Act.put,pA,pB,pC])
              refine hdT 23 ?_;refine hdC 24 (fun K hK=>?_);have cO2:=hO.cell 1;have fO2:=hO.frozen 1
              (go_simp;go_wp2_with fail)
              replace hA:=hA.far (p:=⟨gX,1,none⟩) (by dsimp only;omega) (.slice xa9 (p+1) xc9);replace hT:=hT.far (p:=⟨gX,1,none⟩) (by dsimp only;omega) (.slice xa9 (p+1) xc9);replace hR:=hR.far (p:=⟨gX,1,none⟩) (by dsimp only;omega) (.slice xa9 (p+1) xc9);have H5:=Lib.hid (row_far9 (p:=⟨gX,1,none⟩) H2.out hO (by decide) (.slice xa9 (p+1) xc9));replace hW:=Lib.hid (vals_far9 (p:=⟨gX,1,none⟩) hW.out hO (by decide) (.slice xa9 (p+1) xc9));replace hb:=hb.setCell (p:=⟨gX,1,none⟩) (by dsimp only;omega) (.slice xa9 (p+1) xc9);replace hO:=hO.set 1 (.slice xa9 (p+1) xc9);generalize W31.setCell ⟨gX,1,none⟩ (.slice xa9 (p+1) xc9)=W32 at *;refine hK.out _ _ ?_ (fun _=>?_)
              · ((try dsimp only);(exact ⟨hA.cell 0,hA.cell 1,hT.cell 0,hT.cell 1,(World.cell?_of_block (a:=⟨b1,o1+p,none⟩) (hb.block b1 hl1)).trans HC1.out,(World.cell?_of_block (a:=⟨b2,o2+p,none⟩) (hb.block b2 hl2)).trans HC2.out⟩))
              clear hK K
              (try simp only [Act.put,pA,pB,pC])
              refine wpAnyH_done (by kernel_rfl) ?_ _;go_wp2_with fail
              go_roundw
              case rel=>exact ⟨p+1,xa9,xc9,vs++[.slice va vn vc],by omega,by go_num,by rw [←HG.out];exact hb,hA,hT,hR,hO,H5.out,by rw [brs_succ,HSM.out];exact hW⟩
              case measure=>simp [intOf] <;> omega
  · have he:p=dn:=(by omega);subst he;have k0:=hO.cell 0;have k1:=hO.cell 1;have hB9:=fun i=>dfAt9 (k:=k) HAO1.out HAO2.out i;have hTM:=Lib.hid (brs_tm (fun i=>(hB9 i).1.tm) p);obtain ⟨ia,ic,hie,hIF⟩:=hW.out.ownF_row (brs_len _ p) HIR.out hTM.out;simp only [Value.slice.injEq] at hie;obtain ⟨rfl,-,rfl⟩:=hie;have HIF:=Lib.hid hIF;clear hIF HIR hB9;have r0:=hR.cell 0;have r1:=hR.cell 1;have f0:=hR.frozen 0;have f1:=hR.frozen 1;go_wp2_with fail
    have q:=(hR.set 0 (.int .i64 D)).set 1 (.slice va0 p vc0);have qb:=(hb.setCell (p:=⟨g2,0,none⟩) (by dsimp only;omega) (.int .i64 D)).setCell (p:=⟨g2,1,none⟩) (by dsimp only;omega) (.slice va0 p vc0);have qF:=ownF_far9 (p:=⟨g2,1,none⟩) (ownF_far9 (p:=⟨g2,0,none⟩) HIF.out hR (.int .i64 D)) (hR.set 0 _) (.slice va0 p vc0);exact bodyPost_ret (results_cell_row rfl _ _ g2 32 #[.int .i64 D,.slice va0 p vc0] (0,0) _ rfl q Tryz.underlying32 rfl Tryz.info_der) rfl ⟨va0,p,vc0,by rw [HDE.out],by rw [HG.out];exact qF.weaken (Nat.le_refl _) (by simp),by rw [HG.out];exact qb⟩
set_option maxHeartbeats 8000000 in
theorem DifferentialOfDerivation_s {w : World} {da : Option Addr} {dn : Nat} {zs : List Int} {a : Option Addr} {n : Nat} {ims : List (List Tm)} {a2 : Option Addr} {n2 : Nat} {gss : List (List Tm)} (dc c : Nat) (k : Int) (c2 : Nat) (hd : Ints w da dn zs) (hdn : dn ≤ 1048576) (hF : Frms w a n ims) (hn : n ≤ 1048576) (hL : ∀ im ∈ ims, (im.length : Int) ≤ 1048576) (hF2 : Frms w a2 n2 gss) (hn2 : n2 ≤ 1048576) (hL2 : ∀ im ∈ gss, (im.length : Int) ≤ 1048576) (hT2 : ∀ ts ∈ gss, ∀ t ∈ ts, IsTm t) :
    Calls Tryz.prog 18 #[.agg #[.slice da dn dc,.slice a n c],.agg #[.int .i64 k,.slice a2 n2 c2]] w fun e w'=>∃rb bn bc,e=.returned (.tuple #[.agg #[.int .i64 (df9D zs ims k gss),.slice rb bn bc],.int .i64 (df9E zs ims k gss)])∧OwnF w' w.heap.size w'.heap.size rb bn (df9I zs ims k gss)∧Below w.heap.size w w':=by
 have HLn2:=Lib.hid hF2.len
 have HLL:=Lib.hid hL
 have HLL2:=Lib.hid hL2
 have HT2:=Lib.hid hT2
 have HDL:=Lib.hid hd.len
 have HD:=Lib.hid hd
 have HF:=Lib.hid hF
 have HF2:=Lib.hid hF2
 clear hL hL2 hT2
 obtain ⟨hA,hT,hR,hb⟩:=own3' w 36 32 32 #[.slice da dn dc,.slice a n c] #[.int .i64 k,.slice a2 n2 c2] #[.int .i64 0,.slice none 0 0]
 go_enter Tryz.func18,Tryz.ntmps18
 go_upto_region 1 with fail
 generalize ((w.alloc (.cells #[.slice da dn dc,.slice a n c] 36)).alloc (.cells #[.int .i64 k,.slice a2 n2 c2] 32)).alloc (.cells #[.int .i64 0,.slice none 0 0] 32)=w0 at *
 generalize hg2:w.heap.size+1+1=g2 at *
 generalize hg1:w.heap.size+1=g1 at *
 generalize hg0:w.heap.size=g0 at *
 have HG:=Lib.hid hg0
 have e1:=hg1
 have e2:=hg2
 clear hg0 hg1 hg2
 cases hd1:derB zs ims k gss
 · have H1:=Lib.hid hd1;have HE:=Lib.hid (df9_1 (k:=k) hd1);clear hd1;have c0:=hA.cell 0;have c1:=hA.cell 1;have s0:=hT.cell 0;have s1:=hT.cell 1;go_wp2_with fail
   refine (l09Is_c dc c k c2 (HD.out.keep (show Below w.heap.size w _ by rw [HG.out];exact hb)) hdn (HF.out.keep (show Below w.heap.size w _ by rw [HG.out];exact hb)) hn HLL.out (HF2.out.keep (show Below w.heap.size w _ by rw [HG.out];exact hb)) hn2 HLL2.out).mono ?_;rintro e w1 ⟨rfl,hbX⟩;rw [H1.out];clear c0 c1 s0 s1;replace hb:=bT' hb hbX (by have:=hA.lt;omega);replace hA:=hA.keep hbX hA.lt;replace hT:=hT.keep hbX hT.lt;replace hR:=hR.keep hbX hR.lt;clear hbX;have r0:=hR.cell 0;have r1:=hR.cell 1;have f0:=hR.frozen 0;have f1:=hR.frozen 1;go_wp2_with fail
   have q:=(hR.set 0 (.int .i64 0)).set 1 (.slice none 0 0);have qb:=(hb.setCell (p:=⟨g2,0,none⟩) (by dsimp only;omega) (.int .i64 0)).setCell (p:=⟨g2,1,none⟩) (by dsimp only;omega) (.slice none 0 0);exact bodyPost_ret (results_row2 rfl _ _ g2 32 #[.int .i64 0,.slice none 0 0] (0,0) _ rfl q Tryz.underlying32 rfl Tryz.info_der) rfl ⟨none,0,0,by rw [HE.out.1,HE.out.2.1];rfl,by rw [HE.out.2.2];exact OwnF.none_,by rw [HG.out];exact qb⟩
 · have H1:=Lib.hid hd1;clear hd1;have c0:=hA.cell 0;have c1:=hA.cell 1;have s0:=hT.cell 0;have s1:=hT.cell 1;go_wp2_with fail
   refine (l09Is_c dc c k c2 (HD.out.keep (show Below w.heap.size w _ by rw [HG.out];exact hb)) hdn (HF.out.keep (show Below w.heap.size w _ by rw [HG.out];exact hb)) hn HLL.out (HF2.out.keep (show Below w.heap.size w _ by rw [HG.out];exact hb)) hn2 HLL2.out).mono ?_;rintro e w1 ⟨rfl,hbX⟩;rw [H1.out];clear c0 c1 s0 s1;replace hb:=bT' hb hbX (by have:=hA.lt;omega);replace hA:=hA.keep hbX hA.lt;replace hT:=hT.keep hbX hT.lt;replace hR:=hR.keep hbX hR.lt;clear hbX;obtain ⟨hk0,hk12⟩:=derB_k H1.out;by_cases hz:k=0
   · have HE:=Lib.hid (df9_2 H1.out hz);have hzb:(k==0)=true:=(by simpa using hz);have s0:=hT.cell 0;clear hz;have r0:=hR.cell 0;have r1:=hR.cell 1;have f0:=hR.frozen 0;have f1:=hR.frozen 1;go_wp2_with fail
     have q:=(hR.set 0 (.int .i64 0)).set 1 (.slice none 0 0);have qb:=(hb.setCell (p:=⟨g2,0,none⟩) (by dsimp only;omega) (.int .i64 0)).setCell (p:=⟨g2,1,none⟩) (by dsimp only;omega) (.slice none 0 0);exact bodyPost_ret (results_row2 rfl _ _ g2 32 #[.int .i64 0,.slice none 0 0] (0,0) _ rfl q Tryz.underlying32 rfl Tryz.info_der) rfl ⟨none,0,0,by rw [HE.out.1,HE.out.2.1];rfl,by rw [HE.out.2.2];exact OwnF.none_,by rw [HG.out];exact qb⟩
   · have HE:=Lib.hid (df9_0 H1.out hz);have hzb:(k==0)=false:=(by simpa using hz);have hl2:=derB_len H1.out;have HAO1:=Lib.hid (isAlg_ok (derB_alg H1.out) HF.out.tm);have HAO2:=Lib.hid (derB_ok H1.out HT2.out);obtain rfl:dn=n2:=by have:=HLn2.out;have:=HDL.out;omega
     have hLV:=Lib.hid (fun ts (hts:ts∈brs (dfAt zs ims k gss) dn)=>(by
      obtain ⟨i,hi,rfl⟩:=List.mem_map.1 hts;have:=(dfAt9 (k:=k) HAO1.out HAO2.out i).1.len
      omega:(List.length ts:Int)≤4000000))
     have hall:=brs_all (zs:=zs) (B:=dfAt zs ims k gss) (n:=dn);have s0:=hT.cell 0;go_upto_region 5 with fail
     clear s0 hzb hl2;replace hA:Own w1.drew g0 36 #[.slice da dn dc,.slice a n c]:=hA;replace hT:Own w1.drew g1 32 #[.int .i64 k,.slice a2 dn c2]:=hT;replace hR:Own w1.drew g2 32 #[.int .i64 0,.slice none 0 0]:=hR;replace hb:Below w.heap.size w w1.drew:=(by rw [HG.out];exact hb.drew);have hga:w.heap.size≤g0:=Nat.le_of_eq HG.out;have hgb:g0≤w.heap.size:=Nat.le_of_eq HG.out.symm;cases hq:okBr zs (dfAt zs ims k gss) dn
     · have HN:=Lib.hid (brE_no hq);rw [hq] at hall;have HAL9:=Lib.hid hall;clear hall hq;refine wp_region_held_drew (S:=(fun w'=>w'.cell? ⟨g0,0,none⟩=some (.slice da dn dc)∧w'.cell? ⟨g0,1,none⟩=some (.slice a n c)∧w'.cell? ⟨g1,0,none⟩=some (.int .i64 k)∧w'.cell? ⟨g1,1,none⟩=some (.slice a2 dn c2))) (by kernel_rfl) ?_ (fun _=>?_)
       · ((try dsimp only);(exact ⟨hA.cell 0,hA.cell 1,hT.cell 0,hT.cell 1⟩))
       generalize w1.drew=W0d at *;refine hdT 0 ?_;refine hdT 1 ?_;refine hdT 2 ?_;refine hdC 3 (fun K hK=>?_);have hbs:g0≤_:=Nat.le_of_lt hA.lt
       (go_simp;(go_at_call 43;refine (l09Boundary_c dc c k c2 (HD.out.keep hb) hdn (HF.out.keep hb) hn HLL.out (HF2.out.keep hb) hn2 HLL2.out HT2.out H1.out).mono ?_;rintro e W1 ⟨rb,bn,bc,rfl,hZ,hbX⟩);go_wp2_with fail)
       replace hA:=hA.keep hbX hA.lt;replace hT:=hT.keep hbX hT.lt;replace hR:=hR.keep hbX hR.lt;replace hb:=bT' hb hbX hb.size;obtain rfl:dn=bn:=(by have:=hZ.1;rw [brs_len] at this;omega);replace hZ:=hZ.weaken (lo':=g0) hbs (Nat.le_refl _);clear hbs;generalize hhi:W1.heap.size=HI0 at hZ;have hhj:HI0≤W1.heap.size:=Nat.le_of_eq hhi.symm;clear hhi;clear hbX;refine hK.out _ _ ?_ (fun _=>?_)
       · ((try dsimp only);(exact ⟨hA.cell 0,hA.cell 1,hT.cell 0,hT.cell 1⟩))
       clear hK K
       (try simp only [Act.put,pA,pB,pC])
       refine hdC 4 (fun K hK=>?_)
       (go_simp;(go_at_call 33;refine (l09Told_noB dc c (k - 1) bc (HD.out.keep hb) hdn (OwnF.frmsB hZ hLV.out) (by omega) hLV.out (by omega) HAL9.out).mono ?_;rintro e W2 ⟨rfl,hbX⟩);go_wp2_with fail)
       replace hA:=hA.keep hbX hA.lt;replace hT:=hT.keep hbX hT.lt;replace hR:=hR.keep hbX hR.lt;replace hb:=bT' hb hbX hb.size;replace hZ:=hZ.keep hbX;replace hhj:=Nat.le_trans hhj hbX.size;clear hbX;refine hK.out _ _ ?_ (fun _=>?_)
       · ((try dsimp only);(exact ⟨hA.cell 0,hA.cell 1,hT.cell 0,hT.cell 1⟩))
       clear hK K
       (try simp only [Act.put,pA,pB,pC])
       refine hdT 5 ?_;refine hdT 6 ?_;refine hdC 7 (fun K hK=>?_);have r0:=hR.cell 0;have r1:=hR.cell 1;have f0:=hR.frozen 0;have f1:=hR.frozen 1
       (go_simp;go_wp2_with fail)
       replace hb:=(hb.setCell (p:=⟨g2,0,none⟩) (by dsimp only;omega) (.int .i64 0)).setCell (p:=⟨g2,1,none⟩) (by dsimp only;omega) (.slice none 0 0);replace hZ:=ownF_far9 (p:=⟨g2,1,none⟩) (ownF_far9 (p:=⟨g2,0,none⟩) hZ hR (.int .i64 0)) (hR.set 0 _) (.slice none 0 0);replace hR:=(hR.set 0 (.int .i64 0)).set 1 (.slice none 0 0);replace hA:=(hA.far (p:=⟨g2,0,none⟩) (by dsimp only;omega) (.int .i64 0)).far (p:=⟨g2,1,none⟩) (by dsimp only;omega) (.slice none 0 0);replace hT:=(hT.far (p:=⟨g2,0,none⟩) (by dsimp only;omega) (.int .i64 0)).far (p:=⟨g2,1,none⟩) (by dsimp only;omega) (.slice none 0 0);clear r0 r1 f0 f1;replace hhj:HI0≤((W2.setCell ⟨g2,0,none⟩ (.int .i64 0)).setCell ⟨g2,1,none⟩ (.slice none 0 0)).heap.size:=(by simpa using hhj);generalize (W2.setCell ⟨g2,0,none⟩ (.int .i64 0)).setCell ⟨g2,1,none⟩ (.slice none 0 0)=W3 at *;refine hK.out _ _ ?_ (fun _=>?_)
       · ((try dsimp only);(exact ⟨hA.cell 0,hA.cell 1,hT.cell 0,hT.cell 1⟩))
       clear hK K
       (try simp only [Act.put,pA,pB,pC])
       refine hdT 8 ?_;refine wpAnyH_done (by kernel_rfl) ?_ _;go_wp2_with fail
       exact bodyPost_ret (results_row2 rfl _ _ g2 32 #[.int .i64 0,.slice none 0 0] (0,0) _ rfl hR Tryz.underlying32 rfl Tryz.info_der) rfl ⟨none,0,0,by rw [HE.out.1,HE.out.2.1,HDL.out,HN.out.1,HN.out.2.1];rfl,by rw [HE.out.2.2,HDL.out,HN.out.2.2];exact OwnF.none_,hb⟩
     · have HN:=Lib.hid (brE_yes hq);rw [hq] at hall;have HAL9:=Lib.hid (fun (i:Nat) ts (hi:(brs (dfAt zs ims k gss) dn)[i]? = some ts)=>List.all_eq_true.1 hall ts (List.mem_of_getElem? hi));clear hall hq;refine wp_region_held_drew (S:=(fun w'=>w'.cell? ⟨g0,0,none⟩=some (.slice da dn dc)∧w'.cell? ⟨g0,1,none⟩=some (.slice a n c)∧w'.cell? ⟨g1,0,none⟩=some (.int .i64 k)∧w'.cell? ⟨g1,1,none⟩=some (.slice a2 dn c2))) (by kernel_rfl) ?_ (fun _=>?_)
       · ((try dsimp only);(exact ⟨hA.cell 0,hA.cell 1,hT.cell 0,hT.cell 1⟩))
       generalize w1.drew=W0d at *;refine hdT 0 ?_;refine hdT 1 ?_;refine hdT 2 ?_;refine hdC 3 (fun K hK=>?_);have hbs:g0≤_:=Nat.le_of_lt hA.lt
       (go_simp;(go_at_call 43;refine (l09Boundary_c dc c k c2 (HD.out.keep hb) hdn (HF.out.keep hb) hn HLL.out (HF2.out.keep hb) hn2 HLL2.out HT2.out H1.out).mono ?_;rintro e W1 ⟨rb,bn,bc,rfl,hZ,hbX⟩);go_wp2_with fail)
       replace hA:=hA.keep hbX hA.lt;replace hT:=hT.keep hbX hT.lt;replace hR:=hR.keep hbX hR.lt;replace hb:=bT' hb hbX hb.size;obtain rfl:dn=bn:=(by have:=hZ.1;rw [brs_len] at this;omega);replace hZ:=hZ.weaken (lo':=g0) hbs (Nat.le_refl _);clear hbs;generalize hhi:W1.heap.size=HI0 at hZ;have hhj:HI0≤W1.heap.size:=Nat.le_of_eq hhi.symm;clear hhi;clear hbX;refine hK.out _ _ ?_ (fun _=>?_)
       · ((try dsimp only);(exact ⟨hA.cell 0,hA.cell 1,hT.cell 0,hT.cell 1⟩))
       clear hK K
       (try simp only [Act.put,pA,pB,pC])
       refine hdC 4 (fun K hK=>?_)
       (go_simp;(go_at_call 33;refine (l09Told_yesB dc c (k - 1) bc (HD.out.keep hb) hdn (OwnF.frmsB hZ hLV.out) (by omega) hLV.out (by omega) HAL9.out).mono ?_;rintro e W2 ⟨rfl,hbX⟩);go_wp2_with fail)
       replace hA:=hA.keep hbX hA.lt;replace hT:=hT.keep hbX hT.lt;replace hR:=hR.keep hbX hR.lt;replace hb:=bT' hb hbX hb.size;replace hZ:=hZ.keep hbX;replace hhj:=Nat.le_trans hhj hbX.size;clear hbX;refine hK.out _ _ ?_ (fun _=>?_)
       · ((try dsimp only);(exact ⟨hA.cell 0,hA.cell 1,hT.cell 0,hT.cell 1⟩))
       clear hK K
       (try simp only [Act.put,pA,pB,pC])
       refine hdT 5 ?_;refine hdT 6 ?_;refine hdC 7 (fun K hK=>?_);have r0:=hR.cell 0;have r1:=hR.cell 1;have f0:=hR.frozen 0;have f1:=hR.frozen 1
       (go_simp;go_wp2_with fail)
       replace hb:=(hb.setCell (p:=⟨g2,0,none⟩) (by dsimp only;omega) (.int .i64 (k - 1))).setCell (p:=⟨g2,1,none⟩) (by dsimp only;omega) (.slice rb dn bc);replace hZ:=ownF_far9 (p:=⟨g2,1,none⟩) (ownF_far9 (p:=⟨g2,0,none⟩) hZ hR (.int .i64 (k - 1))) (hR.set 0 _) (.slice rb dn bc);replace hR:=(hR.set 0 (.int .i64 (k - 1))).set 1 (.slice rb dn bc);replace hA:=(hA.far (p:=⟨g2,0,none⟩) (by dsimp only;omega) (.int .i64 (k - 1))).far (p:=⟨g2,1,none⟩) (by dsimp only;omega) (.slice rb dn bc);replace hT:=(hT.far (p:=⟨g2,0,none⟩) (by dsimp only;omega) (.int .i64 (k - 1))).far (p:=⟨g2,1,none⟩) (by dsimp only;omega) (.slice rb dn bc);clear r0 r1 f0 f1;replace hhj:HI0≤((W2.setCell ⟨g2,0,none⟩ (.int .i64 (k - 1))).setCell ⟨g2,1,none⟩ (.slice rb dn bc)).heap.size:=(by simpa using hhj);generalize (W2.setCell ⟨g2,0,none⟩ (.int .i64 (k - 1))).setCell ⟨g2,1,none⟩ (.slice rb dn bc)=W3 at *;refine hK.out _ _ ?_ (fun _=>?_)
       · ((try dsimp only);(exact ⟨hA.cell 0,hA.cell 1,hT.cell 0,hT.cell 1⟩))
       clear hK K
       (try simp only [Act.put,pA,pB,pC])
       refine hdT 8 ?_;refine wpAnyH_done (by kernel_rfl) ?_ _;go_wp2_with fail
       exact bodyPost_ret (results_row2 rfl _ _ g2 32 #[.int .i64 (k - 1),.slice rb dn bc] (0,0) _ rfl hR Tryz.underlying32 rfl Tryz.info_der) rfl ⟨rb,dn,bc,by rw [HE.out.1,HE.out.2.1,HDL.out,HN.out.1,HN.out.2.1];rfl,by rw [HE.out.2.2,HDL.out,HN.out.2.2,HG.out];exact hZ.weaken (Nat.le_refl _) hhj,hb⟩
end Go.Proofs.YtdppjlndcacfnaaGreat
