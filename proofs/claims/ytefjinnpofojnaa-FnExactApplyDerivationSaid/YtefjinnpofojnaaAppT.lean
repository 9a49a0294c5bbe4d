
import Derived.Test.YtefjinnpofojnaaAppS
import Derived.Test.YtefjinnpofojnaaAppM
import Derived.Test.YtefjinnpofojnaaDerS
namespace Go.Proofs.Ytefjinnpofojnaa
set_option maxRecDepth 100000
open Go.RowKit Go.Deep
set_option maxHeartbeats 8000000 in
theorem l09Apply_c {w : World} {da : Option Addr} {dn : Nat} {zs : List Int} {a : Option Addr} {n : Nat} {a2 : Option Addr} {gss : List (List Tm)} {a3 : Option Addr} {n3 : Nat} {fs : List Tm} (dc c : Nat) (k : Int) (c2 c3 : Nat) (hd : Ints w da dn zs) (hF2 : Frms w a2 dn gss) (HA : AlgOk zs gss) (hmild : Mild zs) (hk : 0 ≤ k ∧ k ≤ 12) (h3 : Terms w a3 n3 fs) (hok : ∀ t ∈ fs, monoOk zs t.m = true) (hf : ∀ t ∈ fs, 1 ≤ t.f ∧ t.f ≤ 10006) (h400 : n3 ≤ 400) :
    Calls Try.prog 31 #[.agg #[.slice da dn dc,.slice a n c],.agg #[.int .i64 k,.slice a2 dn c2],.agg #[.slice a3 n3 c3]] w fun e w'=>∃v,e=.returned (.agg #[v])∧OwnR w' w.heap.size v (applyT zs gss k [] fs)∧Below w.heap.size w w':=by
 have HDL:=Lib.hid hd.len
 have HD:=Lib.hid hd
 have HF2:=Lib.hid hF2
 have HAO:=Lib.hid HA
 have HMI:=Lib.hid hmild
 have HKK:=Lib.hid hk
 have H3:=Lib.hid h3
 have HK:=Lib.hid hok
 have HFB:=Lib.hid hf
 have HFL:=Lib.hid h3.len
 clear HA hmild hk hok hf
 have hA:=(((Own.new w 41 #[.slice da dn dc,.slice a n c]).alloc (.cells #[.int .i64 k,.slice a2 dn c2] 44)).alloc (.cells #[.slice a3 n3 c3] 36)).alloc (.cells #[.slice none 0 0] 36)
 have hT:=((Own.new (w.alloc (.cells #[.slice da dn dc,.slice a n c] 41)) 44 #[.int .i64 k,.slice a2 dn c2]).alloc (.cells #[.slice a3 n3 c3] 36)).alloc (.cells #[.slice none 0 0] 36)
 have hP:=(Own.new ((w.alloc (.cells #[.slice da dn dc,.slice a n c] 41)).alloc (.cells #[.int .i64 k,.slice a2 dn c2] 44)) 36 #[.slice a3 n3 c3]).alloc (.cells #[.slice none 0 0] 36)
 have hR:=Own.new (((w.alloc (.cells #[.slice da dn dc,.slice a n c] 41)).alloc (.cells #[.int .i64 k,.slice a2 dn c2] 44)).alloc (.cells #[.slice a3 n3 c3] 36)) 36 #[.slice none 0 0]
 simp only [sAl] at hT hP hR
 have hb:=bTn (bTn (bTn (bA1 w (.cells #[.slice da dn dc,.slice a n c] 41)) (bA1 _ (.cells #[.int .i64 k,.slice a2 dn c2] 44))) (bA1 _ (.cells #[.slice a3 n3 c3] 36))) (bA1 _ (.cells #[.slice none 0 0] 36))
 go_enter Try.func31,Try.ntmps31
 go_upto_region 1 with fail
 generalize (((w.alloc (.cells #[.slice da dn dc,.slice a n c] 41)).alloc (.cells #[.int .i64 k,.slice a2 dn c2] 44)).alloc (.cells #[.slice a3 n3 c3] 36)).alloc (.cells #[.slice none 0 0] 36)=w0 at *
 generalize hg3:w.heap.size+1+1+1=g3 at *
 generalize hg2:w.heap.size+1+1=g2 at *
 generalize hg1:w.heap.size+1=g1 at *
 generalize hg0:w.heap.size=g0 at *
 have HG:=Lib.hid hg0
 have e1:=hg1
 have e2:=hg2
 have e3:=hg3
 clear hg0 hg1 hg2 hg3
 have hlR:=hR.lt
 have hV:=Own.new w0 36 #[.slice none 0 0]
 have hbX:=bA1 w0 (.cells #[.slice none 0 0] 36)
 replace hb:=bT' hb hbX (by have:=hA.lt;omega)
 replace hA:=hA.keep hbX hA.lt
 replace hT:=hT.keep hbX hT.lt
 replace hP:=hP.keep hbX hP.lt
 replace hR:=hR.keep hbX hR.lt
 clear hbX
 go_upto_region 2 with fail
 generalize w0.alloc (.cells #[.slice none 0 0] 36)=w1 at *
 generalize w0.heap.size=g4 at *
 go_upto_region 3 with fail
 go_loopw [8] (fun y wr=>∃(i:Nat) (v:Value),i≤n3∧y=.int .i64 i∧Below g0 w wr∧Own wr g0 41 #[.slice da dn dc,.slice a n c]∧Own wr g1 44 #[.int .i64 k,.slice a2 dn c2]∧Own wr g2 36 #[.slice a3 n3 c3]∧Own wr g3 36 #[.slice none 0 0]∧Own wr g4 36 #[v]∧Hid (OwnR wr g0 v (applyT zs gss k [] (fs.take i)))) (fun y _=>n3 - (intOf y).toNat)
 case atStart=>exact ⟨0,.slice none 0 0,Nat.zero_le _,rfl,hb,hA,hT,hP,hR,hV,Lib.hid (World.ownsRow_nil _ _ _ _)⟩
 case round=>
  clear hb hA hT hP hR hV;obtain ⟨i,v,hi,rfl,hb,hA,hT,hP,hR,hV,HO⟩:=hrel;have cP:=hP.cell 0;by_cases hlt:i<n3
  · obtain ⟨b1,o1,t,rfl,hbl0,hr0,ht,hx⟩:=H3.out.at_ hlt;have hga:w.heap.size≤g0:=Nat.le_of_eq HG.out;have hgb:g0≤w.heap.size:=Nat.le_of_eq HG.out.symm;have hmem:=List.mem_of_getElem? hx.out;have htf:=HFB.out t hmem;have hok:=HK.out t hmem;have HS:=Lib.hid (apply9 (k:=k) HAO.out (fs.take i) [] 0 (fun u hu=>H3.out.2.1 u (List.mem_of_mem_take hu)) (fun u hu=>HK.out u (List.mem_of_mem_take hu)) sum9_nil);have HAT:=Lib.hid (applyT_take (zs:=zs) (gss:=gss) (k:=k) hx.out);have M9:=Lib.hid (mono9 (k:=k) HAO.out ht.1 hok zs.length (Nat.le_refl _));have hz8:=HAO.out.h8;obtain ⟨mt,tf⟩:=t;have hmt:IsMono mt:=ht.1;obtain ⟨p0,p1,p2,p3,p4,p5,p6,p7,rfl⟩:=mono8 hmt;dsimp only at htf hok HAT M9;obtain ⟨va,vn,vc,rfl⟩:=HO.out.isSlice;have hvn:vn≤1280000:=(by have h1:=(HO.out.read HS.out.tm).len;have h2:=HS.out.len;rw [List.length_take] at h2;have:=Nat.min_le_left i fs.length;omega);have HOV:=Lib.hid (HO.out.read HS.out.tm);have h92:=Lib.hid HS.out.bd;have h91:=Lib.hid M9.out.bd;have h93:=Lib.hid M9.out.tm;have h9l:(monoT zs gss k [p0,p1,p2,p3,p4,p5,p6,p7] zs.length).length≤3200:=(by have:=M9.out.len;omega);generalize applyT zs gss k [] (fs.take i)=T0 at *;obtain ⟨Mo,hMo⟩:∃Mo,monoT zs gss k [p0,p1,p2,p3,p4,p5,p6,p7] zs.length=Mo:=⟨_,rfl⟩;rw [hMo] at HAT M9 h91 h93 h9l;have HMO:=Lib.hid hMo;have HMT:=Lib.hid hmt;have HOK:=Lib.hid hok;have HR0:=Lib.hid hr0;clear hMo hmem hok ht hr0 HO;have hi0:(0:Int)≤(i:Int):=(by omega);have hin:(i:Int)<(n3:Int):=(by omega);go_upto_region 5 with fail
    clear cP;replace hA:Own wr.drew g0 41 #[.slice da dn dc,.slice a n c]:=hA;replace hT:Own wr.drew g1 44 #[.int .i64 k,.slice a2 dn c2]:=hT;replace hP:Own wr.drew g2 36 #[.slice (some ⟨b1,o1,none⟩) n3 c3]:=hP;replace hR:Own wr.drew g3 36 #[.slice none 0 0]:=hR;replace hV:Own wr.drew g4 36 #[.slice va vn vc]:=hV;replace hb:Below w.heap.size w wr.drew:=(by rw [HG.out];exact hb.drew);replace HOV:=Lib.hid (HOV.out.keep ((Below.refl _ _).drew:Below wr.heap.size wr wr.drew));refine wp_region_held_drew (S:=(fun w'=>w'.cell? ⟨g0,0,none⟩=some (.slice da dn dc)∧w'.cell? ⟨g0,1,none⟩=some (.slice a n c)∧w'.cell? ⟨g1,0,none⟩=some (.int .i64 k)∧w'.cell? ⟨g1,1,none⟩=some (.slice a2 dn c2)∧w'.cell? ⟨g2,0,none⟩=some (.slice (some ⟨b1,o1,none⟩) n3 c3)∧w'.cell? ⟨b1,o1+i * 9,none⟩=some (.int .u8 p0)∧w'.cell? ⟨b1,o1+i * 9+1,none⟩=some (.int .u8 p1)∧w'.cell? ⟨b1,o1+i * 9+2,none⟩=some (.int .u8 p2)∧w'.cell? ⟨b1,o1+i * 9+3,none⟩=some (.int .u8 p3)∧w'.cell? ⟨b1,o1+i * 9+4,none⟩=some (.int .u8 p4)∧w'.cell? ⟨b1,o1+i * 9+5,none⟩=some (.int .u8 p5)∧w'.cell? ⟨b1,o1+i * 9+6,none⟩=some (.int .u8 p6)∧w'.cell? ⟨b1,o1+i * 9+7,none⟩=some (.int .u8 p7)∧w'.cell? ⟨b1,o1+i * 9+8,none⟩=some (.int .i64 tf))) (by kernel_rfl) ?_ (fun _=>?_)
    · ((try dsimp only);(exact ⟨hA.cell 0,hA.cell 1,hT.cell 0,hT.cell 1,hP.cell 0,(rgK HR0.out (hb.block b1 hbl0)) 0 _ rfl,(rgK HR0.out (hb.block b1 hbl0)) 1 _ rfl,(rgK HR0.out (hb.block b1 hbl0)) 2 _ rfl,(rgK HR0.out (hb.block b1 hbl0)) 3 _ rfl,(rgK HR0.out (hb.block b1 hbl0)) 4 _ rfl,(rgK HR0.out (hb.block b1 hbl0)) 5 _ rfl,(rgK HR0.out (hb.block b1 hbl0)) 6 _ rfl,(rgK HR0.out (hb.block b1 hbl0)) 7 _ rfl,(rgK HR0.out (hb.block b1 hbl0)) 8 _ rfl⟩))
    generalize wr.drew=Wd at *;refine hdT 1 ?_;refine hdT 2 ?_;refine hdT 3 ?_;refine hdT 4 ?_;refine hdT 5 ?_;refine hdT 6 ?_;refine hdT 7 ?_;refine hdT 8 ?_;refine hdT 10 ?_;refine hdT 11 ?_;refine hdT 12 ?_;refine hdT 13 ?_;refine hdT 14 ?_;refine hdT 15 ?_;refine wpAnyH_ready (rs:=[0,9]) (by kernel_rfl) (by simp) ?_;refine AllReadyH.cons (hdAt (i:=0) rfl) (fun K hK=>?_) (AllReadyH.cons (hdAt (i:=9) rfl) (fun K hK=>?_) AllReadyH.nil)
    · skip
      have cV:=hV.cell 0
      (go_simp;try go_wp2_with fail)
      clear cV;refine hK.out _ _ ?_ (fun _=>?_)
      · ((try dsimp only);(exact ⟨hA.cell 0,hA.cell 1,hT.cell 0,hT.cell 1,hP.cell 0,(rgK HR0.out (hb.block b1 hbl0)) 0 _ rfl,(rgK HR0.out (hb.block b1 hbl0)) 1 _ rfl,(rgK HR0.out (hb.block b1 hbl0)) 2 _ rfl,(rgK HR0.out (hb.block b1 hbl0)) 3 _ rfl,(rgK HR0.out (hb.block b1 hbl0)) 4 _ rfl,(rgK HR0.out (hb.block b1 hbl0)) 5 _ rfl,(rgK HR0.out (hb.block b1 hbl0)) 6 _ rfl,(rgK HR0.out (hb.block b1 hbl0)) 7 _ rfl,(rgK HR0.out (hb.block b1 hbl0)) 8 _ rfl⟩))
      clear hK K
      (try simp only [Act.put,pA,pB,pC])
      refine hdC 9 (fun K hK=>?_)
      (go_simp;(go_at_call 59;refine (l09Mono_c dc c k c2 (HD.out.keep hb) (HF2.out.keep hb) HAO.out HMI.out HKK.out HMT.out HOK.out).mono ?_;rintro e W1 ⟨vM,rfl,hOM,hbX⟩;rw [HMO.out] at hOM;obtain ⟨ta,tn,tc,rfl⟩:=hOM.isSlice);go_wp2_with fail)
      replace hA:=hA.keep hbX hA.lt;replace hT:=hT.keep hbX hT.lt;replace hP:=hP.keep hbX hP.lt;replace hR:=hR.keep hbX hR.lt;replace hV:=hV.keep hbX hV.lt;replace hb:=bT' hb hbX hb.size;replace HOV:=Lib.hid (HOV.out.keep hbX);have hTM:=hOM.read h93.out;have htn:tn≤3200:=(by have:=hTM.len;omega);clear hOM hbX;refine hK.out _ _ ?_ (fun _=>?_)
      · ((try dsimp only);(exact ⟨hA.cell 0,hA.cell 1,hT.cell 0,hT.cell 1,hP.cell 0,(rgK HR0.out (hb.block b1 hbl0)) 0 _ rfl,(rgK HR0.out (hb.block b1 hbl0)) 1 _ rfl,(rgK HR0.out (hb.block b1 hbl0)) 2 _ rfl,(rgK HR0.out (hb.block b1 hbl0)) 3 _ rfl,(rgK HR0.out (hb.block b1 hbl0)) 4 _ rfl,(rgK HR0.out (hb.block b1 hbl0)) 5 _ rfl,(rgK HR0.out (hb.block b1 hbl0)) 6 _ rfl,(rgK HR0.out (hb.block b1 hbl0)) 7 _ rfl,(rgK HR0.out (hb.block b1 hbl0)) 8 _ rfl⟩))
      clear hK K
      (try simp only [Act.put,pA,pB,pC])
      refine hdC 16 (fun K hK=>?_);have hbs:g0≤_:=Nat.le_of_lt hA.lt
      (go_simp;(go_at_call 58;refine (l01Add_c vc tc tf (by omega) (by omega) HOV.out hTM (by omega) h92.out h91.out).mono ?_;rintro e W2 ⟨v3,rfl,hAd,hbX⟩;obtain ⟨xa,xn,xc,rfl⟩:=hAd.isSlice);go_wp2_with fail)
      replace hA:=hA.keep hbX hA.lt;replace hT:=hT.keep hbX hT.lt;replace hP:=hP.keep hbX hP.lt;replace hR:=hR.keep hbX hR.lt;replace hV:=hV.keep hbX hV.lt;replace hb:=bT' hb hbX hb.size;have hAD:=hAd.r.weaken hbs;clear hAd hbX hbs hTM;refine hK.out _ _ ?_ (fun _=>?_)
      · ((try dsimp only);(exact ⟨hA.cell 0,hA.cell 1,hT.cell 0,hT.cell 1,hP.cell 0,(rgK HR0.out (hb.block b1 hbl0)) 0 _ rfl,(rgK HR0.out (hb.block b1 hbl0)) 1 _ rfl,(rgK HR0.out (hb.block b1 hbl0)) 2 _ rfl,(rgK HR0.out (hb.block b1 hbl0)) 3 _ rfl,(rgK HR0.out (hb.block b1 hbl0)) 4 _ rfl,(rgK HR0.out (hb.block b1 hbl0)) 5 _ rfl,(rgK HR0.out (hb.block b1 hbl0)) 6 _ rfl,(rgK HR0.out (hb.block b1 hbl0)) 7 _ rfl,(rgK HR0.out (hb.block b1 hbl0)) 8 _ rfl⟩))
      clear hK K
      (try simp only [Act.put,pA,pB,pC])
      refine hdC 17 (fun K hK=>?_);have cV:=hV.cell 0;have fV:=hV.frozen 0
      (go_simp;go_wp2_with fail)
      clear cV fV;replace hb:=hb.setCell (p:=⟨g4,0,none⟩) (by dsimp only;omega) (.slice xa xn xc);replace hA:=hA.far (p:=⟨g4,0,none⟩) (own_neR hA hV (by decide)) (.slice xa xn xc);replace hT:=hT.far (p:=⟨g4,0,none⟩) (own_neR hT hV (by decide)) (.slice xa xn xc);replace hP:=hP.far (p:=⟨g4,0,none⟩) (by dsimp only;omega) (.slice xa xn xc);replace hR:=hR.far (p:=⟨g4,0,none⟩) (by dsimp only;omega) (.slice xa xn xc);replace hAD:=ownR_farT (p:=⟨g4,0,none⟩) hAD hV (by decide) rfl (.slice xa xn xc);replace hV:=hV.set 0 (.slice xa xn xc);generalize W2.setCell ⟨g4,0,none⟩ (.slice xa xn xc)=W3 at *;refine hK.out _ _ ?_ (fun _=>?_)
      · ((try dsimp only);(exact ⟨hA.cell 0,hA.cell 1,hT.cell 0,hT.cell 1,hP.cell 0,(rgK HR0.out (hb.block b1 hbl0)) 0 _ rfl,(rgK HR0.out (hb.block b1 hbl0)) 1 _ rfl,(rgK HR0.out (hb.block b1 hbl0)) 2 _ rfl,(rgK HR0.out (hb.block b1 hbl0)) 3 _ rfl,(rgK HR0.out (hb.block b1 hbl0)) 4 _ rfl,(rgK HR0.out (hb.block b1 hbl0)) 5 _ rfl,(rgK HR0.out (hb.block b1 hbl0)) 6 _ rfl,(rgK HR0.out (hb.block b1 hbl0)) 7 _ rfl,(rgK HR0.out (hb.block b1 hbl0)) 8 _ rfl⟩))
      clear hK K
      (try simp only [Act.put,pA,pB,pC])
      refine wpAnyH_done (by kernel_rfl) ?_ _;go_wp2_with fail
      go_roundw
      case rel=>exact ⟨i+1,.slice xa xn xc,by omega,by go_num,by rw [←HG.out];exact hb,hA,hT,hP,hR,hV,by rw [HAT.out];exact Lib.hid hAD⟩
      case measure=>simp [intOf] <;> omega
    · skip
      (go_simp;(go_at_call 59;refine (l09Mono_c dc c k c2 (HD.out.keep hb) (HF2.out.keep hb) HAO.out HMI.out HKK.out HMT.out HOK.out).mono ?_;rintro e W4 ⟨vM,rfl,hOM,hbX⟩;rw [HMO.out] at hOM;obtain ⟨ta,tn,tc,rfl⟩:=hOM.isSlice);go_wp2_with fail)
      replace hA:=hA.keep hbX hA.lt;replace hT:=hT.keep hbX hT.lt;replace hP:=hP.keep hbX hP.lt;replace hR:=hR.keep hbX hR.lt;replace hV:=hV.keep hbX hV.lt;replace hb:=bT' hb hbX hb.size;replace HOV:=Lib.hid (HOV.out.keep hbX);have hTM:=hOM.read h93.out;have htn:tn≤3200:=(by have:=hTM.len;omega);clear hOM hbX;refine hK.out _ _ ?_ (fun _=>?_)
      · ((try dsimp only);(exact ⟨hA.cell 0,hA.cell 1,hT.cell 0,hT.cell 1,hP.cell 0,(rgK HR0.out (hb.block b1 hbl0)) 0 _ rfl,(rgK HR0.out (hb.block b1 hbl0)) 1 _ rfl,(rgK HR0.out (hb.block b1 hbl0)) 2 _ rfl,(rgK HR0.out (hb.block b1 hbl0)) 3 _ rfl,(rgK HR0.out (hb.block b1 hbl0)) 4 _ rfl,(rgK HR0.out (hb.block b1 hbl0)) 5 _ rfl,(rgK HR0.out (hb.block b1 hbl0)) 6 _ rfl,(rgK HR0.out (hb.block b1 hbl0)) 7 _ rfl,(rgK HR0.out (hb.block b1 hbl0)) 8 _ rfl⟩))
      clear hK K
      (try simp only [Act.put,pA,pB,pC])
      refine hdC 0 (fun K hK=>?_);have cV:=hV.cell 0
      (go_simp;try go_wp2_with fail)
      clear cV;refine hK.out _ _ ?_ (fun _=>?_)
      · ((try dsimp only);(exact ⟨hA.cell 0,hA.cell 1,hT.cell 0,hT.cell 1,hP.cell 0,(rgK HR0.out (hb.block b1 hbl0)) 0 _ rfl,(rgK HR0.out (hb.block b1 hbl0)) 1 _ rfl,(rgK HR0.out (hb.block b1 hbl0)) 2 _ rfl,(rgK HR0.out (hb.block b1 hbl0)) 3 _ rfl,(rgK HR0.out (hb.block b1 hbl0)) 4 _ rfl,(rgK HR0.out (hb.block b1 hbl0)) 5 _ rfl,(rgK HR0.out (hb.block b1 hbl0)) 6 _ rfl,(rgK HR0.out (hb.block b1 hbl0)) 7 _ rfl,(rgK HR0.out (hb.block b1 hbl0)) 8 _ rfl⟩))
      clear hK K
      (try simp only [Act.put,pA,pB,pC])
      refine hdC 16 (fun K hK=>?_);have hbs:g0≤_:=Nat.le_of_lt hA.lt
      (go_simp;(go_at_call 58;refine (l01Add_c vc tc tf (by omega) (by omega) HOV.out hTM (by omega) h92.out h91.out).mono ?_;rintro e W5 ⟨v3,rfl,hAd,hbX⟩;obtain ⟨xa,xn,xc,rfl⟩:=hAd.isSlice);go_wp2_with fail)
      replace hA:=hA.keep hbX hA.lt;replace hT:=hT.keep hbX hT.lt;replace hP:=hP.keep hbX hP.lt;replace hR:=hR.keep hbX hR.lt;replace hV:=hV.keep hbX hV.lt;replace hb:=bT' hb hbX hb.size;have hAD:=hAd.r.weaken hbs;clear hAd hbX hbs hTM;refine hK.out _ _ ?_ (fun _=>?_)
      · ((try dsimp only);(exact ⟨hA.cell 0,hA.cell 1,hT.cell 0,hT.cell 1,hP.cell 0,(rgK HR0.out (hb.block b1 hbl0)) 0 _ rfl,(rgK HR0.out (hb.block b1 hbl0)) 1 _ rfl,(rgK HR0.out (hb.block b1 hbl0)) 2 _ rfl,(rgK HR0.out (hb.block b1 hbl0)) 3 _ rfl,(rgK HR0.out (hb.block b1 hbl0)) 4 _ rfl,(rgK HR0.out (hb.block b1 hbl0)) 5 _ rfl,(rgK HR0.out (hb.block b1 hbl0)) 6 _ rfl,(rgK HR0.out (hb.block b1 hbl0)) 7 _ rfl,(rgK HR0.out (hb.block b1 hbl0)) 8 _ rfl⟩))
      clear hK K
      (try simp only [Act.put,pA,pB,pC])
      refine hdC 17 (fun K hK=>?_);have cV:=hV.cell 0;have fV:=hV.frozen 0
      (go_simp;go_wp2_with fail)
      clear cV fV;replace hb:=hb.setCell (p:=⟨g4,0,none⟩) (by dsimp only;omega) (.slice xa xn xc);replace hA:=hA.far (p:=⟨g4,0,none⟩) (own_neR hA hV (by decide)) (.slice xa xn xc);replace hT:=hT.far (p:=⟨g4,0,none⟩) (own_neR hT hV (by decide)) (.slice xa xn xc);replace hP:=hP.far (p:=⟨g4,0,none⟩) (by dsimp only;omega) (.slice xa xn xc);replace hR:=hR.far (p:=⟨g4,0,none⟩) (by dsimp only;omega) (.slice xa xn xc);replace hAD:=ownR_farT (p:=⟨g4,0,none⟩) hAD hV (by decide) rfl (.slice xa xn xc);replace hV:=hV.set 0 (.slice xa xn xc);generalize W5.setCell ⟨g4,0,none⟩ (.slice xa xn xc)=W6 at *;refine hK.out _ _ ?_ (fun _=>?_)
      · ((try dsimp only);(exact ⟨hA.cell 0,hA.cell 1,hT.cell 0,hT.cell 1,hP.cell 0,(rgK HR0.out (hb.block b1 hbl0)) 0 _ rfl,(rgK HR0.out (hb.block b1 hbl0)) 1 _ rfl,(rgK HR0.out (hb.block b1 hbl0)) 2 _ rfl,(rgK HR0.out (hb.block b1 hbl0)) 3 _ rfl,(rgK HR0.out (hb.block b1 hbl0)) 4 _ rfl,(rgK HR0.out (hb.block b1 hbl0)) 5 _ rfl,(rgK HR0.out (hb.block b1 hbl0)) 6 _ rfl,(rgK HR0.out (hb.block b1 hbl0)) 7 _ rfl,(rgK HR0.out (hb.block b1 hbl0)) 8 _ rfl⟩))
      clear hK K
      (try simp only [Act.put,pA,pB,pC])
      refine wpAnyH_done (by kernel_rfl) ?_ _;go_wp2_with fail
      go_roundw
      case rel=>exact ⟨i+1,.slice xa xn xc,by omega,by go_num,by rw [←HG.out];exact hb,hA,hT,hP,hR,hV,by rw [HAT.out];exact Lib.hid hAD⟩
      case measure=>simp [intOf] <;> omega
  · have he:i=n3:=(by omega);subst he;have HOO:Hid (OwnR wr g0 v (applyT zs gss k [] fs)):=Lib.hid (by have:=HO.out;rwa [List.take_of_length_le (Nat.le_of_eq HFL.out)] at this);obtain ⟨va,vn,vc,rfl⟩:=HOO.out.isSlice;have k0:=hV.cell 0;have r0:=hR.cell 0;have f0:=hR.frozen 0;go_wp2_with fail
    have q:=hR.set 0 (.slice va vn vc);have qb:=hb.setCell (p:=⟨g3,0,none⟩) (by dsimp only;omega) (.slice va vn vc);have qo:=ownR_farT (p:=⟨g3,0,none⟩) HOO.out hR (by decide) rfl (.slice va vn vc);exact bodyPost_ret (results_cell_row rfl _ _ g3 36 #[.slice va vn vc] (0,0) _ rfl q Try.underlying36 rfl Try.info_form) rfl ⟨.slice va vn vc,rfl,by rw [HG.out];exact qo,by rw [HG.out];exact qb⟩
set_option maxHeartbeats 8000000 in
theorem ApplyDerivation_s {w : World} {da : Option Addr} {dn : Nat} {zs : List Int} {a : Option Addr} {n : Nat} {ims : List (List Tm)} {a2 : Option Addr} {n2 : Nat} {gss : List (List Tm)} {a3 : Option Addr} {n3 : Nat} {fs : List Tm} (dc c : Nat) (k : Int) (c2 c3 : Nat) (hd : Ints w da dn zs) (hdn : dn ≤ 1048576) (hF : Frms w a n ims) (hn : n ≤ 1048576) (hL : ∀ im ∈ ims, (im.length : Int) ≤ 1048576) (hF2 : Frms w a2 n2 gss) (hn2 : n2 ≤ 1048576) (hL2 : ∀ im ∈ gss, (im.length : Int) ≤ 1048576) (h3 : Terms w a3 n3 fs) (hn3 : n3 ≤ 1048576) :
    Calls Try.prog 8 #[.agg #[.slice da dn dc,.slice a n c],.agg #[.int .i64 k,.slice a2 n2 c2],.agg #[.slice a3 n3 c3]] w fun e w'=>∃v,e=.returned (.tuple #[.agg #[v],.int .i64 (apE zs ims k gss fs)])∧OwnR w' w.heap.size v (apV zs ims k gss fs)∧Below w.heap.size w w':=by
 have HLL:=Lib.hid hL
 have HLL2:=Lib.hid hL2
 have HD:=Lib.hid hd
 have HF:=Lib.hid hF
 have HF2:=Lib.hid hF2
 have H3:=Lib.hid h3
 have HDL:=Lib.hid hd.len
 clear hL hL2
 have hA:=(((Own.new w 41 #[.slice da dn dc,.slice a n c]).alloc (.cells #[.int .i64 k,.slice a2 n2 c2] 44)).alloc (.cells #[.slice a3 n3 c3] 36)).alloc (.cells #[.slice none 0 0] 36)
 have hT:=((Own.new (w.alloc (.cells #[.slice da dn dc,.slice a n c] 41)) 44 #[.int .i64 k,.slice a2 n2 c2]).alloc (.cells #[.slice a3 n3 c3] 36)).alloc (.cells #[.slice none 0 0] 36)
 have hP:=(Own.new ((w.alloc (.cells #[.slice da dn dc,.slice a n c] 41)).alloc (.cells #[.int .i64 k,.slice a2 n2 c2] 44)) 36 #[.slice a3 n3 c3]).alloc (.cells #[.slice none 0 0] 36)
 have hR:=Own.new (((w.alloc (.cells #[.slice da dn dc,.slice a n c] 41)).alloc (.cells #[.int .i64 k,.slice a2 n2 c2] 44)).alloc (.cells #[.slice a3 n3 c3] 36)) 36 #[.slice none 0 0]
 simp only [sAl] at hT hP hR
 have hb:=bTn (bTn (bTn (bA1 w (.cells #[.slice da dn dc,.slice a n c] 41)) (bA1 _ (.cells #[.int .i64 k,.slice a2 n2 c2] 44))) (bA1 _ (.cells #[.slice a3 n3 c3] 36))) (bA1 _ (.cells #[.slice none 0 0] 36))
 go_enter Try.func8,Try.ntmps8
 go_upto_region 1 with fail
 generalize (((w.alloc (.cells #[.slice da dn dc,.slice a n c] 41)).alloc (.cells #[.int .i64 k,.slice a2 n2 c2] 44)).alloc (.cells #[.slice a3 n3 c3] 36)).alloc (.cells #[.slice none 0 0] 36)=w0 at *
 generalize hg3:w.heap.size+1+1+1=g3 at *
 generalize hg2:w.heap.size+1+1=g2 at *
 generalize hg1:w.heap.size+1=g1 at *
 generalize hg0:w.heap.size=g0 at *
 have HG:=Lib.hid hg0
 have e1:=hg1
 have e2:=hg2
 have e3:=hg3
 clear hg0 hg1 hg2 hg3
 have c0:=hA.cell 0
 have c1:=hA.cell 1
 have s0:=hT.cell 0
 have s1:=hT.cell 1
 have hbw:Below w.heap.size w w0:=by rw [HG.out];exact hb
 cases hd1:derB zs ims k gss
 · have HE:=Lib.hid (ap_no (zs:=zs) (ims:=ims) (k:=k) (gss:=gss) (fs:=fs) (by rw [apF,hd1];rfl));have H1:=Lib.hid hd1;clear hd1;go_wp2_with fail
   refine (l09Is_c dc c k c2 (HD.out.keep hbw) hdn (HF.out.keep hbw) hn HLL.out (HF2.out.keep hbw) hn2 HLL2.out).mono ?_;rintro e w1 ⟨rfl,hbX⟩;rw [H1.out];clear c0 c1 s0 s1 hbw;replace hb:=bT' hb hbX (by have:=hA.lt;omega);replace hA:=hA.keep hbX hA.lt;replace hT:=hT.keep hbX hT.lt;replace hP:=hP.keep hbX hP.lt;replace hR:=hR.keep hbX hR.lt;clear hbX;have r0:=hR.cell 0;have f0:=hR.frozen 0;go_wp2_with fail
   have q:=hR.set 0 (.slice none 0 0);have qb:=hb.setCell (p:=⟨g3,0,none⟩) (by dsimp only;omega) (.slice none 0 0);exact bodyPost_ret (results_row2 rfl _ _ g3 36 #[.slice none 0 0] (0,0) _ rfl q Try.underlying36 rfl Try.info_form) rfl ⟨.slice none 0 0,by rw [HE.out.1];rfl,by rw [HE.out.2];exact ownR_none _ _,by rw [HG.out];exact qb⟩
 · have H1:=Lib.hid hd1;clear hd1;go_wp2_with fail
   refine (l09Is_c dc c k c2 (HD.out.keep hbw) hdn (HF.out.keep hbw) hn HLL.out (HF2.out.keep hbw) hn2 HLL2.out).mono ?_;rintro e w1 ⟨rfl,hbX⟩;rw [H1.out];clear c0 c1 s0 s1 hbw;replace hb:=bT' hb hbX (by have:=hA.lt;omega);replace hA:=hA.keep hbX hA.lt;replace hT:=hT.keep hbX hT.lt;replace hP:=hP.keep hbX hP.lt;replace hR:=hR.keep hbX hR.lt;clear hbX;have c0:=hA.cell 0;have p0:=hP.cell 0;have hbw:Below w.heap.size w w1:=(by rw [HG.out];exact hb);have hfe:(listOk zs fs && decide (fs.length≤400))=isForm zs fs:=(by rw [isForm,derB_degs H1.out];rfl);have HFE:=Lib.hid hfe;clear hfe;go_wp2_with fail
   refine (l01Is_c dc c3 (HD.out.keep hbw) hdn (H3.out.keep hbw) hn3).mono ?_;rintro e w2 ⟨rfl,hbX⟩;rw [HFE.out];clear c0 p0 hbw;replace hb:=bT' hb hbX (by have:=hA.lt;omega);replace hA:=hA.keep hbX hA.lt;replace hT:=hT.keep hbX hT.lt;replace hP:=hP.keep hbX hP.lt;replace hR:=hR.keep hbX hR.lt;clear hbX;cases hif:isForm zs fs
   · have HE:=Lib.hid (ap_no (zs:=zs) (ims:=ims) (k:=k) (gss:=gss) (fs:=fs) (by rw [apF,H1.out,hif];rfl));clear hif;have r0:=hR.cell 0;have f0:=hR.frozen 0;go_wp2_with fail
     have q:=hR.set 0 (.slice none 0 0);have qb:=hb.setCell (p:=⟨g3,0,none⟩) (by dsimp only;omega) (.slice none 0 0);exact bodyPost_ret (results_row2 rfl _ _ g3 36 #[.slice none 0 0] (0,0) _ rfl q Try.underlying36 rfl Try.info_form) rfl ⟨.slice none 0 0,by rw [HE.out.1];rfl,by rw [HE.out.2];exact ownR_none _ _,by rw [HG.out];exact qb⟩
   · have H2:Hid (apF zs ims k gss fs=true):=Lib.hid (by rw [apF,H1.out,hif];rfl);have HAO:=Lib.hid (derB_ok H1.out HF2.out.tm);have HMI:=Lib.hid (degsOk_mild (derB_degs H1.out));have HK:=Lib.hid (isForm_fit hif);have HFB:=Lib.hid (isForm_f hif);have hn4:n3≤400:=(by have:=isForm_400 hif;have:=H3.out.len;omega);have HS9:=Lib.hid (apply9 (k:=k) HAO.out fs [] 0 H3.out.2.1 HK.out sum9_nil);obtain rfl:dn=n2:=(by have:=derB_ln H1.out;have:=HF2.out.len;have:=HDL.out;omega);clear hif;have hga:w.heap.size≤g0:=Nat.le_of_eq HG.out;have hgb:g0≤w.heap.size:=Nat.le_of_eq HG.out.symm;have hlR:g3<w2.heap.size:=hR.lt;go_upto_region 3 with fail
     replace hA:Own w2.drew g0 41 #[.slice da dn dc,.slice a n c]:=hA;replace hT:Own w2.drew g1 44 #[.int .i64 k,.slice a2 dn c2]:=hT;replace hP:Own w2.drew g2 36 #[.slice a3 n3 c3]:=hP;replace hR:Own w2.drew g3 36 #[.slice none 0 0]:=hR;replace hb:Below w.heap.size w w2.drew:=(by rw [HG.out];exact hb.drew);cases hok:okT zs (applyT zs gss k [] fs)
     · have HOK:=Lib.hid hok;clear hok;refine wp_region_held_drew (S:=(fun w'=>w'.cell? ⟨g0,0,none⟩=some (.slice da dn dc)∧w'.cell? ⟨g0,1,none⟩=some (.slice a n c)∧w'.cell? ⟨g1,0,none⟩=some (.int .i64 k)∧w'.cell? ⟨g1,1,none⟩=some (.slice a2 dn c2)∧w'.cell? ⟨g2,0,none⟩=some (.slice a3 n3 c3))) (by kernel_rfl) ?_ (fun _=>?_)
       · ((try dsimp only);(exact ⟨hA.cell 0,hA.cell 1,hT.cell 0,hT.cell 1,hP.cell 0⟩))
       generalize w2.drew=Wd at *;refine hdT 0 ?_;refine hdT 1 ?_;refine hdT 2 ?_;refine hdT 3 ?_;refine hdT 4 ?_;refine hdC 5 (fun K hK=>?_);have hbs:g0≤_:=Nat.le_of_lt hA.lt
       (go_simp;(go_at_call 31;refine (l09Apply_c dc c k c2 c3 (HD.out.keep hb) (HF2.out.keep hb) HAO.out HMI.out (derB_drop H1.out) (H3.out.keep hb) HK.out HFB.out hn4).mono ?_;rintro e W1 ⟨v,rfl,hO,hbX⟩;obtain ⟨va,vn,vc,rfl⟩:=hO.isSlice);go_wp2_with fail)
       replace hA:=hA.keep hbX hA.lt;replace hT:=hT.keep hbX hT.lt;replace hP:=hP.keep hbX hP.lt;replace hR:=hR.keep hbX hR.lt;replace hb:=bT' hb hbX hb.size;replace hO:=hO.weaken hbs;clear hbX hbs;refine hK.out _ _ ?_ (fun _=>?_)
       · ((try dsimp only);(exact ⟨hA.cell 0,hA.cell 1,hT.cell 0,hT.cell 1,hP.cell 0⟩))
       clear hK K
       (try simp only [Act.put,pA,pB,pC])
       refine hdC 6 (fun K hK=>?_)
       (go_simp;(go_at_call 30;refine (l01Told_c dc vc (HD.out.keep hb) hdn (hO.read HS9.out.tm) (by have:=(hO.read HS9.out.tm).len;have:=HS9.out.len;have:=H3.out.len;omega)).mono ?_;rintro e W2 ⟨hor,hbX⟩;rw [HOK.out] at hor;obtain rfl:=hor.eq);go_wp2_with fail)
       replace hA:=hA.keep hbX hA.lt;replace hT:=hT.keep hbX hT.lt;replace hP:=hP.keep hbX hP.lt;replace hR:=hR.keep hbX hR.lt;replace hb:=bT' hb hbX hb.size;replace hO:=hO.keep hbX;clear hor hbX;refine hK.out _ _ ?_ (fun _=>?_)
       · ((try dsimp only);(exact ⟨hA.cell 0,hA.cell 1,hT.cell 0,hT.cell 1,hP.cell 0⟩))
       clear hK K
       (try simp only [Act.put,pA,pB,pC])
       refine hdT 7 ?_;refine hdT 8 ?_;refine hdC 9 (fun K hK=>?_);have cR:=hR.cell 0;have fR:=hR.frozen 0
       (go_simp;go_wp2_with fail)
       clear cR fR;replace hb:=hb.setCell (p:=⟨g3,0,none⟩) (by dsimp only;omega) (.slice none 0 0);replace hA:=hA.far (p:=⟨g3,0,none⟩) (own_neR hA hR (by decide)) (.slice none 0 0);replace hT:=hT.far (p:=⟨g3,0,none⟩) (own_neR hT hR (by decide)) (.slice none 0 0);replace hP:=hP.far (p:=⟨g3,0,none⟩) (by dsimp only;omega) (.slice none 0 0);replace hO:=ownR_farT (p:=⟨g3,0,none⟩) hO hR (by decide) rfl (.slice none 0 0);replace hR:=hR.set 0 (.slice none 0 0);generalize W2.setCell ⟨g3,0,none⟩ (.slice none 0 0)=W3 at *;refine hK.out _ _ ?_ (fun _=>?_)
       · ((try dsimp only);(exact ⟨hA.cell 0,hA.cell 1,hT.cell 0,hT.cell 1,hP.cell 0⟩))
       clear hK K
       (try simp only [Act.put,pA,pB,pC])
       refine hdT 10 ?_;refine wpAnyH_done (by kernel_rfl) ?_ _;go_wp2_with fail
       exact bodyPost_ret (results_row2 rfl _ _ g3 36 #[.slice none 0 0] (0,0) _ rfl hR Try.underlying36 rfl Try.info_form) rfl ⟨.slice none 0 0,by rw [(ap_lim H2.out HOK.out).1];rfl,by rw [(ap_lim H2.out HOK.out).2];exact ownR_none _ _,hb⟩
     · have HOK:=Lib.hid hok;clear hok;refine wp_region_held_drew (S:=(fun w'=>w'.cell? ⟨g0,0,none⟩=some (.slice da dn dc)∧w'.cell? ⟨g0,1,none⟩=some (.slice a n c)∧w'.cell? ⟨g1,0,none⟩=some (.int .i64 k)∧w'.cell? ⟨g1,1,none⟩=some (.slice a2 dn c2)∧w'.cell? ⟨g2,0,none⟩=some (.slice a3 n3 c3))) (by kernel_rfl) ?_ (fun _=>?_)
       · ((try dsimp only);(exact ⟨hA.cell 0,hA.cell 1,hT.cell 0,hT.cell 1,hP.cell 0⟩))
       generalize w2.drew=Wd at *;refine hdT 0 ?_;refine hdT 1 ?_;refine hdT 2 ?_;refine hdT 3 ?_;refine hdT 4 ?_;refine hdC 5 (fun K hK=>?_);have hbs:g0≤_:=Nat.le_of_lt hA.lt
       (go_simp;(go_at_call 31;refine (l09Apply_c dc c k c2 c3 (HD.out.keep hb) (HF2.out.keep hb) HAO.out HMI.out (derB_drop H1.out) (H3.out.keep hb) HK.out HFB.out hn4).mono ?_;rintro e W1 ⟨v,rfl,hO,hbX⟩;obtain ⟨va,vn,vc,rfl⟩:=hO.isSlice);go_wp2_with fail)
       replace hA:=hA.keep hbX hA.lt;replace hT:=hT.keep hbX hT.lt;replace hP:=hP.keep hbX hP.lt;replace hR:=hR.keep hbX hR.lt;replace hb:=bT' hb hbX hb.size;replace hO:=hO.weaken hbs;clear hbX hbs;refine hK.out _ _ ?_ (fun _=>?_)
       · ((try dsimp only);(exact ⟨hA.cell 0,hA.cell 1,hT.cell 0,hT.cell 1,hP.cell 0⟩))
       clear hK K
       (try simp only [Act.put,pA,pB,pC])
       refine hdC 6 (fun K hK=>?_)
       (go_simp;(go_at_call 30;refine (l01Told_c dc vc (HD.out.keep hb) hdn (hO.read HS9.out.tm) (by have:=(hO.read HS9.out.tm).len;have:=HS9.out.len;have:=H3.out.len;omega)).mono ?_;rintro e W2 ⟨hor,hbX⟩;rw [HOK.out] at hor;obtain rfl:=hor.eq);go_wp2_with fail)
       replace hA:=hA.keep hbX hA.lt;replace hT:=hT.keep hbX hT.lt;replace hP:=hP.keep hbX hP.lt;replace hR:=hR.keep hbX hR.lt;replace hb:=bT' hb hbX hb.size;replace hO:=hO.keep hbX;clear hor hbX;refine hK.out _ _ ?_ (fun _=>?_)
       · ((try dsimp only);(exact ⟨hA.cell 0,hA.cell 1,hT.cell 0,hT.cell 1,hP.cell 0⟩))
       clear hK K
       (try simp only [Act.put,pA,pB,pC])
       refine hdT 7 ?_;refine hdT 8 ?_;refine hdC 9 (fun K hK=>?_);have cR:=hR.cell 0;have fR:=hR.frozen 0
       (go_simp;go_wp2_with fail)
       clear cR fR;replace hb:=hb.setCell (p:=⟨g3,0,none⟩) (by dsimp only;omega) (.slice va vn vc);replace hA:=hA.far (p:=⟨g3,0,none⟩) (own_neR hA hR (by decide)) (.slice va vn vc);replace hT:=hT.far (p:=⟨g3,0,none⟩) (own_neR hT hR (by decide)) (.slice va vn vc);replace hP:=hP.far (p:=⟨g3,0,none⟩) (by dsimp only;omega) (.slice va vn vc);replace hO:=ownR_farT (p:=⟨g3,0,none⟩) hO hR (by decide) rfl (.slice va vn vc);replace hR:=hR.set 0 (.slice va vn vc);generalize W2.setCell ⟨g3,0,none⟩ (.slice va vn vc)=W3 at *;refine hK.out _ _ ?_ (fun _=>?_)
       · ((try dsimp only);(exact ⟨hA.cell 0,hA.cell 1,hT.cell 0,hT.cell 1,hP.cell 0⟩))
       clear hK K
       (try simp only [Act.put,pA,pB,pC])
       refine hdT 10 ?_;refine wpAnyH_done (by kernel_rfl) ?_ _;go_wp2_with fail
       exact bodyPost_ret (results_row2 rfl _ _ g3 36 #[.slice va vn vc] (0,0) _ rfl hR Try.underlying36 rfl Try.info_form) rfl ⟨.slice va vn vc,by rw [(ap_yes H2.out HOK.out).1];rfl,by rw [(ap_yes H2.out HOK.out).2,HG.out];exact hO,hb⟩
end Go.Proofs.Ytefjinnpofojnaa
