
import Derived.Test.YtdppjlndcacfnaaGreatAppS
import Derived.Test.YtdppjlndcacfnaaGreatBrN
import Derived.Test.YtdppjlndcacfnaaGreatDerS
namespace Go.Proofs.YtdppjlndcacfnaaGreat
set_option maxRecDepth 100000
open Go.RowKit Go.Deep
set_option maxHeartbeats 8000000 in
theorem l09Apply_c {w : World} {da : Option Addr} {dn : Nat} {zs : List Int} {a : Option Addr} {n : Nat} {a2 : Option Addr} {gss : List (List Tm)} {a3 : Option Addr} {n3 : Nat} {fs : List Tm} (dc c : Nat) (k : Int) (c2 c3 : Nat) (hd : Ints w da dn zs) (hF2 : Frms w a2 dn gss) (HA : AlgOk zs gss) (hmild : Mild zs) (hk : 0 ≤ k ∧ k ≤ 12) (h3 : Terms w a3 n3 fs) (hok : ∀ t ∈ fs, monoOk zs t.m = true) (hf : ∀ t ∈ fs, 1 ≤ t.f ∧ t.f ≤ 10006) (h400 : n3 ≤ 400) :
    Calls Tryz.prog 31 #[.agg #[.slice da dn dc,.slice a n c],.agg #[.int .i64 k,.slice a2 dn c2],.agg #[.slice a3 n3 c3]] w fun e w'=>∃v,e=.returned (.agg #[v])∧OwnR w' w.heap.size v (applyT zs gss k [] fs)∧Below w.heap.size w w':=by
 have HDL:=Lib.hid hd.len
 have HD:=Lib.hid hd
 have HF2:=Lib.hid hF2
 have HAO:=Lib.hid HA
 have HMI:=Lib.hid hmild
 have HKK:=Lib.hid hk
 have H3:=Lib.hid h3
 have HK:=Lib.hid hok
 have HFB:=Lib.hid hf
 have HFL:=Lib.hid h3.len
 clear HA hmild hk hok hf
 have hA:=(((Own.new w 36 #[.slice da dn dc,.slice a n c]).alloc (.cells #[.int .i64 k,.slice a2 dn c2] 32)).alloc (.cells #[.slice a3 n3 c3] 59)).alloc (.cells #[.slice none 0 0] 59)
 have hT:=((Own.new (w.alloc (.cells #[.slice da dn dc,.slice a n c] 36)) 32 #[.int .i64 k,.slice a2 dn c2]).alloc (.cells #[.slice a3 n3 c3] 59)).alloc (.cells #[.slice none 0 0] 59)
 have hP:=(Own.new ((w.alloc (.cells #[.slice da dn dc,.slice a n c] 36)).alloc (.cells #[.int .i64 k,.slice a2 dn c2] 32)) 59 #[.slice a3 n3 c3]).alloc (.cells #[.slice none 0 0] 59)
 have hR:=Own.new (((w.alloc (.cells #[.slice da dn dc,.slice a n c] 36)).alloc (.cells #[.int .i64 k,.slice a2 dn c2] 32)).alloc (.cells #[.slice a3 n3 c3] 59)) 59 #[.slice none 0 0]
 simp only [sAl] at hT hP hR
 have hb:=bTn (bTn (bTn (bA1 w (.cells #[.slice da dn dc,.slice a n c] 36)) (bA1 _ (.cells #[.int .i64 k,.slice a2 dn c2] 32))) (bA1 _ (.cells #[.slice a3 n3 c3] 59))) (bA1 _ (.cells #[.slice none 0 0] 59))
 go_enter Tryz.func31,Tryz.ntmps31
 go_upto_region 1 with fail
 generalize (((w.alloc (.cells #[.slice da dn dc,.slice a n c] 36)).alloc (.cells #[.int .i64 k,.slice a2 dn c2] 32)).alloc (.cells #[.slice a3 n3 c3] 59)).alloc (.cells #[.slice none 0 0] 59)=w0 at *
 generalize hg3:w.heap.size+1+1+1=g3 at *
 generalize hg2:w.heap.size+1+1=g2 at *
 generalize hg1:w.heap.size+1=g1 at *
 generalize hg0:w.heap.size=g0 at *
 have HG:=Lib.hid hg0
 have e1:=hg1
 have e2:=hg2
 have e3:=hg3
 clear hg0 hg1 hg2 hg3
 have hlR:=hR.lt
 have hV:=Own.new w0 59 #[.slice none 0 0]
 have hbX:=bA1 w0 (.cells #[.slice none 0 0] 59)
 replace hb:=bT' hb hbX (by have:=hA.lt;omega)
 replace hA:=hA.keep hbX hA.lt
 replace hT:=hT.keep hbX hT.lt
 replace hP:=hP.keep hbX hP.lt
 replace hR:=hR.keep hbX hR.lt
 clear hbX
 go_upto_region 2 with fail
 generalize w0.alloc (.cells #[.slice none 0 0] 59)=w1 at *
 generalize w0.heap.size=g4 at *
 go_upto_region 3 with fail
 go_loopw [8] (fun y wr=>∃(i:Nat) (v:Value),i≤n3∧y=.int .i64 i∧Below g0 w wr∧Own wr g0 36 #[.slice da dn dc,.slice a n c]∧Own wr g1 32 #[.int .i64 k,.slice a2 dn c2]∧Own wr g2 59 #[.slice a3 n3 c3]∧Own wr g3 59 #[.slice none 0 0]∧Own wr g4 59 #[v]∧Hid (OwnR wr g0 v (applyT zs gss k [] (fs.take i)))) (fun y _=>n3 - (intOf y).toNat)
 case atStart=>exact ⟨0,.slice none 0 0,Nat.zero_le _,rfl,hb,hA,hT,hP,hR,hV,Lib.hid (World.ownsRow_nil _ _ _ _)⟩
 case round=>
  clear hb hA hT hP hR hV;obtain ⟨i,v,hi,rfl,hb,hA,hT,hP,hR,hV,HO⟩:=hrel;have cP:=hP.cell 0;by_cases hlt:i<n3
  · obtain ⟨b1,o1,t,rfl,hbl0,hr0,ht,hx⟩:=H3.out.at_ hlt;have hga:w.heap.size≤g0:=Nat.le_of_eq HG.out;have hgb:g0≤w.heap.size:=Nat.le_of_eq HG.out.symm;have hmem:=List.mem_of_getElem? hx.out;have htf:=HFB.out t hmem;have hok:=HK.out t hmem;have HS:=Lib.hid (apply9 (k:=k) HAO.out (fs.take i) [] 0 (fun u hu=>H3.out.2.1 u (List.mem_of_mem_take hu)) (fun u hu=>HK.out u (List.mem_of_mem_take hu)) sum9_nil);have HAT:=Lib.hid (applyT_take (zs:=zs) (gss:=gss) (k:=k) hx.out);have M9:=Lib.hid (mono9 (k:=k) HAO.out ht.1 hok zs.length (Nat.le_refl _));have hz8:=HAO.out.h8;obtain ⟨mt,tf⟩:=t;have hmt:IsMono mt:=ht.1;obtain ⟨p0,p1,p2,p3,p4,p5,p6,p7,rfl⟩:=mono8 hmt;dsimp only at htf hok HAT M9;obtain ⟨va,vn,vc,rfl⟩:=HO.out.isSlice;have hvn:vn≤1280000:=(by have h1:=(HO.out.read HS.out.tm).len;have h2:=HS.out.len;rw [List.length_take] at h2;have:=Nat.min_le_left i fs.length;omega);have HOV:=Lib.hid (HO.out.read HS.out.tm);have h92:=Lib.hid HS.out.bd;have h91:=Lib.hid M9.out.bd;have h93:=Lib.hid M9.out.tm;have h9l:(monoT zs gss k [p0,p1,p2,p3,p4,p5,p6,p7] zs.length).length≤3200:=(by have:=M9.out.len;omega);generalize applyT zs gss k [] (fs.take i)=T0 at *;obtain ⟨Mo,hMo⟩:∃Mo,monoT zs gss k [p0,p1,p2,p3,p4,p5,p6,p7] zs.length=Mo:=⟨_,rfl⟩;rw [hMo] at HAT M9 h91 h93 h9l;have HMO:=Lib.hid hMo;have HMT:=Lib.hid hmt;have HOK:=Lib.hid hok;have HR0:=Lib.hid hr0;clear hMo hmem hok ht hr0 HO;have hi0:(0:Int)≤(i:Int):=(by omega);have hin:(i:Int)<(n3:Int):=(by omega);go_upto_region 5 with fail
    clear cP;replace hA:Own wr.drew g0 36 #[.slice da dn dc,.slice a n c]:=hA;replace hT:Own wr.drew g1 32 #[.int .i64 k,.slice a2 dn c2]:=hT;replace hP:Own wr.drew g2 59 #[.slice (some ⟨b1,o1,none⟩) n3 c3]:=hP;replace hR:Own wr.drew g3 59 #[.slice none 0 0]:=hR;replace hV:Own wr.drew g4 59 #[.slice va vn vc]:=hV;replace hb:Below w.heap.size w wr.drew:=(by rw [HG.out];exact hb.drew);replace HOV:=Lib.hid (HOV.out.keep ((Below.refl _ _).drew:Below wr.heap.size wr wr.drew));refine wp_region_held_drew (S:=(fun w'=>w'.cell? ⟨g0,0,none⟩=some (.slice da dn dc)∧w'.cell? ⟨g0,1,none⟩=some (.slice a n c)∧w'.cell? ⟨g1,0,none⟩=some (.int .i64 k)∧w'.cell? ⟨g1,1,none⟩=some (.slice a2 dn c2)∧w'.cell? ⟨g2,0,none⟩=some (.slice (some ⟨b1,o1,none⟩) n3 c3)∧w'.cell? ⟨b1,o1+i * 9,none⟩=some (.int .u8 p0)∧w'.cell? ⟨b1,o1+i * 9+1,none⟩=some (.int .u8 p1)∧w'.cell? ⟨b1,o1+i * 9+2,none⟩=some (.int .u8 p2)∧w'.cell? ⟨b1,o1+i * 9+3,none⟩=some (.int .u8 p3)∧w'.cell? ⟨b1,o1+i * 9+4,none⟩=some (.int .u8 p4)∧w'.cell? ⟨b1,o1+i * 9+5,none⟩=some (.int .u8 p5)∧w'.cell? ⟨b1,o1+i * 9+6,none⟩=some (.int .u8 p6)∧w'.cell? ⟨b1,o1+i * 9+7,none⟩=some (.int .u8 p7)∧w'.cell? ⟨b1,o1+i * 9+8,none⟩=some (.int .i64 tf))) (by kernel_rfl) ?_ (fun _=>?_)
    · ((try dsimp only);(exact ⟨hA.cell 0,hA.cell 1,hT.cell 0,hT.cell 1,hP.cell 0,(rgK HR0.out (hb.block b1 hbl0)) 0 _ rfl,(rgK HR0.out (hb.block b1 hbl0)) 1 _ rfl,(rgK HR0.out (hb.block b1 hbl0)) 2 _ rfl,(rgK HR0.out (hb.block b1 hbl0)) 3 _ rfl,(rgK HR0.out (hb.block b1 hbl0)) 4 _ rfl,(rgK HR0.out (hb.block b1 hbl0)) 5 _ rfl,(rgK HR0.out (hb.block b1 hbl0)) 6 _ rfl,(rgK HR0.out (hb.block b1 hbl0)) 7 _ rfl,(rgK HR0.out (hb.block b1 hbl0)) 8 _ rfl⟩))
    generalize wr.drew=Wd at *;refine hdT 1 ?_;refine hdT 2 ?_;refine hdT 3 ?_;refine hdT 4 ?_;refine hdT 5 ?_;refine hdT 6 ?_;refine hdT 7 ?_;refine hdT 8 ?_;refine hdT 10 ?_;refine hdT 11 ?_;refine hdT 12 ?_;refine hdT 13 ?_;refine hdT 14 ?_;refine hdT 15 ?_;refine wpAnyH_ready (rs:=[0,9]) (by kernel_rfl) (by simp) ?_;refine AllReadyH.cons (hdAt (i:=0) rfl) (fun K hK=>?_) (AllReadyH.cons (hdAt (i:=9) rfl) (fun K hK=>?_) AllReadyH.nil)
    · skip
      have cV:=hV.cell 0
      (go_simp;try go_wp2_with fail)
      clear cV;refine hK.out _ _ ?_ (fun _=>?_)
      · ((try dsimp only);(exact ⟨hA.cell 0,hA.cell 1,hT.cell 0,hT.cell 1,hP.cell 0,(rgK HR0.out (hb.block b1 hbl0)) 0 _ rfl,(rgK HR0.out (hb.block b1 hbl0)) 1 _ rfl,(rgK HR0.out (hb.block b1 hbl0)) 2 _ rfl,(rgK HR0.out (hb.block b1 hbl0)) 3 _ rfl,(rgK HR0.out (hb.block b1 hbl0)) 4 _ rfl,(rgK HR0.out (hb.block b1 hbl0)) 5 _ rfl,(rgK HR0.out (hb.block b1 hbl0)) 6 _ rfl,(rgK HR0.out (hb.block b1 hbl0)) 7 _ rfl,(rgK HR0.out (hb.block b1 hbl0)) 8 _ rfl⟩))
      clear hK K
      (try simp only [Act.put,pA,pB,pC])
      refine hdC 9 (fun K hK=>?_)
      (go_simp;(go_at_call 59;refine (l09Mono_c dc c k c2 (HD.out.keep hb) (HF2.out.keep hb) HAO.out HMI.out HKK.out HMT.out HOK.out).mono ?_;rintro e W1 ⟨vM,rfl,hOM,hbX⟩;rw [HMO.out] at hOM;obtain ⟨ta,tn,tc,rfl⟩:=hOM.isSlice);go_wp2_with fail)
      replace hA:=hA.keep hbX hA.lt;replace hT:=hT.keep hbX hT.lt;replace hP:=hP.keep hbX hP.lt;replace hR:=hR.keep hbX hR.lt;replace hV:=hV.keep hbX hV.lt;replace hb:=bT' hb hbX hb.size;replace HOV:=Lib.hid (HOV.out.keep hbX);have hTM:=hOM.read h93.out;have htn:tn≤3200:=(by have:=hTM.len;omega);clear hOM hbX;refine hK.out _ _ ?_ (fun _=>?_)
      · ((try dsimp only);(exact ⟨hA.cell 0,hA.cell 1,hT.cell 0,hT.cell 1,hP.cell 0,(rgK HR0.out (hb.block b1 hbl0)) 0 _ rfl,(rgK HR0.out (hb.block b1 hbl0)) 1 _ rfl,(rgK HR0.out (hb.block b1 hbl0)) 2 _ rfl,(rgK HR0.out (hb.block b1 hbl0)) 3 _ rfl,(rgK HR0.out (hb.block b1 hbl0)) 4 _ rfl,(rgK HR0.out (hb.block b1 hbl0)) 5 _ rfl,(rgK HR0.out (hb.block b1 hbl0)) 6 _ rfl,(rgK HR0.out (hb.block b1 hbl0)) 7 _ rfl,(rgK HR0.out (hb.block b1 hbl0)) 8 _ rfl⟩))
      clear hK K
      (try simp only [Act.put,pA,pB,pC])
      refine hdC 16 (fun K hK=>?_);have hbs:g0≤_:=Nat.le_of_lt hA.lt
      (go_simp;(go_at_call 30;refine (l01Add_c vc tc tf (by omega) (by omega) HOV.out hTM (by omega) h92.out h91.out).mono ?_;rintro e W2 ⟨v3,rfl,hAd,hbX⟩;obtain ⟨xa,xn,xc,rfl⟩:=hAd.isSlice);go_wp2_with fail)
      replace hA:=hA.keep hbX hA.lt;replace hT:=hT.keep hbX hT.lt;replace hP:=hP.keep hbX hP.lt;replace hR:=hR.keep hbX hR.lt;replace hV:=hV.keep hbX hV.lt;replace hb:=bT' hb hbX hb.size;have hAD:=hAd.r.weaken hbs;clear hAd hbX hbs hTM;refine hK.out _ _ ?_ (fun _=>?_)
      · ((try dsimp only);(exact ⟨hA.cell 0,hA.cell 1,hT.cell 0,hT.cell 1,hP.cell 0,(rgK HR0.out (hb.block b1 hbl0)) 0 _ rfl,(rgK HR0.out (hb.block b1 hbl0)) 1 _ rfl,(rgK HR0.out (hb.block b1 hbl0)) 2 _ rfl,(rgK HR0.out (hb.block b1 hbl0)) 3 _ rfl,(rgK HR0.out (hb.block b1 hbl0)) 4 _ rfl,(rgK HR0.out (hb.block b1 hbl0)) 5 _ rfl,(rgK HR0.out (hb.block b1 hbl0)) 6 _ rfl,(rgK HR0.out (hb.block b1 hbl0)) 7 _ rfl,(rgK HR0.out (hb.block b1 hbl0)) 8 _ rfl⟩))
      clear hK K
      (try simp only [Act.put,pA,pB,pC])
      refine hdC 17 (fun K hK=>?_);have cV:=hV.cell 0;have fV:=hV.frozen 0
      (go_simp;go_wp2_with fail)
      clear cV fV;replace hb:=hb.setCell (p:=⟨g4,0,none⟩) (by dsimp only;omega) (.slice xa xn xc);replace hA:=hA.far (p:=⟨g4,0,none⟩) (own_neR hA hV (by decide)) (.slice xa xn xc);replace hT:=hT.far (p:=⟨g4,0,none⟩) (own_neR hT hV (by decide)) (.slice xa xn xc);replace hP:=hP.far (p:=⟨g4,0,none⟩) (by dsimp only;omega) (.slice xa xn xc);replace hR:=hR.far (p:=⟨g4,0,none⟩) (by dsimp only;omega) (.slice xa xn xc);replace hAD:=ownR_farT (p:=⟨g4,0,none⟩) hAD hV (by decide) rfl (.slice xa xn xc);replace hV:=hV.set 0 (.slice xa xn xc);generalize W2.setCell ⟨g4,0,none⟩ (.slice xa xn xc)=W3 at *;refine hK.out _ _ ?_ (fun _=>?_)
      · ((try dsimp only);(exact ⟨hA.cell 0,hA.cell 1,hT.cell 0,hT.cell 1,hP.cell 0,(rgK HR0.out (hb.block b1 hbl0)) 0 _ rfl,(rgK HR0.out (hb.block b1 hbl0)) 1 _ rfl,(rgK HR0.out (hb.block b1 hbl0)) 2 _ rfl,(rgK HR0.out (hb.block b1 hbl0)) 3 _ rfl,(rgK HR0.out (hb.block b1 hbl0)) 4 _ rfl,(rgK HR0.out (hb.block b1 hbl0)) 5 _ rfl,(rgK HR0.out (hb.block b1 hbl0)) 6 _ rfl,(rgK HR0.out (hb.block b1 hbl0)) 7 _ rfl,(rgK HR0.out (hb.block b1 hbl0)) 8 _ rfl⟩))
      clear hK K
      (try simp only [Act.put,pA,pB,pC])
      refine wpAnyH_done (by kernel_rfl) ?_ _;go_wp2_with fail
      go_roundw
      case rel=>exact ⟨i+1,.slice xa xn xc,by omega,by go_num,by rw [←HG.out];exact hb,hA,hT,hP,hR,hV,by rw [HAT.out];exact Lib.hid hAD⟩
      case measure=>simp [intOf] <;> omega
    · skip
      (go_simp;(go_at_call 59;refine (l09Mono_c dc c k c2 (HD.out.keep hb) (HF2.out.keep hb) HAO.out HMI.out HKK.out HMT.out HOK.out).mono ?_;rintro e W4 ⟨vM,rfl,hOM,hbX⟩;rw [HMO.out] at hOM;obtain ⟨ta,tn,tc,rfl⟩:=hOM.isSlice);go_wp2_with fail)
      replace hA:=hA.keep hbX hA.lt;replace hT:=hT.keep hbX hT.lt;replace hP:=hP.keep hbX hP.lt;replace hR:=hR.keep hbX hR.lt;replace hV:=hV.keep hbX hV.lt;replace hb:=bT' hb hbX hb.size;replace HOV:=Lib.hid (HOV.out.keep hbX);have hTM:=hOM.read h93.out;have htn:tn≤3200:=(by have:=hTM.len;omega);clear hOM hbX;refine hK.out _ _ ?_ (fun _=>?_)
      · ((try dsimp only);(exact ⟨hA.cell 0,hA.cell 1,hT.cell 0,hT.cell 1,hP.cell 0,(rgK HR0.out (hb.block b1 hbl0)) 0 _ rfl,(rgK HR0.out (hb.block b1 hbl0)) 1 _ rfl,(rgK HR0.out (hb.block b1 hbl0)) 2 _ rfl,(rgK HR0.out (hb.block b1 hbl0)) 3 _ rfl,(rgK HR0.out (hb.block b1 hbl0)) 4 _ rfl,(rgK HR0.out (hb.block b1 hbl0)) 5 _ rfl,(rgK HR0.out (hb.block b1 hbl0)) 6 _ rfl,(rgK HR0.out (hb.block b1 hbl0)) 7 _ rfl,(rgK HR0.out (hb.block b1 hbl0)) 8 _ rfl⟩))
      clear hK K
      (try simp only [Act.put,pA,pB,pC])
      refine hdC 0 (fun K hK=>?_);have cV:=hV.cell 0
      (go_simp;try go_wp2_with fail)
      clear cV;refine hK.out _ _ ?_ (fun _=>?_)
      · ((try dsimp only);(exact ⟨hA.cell 0,hA.cell 1,hT.cell 0,hT.cell 1,hP.cell 0,(rgK HR0.out (hb.block b1 hbl0)) 0 _ rfl,(rgK HR0.out (hb.block b1 hbl0)) 1 _ rfl,(rgK HR0.out (hb.block b1 hbl0)) 2 _ rfl,(rgK HR0.out (hb.block b1 hbl0)) 3 _ rfl,(rgK HR0.out (hb.block b1 hbl0)) 4 _ rfl,(rgK HR0.out (hb.block b1 hbl0)) 5 _ rfl,(rgK HR0.out (hb.block b1 hbl0)) 6 _ rfl,(rgK HR0.out (hb.block b1 hbl0)) 7 _ rfl,(rgK HR0.out (hb.block b1 hbl0)) 8 _ rfl⟩))
      clear hK K
      (try simp only [Act.put,pA,pB,pC])
      refine hdC 16 (fun K hK=>?_);have hbs:g0≤_:=Nat.le_of_lt hA.lt
      (go_simp;(go_at_call 30;refine (l01Add_c vc tc tf (by omega) (by omega) HOV.out hTM (by omega) h92.out h91.out).mono ?_;rintro e W5 ⟨v3,rfl,hAd,hbX⟩;obtain ⟨xa,xn,xc,rfl⟩:=hAd.isSlice);go_wp2_with fail)
      replace hA:=hA.keep hbX hA.lt;replace hT:=hT.keep hbX hT.lt;replace hP:=hP.keep hbX hP.lt;replace hR:=hR.keep hbX hR.lt;replace hV:=hV.keep hbX hV.lt;replace hb:=bT' hb hbX hb.size;have hAD:=hAd.r.weaken hbs;clear hAd hbX hbs hTM;refine hK.out _ _ ?_ (fun _=>?_)
      · ((try dsimp only);(exact ⟨hA.cell 0,hA.cell 1,hT.cell 0,hT.cell 1,hP.cell 0,(rgK HR0.out (hb.block b1 hbl0)) 0 _ rfl,(rgK HR0.out (hb.block b1 hbl0)) 1 _ rfl,(rgK HR0.out (hb.block b1 hbl0)) 2 _ rfl,(rgK HR0.out (hb.block b1 hbl0)) 3 _ rfl,(rgK HR0.out (hb.block b1 hbl0)) 4 _ rfl,(rgK HR0.out (hb.block b1 hbl0)) 5 _ rfl,(rgK HR0.out (hb.block b1 hbl0)) 6 _ rfl,(rgK HR0.out (hb.block b1 hbl0)) 7 _ rfl,(rgK HR0.out (hb.block b1 hbl0)) 8 _ rfl⟩))
      clear hK K
      (try simp only [Act.put,pA,pB,pC])
      refine hdC 17 (fun K hK=>?_);have cV:=hV.cell 0;have fV:=hV.frozen 0
      (go_simp;go_wp2_with fail)
      clear cV fV;replace hb:=hb.setCell (p:=⟨g4,0,none⟩) (by dsimp only;omega) (.slice xa xn xc);replace hA:=hA.far (p:=⟨g4,0,none⟩) (own_neR hA hV (by decide)) (.slice xa xn xc);replace hT:=hT.far (p:=⟨g4,0,none⟩) (own_neR hT hV (by decide)) (.slice xa xn xc);replace hP:=hP.far (p:=⟨g4,0,none⟩) (by dsimp only;omega) (.slice xa xn xc);replace hR:=hR.far (p:=⟨g4,0,none⟩) (by dsimp only;omega) (.slice xa xn xc);replace hAD:=ownR_farT (p:=⟨g4,0,none⟩) hAD hV (by decide) rfl (.slice xa xn xc);replace hV:=hV.set 0 (.slice xa xn xc);generalize W5.setCell ⟨g4,0,none⟩ (.slice xa xn xc)=W6 at *;refine hK.out _ _ ?_ (fun _=>?_)
      · ((try dsimp only);(exact ⟨hA.cell 0,hA.cell 1,hT.cell 0,hT.cell 1,hP.cell 0,(rgK HR0.out (hb.block b1 hbl0)) 0 _ rfl,(rgK HR0.out (hb.block b1 hbl0)) 1 _ rfl,(rgK HR0.out (hb.block b1 hbl0)) 2 _ rfl,(rgK HR0.out (hb.block b1 hbl0)) 3 _ rfl,(rgK HR0.out (hb.block b1 hbl0)) 4 _ rfl,(rgK HR0.out (hb.block b1 hbl0)) 5 _ rfl,(rgK HR0.out (hb.block b1 hbl0)) 6 _ rfl,(rgK HR0.out (hb.block b1 hbl0)) 7 _ rfl,(rgK HR0.out (hb.block b1 hbl0)) 8 _ rfl⟩))
      clear hK K
      (try simp only [Act.put,pA,pB,pC])
      refine wpAnyH_done (by kernel_rfl) ?_ _;go_wp2_with fail
      go_roundw
      case rel=>exact ⟨i+1,.slice xa xn xc,by omega,by go_num,by rw [←HG.out];exact hb,hA,hT,hP,hR,hV,by rw [HAT.out];exact Lib.hid hAD⟩
      case measure=>simp [intOf] <;> omega
  · have he:i=n3:=(by omega);subst he;have HOO:Hid (OwnR wr g0 v (applyT zs gss k [] fs)):=Lib.hid (by have:=HO.out;rwa [List.take_of_length_le (Nat.le_of_eq HFL.out)] at this);obtain ⟨va,vn,vc,rfl⟩:=HOO.out.isSlice;have k0:=hV.cell 0;have r0:=hR.cell 0;have f0:=hR.frozen 0;go_wp2_with fail
    have q:=hR.set 0 (.slice va vn vc);have qb:=hb.setCell (p:=⟨g3,0,none⟩) (by dsimp only;omega) (.slice va vn vc);have qo:=ownR_farT (p:=⟨g3,0,none⟩) HOO.out hR (by decide) rfl (.slice va vn vc);exact bodyPost_ret (results_cell_row rfl _ _ g3 59 #[.slice va vn vc] (0,0) _ rfl q Tryz.underlying59 rfl Tryz.info_form) rfl ⟨.slice va vn vc,rfl,by rw [HG.out];exact qo,by rw [HG.out];exact qb⟩
end Go.Proofs.YtdppjlndcacfnaaGreat
