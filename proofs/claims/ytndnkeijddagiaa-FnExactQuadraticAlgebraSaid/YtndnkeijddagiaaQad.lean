
import Derived.Test.YtndnkeijddagiaaMin10
import Derived.Test.YtndnkeijddagiaaQuad
import Derived.Test.YtndnkeijddagiaaSubS
namespace Go.Proofs.Ytndnkeijddagiaa
set_option maxRecDepth 100000
open Go.RowKit Go.Deep
def qaD (zs:List Int) (ims:List (List Tm)):List Int:=if mnE zs ims=0 then zs else []
def qaI (zs:List Int) (ims:List (List Tm)):List (List Tm):=if mnE zs ims=0 then ims.map (wordsOf 2) else []
theorem qa_ne {zs:List Int} {ims:List (List Tm)} (h:¬mnE zs ims=0):qaD zs ims=[]∧qaI zs ims=[]:=by simp [qaD,qaI,h]
theorem qa_yes {zs:List Int} {ims:List (List Tm)} (h:mnE zs ims=0):qaD zs ims=zs∧qaI zs ims=ims.map (wordsOf 2):=by simp [qaD,qaI,h]
theorem sumLen_bdQ {V:List (List Tm)} {B:Nat} (h:∀ts∈V,ts.length≤B):sumLen V≤V.length * B:=by
 induction V with
 | nil=>simp [sumLen]
 | cons r V ih =>
   have h1:=h r (by simp);have h2:=ih (fun x hx=>h x (by simp [hx]));simp only [sumLen,List.map_cons,List.sum_cons,List.length_cons,Nat.add_mul,Nat.one_mul] at h2 ⊢;omega
theorem qw_len {zs:List Int} {ims:List (List Tm)} (h:isAlg zs ims=true):zs.length≤8∧(ims.map (wordsOf 2)).length≤8∧∀ts∈ims.map (wordsOf 2),ts.length≤400:=by
 have h1:=degsOk_len (isAlg_degs h)
 have h2:=isAlg_lenQ h
 refine ⟨by omega,by rw [List.length_map];omega,fun ts hts=>?_⟩
 obtain ⟨us,hu,rfl⟩:=List.mem_map.1 hts
 have:=wordsOf_len 2 us
 have:=isAlg_400 h us hu
 omega
theorem qw_sum {zs:List Int} {ims:List (List Tm)} (h:isAlg zs ims=true):sumLen (ims.map (wordsOf 2))≤3200:=by
 obtain ⟨_,h1,h2⟩:=qw_len h
 have h3:=sumLen_bdQ h2
 have h4:(ims.map (wordsOf 2)).length * 400≤8 * 400:=Nat.mul_le_mul_right 400 h1
 omega
set_option maxHeartbeats 4000000 in
theorem QuadraticAlgebra_c {w : World} {gd od dn gi oi n : Nat} {zs : List Int} {ims : List (List Tm)} (dc c : Nat) (hd : Ints w (some ⟨gd, od, none⟩) dn zs) (hdn : dn ≤ 1048576) (hN : FrmsN w (some ⟨gi, oi, none⟩) n ims) (hn : n ≤ 1048576) (hL : ∀ im ∈ ims, (im.length : Int) ≤ 1048576) (hT : ∀ ts ∈ ims, ∀ t ∈ ts, IsTm t) :
    Calls Try.prog 17 #[.agg #[.slice (some ⟨gd,od,none⟩) dn dc,.slice (some ⟨gi,oi,none⟩) n c]] w fun e w'=>∃a an ac b bn bc,e=.returned (.tuple #[.agg #[.slice a an ac,.slice b bn bc],.int .i64 (mnE zs ims)])∧OwnV w' w.heap.size w'.heap.size a an (qaD zs ims)∧OwnF w' w.heap.size w'.heap.size b bn (qaI zs ims)∧Below w.heap.size w w':=by
 have HLL:=Lib.hid hL
 have HTT:=Lib.hid hT
 have HNN:=Lib.hid hN
 have HLn:=Lib.hid hN.1
 have HFF:=Lib.hid (hN.frmsS hL)
 have HDD:=Lib.hid hd
 have HDL:=Lib.hid hd.len
 clear hL hT hN hd
 have hA:=(Own.new w 29 #[.slice (some ⟨gd,od,none⟩) dn dc,.slice (some ⟨gi,oi,none⟩) n c]).alloc (.cells #[.slice none 0 0,.slice none 0 0] 29)
 have hR:=Own.new (w.alloc (.cells #[.slice (some ⟨gd,od,none⟩) dn dc,.slice (some ⟨gi,oi,none⟩) n c] 29)) 29 #[.slice none 0 0,.slice none 0 0]
 rw [sAl] at hR
 have hb:=bTn (bA1 w (.cells #[.slice (some ⟨gd,od,none⟩) dn dc,.slice (some ⟨gi,oi,none⟩) n c] 29)) (bA1 _ (.cells #[.slice none 0 0,.slice none 0 0] 29))
 obtain ⟨E,hE⟩:∃E,mnE zs ims=E:=⟨_,rfl⟩
 have HM:=Lib.hid hE
 have HC:=Lib.hid (mn_cases zs ims)
 clear hE
 go_enter Try.func17,Try.ntmps17
 go_upto_region 1 with fail
 generalize (w.alloc (.cells #[.slice (some ⟨gd,od,none⟩) dn dc,.slice (some ⟨gi,oi,none⟩) n c] 29)).alloc (.cells #[.slice none 0 0,.slice none 0 0] 29)=w0 at *
 have hlR:=hR.lt
 have c0:=hA.cell 0
 have c1:=hA.cell 1
 by_cases h0:E=0
 · subst h0
   have HAL:Hid (isAlg zs ims=true):=by
    rcases HC.out with h | h | h
    · have:=HM.out;omega
    · have:=HM.out;omega
    · exact Lib.hid h.2.1
   obtain rfl:dn=n:=(by have:=isAlg_lenQ HAL.out;have:=HLn.out;have:=HDL.out;omega);go_wp2_with fail
   refine (checkMinimal_c dc c (HDD.out.keep hb) hdn (HFF.out.keep hb) hn HLL.out).mono ?_;rintro e w1 ⟨rfl,hb1⟩;rw [HM.out];replace hA:=hA.keep hb1 hA.lt;replace hR:=hR.keep hb1 hR.lt;replace hb:=bT' hb hb1 hb.size;clear hb1 c0 c1 hlR;have hlR:=hR.lt;have c0:=hA.cell 0;have c1:=hA.cell 1;go_wp2_with fail
   refine (QuadraticParts_k dc c (HDD.out.keep hb) hdn (HFF.out.keep hb) hn HLL.out).mono ?_;rintro e w2 ⟨ra,rn,rc,rfl,-,hb2,hK⟩;obtain ⟨⟨gq,rfl⟩,hQ⟩:=hK HAL.out;rw [(qp_yes HAL.out).2];obtain rfl:dn=rn:=(by have:=hQ.1;rw [List.length_map] at this;have:=HLn.out;omega);replace hA:=hA.keep hb2 hA.lt;replace hR:=hR.keep hb2 hR.lt;replace hb:=bT' hb hb2 hb.size;clear hb2 c0 c1 hlR hK;have hlR:=hR.lt;have c0:=hA.cell 0;go_wp2_with fail
   refine (newAlgebra_c dc rc (HDD.out.keep hb) hdn hQ hn (qp_tm HTT.out) (by have:=qw_sum HAL.out;omega)).mono ?_;rintro e w3 ⟨a,ac,b,rfl,hV,hVF,hb3⟩;replace hA:=hA.keep hb3 hA.lt;replace hR:=hR.keep hb3 hR.lt;replace hb:=bT' hb hb3 hb.size;clear hb3 c0 hQ;replace hV:=hV.weaken (lo':=w.heap.size+2) (by omega) (Nat.le_refl _);replace hVF:=hVF.weaken (lo':=w.heap.size+2) (by omega) (Nat.le_refl _);clear hlR;have r0:=hR.cell 0;have r1:=hR.cell 1;have f0:=hR.frozen 0;have f1:=hR.frozen 1;go_wp2_with fail
   have hTo:Touch (fun k=>k=w.heap.size+1) w3 ((w3.setCell ⟨w.heap.size+1,0,none⟩ (.slice a dn ac)).setCell ⟨w.heap.size+1,1,none⟩ (.slice b dn dn)):=Touch.of_only (((Only.refl (w.heap.size+1) w3).set 0 _).set 1 _);replace hR:=(hR.set 0 (.slice a dn ac)).set 1 (.slice b dn dn);replace hV:=(hV.touch hTo (fun q h1 h2=>by omega)).weaken (Nat.le_refl _) hTo.below.size;replace hVF:=(hVF.touch hTo (fun q h1 h2=>by omega)).weaken (Nat.le_refl _) hTo.below.size;replace hb:=(hb.setCell (p:=⟨w.heap.size+1,0,none⟩) (by dsimp only;omega) (.slice a dn ac)).setCell (p:=⟨w.heap.size+1,1,none⟩) (by dsimp only;omega) (.slice b dn dn);exact bodyPost_ret (results_row2 rfl _ _ (w.heap.size+1) 29 #[.slice a dn ac,.slice b dn dn] (0,0) _ rfl hR Try.underlying29 rfl Try.info_alg) rfl ⟨a,dn,ac,b,dn,dn,by rw [HM.out];rfl,by rw [(qa_yes HM.out).1];exact hV.weaken (by omega) (Nat.le_refl _),by rw [(qa_yes HM.out).2];exact hVF.weaken (by omega) (Nat.le_refl _),hb⟩
 · have HNE:Hid (¬mnE zs ims=0):=Lib.hid (by rw [HM.out];exact h0);have hE0:(E==0)=false:=(by simpa using h0);go_wp2_with fail
   refine (checkMinimal_c dc c (HDD.out.keep hb) hdn (HFF.out.keep hb) hn HLL.out).mono ?_;rintro e w1 ⟨rfl,hb1⟩;rw [HM.out];replace hR:=hR.keep hb1 hR.lt;replace hb:=bT' hb hb1 hb.size;clear hb1 c0 c1 hA;have r0:=hR.cell 0;have r1:=hR.cell 1;have f0:=hR.frozen 0;have f1:=hR.frozen 1;go_wp2_with fail
   have q:=(hR.set 0 (.slice none 0 0)).set 1 (.slice none 0 0);exact bodyPost_ret (results_row2 rfl _ _ (w.heap.size+1) 29 #[.slice none 0 0,.slice none 0 0] (0,0) _ rfl q Try.underlying29 rfl Try.info_alg) rfl ⟨none,0,0,none,0,0,by rw [HM.out];rfl,by rw [(qa_ne HNE.out).1];exact OwnV.none_,by rw [(qa_ne HNE.out).2];exact OwnF.none_,(hb.setCell (p:=⟨w.heap.size+1,0,none⟩) (by dsimp only;omega) _).setCell (p:=⟨w.heap.size+1,1,none⟩) (by dsimp only;omega) _⟩
set_option maxHeartbeats 4000000 in
theorem l10Quadratic_s {w : World} {gd od dn gi oi n : Nat} {zs : List Int} {ims : List (List Tm)} (dc c : Nat) (hd : Ints w (some ⟨gd, od, none⟩) dn zs) (hdn : dn ≤ 1048576) (hN : FrmsN w (some ⟨gi, oi, none⟩) n ims) (hn : n ≤ 1048576) (hL : ∀ im ∈ ims, (im.length : Int) ≤ 1048576) (hT : ∀ ts ∈ ims, ∀ t ∈ ts, IsTm t) (hal : isAlg zs ims = true) :
    Calls Try.prog 54 #[.agg #[.slice (some ⟨gd,od,none⟩) dn dc,.slice (some ⟨gi,oi,none⟩) n c]] w fun e w'=>∃a an ac b bn bc,e=.returned ((.agg #[.slice a an ac,.slice b bn bc]))∧OwnV w' w.heap.size w'.heap.size a an zs∧OwnF w' w.heap.size w'.heap.size b bn (ims.map (wordsOf 2))∧Below w.heap.size w w':=by
 have HLL:=Lib.hid hL
 have HTT:=Lib.hid hT
 have HNN:=Lib.hid hN
 have HLn:=Lib.hid hN.1
 have HFF:=Lib.hid (hN.frmsS hL)
 have HDD:=Lib.hid hd
 have HDL:=Lib.hid hd.len
 clear hL hT hN hd
 have hA:=(Own.new w 29 #[.slice (some ⟨gd,od,none⟩) dn dc,.slice (some ⟨gi,oi,none⟩) n c]).alloc (.cells #[.slice none 0 0,.slice none 0 0] 29)
 have hR:=Own.new (w.alloc (.cells #[.slice (some ⟨gd,od,none⟩) dn dc,.slice (some ⟨gi,oi,none⟩) n c] 29)) 29 #[.slice none 0 0,.slice none 0 0]
 rw [sAl] at hR
 have hb:=bTn (bA1 w (.cells #[.slice (some ⟨gd,od,none⟩) dn dc,.slice (some ⟨gi,oi,none⟩) n c] 29)) (bA1 _ (.cells #[.slice none 0 0,.slice none 0 0] 29))
 obtain ⟨ti,tz,hti,htz,hts,htb,htzs⟩:=Try.info_formA
 have HI:=Lib.hid hti
 have HZ:=Lib.hid htz
 have HS:=Lib.hid hts
 have HBt:=Lib.hid htb
 have HZs:=Lib.hid htzs
 clear hti htz hts htb htzs
 have HAL:=Lib.hid hal
 have H400:=Lib.hid (isAlg_400 hal)
 have h8:n≤8:=by have:=isAlg_lenQ hal;have:=HLn.out;have:=HDL.out;have:=degsOk_len (isAlg_degs hal);omega
 clear hal
 go_enter Try.func54,Try.ntmps54
 go_upto_region 1 with fail
 generalize (w.alloc (.cells #[.slice (some ⟨gd,od,none⟩) dn dc,.slice (some ⟨gi,oi,none⟩) n c] 29)).alloc (.cells #[.slice none 0 0,.slice none 0 0] 29)=w0 at *
 have hlR:=hR.lt
 have c0:=hA.cell 0
 go_wp2_with fail
 refine (l01OwnI_c dc (HDD.out.keep hb) hdn).mono ?_
 rintro e w3 ⟨xa,xc,rfl,hD,hb3⟩
 have hbs0:=hb.size
 replace hA:=hA.keep hb3 hA.lt
 replace hR:=hR.keep hb3 hR.lt
 replace hb:=bT' hb hb3 hb.size
 have hD':w3.ownsRow w.heap.size 2 1 (.slice xa dn xc) dn (zs.map (Value.int .i64)):=row_weaken0 hD hbs0
 clear hb3 hD c0 hbs0 hlR
 have hO:=Own.new w3 29 #[.slice xa dn xc,.slice none 0 0]
 have hbX:=bA1 w3 (.cells #[.slice xa dn xc,.slice none 0 0] 29)
 have HD:=Lib.hid (row_keep hD' hbX)
 have hlX:w.heap.size+1<w3.heap.size:=hR.lt
 replace hA:=hA.keep hbX hA.lt
 replace hR:=hR.keep hbX hR.lt
 replace hb:=bT' hb hbX hb.size
 clear hD' hbX
 go_upto_region 2 with fail
 generalize w3.alloc (.cells #[.slice xa dn xc,.slice none 0 0] 29)=w4 at *
 generalize w3.heap.size=gX at *
 go_upto_region 3 with fail
 go_loopw [4] (fun y wr=>∃(p:Nat) (va:Option Addr) (vc:Nat) (vs:List Value),p≤n∧y=.int .i64 p∧Below w.heap.size w wr∧Own wr w.heap.size 29 #[.slice (some ⟨gd,od,none⟩) dn dc,.slice (some ⟨gi,oi,none⟩) n c]∧Own wr (w.heap.size+1) 29 #[.slice none 0 0,.slice none 0 0]∧Own wr gX 29 #[.slice xa dn xc,.slice va p vc]∧wr.ownsRow w.heap.size 2 1 (.slice xa dn xc) dn (zs.map (Value.int .i64))∧wr.ownsRow w.heap.size 47 1 (.slice va p vc) p vs∧Hid (Vals wr w.heap.size vs (qpTo ims p))) (fun y _=>n - (intOf y).toNat)
 case atStart=>exact ⟨0,none,0,[],Nat.zero_le _,rfl,hb,hA,hR,hO,HD.out,World.ownsRow_nil _ _ _ _,Lib.hid (Vals.nil _ _)⟩
 case round=>
  clear hb hA hR hO HD;obtain ⟨p,va,vc,vs,hp,rfl,hb,hA,hR,hO,hD,hI,hW⟩:=hrel;have hp0:(0:Int)≤(p:Int):=(by omega);have cA:=hA.cell 1;by_cases hin:p<n
  · obtain ⟨b,off,ts,ai,ni,ci,hae,hbl,hc0,hT0,hni,hx⟩:=HFF.out.at_ hin;obtain ⟨rfl,rfl⟩:gi=b∧oi=off:=(by simpa using hae);have HC0:=Lib.hid hc0;have HTK:=Lib.hid (qpTo_succ hx.out);have hni4:ni≤400:=(by have:=H400.out ts (List.mem_of_getElem? hx.out);have:=hT0.len;omega);have hpn:(p:Int)<(n:Int):=(by omega);have HD:=Lib.hid hD;have HI2:=Lib.hid hI;clear hD hI hc0 hae;go_upto_region 5 with fail
    clear cA;replace hA:Own wr.drew w.heap.size 29 #[.slice (some ⟨gd,od,none⟩) dn dc,.slice (some ⟨gi,oi,none⟩) n c]:=hA;replace hR:Own wr.drew (w.heap.size+1) 29 #[.slice none 0 0,.slice none 0 0]:=hR;replace hO:Own wr.drew gX 29 #[.slice xa dn xc,.slice va p vc]:=hO;have hD:wr.drew.ownsRow w.heap.size 2 1 (.slice xa dn xc) dn (zs.map (Value.int .i64)):=HD.out;have hI:wr.drew.ownsRow w.heap.size 47 1 (.slice va p vc) p vs:=HI2.out;replace hW:Hid (Vals wr.drew w.heap.size vs (qpTo ims p)):=Lib.hid (hW.out.keep ((Below.refl _ _).drew));replace hb:Below w.heap.size w wr.drew:=hb.drew;clear HD HI2;refine wp_region_held_drew (S:=(fun w'=>w'.cell? ⟨w.heap.size,1,none⟩=some (.slice (some ⟨gi,oi,none⟩) n c)∧w'.cell? ⟨gi,oi+p,none⟩=some (.slice ai ni ci))) (by kernel_rfl) ?_ (fun _=>?_)
    · ((try dsimp only);(exact ⟨hA.cell 1,(World.cell?_of_block (a:=⟨gi,oi+p,none⟩) (hb.block gi hbl)).trans HC0.out⟩))
    generalize wr.drew=W0d at *;refine hdT 0 ?_;refine hdT 2 ?_;refine hdT 3 ?_;refine hdT 4 ?_;refine hdT 5 ?_;refine hdT 6 ?_;refine wpAnyH_ready (rs:=[1,7]) (by kernel_rfl) (by simp) ?_;refine AllReadyH.cons (hdAt (i:=1) rfl) (fun K hK=>?_) (AllReadyH.cons (hdAt (i:=7) rfl) (fun K hK=>?_) AllReadyH.nil)
    · skip
      have cO1:=hO.cell 1
      (go_simp;try go_wp2_with fail)
      refine hK.out _ _ ?_ (fun _=>?_)
      · ((try dsimp only);(exact ⟨hA.cell 1,(World.cell?_of_block (a:=⟨gi,oi+p,none⟩) (hb.block gi hbl)).trans HC0.out⟩))
      clear hK K
      (try simp only [Act.put,pA,pB,pC])
      refine hdC 7 (fun K hK=>?_);have HLT:=Lib.hid hW.out.lt;have hbs:=hb.size;have hfld:=field_form
      (go_simp;(go_at_call 60;refine (l02Words_c ci 2 (hT0.keep hb) hni4).mono ?_;rintro e W1 ⟨v2,rfl,hV,hbX⟩;obtain ⟨va2,vn2,vc2,rfl⟩:=OwnR.isSlice hV);go_wp2_with fail)
      replace hA:=hA.keep hbX hA.lt;replace hR:=hR.keep hbX hR.lt;replace hD:=row_keep hD hbX;replace hI:=row_keep hI hbX;replace hW:=Lib.hid (hW.out.keep hbX);replace hb:=bT' hb hbX hb.size;replace hO:=hO.keep hbX hO.lt;replace hW:=Lib.hid (hW.out.snoc HLT.out hbs hV);have HON:Hid (∀u∈([Value.slice va2 vn2 vc2]:List Value),u.oneCell'=true):=Lib.hid (by simp [Value.oneCell']);clear HLT hbs hV hfld;clear hbX;refine hK.out _ _ ?_ (fun _=>?_)
      · ((try dsimp only);(exact ⟨hA.cell 1,(World.cell?_of_block (a:=⟨gi,oi+p,none⟩) (hb.block gi hbl)).trans HC0.out⟩))
      clear hK K
      (try simp only [Act.put,pA,pB,pC])
      refine hdC 8 (fun K hK=>?_)
      (go_simp;try go_wp2_with fail)
      have hN:=Own.new W1 47 #[.slice va2 vn2 vc2];have hbX:=bA1 W1 (.cells #[.slice va2 vn2 vc2] 47);replace hA:=hA.keep hbX hA.lt;replace hR:=hR.keep hbX hR.lt;replace hD:=row_keep hD hbX;replace hI:=row_keep hI hbX;replace hW:=Lib.hid (hW.out.keep hbX);replace hb:=bT' hb hbX hb.size;replace hO:=hO.keep hbX hO.lt;generalize W1.alloc (.cells #[.slice va2 vn2 vc2] 47)=W2 at *;generalize hhNg:W1.heap.size=ghN at *;clear hbX hhNg;refine hK.out _ _ ?_ (fun _=>?_)
      · ((try dsimp only);(exact ⟨hA.cell 1,(World.cell?_of_block (a:=⟨gi,oi+p,none⟩) (hb.block gi hbl)).trans HC0.out⟩))
      clear hK K
      (try simp only [Act.put,pA,pB,pC])
      refine hdC 9 (fun K hK=>?_);have HNW:Hid (∀j u,([Value.slice va2 vn2 vc2]:List Value)[j]? = some u→W2.cell? ((⟨ghN,0,none⟩:Addr).add j)=some u):=Lib.hid (fun j u hu=>by rw [Addr.add_mid];exact hN.range j u hu);have HRW:=Lib.hid hI;have hszW:w.heap.size≤W2.heap.size:=hb.size;rw [if_pos (by rfl)];refine wp_append_own_wide _ (.tmp 17) (.tmp 24) 27 rfl w.heap.size 47 ti tz 1 24 Try.underlying27 HI.out HZ.out HS.out HBt.out HZs.out (by omega) (.slice va p vc) p _ rfl HRW.out ⟨ghN,0,none⟩ 1 1 [Value.slice va2 vn2 vc2] rfl rfl HNW.out HON.out (by simp only [maxLen];omega) (by omega) hszW (fun v' W3 h2 h3 h4=>?_);obtain ⟨xa9,xc9,rfl⟩:=row_slice h2;replace hA:=hA.grown h3 (own_ne_row hA HRW.out (by decide));replace hR:=hR.grown h3 (own_ne_row hR HRW.out (by decide));replace hD:=row_grown hD HRW.out (by decide) h3;replace hW:=Lib.hid (hW.out.grown h3 (fun q e=>row_own HRW.out e));replace hb:=grown_below hb h3 (fun j e=>by have:=(HRW.out.lt j e).1;omega) hb.size;replace hO:=hO.grown h3 (own_ne_row hO HRW.out (by decide));have H2:=Lib.hid h2;clear h2 h4 hI hN;clear HNW HRW hszW h3;refine hK.out _ _ ?_ (fun _=>?_)
      · ((try dsimp only);(exact ⟨hA.cell 1,(World.cell?_of_block (a:=⟨gi,oi+p,none⟩) (hb.block gi hbl)).trans HC0.out⟩))
      clear hK K
      (try simp only [Act.put,pA,pB,pC])
      refine hdT 10 ?_;refine hdC 11 (fun K hK=>?_);have cO2:=hO.cell 1;have fO2:=hO.frozen 1
      (go_simp;go_wp2_with fail)
      replace hA:=hA.far (p:=⟨gX,1,none⟩) (by dsimp only;omega) (.slice xa9 (p+1) xc9);replace hR:=hR.far (p:=⟨gX,1,none⟩) (by dsimp only;omega) (.slice xa9 (p+1) xc9);replace hD:=row_far (p:=⟨gX,1,none⟩) hD hO (by decide) (.slice xa9 (p+1) xc9);have H5:=Lib.hid (row_far (p:=⟨gX,1,none⟩) H2.out hO (by decide) (.slice xa9 (p+1) xc9));replace hW:=Lib.hid (vals_far (p:=⟨gX,1,none⟩) hW.out hO (by decide) (.slice xa9 (p+1) xc9));replace hb:=hb.setCell (p:=⟨gX,1,none⟩) (by dsimp only;omega) (.slice xa9 (p+1) xc9);replace hO:=hO.set 1 (.slice xa9 (p+1) xc9);generalize W3.setCell ⟨gX,1,none⟩ (.slice xa9 (p+1) xc9)=W4 at *;refine hK.out _ _ ?_ (fun _=>?_)
      · ((try dsimp only);(exact ⟨hA.cell 1,(World.cell?_of_block (a:=⟨gi,oi+p,none⟩) (hb.block gi hbl)).trans HC0.out⟩))
      clear hK K
      (try simp only [Act.put,pA,pB,pC])
      refine wpAnyH_done (by kernel_rfl) ?_ _;go_wp2_with fail
      go_roundw
      case rel=>exact ⟨p+1,xa9,xc9,vs++[.slice va2 vn2 vc2],by omega,by go_num,hb,hA,hR,hO,hD,H5.out,by rw [HTK.out];exact hW⟩
      case measure=>simp [intOf] <;> omega
    · skip
      have HLT:=Lib.hid hW.out.lt;have hbs:=hb.size;have hfld:=field_form
      (go_simp;(go_at_call 60;refine (l02Words_c ci 2 (hT0.keep hb) hni4).mono ?_;rintro e W5 ⟨v2,rfl,hV,hbX⟩;obtain ⟨va2,vn2,vc2,rfl⟩:=OwnR.isSlice hV);go_wp2_with fail)
      replace hA:=hA.keep hbX hA.lt;replace hR:=hR.keep hbX hR.lt;replace hD:=row_keep hD hbX;replace hI:=row_keep hI hbX;replace hW:=Lib.hid (hW.out.keep hbX);replace hb:=bT' hb hbX hb.size;replace hO:=hO.keep hbX hO.lt;replace hW:=Lib.hid (hW.out.snoc HLT.out hbs hV);have HON:Hid (∀u∈([Value.slice va2 vn2 vc2]:List Value),u.oneCell'=true):=Lib.hid (by simp [Value.oneCell']);clear HLT hbs hV hfld;clear hbX;refine hK.out _ _ ?_ (fun _=>?_)
      · ((try dsimp only);(exact ⟨hA.cell 1,(World.cell?_of_block (a:=⟨gi,oi+p,none⟩) (hb.block gi hbl)).trans HC0.out⟩))
      clear hK K
      (try simp only [Act.put,pA,pB,pC])
      refine wpAnyH_ready (rs:=[1,8]) (by kernel_rfl) (by simp) ?_;refine AllReadyH.cons (hdAt (i:=1) rfl) (fun K hK=>?_) (AllReadyH.cons (hdAt (i:=8) rfl) (fun K hK=>?_) AllReadyH.nil)
      · skip
        have cO1:=hO.cell 1
        (go_simp;try go_wp2_with fail)
        refine hK.out _ _ ?_ (fun _=>?_)
        · ((try dsimp only);(exact ⟨hA.cell 1,(World.cell?_of_block (a:=⟨gi,oi+p,none⟩) (hb.block gi hbl)).trans HC0.out⟩))
        clear hK K
        (try simp only [Act.put,pA,pB,pC])
        refine hdC 8 (fun K hK=>?_)
        (go_simp;try go_wp2_with fail)
        have hN:=Own.new W5 47 #[.slice va2 vn2 vc2];have hbX:=bA1 W5 (.cells #[.slice va2 vn2 vc2] 47);replace hA:=hA.keep hbX hA.lt;replace hR:=hR.keep hbX hR.lt;replace hD:=row_keep hD hbX;replace hI:=row_keep hI hbX;replace hW:=Lib.hid (hW.out.keep hbX);replace hb:=bT' hb hbX hb.size;replace hO:=hO.keep hbX hO.lt;generalize W5.alloc (.cells #[.slice va2 vn2 vc2] 47)=W6 at *;generalize hhNg:W5.heap.size=ghN at *;clear hbX hhNg;refine hK.out _ _ ?_ (fun _=>?_)
        · ((try dsimp only);(exact ⟨hA.cell 1,(World.cell?_of_block (a:=⟨gi,oi+p,none⟩) (hb.block gi hbl)).trans HC0.out⟩))
        clear hK K
        (try simp only [Act.put,pA,pB,pC])
        refine hdC 9 (fun K hK=>?_);have HNW:Hid (∀j u,([Value.slice va2 vn2 vc2]:List Value)[j]? = some u→W6.cell? ((⟨ghN,0,none⟩:Addr).add j)=some u):=Lib.hid (fun j u hu=>by rw [Addr.add_mid];exact hN.range j u hu);have HRW:=Lib.hid hI;have hszW:w.heap.size≤W6.heap.size:=hb.size;rw [if_pos (by rfl)];refine wp_append_own_wide _ (.tmp 17) (.tmp 24) 27 rfl w.heap.size 47 ti tz 1 24 Try.underlying27 HI.out HZ.out HS.out HBt.out HZs.out (by omega) (.slice va p vc) p _ rfl HRW.out ⟨ghN,0,none⟩ 1 1 [Value.slice va2 vn2 vc2] rfl rfl HNW.out HON.out (by simp only [maxLen];omega) (by omega) hszW (fun v' W7 h2 h3 h4=>?_);obtain ⟨xa9,xc9,rfl⟩:=row_slice h2;replace hA:=hA.grown h3 (own_ne_row hA HRW.out (by decide));replace hR:=hR.grown h3 (own_ne_row hR HRW.out (by decide));replace hD:=row_grown hD HRW.out (by decide) h3;replace hW:=Lib.hid (hW.out.grown h3 (fun q e=>row_own HRW.out e));replace hb:=grown_below hb h3 (fun j e=>by have:=(HRW.out.lt j e).1;omega) hb.size;replace hO:=hO.grown h3 (own_ne_row hO HRW.out (by decide));have H2:=Lib.hid h2;clear h2 h4 hI hN;clear HNW HRW hszW h3;refine hK.out _ _ ?_ (fun _=>?_)
        · ((try dsimp only);(exact ⟨hA.cell 1,(World.cell?_of_block (a:=⟨gi,oi+p,none⟩) (hb.block gi hbl)).trans HC0.out⟩))
        clear hK K
        (try simp only [Act.put,pA,pB,pC])
        refine hdT 10 ?_;refine hdC 11 (fun K hK=>?_);have cO2:=hO.cell 1;have fO2:=hO.frozen 1
        (go_simp;go_wp2_with fail)
        replace hA:=hA.far (p:=⟨gX,1,none⟩) (by dsimp only;omega) (.slice xa9 (p+1) xc9);replace hR:=hR.far (p:=⟨gX,1,none⟩) (by dsimp only;omega) (.slice xa9 (p+1) xc9);replace hD:=row_far (p:=⟨gX,1,none⟩) hD hO (by decide) (.slice xa9 (p+1) xc9);have H5:=Lib.hid (row_far (p:=⟨gX,1,none⟩) H2.out hO (by decide) (.slice xa9 (p+1) xc9));replace hW:=Lib.hid (vals_far (p:=⟨gX,1,none⟩) hW.out hO (by decide) (.slice xa9 (p+1) xc9));replace hb:=hb.setCell (p:=⟨gX,1,none⟩) (by dsimp only;omega) (.slice xa9 (p+1) xc9);replace hO:=hO.set 1 (.slice xa9 (p+1) xc9);generalize W7.setCell ⟨gX,1,none⟩ (.slice xa9 (p+1) xc9)=W8 at *;refine hK.out _ _ ?_ (fun _=>?_)
        · ((try dsimp only);(exact ⟨hA.cell 1,(World.cell?_of_block (a:=⟨gi,oi+p,none⟩) (hb.block gi hbl)).trans HC0.out⟩))
        clear hK K
        (try simp only [Act.put,pA,pB,pC])
        refine wpAnyH_done (by kernel_rfl) ?_ _;go_wp2_with fail
        go_roundw
        case rel=>exact ⟨p+1,xa9,xc9,vs++[.slice va2 vn2 vc2],by omega,by go_num,hb,hA,hR,hO,hD,H5.out,by rw [HTK.out];exact hW⟩
        case measure=>simp [intOf] <;> omega
      · skip
        (go_simp;try go_wp2_with fail)
        have hN:=Own.new W5 47 #[.slice va2 vn2 vc2];have hbX:=bA1 W5 (.cells #[.slice va2 vn2 vc2] 47);replace hA:=hA.keep hbX hA.lt;replace hR:=hR.keep hbX hR.lt;replace hD:=row_keep hD hbX;replace hI:=row_keep hI hbX;replace hW:=Lib.hid (hW.out.keep hbX);replace hb:=bT' hb hbX hb.size;replace hO:=hO.keep hbX hO.lt;generalize W5.alloc (.cells #[.slice va2 vn2 vc2] 47)=W9 at *;generalize hhNg:W5.heap.size=ghN at *;clear hbX hhNg;refine hK.out _ _ ?_ (fun _=>?_)
        · ((try dsimp only);(exact ⟨hA.cell 1,(World.cell?_of_block (a:=⟨gi,oi+p,none⟩) (hb.block gi hbl)).trans HC0.out⟩))
        clear hK K
        (try simp only [Act.put,pA,pB,pC])
        refine hdC 1 (fun K hK=>?_);have cO1:=hO.cell 1
        (go_simp;try go_wp2_with fail)
        refine hK.out _ _ ?_ (fun _=>?_)
        · ((try dsimp only);(exact ⟨hA.cell 1,(World.cell?_of_block (a:=⟨gi,oi+p,none⟩) (hb.block gi hbl)).trans HC0.out⟩))
        clear hK K
        (try simp only [Act.put,pA,pB,pC])
        refine hdC 9 (fun K hK=>?_);have HNW:Hid (∀j u,([Value.slice va2 vn2 vc2]:List Value)[j]? = some u→W9.cell? ((⟨ghN,0,none⟩:Addr).add j)=some u):=Lib.hid (fun j u hu=>by rw [Addr.add_mid];exact hN.range j u hu);have HRW:=Lib.hid hI;have hszW:w.heap.size≤W9.heap.size:=hb.size;rw [if_pos (by rfl)];refine wp_append_own_wide _ (.tmp 17) (.tmp 24) 27 rfl w.heap.size 47 ti tz 1 24 Try.underlying27 HI.out HZ.out HS.out HBt.out HZs.out (by omega) (.slice va p vc) p _ rfl HRW.out ⟨ghN,0,none⟩ 1 1 [Value.slice va2 vn2 vc2] rfl rfl HNW.out HON.out (by simp only [maxLen];omega) (by omega) hszW (fun v' W10 h2 h3 h4=>?_);obtain ⟨xa9,xc9,rfl⟩:=row_slice h2;replace hA:=hA.grown h3 (own_ne_row hA HRW.out (by decide));replace hR:=hR.grown h3 (own_ne_row hR HRW.out (by decide));replace hD:=row_grown hD HRW.out (by decide) h3;replace hW:=Lib.hid (hW.out.grown h3 (fun q e=>row_own HRW.out e));replace hb:=grown_below hb h3 (fun j e=>by have:=(HRW.out.lt j e).1;omega) hb.size;replace hO:=hO.grown h3 (own_ne_row hO HRW.out (by decide));have H2:=Lib.hid h2;clear h2 h4 hI hN;clear HNW HRW hszW h3;refine hK.out _ _ ?_ (fun _=>?_)
        · ((try dsimp only);(exact ⟨hA.cell 1,(World.cell?_of_block (a:=⟨gi,oi+p,none⟩) (hb.block gi hbl)).trans HC0.out⟩))
        clear hK K
        (try simp only [Act.put,pA,pB,pC])
        refine hdT 10 ?_;refine hdC 11 (fun K hK=>?_);have cO2:=hO.cell 1;have fO2:=hO.frozen 1
        (go_simp;go_wp2_with fail)
        replace hA:=hA.far (p:=⟨gX,1,none⟩) (by dsimp only;omega) (.slice xa9 (p+1) xc9);replace hR:=hR.far (p:=⟨gX,1,none⟩) (by dsimp only;omega) (.slice xa9 (p+1) xc9);replace hD:=row_far (p:=⟨gX,1,none⟩) hD hO (by decide) (.slice xa9 (p+1) xc9);have H5:=Lib.hid (row_far (p:=⟨gX,1,none⟩) H2.out hO (by decide) (.slice xa9 (p+1) xc9));replace hW:=Lib.hid (vals_far (p:=⟨gX,1,none⟩) hW.out hO (by decide) (.slice xa9 (p+1) xc9));replace hb:=hb.setCell (p:=⟨gX,1,none⟩) (by dsimp only;omega) (.slice xa9 (p+1) xc9);replace hO:=hO.set 1 (.slice xa9 (p+1) xc9);generalize W10.setCell ⟨gX,1,none⟩ (.slice xa9 (p+1) xc9)=W11 at *;refine hK.out _ _ ?_ (fun _=>?_)
        · ((try dsimp only);(exact ⟨hA.cell 1,(World.cell?_of_block (a:=⟨gi,oi+p,none⟩) (hb.block gi hbl)).trans HC0.out⟩))
        clear hK K
        (try simp only [Act.put,pA,pB,pC])
        refine wpAnyH_done (by kernel_rfl) ?_ _;go_wp2_with fail
        go_roundw
        case rel=>exact ⟨p+1,xa9,xc9,vs++[.slice va2 vn2 vc2],by omega,by go_num,hb,hA,hR,hO,hD,H5.out,by rw [HTK.out];exact hW⟩
        case measure=>simp [intOf] <;> omega
  · have he:p=n:=(by omega);subst he;have k0:=hO.cell 0;have k1:=hO.cell 1;have r0:=hR.cell 0;have r1:=hR.cell 1;have f0:=hR.frozen 0;have f1:=hR.frozen 1;go_wp2_with fail
    have hq:qpTo ims p=ims.map (wordsOf 2):=(by rw [qpTo,List.take_of_length_le (Nat.le_of_eq HLn.out)]);rw [hq] at hW;have s2:=((hR.set 0 (.slice xa dn xc)).set 1 (.slice va p vc));have q1:=row_far (p:=⟨w.heap.size+1,1,none⟩) (row_far (p:=⟨w.heap.size+1,0,none⟩) hD hR (by decide) (.slice xa dn xc)) (hR.set 0 _) (by decide) (.slice va p vc);have q2:=row_far (p:=⟨w.heap.size+1,1,none⟩) (row_far (p:=⟨w.heap.size+1,0,none⟩) hI hR (by decide) (.slice xa dn xc)) (hR.set 0 _) (by decide) (.slice va p vc);have q3:=vals_far (p:=⟨w.heap.size+1,1,none⟩) (vals_far (p:=⟨w.heap.size+1,0,none⟩) hW.out hR (by decide) (.slice xa dn xc)) (hR.set 0 _) (by decide) (.slice va p vc);have q4:=(hb.setCell (p:=⟨w.heap.size+1,0,none⟩) (by dsimp only;omega) (.slice xa dn xc)).setCell (p:=⟨w.heap.size+1,1,none⟩) (by dsimp only;omega) (.slice va p vc);obtain ⟨d1,d2,hdd,hDV⟩:=OwnV.of_row q1;simp only [Value.slice.injEq] at hdd;obtain ⟨rfl,-,rfl⟩:=hdd;obtain ⟨i1,i2,hii,hIF⟩:=q3.ownF_row (by rw [List.length_map];exact HLn.out) q2 (qp_tm HTT.out);simp only [Value.slice.injEq] at hii;obtain ⟨rfl,-,rfl⟩:=hii;exact bodyPost_ret (results_cell_row rfl _ _ (w.heap.size+1) 29 #[.slice xa dn xc,.slice va p vc] (0,0) _ rfl s2 Try.underlying29 rfl Try.info_alg) rfl ⟨xa,dn,xc,va,p,vc,rfl,hDV,hIF,q4⟩
set_option maxHeartbeats 4000000 in
theorem QuadraticAlgebra_s {w : World} {gd od dn gi oi n : Nat} {zs : List Int} {ims : List (List Tm)} (dc c : Nat) (hd : Ints w (some ⟨gd, od, none⟩) dn zs) (hdn : dn ≤ 1048576) (hN : FrmsN w (some ⟨gi, oi, none⟩) n ims) (hn : n ≤ 1048576) (hL : ∀ im ∈ ims, (im.length : Int) ≤ 1048576) (hT : ∀ ts ∈ ims, ∀ t ∈ ts, IsTm t) :
    Calls Try.prog 15 #[.agg #[.slice (some ⟨gd,od,none⟩) dn dc,.slice (some ⟨gi,oi,none⟩) n c]] w fun e w'=>∃a an ac b bn bc,e=.returned (.tuple #[.agg #[.slice a an ac,.slice b bn bc],.int .i64 (mnE zs ims)])∧OwnV w' w.heap.size w'.heap.size a an (qaD zs ims)∧OwnF w' w.heap.size w'.heap.size b bn (qaI zs ims)∧Below w.heap.size w w':=by
 have HLL:=Lib.hid hL
 have HTT:=Lib.hid hT
 have HNN:=Lib.hid hN
 have HLn:=Lib.hid hN.1
 have HFF:=Lib.hid (hN.frmsS hL)
 have HDD:=Lib.hid hd
 have HDL:=Lib.hid hd.len
 clear hL hT hN hd
 have hA:=(Own.new w 29 #[.slice (some ⟨gd,od,none⟩) dn dc,.slice (some ⟨gi,oi,none⟩) n c]).alloc (.cells #[.slice none 0 0,.slice none 0 0] 29)
 have hR:=Own.new (w.alloc (.cells #[.slice (some ⟨gd,od,none⟩) dn dc,.slice (some ⟨gi,oi,none⟩) n c] 29)) 29 #[.slice none 0 0,.slice none 0 0]
 rw [sAl] at hR
 have hb:=bTn (bA1 w (.cells #[.slice (some ⟨gd,od,none⟩) dn dc,.slice (some ⟨gi,oi,none⟩) n c] 29)) (bA1 _ (.cells #[.slice none 0 0,.slice none 0 0] 29))
 obtain ⟨E,hE⟩:∃E,mnE zs ims=E:=⟨_,rfl⟩
 have HM:=Lib.hid hE
 have HC:=Lib.hid (mn_cases zs ims)
 clear hE
 go_enter Try.func15,Try.ntmps15
 go_upto_region 1 with fail
 generalize (w.alloc (.cells #[.slice (some ⟨gd,od,none⟩) dn dc,.slice (some ⟨gi,oi,none⟩) n c] 29)).alloc (.cells #[.slice none 0 0,.slice none 0 0] 29)=w0 at *
 have hlR:=hR.lt
 have c0:=hA.cell 0
 have c1:=hA.cell 1
 by_cases h0:E=0
 · subst h0
   have HAL:Hid (isAlg zs ims=true):=by
    rcases HC.out with h | h | h
    · have:=HM.out;omega
    · have:=HM.out;omega
    · exact Lib.hid h.2.1
   go_wp2_with fail
   refine (l10Minimal_c dc c (HDD.out.keep hb) hdn (HFF.out.keep hb) hn HLL.out).mono ?_;rintro e w1 ⟨rfl,hb1⟩;rw [HM.out];replace hA:=hA.keep hb1 hA.lt;replace hR:=hR.keep hb1 hR.lt;replace hb:=bT' hb hb1 hb.size;clear hb1 c0 c1 hlR;have hlR:=hR.lt;have c0:=hA.cell 0;have c1:=hA.cell 1;go_wp2_with fail
   refine (l10Quadratic_s dc c (HDD.out.keep hb) hdn (HNN.out.keep hb) hn HLL.out HTT.out HAL.out).mono ?_;rintro e w3 ⟨a,an,ac,b,bn,bc,rfl,hV,hVF,hb3⟩;obtain rfl:dn=an:=(by have:=hV.1;have:=HDL.out;omega);replace hA:=hA.keep hb3 hA.lt;replace hR:=hR.keep hb3 hR.lt;replace hb:=bT' hb hb3 hb.size;clear hb3 c0 c1;replace hV:=hV.weaken (lo':=w.heap.size+2) (by omega) (Nat.le_refl _);replace hVF:=hVF.weaken (lo':=w.heap.size+2) (by omega) (Nat.le_refl _);clear hlR;have r0:=hR.cell 0;have r1:=hR.cell 1;have f0:=hR.frozen 0;have f1:=hR.frozen 1;go_wp2_with fail
   have hTo:Touch (fun k=>k=w.heap.size+1) w3 ((w3.setCell ⟨w.heap.size+1,0,none⟩ (.slice a dn ac)).setCell ⟨w.heap.size+1,1,none⟩ (.slice b bn bc)):=Touch.of_only (((Only.refl (w.heap.size+1) w3).set 0 _).set 1 _);replace hR:=(hR.set 0 (.slice a dn ac)).set 1 (.slice b bn bc);replace hV:=(hV.touch hTo (fun q h1 h2=>by omega)).weaken (Nat.le_refl _) hTo.below.size;replace hVF:=(hVF.touch hTo (fun q h1 h2=>by omega)).weaken (Nat.le_refl _) hTo.below.size;replace hb:=(hb.setCell (p:=⟨w.heap.size+1,0,none⟩) (by dsimp only;omega) (.slice a dn ac)).setCell (p:=⟨w.heap.size+1,1,none⟩) (by dsimp only;omega) (.slice b bn bc);exact bodyPost_ret (results_row2 rfl _ _ (w.heap.size+1) 29 #[.slice a dn ac,.slice b bn bc] (0,0) _ rfl hR Try.underlying29 rfl Try.info_alg) rfl ⟨a,dn,ac,b,bn,bc,by rw [HM.out];rfl,by rw [(qa_yes HM.out).1];exact hV.weaken (by omega) (Nat.le_refl _),by rw [(qa_yes HM.out).2];exact hVF.weaken (by omega) (Nat.le_refl _),hb⟩
 · have HNE:Hid (¬mnE zs ims=0):=Lib.hid (by rw [HM.out];exact h0);have hE0:(E==0)=false:=(by simpa using h0);go_wp2_with fail
   refine (l10Minimal_c dc c (HDD.out.keep hb) hdn (HFF.out.keep hb) hn HLL.out).mono ?_;rintro e w1 ⟨rfl,hb1⟩;rw [HM.out];replace hR:=hR.keep hb1 hR.lt;replace hb:=bT' hb hb1 hb.size;clear hb1 c0 c1 hA;have r0:=hR.cell 0;have r1:=hR.cell 1;have f0:=hR.frozen 0;have f1:=hR.frozen 1;go_wp2_with fail
   have q:=(hR.set 0 (.slice none 0 0)).set 1 (.slice none 0 0);exact bodyPost_ret (results_row2 rfl _ _ (w.heap.size+1) 29 #[.slice none 0 0,.slice none 0 0] (0,0) _ rfl q Try.underlying29 rfl Try.info_alg) rfl ⟨none,0,0,none,0,0,by rw [HM.out];rfl,by rw [(qa_ne HNE.out).1];exact OwnV.none_,by rw [(qa_ne HNE.out).2];exact OwnF.none_,(hb.setCell (p:=⟨w.heap.size+1,0,none⟩) (by dsimp only;omega) _).setCell (p:=⟨w.heap.size+1,1,none⟩) (by dsimp only;omega) _⟩
end Go.Proofs.Ytndnkeijddagiaa
