
import Derived.Test.YtifcfoijcodjbaaGreatAskC
import Derived.Test.YtifcfoijcodjbaaGreatRows3
import Derived.Test.YtifcfoijcodjbaaGreatNewA
namespace Go.Proofs.YtifcfoijcodjbaaGreat
set_option maxRecDepth 100000
open Go.RowKit Go.Deep
theorem cellsFm {w:World} {b o rb rk:Nat} {p0 p1 p2 p3 p4 p5 p6 p7 x:Int} (h:w.rangeAt b o (mcells [p0,p1,p2,p3,p4,p5,p6,p7])) (hx:w.cell? ⟨rb,rk,none⟩=some (.int .i64 x)):w.cell? ⟨b,o,none⟩=some (.int .u8 p0)∧w.cell? ⟨b,o+1,none⟩=some (.int .u8 p1)∧w.cell? ⟨b,o+2,none⟩=some (.int .u8 p2)∧w.cell? ⟨b,o+3,none⟩=some (.int .u8 p3)∧w.cell? ⟨b,o+4,none⟩=some (.int .u8 p4)∧w.cell? ⟨b,o+5,none⟩=some (.int .u8 p5)∧w.cell? ⟨b,o+6,none⟩=some (.int .u8 p6)∧w.cell? ⟨b,o+7,none⟩=some (.int .u8 p7)∧w.cell? ⟨rb,rk,none⟩=some (.int .i64 x):=
 ⟨h 0 _ rfl,h 1 _ rfl,h 2 _ rfl,h 3 _ rfl,h 4 _ rfl,h 5 _ rfl,h 6 _ rfl,h 7 _ rfl,hx⟩
set_option maxHeartbeats 4000000 in
theorem l03Form_c {w : World} {ca ra : Option Addr} {n : Nat} {V : List (List Int)} {R : List Int} (cc rc : Nat) (hM : Mos w ca n V) (hR : Ints w ra n R) (_hRb : ∀ x ∈ R, 0 ≤ x ∧ x ≤ 10006) (hn : n ≤ 120) :
    Calls Tryz.prog 128 #[.slice ra n rc,.slice ca n cc] w fun e w'=>∃v,e=.returned (.agg #[v])∧OwnR w' w.heap.size v (fmR V R)∧Below w.heap.size w w':=by
 have HVL:=Lib.hid hM.1
 have HRL:=Lib.hid hR.len
 have HRD:=Lib.hid hR
 have hR2:=(Own.new w 39 #[.slice none 0 0]).alloc (.cells #[.slice none 0 0] 39)
 have hG2:=Own.new (w.alloc (.cells #[.slice none 0 0] 39)) 39 #[.slice none 0 0]
 rw [sAl] at hG2
 have hb02:=bTn (bA1 w (.cells #[.slice none 0 0] 39)) (bA1 _ (.cells #[.slice none 0 0] 39))
 go_enter Tryz.func128,Tryz.ntmps128
 go_upto_region 2 with fail
 generalize (w.alloc (.cells #[.slice none 0 0] 39)).alloc (.cells #[.slice none 0 0] 39)=w2 at *
 obtain ⟨g8,hg8⟩:∃g8,w.heap.size+1=g8:=⟨_,rfl⟩
 rw [hg8] at hG2
 have hl1:w.heap.size<g8:=by omega
 try rw [hg8]
 clear hg8
 go_upto_region 3 with fail
 go_loopw [6] (fun y wr=>∃(k:Nat) (v:Value),k≤n∧y=.int .i64 k∧Below w.heap.size w wr∧Own wr w.heap.size 39 #[.slice none 0 0]∧Own wr g8 39 #[v]∧OwnForm wr (g8+1) v (fmR (V.take k) (R.take k))) (fun y _=>n - (intOf y).toNat)
 case atStart=>exact ⟨0,.slice none 0 0,Nat.zero_le _,rfl,hb02,hR2,hG2,by rw [fmR_zero];exact ⟨World.ownsRow_nil _ _ _ _,by simp⟩⟩
 case round=>
  clear hb02 hR2 hG2;obtain ⟨k,v,hk,rfl,hb,hF,hG,hO⟩:=hrel;obtain ⟨va,vn,vc,rfl⟩:=hO.isSlice;have hk0:(0:Int)≤(k:Int):=(by omega);by_cases hlt:k<n
  · have hkn:(k:Int)<(n:Int):=(by omega);obtain ⟨rb,ro,x,rfl,hrl,hcx0,hx⟩:=HRD.out.at_ hlt;have hcx:=(World.cell?_of_block (a:=⟨rb,ro+k,none⟩) (hb.block rb hrl)).trans hcx0;have HX:=Lib.hid hx.out;obtain ⟨b,o,mt,rfl,hbl,hr0,hmt,hm⟩:=hM.at_ hlt;have HMM:=Lib.hid hm.out;clear hx hm;obtain ⟨p0,p1,p2,p3,p4,p5,p6,p7,rfl⟩:=mono8 hmt;by_cases hx0:x=0
    · subst hx0;go_wp2_with fail
      go_roundw
      case rel=>exact ⟨k+1,.slice va vn vc,by omega,by go_num,hb,hF,hG,by rw [fmR_no HMM.out HX.out];exact hO⟩
      case measure=>simp [intOf] <;> omega
    · have hxb:(x != 0)=true:=(by simpa using hx0);have hGc:Own wr.drew g8 39 #[.slice va vn vc]:=hG;have hFc:Own wr.drew w.heap.size 39 #[.slice none 0 0]:=hF;have hOc:OwnForm wr.drew (g8+1) (.slice va vn vc) (fmR (V.take k) (R.take k)):=hO;have hbc:Below w.heap.size w wr.drew:=hb.drew;have hrc:=rgK hr0 (hbc.block b hbl);have hcc:wr.drew.cell? ⟨rb,ro+k,none⟩=some (.int .i64 x):=hcx;have cG:=hGc.cell 0
      have hnews:∀j u,([Value.int .u8 p0,.int .u8 p1,.int .u8 p2,.int .u8 p3,.int .u8 p4,.int .u8 p5,.int .u8 p6,.int .u8 p7,.int .i64 x]:List Value)[j]? = some u→(wr.drew.alloc (.cells #[.int .u8 p0,.int .u8 p1,.int .u8 p2,.int .u8 p3,.int .u8 p4,.int .u8 p5,.int .u8 p6,.int .u8 p7,.int .i64 x] 158)).cell? ((⟨wr.heap.size,0,none⟩:Addr).add j)=some u:=fun j u hu=>by
       rw [Addr.add_mid];exact (Own.new wr.drew 158 #[.int .u8 p0,.int .u8 p1,.int .u8 p2,.int .u8 p3,.int .u8 p4,.int .u8 p5,.int .u8 p6,.int .u8 p7,.int .i64 x]).range j u hu
      have hone:∀u∈([Value.int .u8 p0,.int .u8 p1,.int .u8 p2,.int .u8 p3,.int .u8 p4,.int .u8 p5,.int .u8 p6,.int .u8 p7,.int .i64 x]:List Value),u.oneCell'=true:=by simp [Value.oneCell']
      have hpl:(fmR (V.take k) (R.take k)).length≤400:=by
       have h1:=fmR_len (V.take k) (R.take k);rw [List.length_take] at h1;omega
      obtain ⟨ti,tz,hti,htz,hts,htb,htzs⟩:=Tryz.info_termA;have HN:=Lib.hid hnews;have HO:=Lib.hid hone;have HP:=Lib.hid hpl;have HI:=Lib.hid hti;have HZ:=Lib.hid htz;have HS:=Lib.hid hts;have HBt:=Lib.hid htb;have HZs:=Lib.hid htzs;clear hnews hone hpl hti htz hts htb htzs;go_upto_region 6 with fail
      clear hF hG hO hb;refine wp_region_held_drew (S:=(fun w'=>w'.cell? ⟨b,o+k * 8,none⟩=some (.int .u8 p0)∧w'.cell? ⟨b,o+k * 8+1,none⟩=some (.int .u8 p1)∧w'.cell? ⟨b,o+k * 8+2,none⟩=some (.int .u8 p2)∧w'.cell? ⟨b,o+k * 8+3,none⟩=some (.int .u8 p3)∧w'.cell? ⟨b,o+k * 8+4,none⟩=some (.int .u8 p4)∧w'.cell? ⟨b,o+k * 8+5,none⟩=some (.int .u8 p5)∧w'.cell? ⟨b,o+k * 8+6,none⟩=some (.int .u8 p6)∧w'.cell? ⟨b,o+k * 8+7,none⟩=some (.int .u8 p7)∧w'.cell? ⟨rb,ro+k,none⟩=some (.int .i64 x))) (by kernel_rfl) ?_ (fun hHeld=>?_)
      · ((try dsimp only);(exact cellsFm hrc hcc))
      refine hdT 0 ?_;refine hdT 2 ?_;refine hdT 3 ?_;refine hdT 4 ?_;refine hdT 5 ?_;refine hdT 6 ?_;refine hdT 7 ?_;refine hdT 8 ?_;refine hdT 9 ?_;refine hdT 10 ?_;refine wpAnyH_ready (rs:=[1,11]) (by kernel_rfl) (by simp) ?_;refine AllReadyH.cons (hdAt (i:=1) rfl) (fun K hK=>?_) (AllReadyH.cons (hdAt (i:=11) rfl) (fun K hK=>?_) AllReadyH.nil)
      · (go_simp;try go_wp2_with fail)
        refine hK.out _ _ ?_ (fun _=>?_)
        · ((try dsimp only);(exact cellsFm hrc hcc))
        clear hK K
        (try simp only [Act.put,pA,pB,pC])
        refine hdC 11 (fun K hK=>?_)
        (go_simp;try go_wp2_with fail)
        have hFa:=hFc.alloc (.cells #[.int .u8 p0,.int .u8 p1,.int .u8 p2,.int .u8 p3,.int .u8 p4,.int .u8 p5,.int .u8 p6,.int .u8 p7,.int .i64 x] 158);have hGa:=hGc.alloc (.cells #[.int .u8 p0,.int .u8 p1,.int .u8 p2,.int .u8 p3,.int .u8 p4,.int .u8 p5,.int .u8 p6,.int .u8 p7,.int .i64 x] 158);have hOa:=(hOc.keep (bA1 wr.drew (.cells #[.int .u8 p0,.int .u8 p1,.int .u8 p2,.int .u8 p3,.int .u8 p4,.int .u8 p5,.int .u8 p6,.int .u8 p7,.int .i64 x] 158))).1;have hba:=bT' hbc (bA1 wr.drew (.cells #[.int .u8 p0,.int .u8 p1,.int .u8 p2,.int .u8 p3,.int .u8 p4,.int .u8 p5,.int .u8 p6,.int .u8 p7,.int .i64 x] 158)) hbc.size;have hra:=rgK hr0 (hba.block b hbl);have hca:=(World.cell?_of_block (a:=⟨rb,ro+k,none⟩) (hba.block rb hrl)).trans hcx0;refine hK.out _ _ ?_ (fun _=>?_)
        · ((try dsimp only);(exact cellsFm hra hca))
        clear hK K
        (try simp only [Act.put,pA,pB,pC])
        refine hdC 12 (fun K hK=>?_);rw [if_pos (by rfl)];refine wp_append_own_wide _ (.tmp 20) (.tmp 30) 37 rfl (g8+1) 158 ti tz 9 16 Tryz.underlying37 HI.out HZ.out HS.out HBt.out HZs.out (by omega) (.slice va vn vc) _ _ rfl hOa ⟨wr.heap.size,0,none⟩ 1 1 [Value.int .u8 p0,.int .u8 p1,.int .u8 p2,.int .u8 p3,.int .u8 p4,.int .u8 p5,.int .u8 p6,.int .u8 p7,.int .i64 x] rfl rfl HN.out HO.out (by have:=HP.out;simp only [maxLen];omega) (by have:=HP.out;omega) (Nat.succ_le_of_lt hGa.lt) (fun v' w' h2 h3 h4=>?_)
        obtain ⟨gg,vk,cp,rfl⟩:∃gg vk cp,v'=.slice gg vk cp:=by
         rcases h2.2 with ⟨h0,_⟩ | ⟨g,cap,cur,hv,_⟩
         · exact ⟨_,_,_,h0⟩
         · exact ⟨_,_,_,hv⟩
        have hF7:=hFa.grown h3 (fun e=>by have:=(hOa.lt _ e.symm).1;omega);have hG7:=hGa.grown h3 (fun e=>by have:=(hOa.lt _ e.symm).1;omega);have hb7:=grown_below hba h3 (fun q e=>by have:=(hOa.lt q e).1;omega) hba.size;have hr7:=rgK hr0 (hb7.block b hbl);have hc7:=(World.cell?_of_block (a:=⟨rb,ro+k,none⟩) (hb7.block rb hrl)).trans hcx0;have c7:=hG7.cell 0;have f7:=hG7.frozen 0;have H2:=Lib.hid h2;have H4:=Lib.hid h4;clear h2 h3 h4 hOa hFa hGa hba;refine hK.out _ _ ?_ (fun _=>?_)
        · ((try dsimp only);(exact cellsFm hr7 hc7))
        clear hK K
        (try simp only [Act.put,pA,pB,pC])
        refine hdT 13 ?_;refine hdC 14 (fun K hK=>?_)
        (go_simp;go_wp2_with fail)
        have hF8:=hF7.far (p:=⟨g8,0,none⟩) (by dsimp only;omega) (.slice gg vk cp);have hb8:=hb7.setCell (p:=⟨g8,0,none⟩) (by dsimp only;omega) (.slice gg vk cp);have hr8:=rgK hr0 (hb8.block b hbl);have hc8:=(World.cell?_of_block (a:=⟨rb,ro+k,none⟩) (hb8.block rb hrl)).trans hcx0;refine hK.out _ _ ?_ (fun _=>?_)
        · ((try dsimp only);(exact cellsFm hr8 hc8))
        clear hK K
        (try simp only [Act.put,pA,pB,pC])
        refine wpAnyH_done (by kernel_rfl) ?_ _;go_wp2_with fail
        go_roundw
        case rel=>
         refine ⟨k+1,.slice gg vk cp,by omega,by go_num,hb8,hF8,hG7.set 0 _,?_⟩;rw [fmR_yes HMM.out HX.out hx0];exact OwnForm.set (p:=⟨g8,0,none⟩) (OwnForm.of H2.out (by simp) (by rw [rcells_append];rfl) ⟨fun e=>absurd (H4.out.1 e).2 (by omega),fun e=>by omega⟩) (by dsimp only;omega) _
        case measure=>simp [intOf] <;> omega
      · (go_simp;try go_wp2_with fail)
        have hFa:=hFc.alloc (.cells #[.int .u8 p0,.int .u8 p1,.int .u8 p2,.int .u8 p3,.int .u8 p4,.int .u8 p5,.int .u8 p6,.int .u8 p7,.int .i64 x] 158);have hGa:=hGc.alloc (.cells #[.int .u8 p0,.int .u8 p1,.int .u8 p2,.int .u8 p3,.int .u8 p4,.int .u8 p5,.int .u8 p6,.int .u8 p7,.int .i64 x] 158);have hOa:=(hOc.keep (bA1 wr.drew (.cells #[.int .u8 p0,.int .u8 p1,.int .u8 p2,.int .u8 p3,.int .u8 p4,.int .u8 p5,.int .u8 p6,.int .u8 p7,.int .i64 x] 158))).1;have hba:=bT' hbc (bA1 wr.drew (.cells #[.int .u8 p0,.int .u8 p1,.int .u8 p2,.int .u8 p3,.int .u8 p4,.int .u8 p5,.int .u8 p6,.int .u8 p7,.int .i64 x] 158)) hbc.size;have hra:=rgK hr0 (hba.block b hbl);have hca:=(World.cell?_of_block (a:=⟨rb,ro+k,none⟩) (hba.block rb hrl)).trans hcx0;refine hK.out _ _ ?_ (fun _=>?_)
        · ((try dsimp only);(exact cellsFm hra hca))
        clear hK K
        (try simp only [Act.put,pA,pB,pC])
        have cGa:(wr.alloc (.cells #[.int .u8 p0,.int .u8 p1,.int .u8 p2,.int .u8 p3,.int .u8 p4,.int .u8 p5,.int .u8 p6,.int .u8 p7,.int .i64 x] 158)).drew.cell? ⟨g8,0,none⟩=some (.slice va vn vc):=hGa.cell 0;refine hdC 1 (fun K hK=>?_)
        (go_simp;try go_wp2_with fail)
        refine hK.out _ _ ?_ (fun _=>?_)
        · ((try dsimp only);(exact cellsFm hra hca))
        clear hK K
        (try simp only [Act.put,pA,pB,pC])
        refine hdC 12 (fun K hK=>?_);rw [if_pos (by rfl)];refine wp_append_own_wide _ (.tmp 20) (.tmp 30) 37 rfl (g8+1) 158 ti tz 9 16 Tryz.underlying37 HI.out HZ.out HS.out HBt.out HZs.out (by omega) (.slice va vn vc) _ _ rfl hOa ⟨wr.heap.size,0,none⟩ 1 1 [Value.int .u8 p0,.int .u8 p1,.int .u8 p2,.int .u8 p3,.int .u8 p4,.int .u8 p5,.int .u8 p6,.int .u8 p7,.int .i64 x] rfl rfl HN.out HO.out (by have:=HP.out;simp only [maxLen];omega) (by have:=HP.out;omega) (Nat.succ_le_of_lt hGa.lt) (fun v' w' h2 h3 h4=>?_)
        obtain ⟨gg,vk,cp,rfl⟩:∃gg vk cp,v'=.slice gg vk cp:=by
         rcases h2.2 with ⟨h0,_⟩ | ⟨g,cap,cur,hv,_⟩
         · exact ⟨_,_,_,h0⟩
         · exact ⟨_,_,_,hv⟩
        have hF7:=hFa.grown h3 (fun e=>by have:=(hOa.lt _ e.symm).1;omega);have hG7:=hGa.grown h3 (fun e=>by have:=(hOa.lt _ e.symm).1;omega);have hb7:=grown_below hba h3 (fun q e=>by have:=(hOa.lt q e).1;omega) hba.size;have hr7:=rgK hr0 (hb7.block b hbl);have hc7:=(World.cell?_of_block (a:=⟨rb,ro+k,none⟩) (hb7.block rb hrl)).trans hcx0;have c7:=hG7.cell 0;have f7:=hG7.frozen 0;have H2:=Lib.hid h2;have H4:=Lib.hid h4;clear h2 h3 h4 hOa hFa hGa hba;refine hK.out _ _ ?_ (fun _=>?_)
        · ((try dsimp only);(exact cellsFm hr7 hc7))
        clear hK K
        (try simp only [Act.put,pA,pB,pC])
        refine hdT 13 ?_;refine hdC 14 (fun K hK=>?_)
        (go_simp;go_wp2_with fail)
        have hF8:=hF7.far (p:=⟨g8,0,none⟩) (by dsimp only;omega) (.slice gg vk cp);have hb8:=hb7.setCell (p:=⟨g8,0,none⟩) (by dsimp only;omega) (.slice gg vk cp);have hr8:=rgK hr0 (hb8.block b hbl);have hc8:=(World.cell?_of_block (a:=⟨rb,ro+k,none⟩) (hb8.block rb hrl)).trans hcx0;refine hK.out _ _ ?_ (fun _=>?_)
        · ((try dsimp only);(exact cellsFm hr8 hc8))
        clear hK K
        (try simp only [Act.put,pA,pB,pC])
        refine wpAnyH_done (by kernel_rfl) ?_ _;go_wp2_with fail
        go_roundw
        case rel=>
         refine ⟨k+1,.slice gg vk cp,by omega,by go_num,hb8,hF8,hG7.set 0 _,?_⟩;rw [fmR_yes HMM.out HX.out hx0];exact OwnForm.set (p:=⟨g8,0,none⟩) (OwnForm.of H2.out (by simp) (by rw [rcells_append];rfl) ⟨fun e=>absurd (H4.out.1 e).2 (by omega),fun e=>by omega⟩) (by dsimp only;omega) _
        case measure=>simp [intOf] <;> omega
  · have he:k=n:=(by omega);subst he;have c3:=hG.cell 0;have cR:=hF.cell 0;have fR:=hF.frozen 0;go_wp2_with fail
    have q:=hF.set 0 (.slice va vn vc)
    have q3:OwnR (wr.setCell ⟨w.heap.size,0,none⟩ (.slice va vn vc)) w.heap.size (.slice va vn vc) (fmR V R):=by
     have:=(hO.set (p:=⟨w.heap.size,0,none⟩) (by dsimp only;omega) (.slice va vn vc)).r.weaken (B':=w.heap.size) (by omega)
     rwa [List.take_of_length_le (Nat.le_of_eq HVL.out),List.take_of_length_le (Nat.le_of_eq HRL.out)] at this
    exact bodyPost_ret (results_cell_row rfl _ _ w.heap.size 39 #[.slice va vn vc] (0,0) _ rfl q Tryz.underlying39 rfl Tryz.info_form) rfl ⟨_,rfl,q3,hb.setCell (p:=⟨w.heap.size,0,none⟩) (by dsimp only;omega) _⟩
theorem frmsS_tm {n:Nat} {V R:List (List Int)} (hV:∀m∈V,IsMono m) (hR:∀r∈R,RowOk n r):∀ts∈R.map (fmR V),∀t∈ts,IsTm t:=fun ts hts=>by
 obtain ⟨r,hr,rfl⟩:=List.mem_map.1 hts
 exact fmR_tm hV (hR r hr).bd
theorem frmsS_succ {V R:List (List Int)} {k:Nat} {r:List Int} (h:R[k]? = some r):(R.take (k+1)).map (fmR V)=(R.take k).map (fmR V)++[fmR V r]:=by
 rw [List.take_add_one,h,List.map_append]
 rfl
set_option maxHeartbeats 4000000 in
theorem l03Forms_c {w : World} {ca ra : Option Addr} {n N : Nat} {V R : List (List Int)} (cc rc : Nat) (hM : Mos w ca n V) (hT : Tab w ra N R) (hok : ∀ r ∈ R, RowOk n r) (hn : n ≤ 120) (hN : N ≤ 1000) :
    Calls Tryz.prog 131 #[.slice ra N rc,.slice ca n cc] w fun e w'=>∃ra' rc',e=.returned (.slice ra' N rc')∧OwnF w' w.heap.size w'.heap.size ra' N (R.map (fmR V))∧Below w.heap.size w w':=by
 obtain ⟨ti,tz,hti,htz,hts,htb,htzs⟩:=Tryz.info_formA
 have HI:=Lib.hid hti
 have HZ:=Lib.hid htz
 have HS:=Lib.hid hts
 have HBt:=Lib.hid htb
 have HZs:=Lib.hid htzs
 have HM:=Lib.hid hM
 have HT:=Lib.hid hT
 have HN:=Lib.hid hT.1
 have HOK:=Lib.hid hok
 clear hti htz hts htb htzs hM hT hok
 have hR0:(w.alloc (.cells #[] 39)).ownsRow w.heap.size 39 1 (.slice (some ⟨w.heap.size,0,none⟩) 0 0) 0 []:=⟨rfl,Or.inr ⟨w.heap.size,0,#[],rfl,Nat.le_refl _,heap_alloc_new w _,Nat.le_refl _,by simp [maxLen],rfl,rfl⟩⟩
 have hb0:=bA1 w (.cells #[] 39)
 go_enter Tryz.func131,Tryz.ntmps131
 go_upto_region 2 with fail
 generalize w.alloc (.cells #[] 39)=w2 at *
 obtain ⟨gO,hgO⟩:∃gO,w.heap.size=gO:=⟨_,rfl⟩
 rw [hgO] at hR0 hb0 ⊢
 have HGO:=Lib.hid hgO
 clear hgO
 have HW0:Hid (Vals w2 gO [] ((R.take 0).map (fmR V))):=Lib.hid (Vals.nil _ _)
 go_upto_region 3 with fail
 go_loopw [5,6] (fun o y wr=>∃(k:Nat) (oa:Option Addr) (oc:Nat) (vs:List Value),k≤N∧y=.int .i64 k∧o=.slice oa k oc∧Below gO w wr∧wr.ownsRow gO 39 1 (.slice oa k oc) k vs∧Hid (Vals wr gO vs ((R.take k).map (fmR V)))) (fun _ y _=>N - (intOf y).toNat)
 case atStart=>exact ⟨0,_,_,[],Nat.zero_le _,rfl,rfl,hb0,hR0,HW0⟩
 case round=>
  clear hb0 hR0 HW0;obtain ⟨k,oa,oc,vs,hk,rfl,rfl,hb,hR,HW⟩:=hrel;have HR:=Lib.hid hR;clear hR;by_cases hin:k<N
  · obtain ⟨b1,off,s,ai,mi,ci,rfl,hbl,hcs,hIs,hx⟩:=(HT.out.keep (by rw [HGO.out];exact hb)).at_ hin;have hsk:=HOK.out s (List.mem_of_getElem? hx.out);obtain rfl:n=mi:=(by have:=hIs.len;have:=hsk.len;omega);have HQ:=Lib.hid (frmsS_succ (V:=V) hx.out);have HSB:=Lib.hid hsk.bd;have hk0:(0:Int)≤(k:Int):=(by omega);have hkn:(k:Int)<(N:Int):=(by omega);clear hx hsk;go_wp2_with fail
    refine (l03Form_c cc ci (HM.out.keep (by rw [HGO.out];exact hb)) hIs HSB.out hn).mono ?_;rintro e w4 ⟨v,rfl,hV,hb5⟩;obtain ⟨va,vn,vc,rfl⟩:=hV.isSlice;have hsz:gO≤wr.heap.size:=(by have:=hb.size;have:=HGO.out;omega);have hb6:=bT' hb hb5 hsz;have hR6:w4.ownsRow gO 39 1 (.slice oa k oc) k vs:=World.ownsRow.kept HR.out (row:=none) ⟨hb5.os,hb5.tape,hb5.output,hb5.size,fun j hj _=>hb5.block j hj⟩ (by cases oa <;> simp [Value.ownBlock]);have HW6:=Lib.hid ((HW.out.keep hb5).snoc HW.out.lt hsz hV)
    have hnews:∀j u,([Value.slice va vn vc]:List Value)[j]? = some u→(w4.alloc (.cells #[.slice va vn vc] 39)).cell? ((⟨w4.heap.size,0,none⟩:Addr).add j)=some u:=fun j u hu=>by
     rw [Addr.add_mid];exact (Own.new w4 39 #[.slice va vn vc]).range j u hu
    have hone:∀u∈([Value.slice va vn vc]:List Value),u.oneCell'=true:=(by simp [Value.oneCell']);have HNw:=Lib.hid hnews;have HOn:=Lib.hid hone;have hba:=bA1 w4 (.cells #[.slice va vn vc] 39);have HR2:=Lib.hid (hR6.alloc (.cells #[.slice va vn vc] 39));have hbs:gO≤w4.heap.size:=Nat.le_trans hsz hb5.size;have hb3:=bT' hb6 hba hbs;have HW3:=Lib.hid (HW6.out.keep hba);clear hnews hone hR6 HW6 hba hb hb5 hV HW HR hb6 hcs hIs
    go_wp2_with (refine wpList_append_own_wide _ rfl (.tmp 14) (.tmp 21) 33 rfl gO 39 ti tz 1 24 Tryz.underlying33 HI.out HZ.out HS.out HBt.out HZs.out (by omega) (.slice oa k oc) k vs rfl HR2.out ⟨w4.heap.size, 0, none⟩ 1 1 [Value.slice va vn vc] rfl rfl HNw.out HOn.out (by simp only [maxLen]; omega) (by omega) (by rw [sAl]; omega) (fun v' w' h2 h3 h4 => ?_)
                 have hb4:=grown_below hb3 h3 (fun j e=>(HR2.out.lt j e).1) (by rw [sAl];omega);have HW4:=Lib.hid (HW3.out.grown h3 (fun q e=>row_own HR2.out e));obtain ⟨xa,xc,rfl⟩:=row_slice h2;have H2:=Lib.hid h2
                 clear h2 h3 h4 hb3 HR2 HW3 HNw HOn)
    go_roundw
    case rel=>exact ⟨k+1,xa,xc,vs++[.slice va vn vc],by omega,by go_num,rfl,hb4,H2.out,by rw [HQ.out];exact HW4⟩
    case measure=>simp [intOf] <;> omega
  · have he:k=N:=(by omega);subst he;go_wp2_with fail
    go_ret
    have hW:=HW.out;rw [List.take_of_length_le (Nat.le_of_eq HN.out)] at hW;obtain ⟨ra,rc,hrr,hO⟩:=hW.ownF_row (by rw [List.length_map];exact HN.out) HR.out (frmsS_tm HM.out.2.1 HOK.out);simp only [Value.slice.injEq] at hrr;obtain ⟨rfl,-,rfl⟩:=hrr;exact ⟨oa,oc,rfl,by rw [HGO.out];exact hO,by rw [HGO.out];exact hb⟩
end Go.Proofs.YtifcfoijcodjbaaGreat
