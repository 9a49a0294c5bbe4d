
import Derived.Test.YtifcfoijcodjbaaGreatPriP
import Derived.Test.YtifcfoijcodjbaaGreatAskC
import Derived.Test.YtifcfoijcodjbaaGreatRows3
import Derived.Test.YtifcfoijcodjbaaGreatNewA
import Derived.Test.YtifcfoijcodjbaaGreatModC
namespace Go.Proofs.YtifcfoijcodjbaaGreat
set_option maxRecDepth 100000
open Go.RowKit Go.Deep
set_option maxHeartbeats 4000000 in
theorem formR_c {w : World} {ca : Option Addr} {n p off : Nat} {V : List (List Int)} {R : List Int} (cc rc : Nat) (hM : Mos w ca n V) (hR : RdAt w p off R) (hpl : p < w.heap.size) (hRl : R.length = n) (hn : n ≤ 120) :
    Calls Tryz.prog 85 #[.slice ca n cc,.slice (some ⟨p,off,none⟩) n rc] w fun e w'=>∃v,e=.returned (.agg #[v])∧OwnR w' w.heap.size v (fmR V R)∧Below w.heap.size w w':=by
 have HVL:=Lib.hid hM.1
 have HRL:=Lib.hid hRl
 have HRD:=Lib.hid hR
 have HPL:=Lib.hid hpl
 clear hR hRl hpl
 have hR2:=(Own.new w 39 #[.slice none 0 0]).alloc (.cells #[.slice none 0 0] 39)
 have hG2:=Own.new (w.alloc (.cells #[.slice none 0 0] 39)) 39 #[.slice none 0 0]
 rw [sAl] at hG2
 have hb02:=bTn (bA1 w (.cells #[.slice none 0 0] 39)) (bA1 _ (.cells #[.slice none 0 0] 39))
 go_enter Tryz.func85,Tryz.ntmps85
 go_upto_region 2 with fail
 generalize (w.alloc (.cells #[.slice none 0 0] 39)).alloc (.cells #[.slice none 0 0] 39)=w2 at *
 obtain ⟨g8,hg8⟩:∃g8,w.heap.size+1=g8:=⟨_,rfl⟩
 rw [hg8] at hG2
 have hl1:w.heap.size<g8:=by omega
 try rw [hg8]
 clear hg8
 go_upto_region 3 with fail
 go_loopw [10] (fun y wr=>∃(k:Nat) (v:Value),k≤n∧y=.int .i64 k∧Below w.heap.size w wr∧Own wr w.heap.size 39 #[.slice none 0 0]∧Own wr g8 39 #[v]∧OwnForm wr (g8+1) v (fmR (V.take k) (R.take k))) (fun y _=>n - (intOf y).toNat)
 case atStart=>exact ⟨0,.slice none 0 0,Nat.zero_le _,rfl,hb02,hR2,hG2,by rw [fmR_zero];exact ⟨World.ownsRow_nil _ _ _ _,by simp⟩⟩
 case round=>
  clear hb02 hR2 hG2;obtain ⟨k,v,hk,rfl,hb,hF,hG,hO⟩:=hrel;obtain ⟨va,vn,vc,rfl⟩:=hO.isSlice;have hk0:(0:Int)≤(k:Int):=(by omega);by_cases hlt:k<n
  · have hkn:(k:Int)<(n:Int):=(by omega);obtain ⟨x,hx⟩:∃x,R[k]? = some x:=⟨_,List.getElem?_eq_getElem (by rw [HRL.out];exact hlt)⟩;have hcx0:=HRD.out k x hx;have hcx:=(World.cell?_of_block (a:=⟨p,off+k,none⟩) (hb.block p HPL.out)).trans hcx0;have HX:=Lib.hid hx;obtain ⟨b,o,mt,rfl,hbl,hr0,hmt,hm⟩:=hM.at_ hlt;have HMM:=Lib.hid hm.out;clear hx hm;obtain ⟨p0,p1,p2,p3,p4,p5,p6,p7,rfl⟩:=mono8 hmt;by_cases hx0:x=0
    · subst hx0;go_wp2_with fail
      go_roundw
      case rel=>exact ⟨k+1,.slice va vn vc,by omega,by go_num,hb,hF,hG,by rw [fmR_no HMM.out HX.out];exact hO⟩
      case measure=>simp [intOf] <;> omega
    · have hxb:(x != 0)=true:=(by simpa using hx0);have hGc:Own wr.drew g8 39 #[.slice va vn vc]:=hG;have hFc:Own wr.drew w.heap.size 39 #[.slice none 0 0]:=hF;have hOc:OwnForm wr.drew (g8+1) (.slice va vn vc) (fmR (V.take k) (R.take k)):=hO;have hbc:Below w.heap.size w wr.drew:=hb.drew;have hrc:=rgK hr0 (hbc.block b hbl);have cG:=hGc.cell 0
      have hnews:∀j u,([Value.int .u8 p0,.int .u8 p1,.int .u8 p2,.int .u8 p3,.int .u8 p4,.int .u8 p5,.int .u8 p6,.int .u8 p7,.int .i64 x]:List Value)[j]? = some u→(wr.drew.alloc (.cells #[.int .u8 p0,.int .u8 p1,.int .u8 p2,.int .u8 p3,.int .u8 p4,.int .u8 p5,.int .u8 p6,.int .u8 p7,.int .i64 x] 158)).cell? ((⟨wr.heap.size,0,none⟩:Addr).add j)=some u:=fun j u hu=>by
       rw [Addr.add_mid];exact (Own.new wr.drew 158 #[.int .u8 p0,.int .u8 p1,.int .u8 p2,.int .u8 p3,.int .u8 p4,.int .u8 p5,.int .u8 p6,.int .u8 p7,.int .i64 x]).range j u hu
      have hone:∀u∈([Value.int .u8 p0,.int .u8 p1,.int .u8 p2,.int .u8 p3,.int .u8 p4,.int .u8 p5,.int .u8 p6,.int .u8 p7,.int .i64 x]:List Value),u.oneCell'=true:=by simp [Value.oneCell']
      have hpl:(fmR (V.take k) (R.take k)).length≤400:=by
       have h1:=fmR_len (V.take k) (R.take k);rw [List.length_take] at h1;omega
      obtain ⟨ti,tz,hti,htz,hts,htb,htzs⟩:=Tryz.info_termA;have HN:=Lib.hid hnews;have HO:=Lib.hid hone;have HP:=Lib.hid hpl;have HI:=Lib.hid hti;have HZ:=Lib.hid htz;have HS:=Lib.hid hts;have HBt:=Lib.hid htb;have HZs:=Lib.hid htzs;clear hnews hone hpl hti htz hts htb htzs;go_upto_region 6 with fail
      clear hF hG hO hb;refine wp_region_held_drew (S:=(fun w'=>w'.cell? ⟨b,o+k * 8,none⟩=some (.int .u8 p0)∧w'.cell? ⟨b,o+k * 8+1,none⟩=some (.int .u8 p1)∧w'.cell? ⟨b,o+k * 8+2,none⟩=some (.int .u8 p2)∧w'.cell? ⟨b,o+k * 8+3,none⟩=some (.int .u8 p3)∧w'.cell? ⟨b,o+k * 8+4,none⟩=some (.int .u8 p4)∧w'.cell? ⟨b,o+k * 8+5,none⟩=some (.int .u8 p5)∧w'.cell? ⟨b,o+k * 8+6,none⟩=some (.int .u8 p6)∧w'.cell? ⟨b,o+k * 8+7,none⟩=some (.int .u8 p7))) (by kernel_rfl) ?_ (fun hHeld=>?_)
      · ((try dsimp only);(exact eight hrc))
      refine hdT 0 ?_;refine hdT 2 ?_;refine hdT 3 ?_;refine hdT 4 ?_;refine hdT 5 ?_;refine hdT 6 ?_;refine hdT 7 ?_;refine wpAnyH_ready (rs:=[1,8]) (by kernel_rfl) (by simp) ?_;refine AllReadyH.cons (hdAt (i:=1) rfl) (fun K hK=>?_) (AllReadyH.cons (hdAt (i:=8) rfl) (fun K hK=>?_) AllReadyH.nil)
      · (go_simp;try go_wp2_with fail)
        refine hK.out _ _ ?_ (fun _=>?_)
        · ((try dsimp only);(exact eight hrc))
        clear hK K
        (try simp only [Act.put,pA,pB,pC])
        refine hdC 8 (fun K hK=>?_)
        (go_simp;try go_wp2_with fail)
        have hFa:=hFc.alloc (.cells #[.int .u8 p0,.int .u8 p1,.int .u8 p2,.int .u8 p3,.int .u8 p4,.int .u8 p5,.int .u8 p6,.int .u8 p7,.int .i64 x] 158);have hGa:=hGc.alloc (.cells #[.int .u8 p0,.int .u8 p1,.int .u8 p2,.int .u8 p3,.int .u8 p4,.int .u8 p5,.int .u8 p6,.int .u8 p7,.int .i64 x] 158);have hOa:=(hOc.keep (bA1 wr.drew (.cells #[.int .u8 p0,.int .u8 p1,.int .u8 p2,.int .u8 p3,.int .u8 p4,.int .u8 p5,.int .u8 p6,.int .u8 p7,.int .i64 x] 158))).1;have hba:=bT' hbc (bA1 wr.drew (.cells #[.int .u8 p0,.int .u8 p1,.int .u8 p2,.int .u8 p3,.int .u8 p4,.int .u8 p5,.int .u8 p6,.int .u8 p7,.int .i64 x] 158)) hbc.size;have hra:=rgK hr0 (hba.block b hbl);refine hK.out _ _ ?_ (fun _=>?_)
        · ((try dsimp only);(exact eight hra))
        clear hK K
        (try simp only [Act.put,pA,pB,pC])
        refine hdC 9 (fun K hK=>?_);rw [if_pos (by rfl)];refine wp_append_own_wide _ (.tmp 18) (.tmp 25) 37 rfl (g8+1) 158 ti tz 9 16 Tryz.underlying37 HI.out HZ.out HS.out HBt.out HZs.out (by omega) (.slice va vn vc) _ _ rfl hOa ⟨wr.heap.size,0,none⟩ 1 1 [Value.int .u8 p0,.int .u8 p1,.int .u8 p2,.int .u8 p3,.int .u8 p4,.int .u8 p5,.int .u8 p6,.int .u8 p7,.int .i64 x] rfl rfl HN.out HO.out (by have:=HP.out;simp only [maxLen];omega) (by have:=HP.out;omega) (Nat.succ_le_of_lt hGa.lt) (fun v' w' h2 h3 h4=>?_)
        obtain ⟨gg,vk,cp,rfl⟩:∃gg vk cp,v'=.slice gg vk cp:=by
         rcases h2.2 with ⟨h0,_⟩ | ⟨g,cap,cur,hv,_⟩
         · exact ⟨_,_,_,h0⟩
         · exact ⟨_,_,_,hv⟩
        have hF7:=hFa.grown h3 (fun e=>by have:=(hOa.lt _ e.symm).1;omega);have hG7:=hGa.grown h3 (fun e=>by have:=(hOa.lt _ e.symm).1;omega);have hb7:=grown_below hba h3 (fun q e=>by have:=(hOa.lt q e).1;omega) hba.size;have hr7:=rgK hr0 (hb7.block b hbl);have c7:=hG7.cell 0;have f7:=hG7.frozen 0;have H2:=Lib.hid h2;have H4:=Lib.hid h4;clear h2 h3 h4 hOa hFa hGa hba;refine hK.out _ _ ?_ (fun _=>?_)
        · ((try dsimp only);(exact eight hr7))
        clear hK K
        (try simp only [Act.put,pA,pB,pC])
        refine hdT 10 ?_;refine hdC 11 (fun K hK=>?_)
        (go_simp;go_wp2_with fail)
        have hF8:=hF7.far (p:=⟨g8,0,none⟩) (by dsimp only;omega) (.slice gg vk cp);have hb8:=hb7.setCell (p:=⟨g8,0,none⟩) (by dsimp only;omega) (.slice gg vk cp);have hr8:=rgK hr0 (hb8.block b hbl);refine hK.out _ _ ?_ (fun _=>?_)
        · ((try dsimp only);(exact eight hr8))
        clear hK K
        (try simp only [Act.put,pA,pB,pC])
        refine wpAnyH_done (by kernel_rfl) ?_ _;go_wp2_with fail
        go_roundw
        case rel=>
         refine ⟨k+1,.slice gg vk cp,by omega,by go_num,hb8,hF8,hG7.set 0 _,?_⟩;rw [fmR_yes HMM.out HX.out hx0];exact OwnForm.set (p:=⟨g8,0,none⟩) (OwnForm.of H2.out (by simp) (by rw [rcells_append];rfl) ⟨fun e=>absurd (H4.out.1 e).2 (by omega),fun e=>by omega⟩) (by dsimp only;omega) _
        case measure=>simp [intOf] <;> omega
      · (go_simp;try go_wp2_with fail)
        have hFa:=hFc.alloc (.cells #[.int .u8 p0,.int .u8 p1,.int .u8 p2,.int .u8 p3,.int .u8 p4,.int .u8 p5,.int .u8 p6,.int .u8 p7,.int .i64 x] 158);have hGa:=hGc.alloc (.cells #[.int .u8 p0,.int .u8 p1,.int .u8 p2,.int .u8 p3,.int .u8 p4,.int .u8 p5,.int .u8 p6,.int .u8 p7,.int .i64 x] 158);have hOa:=(hOc.keep (bA1 wr.drew (.cells #[.int .u8 p0,.int .u8 p1,.int .u8 p2,.int .u8 p3,.int .u8 p4,.int .u8 p5,.int .u8 p6,.int .u8 p7,.int .i64 x] 158))).1;have hba:=bT' hbc (bA1 wr.drew (.cells #[.int .u8 p0,.int .u8 p1,.int .u8 p2,.int .u8 p3,.int .u8 p4,.int .u8 p5,.int .u8 p6,.int .u8 p7,.int .i64 x] 158)) hbc.size;have hra:=rgK hr0 (hba.block b hbl);refine hK.out _ _ ?_ (fun _=>?_)
        · ((try dsimp only);(exact eight hra))
        clear hK K
        (try simp only [Act.put,pA,pB,pC])
        have cGa:(wr.alloc (.cells #[.int .u8 p0,.int .u8 p1,.int .u8 p2,.int .u8 p3,.int .u8 p4,.int .u8 p5,.int .u8 p6,.int .u8 p7,.int .i64 x] 158)).drew.cell? ⟨g8,0,none⟩=some (.slice va vn vc):=hGa.cell 0;refine hdC 1 (fun K hK=>?_)
        (go_simp;try go_wp2_with fail)
        refine hK.out _ _ ?_ (fun _=>?_)
        · ((try dsimp only);(exact eight hra))
        clear hK K
        (try simp only [Act.put,pA,pB,pC])
        refine hdC 9 (fun K hK=>?_);rw [if_pos (by rfl)];refine wp_append_own_wide _ (.tmp 18) (.tmp 25) 37 rfl (g8+1) 158 ti tz 9 16 Tryz.underlying37 HI.out HZ.out HS.out HBt.out HZs.out (by omega) (.slice va vn vc) _ _ rfl hOa ⟨wr.heap.size,0,none⟩ 1 1 [Value.int .u8 p0,.int .u8 p1,.int .u8 p2,.int .u8 p3,.int .u8 p4,.int .u8 p5,.int .u8 p6,.int .u8 p7,.int .i64 x] rfl rfl HN.out HO.out (by have:=HP.out;simp only [maxLen];omega) (by have:=HP.out;omega) (Nat.succ_le_of_lt hGa.lt) (fun v' w' h2 h3 h4=>?_)
        obtain ⟨gg,vk,cp,rfl⟩:∃gg vk cp,v'=.slice gg vk cp:=by
         rcases h2.2 with ⟨h0,_⟩ | ⟨g,cap,cur,hv,_⟩
         · exact ⟨_,_,_,h0⟩
         · exact ⟨_,_,_,hv⟩
        have hF7:=hFa.grown h3 (fun e=>by have:=(hOa.lt _ e.symm).1;omega);have hG7:=hGa.grown h3 (fun e=>by have:=(hOa.lt _ e.symm).1;omega);have hb7:=grown_below hba h3 (fun q e=>by have:=(hOa.lt q e).1;omega) hba.size;have hr7:=rgK hr0 (hb7.block b hbl);have c7:=hG7.cell 0;have f7:=hG7.frozen 0;have H2:=Lib.hid h2;have H4:=Lib.hid h4;clear h2 h3 h4 hOa hFa hGa hba;refine hK.out _ _ ?_ (fun _=>?_)
        · ((try dsimp only);(exact eight hr7))
        clear hK K
        (try simp only [Act.put,pA,pB,pC])
        refine hdT 10 ?_;refine hdC 11 (fun K hK=>?_)
        (go_simp;go_wp2_with fail)
        have hF8:=hF7.far (p:=⟨g8,0,none⟩) (by dsimp only;omega) (.slice gg vk cp);have hb8:=hb7.setCell (p:=⟨g8,0,none⟩) (by dsimp only;omega) (.slice gg vk cp);have hr8:=rgK hr0 (hb8.block b hbl);refine hK.out _ _ ?_ (fun _=>?_)
        · ((try dsimp only);(exact eight hr8))
        clear hK K
        (try simp only [Act.put,pA,pB,pC])
        refine wpAnyH_done (by kernel_rfl) ?_ _;go_wp2_with fail
        go_roundw
        case rel=>
         refine ⟨k+1,.slice gg vk cp,by omega,by go_num,hb8,hF8,hG7.set 0 _,?_⟩;rw [fmR_yes HMM.out HX.out hx0];exact OwnForm.set (p:=⟨g8,0,none⟩) (OwnForm.of H2.out (by simp) (by rw [rcells_append];rfl) ⟨fun e=>absurd (H4.out.1 e).2 (by omega),fun e=>by omega⟩) (by dsimp only;omega) _
        case measure=>simp [intOf] <;> omega
  · have he:k=n:=(by omega);subst he;have c3:=hG.cell 0;have cR:=hF.cell 0;have fR:=hF.frozen 0;go_wp2_with fail
    have q:=hF.set 0 (.slice va vn vc)
    have q3:OwnR (wr.setCell ⟨w.heap.size,0,none⟩ (.slice va vn vc)) w.heap.size (.slice va vn vc) (fmR V R):=by
     have:=(hO.set (p:=⟨w.heap.size,0,none⟩) (by dsimp only;omega) (.slice va vn vc)).r.weaken (B':=w.heap.size) (by omega)
     rwa [List.take_of_length_le (Nat.le_of_eq HVL.out),List.take_of_length_le (Nat.le_of_eq HRL.out)] at this
    exact bodyPost_ret (results_cell_row rfl _ _ w.heap.size 39 #[.slice va vn vc] (0,0) _ rfl q Tryz.underlying39 rfl Tryz.info_form) rfl ⟨_,rfl,q3,hb.setCell (p:=⟨w.heap.size,0,none⟩) (by dsimp only;omega) _⟩
theorem frms_tm {n:Nat} {V R:List (List Int)} (hV:∀m∈V,IsMono m) (hR:∀r∈R,RowOk n r):∀ts∈R.map (fmR V),∀t∈ts,IsTm t:=fun ts hts=>by
 obtain ⟨r,hr,rfl⟩:=List.mem_map.1 hts
 exact fmR_tm hV (hR r hr).bd
theorem frms_succ {V R:List (List Int)} {k:Nat} {r:List Int} (h:R[k]? = some r):(R.take (k+1)).map (fmR V)=(R.take k).map (fmR V)++[fmR V r]:=by
 rw [List.take_add_one,h,List.map_append]
 rfl
set_option maxHeartbeats 4000000 in
theorem forms_c {w : World} {ca : Option Addr} {n lo hi : Nat} {e : Value} {V R : List (List Int)} (cc : Nat) (hM : Mos w ca n V) (hB : BasV w lo hi e n R) (hh : hi ≤ w.heap.size) (hok : ∀ r ∈ R, RowOk n r) (hn : n ≤ 120) (hRn : R.length ≤ 1000) :
    Calls Tryz.prog 133 #[.slice ca n cc,e] w fun e w'=>∃ra rc,e=.returned (.slice ra R.length rc)∧OwnF w' w.heap.size w'.heap.size ra R.length (R.map (fmR V))∧Below w.heap.size w w':=by
 have HB:=Lib.hid hB
 obtain ⟨a,c,fa,fc,rfl,hE⟩:=hB
 have HE:=Lib.hid hE
 have HM:=Lib.hid hM
 have HOK:=Lib.hid hok
 obtain ⟨N,hN⟩:∃N,R.length=N:=⟨_,rfl⟩
 rw [hN] at hRn ⊢
 rw [hN] at HB
 have HN:=Lib.hid hN
 have hbx:=Own.new w 86 #[.slice a N c,.slice fa N fc]
 have hb1:=bA1 w (.cells #[.slice a N c,.slice fa N fc] 86)
 have hmk1:=make_forms N (by omega) (w.alloc (.cells #[.slice a N c,.slice fa N fc] 86))
 rw [sAl] at hmk1
 have hR:=Own.new (w.alloc (.cells #[.slice a N c,.slice fa N fc] 86)) 39 (Array.replicate N (Value.slice none 0 0))
 rw [sAl] at hR
 have hba:=bA1 (w.alloc (.cells #[.slice a N c,.slice fa N fc] 86)) (.cells (Array.replicate N (Value.slice none 0 0)) 39)
 have hb3:=bT' hb1 hba hb1.size
 have hbx2:=hbx.keep hba hbx.lt
 have cx:=hbx.cell 0
 clear hM hE hok hN hba hb1
 go_enter Tryz.func133,Tryz.ntmps133
 go_upto_region 2 with fail
 clear hmk1 cx hbx
 generalize (w.alloc (.cells #[.slice a N c,.slice fa N fc] 86)).alloc (.cells (Array.replicate N (Value.slice none 0 0)) 39)=w2 at *
 obtain ⟨gO,hgO⟩:∃gO,w.heap.size+1=gO:=⟨_,rfl⟩
 rw [hgO] at hR
 have hl1:w.heap.size<gO:=by omega
 try rw [hgO]
 clear hgO
 have hR0:Own w2 gO 39 (valCells N []).toArray:=by rw [show (valCells N []).toArray=Array.replicate N (Value.slice none 0 0) by simp [valCells]];exact hR
 have HW0:Hid (Vals w2 w.heap.size [] ((R.take 0).map (fmR V))):=Lib.hid (Vals.nil _ _)
 have cx:=hbx2.cell 0
 clear hR
 go_upto_region 3 with fail
 clear cx hbx2
 go_loopw [15] (fun y wr=>∃(k:Nat) (vs:List Value),k≤N∧y=.int .i64 k∧Below w.heap.size w wr∧Own wr gO 39 (valCells N vs).toArray∧Hid (Vals wr w.heap.size vs ((R.take k).map (fmR V))∧vs.length=k)) (fun y _=>N - (intOf y).toNat)
 case atStart=>exact ⟨0,[],Nat.zero_le _,rfl,hb3,hR0,Lib.hid ⟨HW0.out,rfl⟩⟩
 case round=>
  clear hb3 hR0 HW0;obtain ⟨k,vs,hk,rfl,hb,hR,HW⟩:=hrel;have HVL:=Lib.hid HW.out.2;by_cases hin:k<N
  · have hk0:(0:Int)≤(k:Int):=(by omega);have hkn:(k:Int)<(N:Int):=(by omega);obtain ⟨r,hr⟩:∃r,R[k]? = some r:=⟨_,List.getElem?_eq_getElem (by rw [HN.out];exact hin)⟩;have hrk:=HOK.out r (List.mem_of_getElem? hr);obtain ⟨g,p,off,cap,gf,rfl,rfl,g1,g2,q1,q2,f1,f2,c1,c2,c3⟩:=HE.out k r hr;have c1':=(World.cell?_of_block (a:=⟨g,k,none⟩) (hb.block g (by omega))).trans c1;have hrd:RdAt wr p off r:=c2.block (hb.block p (by omega));have HS:=Lib.hid (frms_succ (V:=V) hr);have hpw:p<wr.heap.size:=(by have:=hb.size;omega);clear hr c1 c2 c3;go_wp2_with fail
    refine (formR_c cc cap (HM.out.keep hb) hrd hpw hrk.len hn).mono ?_;rintro e w4 ⟨v,rfl,hV,hb5⟩;obtain ⟨va,vn,vc,rfl⟩:=hV.isSlice;have hb6:=bT' hb hb5 hb.size;have hR6:=hR.keep hb5 hR.lt;have HW6:=Lib.hid ((HW.out.1.keep hb5).snoc HW.out.1.lt hb.size hV);clear hb hR hb5 hV c1' hrd;have hfz:=hR6.frozen k;obtain ⟨ov,hcv⟩:=hR6.has (i:=k) (by have:=HVL.out;rw [List.size_toArray,valCells_len (by omega)];omega);go_wp2_with fail
    go_roundw
    case rel=>
     have q2:Below w.heap.size w (w4.setCell ⟨gO,k,none⟩ (.slice va vn vc)):=hb6.setCell (p:=⟨gO,k,none⟩) (by dsimp only;omega) _
     have q4:Own (w4.setCell ⟨gO,k,none⟩ (.slice va vn vc)) gO 39 (valCells N (vs++[.slice va vn vc])).toArray:=by
      have:=hR6.set k (.slice va vn vc)
      rwa [valCells_step HVL.out hin] at this
     have Q1:=HW6.out.far (p:=⟨gO,k,none⟩) hR6 (.slice va vn vc);exact ⟨k+1,vs++[.slice va vn vc],by omega,by go_num,q2,q4,Lib.hid ⟨by rw [HS.out];exact Q1,by rw [List.length_append,HVL.out];rfl⟩⟩
    case measure=>simp [intOf] <;> omega
  · have he:k=N:=(by omega);subst he;go_wp2_with fail
    go_ret
    refine ⟨some ⟨gO,0,none⟩,k,rfl,?_,hb⟩;have hW:=HW.out.1;rw [List.take_of_length_le (Nat.le_of_eq HN.out)] at hW;refine hW.ownF (by rw [List.length_map];exact HN.out) hR (fun i v hi=>?_) (by omega) (frms_tm HM.out.2.1 HOK.out);rw [List.getElem?_toArray,valCells_full HVL.out];exact hi
theorem field_spl0 (a1 a2 a3 a4 a5:Option Addr) (n1 n2 n3 n4 n5 c1 c2 c3 c4 c5:Nat) (w:World):(Instr.field 101 (.agg #[.slice a1 n1 c1,.slice a2 n2 c2,.slice a3 n3 c3,.slice a4 n4 c4,.slice a5 n5 c5]) 0).run Tryz.prog w=.ok (.agg #[.slice a1 n1 c1,.slice a2 n2 c2]) w:=by kernel_rfl
theorem field_spl1 (a1 a2 a3 a4 a5:Option Addr) (n1 n2 n3 n4 n5 c1 c2 c3 c4 c5:Nat) (w:World):(Instr.field 101 (.agg #[.slice a1 n1 c1,.slice a2 n2 c2,.slice a3 n3 c3,.slice a4 n4 c4,.slice a5 n5 c5]) 1).run Tryz.prog w=.ok (.agg #[.slice a3 n3 c3,.slice a4 n4 c4]) w:=by kernel_rfl
theorem columnsOf_m {w : World} {da : Option Addr} {dn : Nat} {zs : List Int} {a : Option Addr} {n m : Nat} (dc c : Nat) (hd : Ints w da dn zs) (hdn : dn ≤ 1048576) (hz : degsOk zs = true) (hm : m ≤ 40) (hc : cnt zs m ≤ 120) :
    Calls Tryz.prog 61 #[.agg #[.slice da dn dc,.slice a n c],.int .i64 m] w fun e w'=>∃ra rc,e=.returned (.slice ra (cnt zs m) rc)∧Mos w' ra (cnt zs m) (side zs m)∧Below w.heap.size w w':=by
 refine (columnsOf_c dc c hd hdn).mono ?_
 rintro e w' ⟨ra,rn,rc,rfl,hM,hb⟩
 rw [moV_side (n:=m) hz (by omega) (by omega)] at hM
 obtain rfl:cnt zs m=rn:=by rw [←hM.1,side_len]
 exact ⟨ra,rc,rfl,hM.mos,hb⟩
theorem splitLow_c {w : World} {da : Option Addr} {dn : Nat} {zs : List Int} {a : Option Addr} {k : Nat} {ims : List (List Tm)} {m : Nat} {x : Int} (dc c : Nat) (hd : Ints w da dn zs) (hdn : dn ≤ 1048576) (hF : Frms w a k ims) (HA : AlgOk zs ims) (hA : isAlg zs ims = true) (hz : degsOk zs = true) (hm : m ≤ 20) (hc : cnt zs m ≤ 120) (hl : ¬ m = 0 → cnt zs (m - 1) ≤ 120) (hx : x = (m : Int) - 1 := by rfl) :
    Calls Tryz.prog 118 #[.agg #[.slice da dn dc,.slice a k c],.int .i64 x] w fun e w'=>∃v,e=.returned v∧SplitV w' w.heap.size v (cnt zs m) (nbR zs m) (lgR zs ims m)∧Below w.heap.size w w':=by
 by_cases h0:m=0
 · subst h0;refine (splitByDN_c dc c (by omega) hd hdn hz hc).mono ?_;rintro e w' ⟨v,rfl,h1,h2⟩;exact ⟨v,rfl,h1,h2⟩
 · obtain ⟨j,rfl⟩:∃j,m=j+1:=⟨m - 1,by omega⟩;have e1:x=(j:Int):=(by omega);rw [e1];have hl2:=hl h0;rw [show j+1 - 1=j by omega] at hl2;refine (splitByD_c dc c hd hdn hF HA hA hz (by omega) hl2 hc).mono ?_;rintro e w' ⟨v,rfl,h1,h2⟩;refine ⟨v,rfl,?_,h2⟩;rw [nbR,lgR,if_neg h0,if_neg h0,show j+1 - 1=j by omega];exact h1
theorem nbR_lt {zs:List Int} {m:Nat} (h:¬m=0→cnt zs (m - 1)≤120):nbR zs m≤120:=by
 rw [nbR]
 split
 · omega
 · rename_i h0;exact h h0
theorem Tryz.info_coh:(Tryz.prog.info? 88).map (·.size)=some 4:=by kernel_rfl
set_option maxHeartbeats 400000 in
theorem cohomologyOf_g {w : World} {da : Option Addr} {dn : Nat} {a : Option Addr} {k : Nat} {x : Int} {W W2 N : Nat} {L L2 : List (List Int)} (dc c : Nat) (hx0 : -1 ≤ x) (hx1 : x ≤ 20)
    (h1:∀w',Below w.heap.size w w'→Calls Tryz.prog 118 #[.agg #[.slice da dn dc,.slice a k c],.int .i64 (x - 1)] w' fun e w''=>∃v,e=.returned v∧SplitV w'' w'.heap.size v W N L∧Below w'.heap.size w' w'')
    (h2:∀w',Below w.heap.size w w'→Calls Tryz.prog 118 #[.agg #[.slice da dn dc,.slice a k c],.int .i64 x] w' fun e w''=>∃v,e=.returned v∧SplitV w'' w'.heap.size v W2 W L2∧Below w'.heap.size w' w'')
    (hD:RedI W (bndR W L)) (hC:RedI W (cloR W2 L2)) (hW:W≤1000) (hDl:(bndR W L).length≤1000) (hCl:(cloR W2 L2).length≤1000) :
    Calls Tryz.prog 59 #[.agg #[.slice da dn dc,.slice a k c],.int .i64 x] w fun e w'=>∃a1 n1 c1 a2 n2 c2 a3 n3 c3 a4 n4 c4,e=.returned (.agg #[.slice a1 n1 c1,.slice a2 n2 c2,.slice a3 n3 c3,.slice a4 n4 c4])∧BasV w' w.heap.size w'.heap.size (.agg #[.slice a1 n1 c1,.slice a2 n2 c2]) W (bndR W L)∧BasV w' w.heap.size w'.heap.size (.agg #[.slice a3 n3 c3,.slice a4 n4 c4]) W (redR ((cloR W2 L2).map (fun r=>byR r (bndR W L))))∧Below w.heap.size w w':=by
 have HS1:=Lib.hid h1
 have HS2:=Lib.hid h2
 have HDD:=Lib.hid hD
 have HCC:=Lib.hid hC
 have HDL:=Lib.hid hDl
 have HCL:=Lib.hid hCl
 have hO:=(Own.new w 35 #[.slice da dn dc,.slice a k c]).alloc (.cells #[.slice none 0 0,.slice none 0 0,.slice none 0 0,.slice none 0 0] 88)
 have hQ:=Own.new (w.alloc (.cells #[.slice da dn dc,.slice a k c] 35)) 88 #[.slice none 0 0,.slice none 0 0,.slice none 0 0,.slice none 0 0]
 rw [sAl] at hQ
 have hb:=bTn (bA1 w (.cells #[.slice da dn dc,.slice a k c] 35)) (bA1 _ (.cells #[.slice none 0 0,.slice none 0 0,.slice none 0 0,.slice none 0 0] 88))
 have hs:((w.alloc (.cells #[.slice da dn dc,.slice a k c] 35)).alloc (.cells #[.slice none 0 0,.slice none 0 0,.slice none 0 0,.slice none 0 0] 88)).heap.size=w.heap.size+2:=by rw [sAl,sAl]
 clear h1 h2 hD hC hDl hCl
 go_enter Tryz.func59,Tryz.ntmps59
 go_upto_region 1 with fail
 generalize (w.alloc (.cells #[.slice da dn dc,.slice a k c] 35)).alloc (.cells #[.slice none 0 0,.slice none 0 0,.slice none 0 0,.slice none 0 0] 88)=w2 at *
 have cc0:=hO.cell 0
 have cc1:=hO.cell 1
 have HSZ:=Lib.hid hs
 have HQ0:=Lib.hid hQ
 clear hs hQ
 go_wp2_with fail
 refine (HS1.out _ hb).mono ?_
 rintro e w3 ⟨v,rfl,hSV,hb3⟩
 have hb4:=bT' hb hb3 hb.size
 have hO4:=hO.keep hb3 hO.lt
 have HQ4:=Lib.hid (HQ0.out.keep hb3 HQ0.out.lt)
 have HSZ4:=Lib.hid hb3.size
 clear hb hO hb3 cc0 cc1
 obtain ⟨a1,n1,c1,a2,n2,c2,a3,n3,c3,a4,n4,c4,a5,n5,c5,rfl⟩:=hSV.slices
 have hfld:=field_spl1 (a1:=a1) (n1:=n1) (c1:=c1) (a2:=a2) (n2:=n2) (c2:=c2) (a3:=a3) (n3:=n3) (c3:=c3) (a4:=a4) (n4:=n4) (c4:=c4) (a5:=a5) (n5:=n5) (c5:=c5)
 obtain ⟨vc,vcf,vb,vbf,vp,hve,-,hBB,-⟩:=hSV.two
 simp only [Value.agg.injEq,Array.mk.injEq,List.cons.injEq,and_true] at hve
 obtain ⟨rfl,rfl,rfl,rfl,rfl⟩:=hve
 go_upto_region 2 with fail
 have hX:=Own.new w3 86 #[.slice a3 n3 c3,.slice a4 n4 c4]
 have hba:=bA1 w3 (.cells #[.slice a3 n3 c3,.slice a4 n4 c4] 86)
 replace hBB:=(hBB.weaken (lo':=w.heap.size+2) (by have:=HSZ.out;omega) (Nat.le_refl _)).keep hba (Nat.le_refl _)
 replace hO4:=hO4.keep hba hO4.lt
 have hs4:=hb4.size
 replace hb4:=bT' hb4 hba hs4
 have hQ:=HQ4.out.keep hba HQ4.out.lt
 have hsz:w3.heap.size≤(w3.alloc (.cells #[.slice a3 n3 c3,.slice a4 n4 c4] 86)).heap.size:=hba.size
 have HGB:Hid (w.heap.size+2≤w3.heap.size):=Lib.hid (by have:=HSZ.out;have:=HSZ4.out;omega)
 clear hba HQ4 HQ0 hSV hfld
 generalize w3.alloc (.cells #[.slice a3 n3 c3,.slice a4 n4 c4] 86)=w4 at *
 generalize w3.heap.size=gB at *
 have hdr:Below w4.heap.size w4 w4.drew:=(Below.refl _ _).drew
 replace hBB:=hBB.keep hdr hsz
 replace hO4:=hO4.keep hdr hO4.lt
 replace hX:=hX.keep hdr hX.lt
 replace hQ:=hQ.keep hdr hQ.lt
 replace hb4:=bT' hb4 hdr hb4.size
 replace hsz:=Nat.le_trans hsz hdr.size
 clear hdr hs4
 have hs4:=hb4.size
 refine wp_region_held_drew (S:=(fun w'=>w'.cell? ⟨w.heap.size,0,none⟩=some (.slice da dn dc)∧w'.cell? ⟨w.heap.size,1,none⟩=some (.slice a k c)∧w'.cell? ⟨gB,0,none⟩=some (.slice a3 n3 c3)∧w'.cell? ⟨gB,1,none⟩=some (.slice a4 n4 c4))) (by kernel_rfl) ?_ (fun _=>?_)
 · ((try dsimp only);(exact ⟨hO4.cell 0,hO4.cell 1,hX.cell 0,hX.cell 1⟩))
 generalize w4.drew=W0 at *
 refine hdT 0 ?_
 refine hdT 1 ?_
 refine hdT 2 ?_
 refine hdT 5 ?_
 refine hdC 3 (fun K hK=>?_)
 (go_simp;(go_at_call 118;refine (HS2.out _ hb4).mono ?_;rintro e W1 ⟨v,rfl,hSV,hbX⟩;obtain ⟨b1,m1,d1,b2,m2,d2,b3,m3,d3,b4,m4,d4,b5,m5,d5,rfl⟩:=hSV.slices);go_wp2_with fail)
 obtain ⟨uc,ucf,ub,ubf,up,hue,hBC,-,-⟩:=hSV.two
 simp only [Value.agg.injEq,Array.mk.injEq,List.cons.injEq,and_true] at hue
 obtain ⟨rfl,rfl,rfl,rfl,rfl⟩:=hue
 replace hBB:=hBB.keep hbX hsz
 replace hO4:=hO4.keep hbX hO4.lt
 replace hX:=hX.keep hbX hX.lt
 replace hQ:=hQ.keep hbX hQ.lt
 have HLW:=Lib.hid hs4
 replace hb4:=bT' hb4 hbX hs4
 replace hs4:=hb4.size
 replace hsz:=Nat.le_trans hsz hbX.size
 clear hbX hSV
 refine hK.out _ _ ?_ (fun _=>?_)
 · ((try dsimp only);(exact ⟨hO4.cell 0,hO4.cell 1,hX.cell 0,hX.cell 1⟩))
 clear hK K
 (try simp only [Act.put,pA,pB,pC])
 have hfld:=field_spl0
 refine hdT 4 ?_
 clear hfld
 refine hdC 6 (fun K hK=>?_)
 (go_simp;(go_at_call 119;refine (modulo_c hBC hBB (Nat.le_refl _) hsz HCC.out HDD.out hW HCL.out HDL.out).mono ?_;rintro e Wt ⟨v,rfl,hBM,hbX⟩;have HBM:=Lib.hid hBM;obtain ⟨e1,f1,e2,f2,rfl,-⟩:=hBM);go_wp2_with fail)
 replace hBB:=hBB.keep hbX hsz
 replace hO4:=hO4.keep hbX hO4.lt
 replace hX:=hX.keep hbX hX.lt
 replace hQ:=hQ.keep hbX hQ.lt
 replace HBM:=Lib.hid (HBM.out.weaken (lo':=gB) hsz (Nat.le_refl _))
 have HSE:=Lib.hid (Nat.le_trans hsz hbX.size)
 replace hb4:=bT' hb4 hbX hs4
 clear hbX hBC hs4 hsz
 refine hK.out _ _ ?_ (fun _=>?_)
 · ((try dsimp only);(exact ⟨hO4.cell 0,hO4.cell 1,hX.cell 0,hX.cell 1⟩))
 clear hK K
 (try simp only [Act.put,pA,pB,pC])
 refine hdT 7 ?_
 generalize hLEN:(redR (List.map (fun r=>byR r (bndR W L)) (cloR W2 L2))).length=nL at *
 refine hdC 8 (fun K hK=>?_)
 have cQ0:=hQ.cell 0
 have fQ0:=hQ.frozen 0
 have cQ1:=hQ.cell 1
 have fQ1:=hQ.frozen 1
 have cQ2:=hQ.cell 2
 have fQ2:=hQ.frozen 2
 have cQ3:=hQ.cell 3
 have fQ3:=hQ.frozen 3
 (go_simp;go_wp2_with fail)
 clear cQ0 fQ0 cQ1 fQ1 cQ2 fQ2 cQ3 fQ3
 have hon:=Touch.of_only (((((Only.refl (w.heap.size+1) Wt).set 0 (.slice a3 n3 c3)).set 1 (.slice a4 n4 c4)).set 2 (.slice e1 nL f1)).set 3 (.slice e2 nL f2))
 replace hb4:=hb4.setCell (p:=⟨w.heap.size+1,0,none⟩) (by dsimp only;omega) (.slice a3 n3 c3)
 replace hO4:=hO4.far (p:=⟨w.heap.size+1,0,none⟩) (by dsimp only;omega) (.slice a3 n3 c3)
 replace hX:=hX.far (p:=⟨w.heap.size+1,0,none⟩) (by dsimp only;have:=HGB.out;omega) (.slice a3 n3 c3)
 replace hQ:=hQ.set 0 (.slice a3 n3 c3)
 replace hb4:=hb4.setCell (p:=⟨w.heap.size+1,1,none⟩) (by dsimp only;omega) (.slice a4 n4 c4)
 replace hO4:=hO4.far (p:=⟨w.heap.size+1,1,none⟩) (by dsimp only;omega) (.slice a4 n4 c4)
 replace hX:=hX.far (p:=⟨w.heap.size+1,1,none⟩) (by dsimp only;have:=HGB.out;omega) (.slice a4 n4 c4)
 replace hQ:=hQ.set 1 (.slice a4 n4 c4)
 replace hb4:=hb4.setCell (p:=⟨w.heap.size+1,2,none⟩) (by dsimp only;omega) (.slice e1 nL f1)
 replace hO4:=hO4.far (p:=⟨w.heap.size+1,2,none⟩) (by dsimp only;omega) (.slice e1 nL f1)
 replace hX:=hX.far (p:=⟨w.heap.size+1,2,none⟩) (by dsimp only;have:=HGB.out;omega) (.slice e1 nL f1)
 replace hQ:=hQ.set 2 (.slice e1 nL f1)
 replace hb4:=hb4.setCell (p:=⟨w.heap.size+1,3,none⟩) (by dsimp only;omega) (.slice e2 nL f2)
 replace hO4:=hO4.far (p:=⟨w.heap.size+1,3,none⟩) (by dsimp only;omega) (.slice e2 nL f2)
 replace hX:=hX.far (p:=⟨w.heap.size+1,3,none⟩) (by dsimp only;have:=HGB.out;omega) (.slice e2 nL f2)
 replace hQ:=hQ.set 3 (.slice e2 nL f2)
 have HBM9:=Lib.hid ((HBM.out.touch hon (fun q h1 _=>by have:=HGB.out;omega) (Nat.le_refl _)).weaken (lo':=w.heap.size) (by have:=HGB.out;omega) hon.below.size)
 have HBB9:=Lib.hid ((hBB.touch hon (fun q h1 _=>by omega) (by have:=HSE.out;omega)).weaken (lo':=w.heap.size) (by omega) (Nat.le_trans HSE.out hon.below.size))
 clear hon hBB
 generalize ((((Wt).setCell ⟨w.heap.size+1,0,none⟩ (.slice a3 n3 c3)).setCell ⟨w.heap.size+1,1,none⟩ (.slice a4 n4 c4)).setCell ⟨w.heap.size+1,2,none⟩ (.slice e1 nL f1)).setCell ⟨w.heap.size+1,3,none⟩ (.slice e2 nL f2)=W3 at *
 refine hK.out _ _ ?_ (fun _=>?_)
 · ((try dsimp only);(exact ⟨hO4.cell 0,hO4.cell 1,hX.cell 0,hX.cell 1⟩))
 clear hK K
 (try simp only [Act.put,pA,pB,pC])
 refine wpAnyH_done (by kernel_rfl) ?_ _
 go_wp2_with fail
 exact bodyPost_ret (results_cell_row rfl _ _ (w.heap.size+1) 88 #[.slice a3 n3 c3,.slice a4 n4 c4,.slice e1 nL f1,.slice e2 nL f2] (0,0) _ rfl hQ Tryz.underlying88 rfl Tryz.info_coh) rfl ⟨_,_,_,_,_,_,_,_,_,_,_,_,rfl,HBB9.out,HBM9.out,hb4⟩
theorem cohomologyOf_c {w : World} {da : Option Addr} {dn : Nat} {zs : List Int} {a : Option Addr} {k : Nat} {ims : List (List Tm)} {m : Nat} (dc c : Nat) (hd : Ints w da dn zs) (hdn : dn ≤ 1048576) (hF : Frms w a k ims) (HA : AlgOk zs ims) (hA : isAlg zs ims = true) (hz : degsOk zs = true) (hm : m ≤ 20) (hc1 : cnt zs m ≤ 120) (hc2 : cnt zs (m + 1) ≤ 120) (hl : ¬ m = 0 → cnt zs (m - 1) ≤ 120) :
    Calls Tryz.prog 59 #[.agg #[.slice da dn dc,.slice a k c],.int .i64 m] w fun e w'=>∃a1 n1 c1 a2 n2 c2 a3 n3 c3 a4 n4 c4,e=.returned (.agg #[.slice a1 n1 c1,.slice a2 n2 c2,.slice a3 n3 c3,.slice a4 n4 c4])∧BasV w' w.heap.size w'.heap.size (.agg #[.slice a1 n1 c1,.slice a2 n2 c2]) (cnt zs m) (bdR zs ims m)∧BasV w' w.heap.size w'.heap.size (.agg #[.slice a3 n3 c3,.slice a4 n4 c4]) (cnt zs m) (csR zs ims m)∧Below w.heap.size w w':=by
 refine (cohomologyOf_g (x:=(m:Int)) (W:=cnt zs m) (W2:=cnt zs (m+1)) (N:=nbR zs m) (L:=lgR zs ims m) (L2:=redR (longR (mrR zs ims m))) dc c (by omega) (by omega) (fun w' hb=>splitLow_c dc c (hd.keep hb) hdn (hF.keep hb) HA hA hz hm hc1 hl rfl) (fun w' hb=>splitByD_c dc c (hd.keep hb) hdn (hF.keep hb) HA hA hz hm hc1 hc2) (by rw [bndR_lg HA hz];exact bdR_red HA hz m) (clR_red HA hz m) (by omega) (by rw [bndR_lg HA hz];have:=bdR_len zs ims m;have:=nbR_lt (zs:=zs) hl;omega) (by have:=clR_len zs ims m;rw [show cloR (cnt zs (m+1)) (redR (longR (mrR zs ims m)))=clR zs ims m from rfl];omega)).mono ?_
 rintro e w' ⟨a1,n1,c1,a2,n2,c2,a3,n3,c3,a4,n4,c4,rfl,h1,h2,h3⟩
 rw [bndR_lg HA hz] at h1 h2
 exact ⟨a1,n1,c1,a2,n2,c2,a3,n3,c3,a4,n4,c4,rfl,h1,h2,h3⟩
theorem columnsN_c {w : World} {da : Option Addr} {dn : Nat} {zs : List Int} {a : Option Addr} {n : Nat} {x : Int} (dc c : Nat) (hd : Ints w da dn zs) (hdn : dn ≤ 1048576) (hz : degsOk zs = true) (hx : x < 0) :
    Calls Tryz.prog 61 #[.agg #[.slice da dn dc,.slice a n c],.int .i64 x] w fun e w'=>∃ra rc,e=.returned (.slice ra 0 rc)∧Mos w' ra 0 []∧Below w.heap.size w w':=by
 refine (columnsOf_c dc c hd hdn).mono ?_
 rintro e w' ⟨ra,rn,rc,rfl,hM,hb⟩
 have e0:moV zs x=[]:=(mo_err (mo_2 hz (by omega)) (by omega)).2
 rw [e0] at hM
 obtain rfl:0=rn:=hM.1
 exact ⟨ra,rc,rfl,hM.mos,hb⟩
theorem splitByDM_c {w : World} {da : Option Addr} {dn : Nat} {zs : List Int} {a : Option Addr} {k : Nat} (dc c : Nat) (hd : Ints w da dn zs) (hdn : dn ≤ 1048576) (hz : degsOk zs = true) :
    Calls Tryz.prog 118 #[.agg #[.slice da dn dc,.slice a k c],.int .i64 (-2)] w fun e w'=>∃v,e=.returned v∧SplitV w' w.heap.size v 0 0 []∧Below w.heap.size w w':=by
 have hwx:IntKind.i64.wrap ((-2:Int)+1)=(-2:Int)+1:=IntWalk.i64_in _ (by omega)
 have h1:∀x:Int,x<0→∀w',Below w.heap.size w w'→Calls Tryz.prog 61 #[.agg #[.slice da dn dc,.slice a k c],.int .i64 x] w' fun e w''=>∃ra rc,e=.returned (.slice ra 0 rc)∧Below w'.heap.size w' w'':=fun x hx w' hb=>by
  refine (columnsN_c dc c (hd.keep hb) hdn hz hx).mono ?_;rintro e w'' ⟨ra,rc,rfl,-,hb2⟩;exact ⟨ra,rc,rfl,hb2⟩
 exact splitByD_g (M:=[]) (Fl:=[]) hwx (fun w' hb=>matrixOfN_c hwx (Nat.zero_le _) (fun w'' hb2=>h1 (-2) (by omega) w'' (bT' hb hb2 hb.size)) (fun w'' hb2=>h1 (-2+1) (by omega) w'' (bT' hb hb2 hb.size))) (fun w' hb=>h1 (-2+1) (by omega) w' hb) rfl (by simp) (by simp) (by omega) (by omega)
end Go.Proofs.YtifcfoijcodjbaaGreat
