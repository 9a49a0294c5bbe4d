
import Derived.Test.YtdppjlndcacfnaaGreatBrC
import Derived.Test.YtdppjlndcacfnaaGreatBrN
import Derived.Test.YtdppjlndcacfnaaGreatAdd9C
namespace Go.Proofs.YtdppjlndcacfnaaGreat
set_option maxRecDepth 100000
open Go.RowKit Go.Deep
set_option maxHeartbeats 16000000 in
theorem bracketL_c {w : World} {da : Option Addr} {dn : Nat} {zs : List Int} {a1 : Option Addr} {n1 : Nat} {gss : List (List Tm)} {a2 : Option Addr} {n2 : Nat} {hss : List (List Tm)} (a : Option Addr) (n : Nat) (dc c : Nat) (k : Int) (c1 : Nat) (m : Int) (c2 : Nat) (hd : Ints w da dn zs) (hF1 : Frms w a1 n1 gss) (hF2 : Frms w a2 n2 hss) (H1 : AlgOk zs gss) (H2 : AlgOk zs hss) (hk : 0 ≤ k ∧ k ≤ 12) (hm : 0 ≤ m ∧ m ≤ 12) :
    Calls Tryz.prog 37 #[.agg #[.slice da dn dc,.slice a n c],.iface 67 (.agg #[.int .i64 k,.slice a1 n1 c1]),.iface 67 (.agg #[.int .i64 m,.slice a2 n2 c2])] w fun e w'=>∃rb bn bc,e=.returned (.tuple #[.agg #[.int .i64 (brD zs (brAt zs k gss m hss) dn (k+m)),.slice rb bn bc],.int .i64 (brE zs (brAt zs k gss m hss) dn)])∧OwnF w' w.heap.size w'.heap.size rb bn (brI zs (brAt zs k gss m hss) dn)∧Below w.heap.size w w':=by
 have h8:dn≤8:=by have:=hd.len;have:=H1.h8;omega
 have HWR:Hid (IntKind.i64.wrap (k+m)=k+m):=Lib.hid (by rw [IntKind.wrap_i64];omega)
 have HA1:=Lib.hid H1
 have HA2:=Lib.hid H2
 have HD:=Lib.hid hd
 have HF1:=Lib.hid hF1
 have HF2:=Lib.hid hF2
 clear H1 H2
 have hA:=(Own.new w 36 #[.slice da dn dc,.slice a n c]).alloc (.cells #[.int .i64 0,.slice none 0 0] 32)
 have hR:=Own.new (w.alloc (.cells #[.slice da dn dc,.slice a n c] 36)) 32 #[.int .i64 0,.slice none 0 0]
 simp only [sAl] at hR
 have hb:=bTn (bA1 w (.cells #[.slice da dn dc,.slice a n c] 36)) (bA1 _ (.cells #[.int .i64 0,.slice none 0 0] 32))
 have hd1:=low_drop_at k a1 n1 c1
 have hd2:=low_drop_at m a2 n2 c2
 go_enter Tryz.func37,Tryz.ntmps37
 go_upto_region 1 with fail
 generalize (w.alloc (.cells #[.slice da dn dc,.slice a n c] 36)).alloc (.cells #[.int .i64 0,.slice none 0 0] 32)=w0 at *
 generalize hg1:w.heap.size+1=g1 at *
 generalize hg0:w.heap.size=g0 at *
 have HG:=Lib.hid hg0
 have e1:=hg1
 clear hg0 hg1
 go_wp2_with fail
 refine (low_drop_c k a1 n1 c1).mono ?_
 rintro e w1 ⟨rfl,hbX⟩
 replace hb:=bT' hb hbX (by have:=hA.lt;omega)
 replace hA:=hA.keep hbX hA.lt
 replace hR:=hR.keep hbX hR.lt
 clear hbX
 go_wp2_with fail
 refine (isOdd_c _ _).mono ?_
 rintro e w' ⟨rfl,rfl⟩
 cases hok:odd k
 · have HSC:Hid (sc9 k m=-1):=Lib.hid (by rw [sc9,hok];simp);clear hok;go_upto_region 4 with fail
   go_cut [9] (fun q wx=>∃gI gX:Nat,q=.pointer (some ⟨gX,0,none⟩)∧g1<gI∧g1<gX∧Own wx g0 36 #[.slice da dn dc,.slice a n c]∧Own wx g1 32 #[.int .i64 0,.slice none 0 0]∧Own wx gI 59 (Array.replicate dn (.slice none 0 0))∧Own wx gX 32 #[.int .i64 (k+m),.slice (some ⟨gI,0,none⟩) dn dn]∧Below g0 w wx)
   case first=>
    replace hA:Own w1.drew g0 36 #[.slice da dn dc,.slice a n c]:=hA;replace hR:Own w1.drew g1 32 #[.int .i64 0,.slice none 0 0]:=hR;replace hb:Below g0 w w1.drew:=hb.drew;refine wp_region_held_drew (S:=(fun w'=>w'.cell? ⟨g0,0,none⟩=some (.slice da dn dc)∧w'.cell? ⟨g0,1,none⟩=some (.slice a n c))) (by kernel_rfl) ?_ (fun _=>?_)
    · ((try dsimp only);(exact ⟨hA.cell 0,hA.cell 1⟩))
    generalize w1.drew=Wd at *;refine hdT 0 ?_;refine hdT 1 ?_;refine hdT 3 ?_;refine wpAnyH_ready (rs:=[2,7]) (by kernel_rfl) (by simp) ?_;refine AllReadyH.cons (hdAt (i:=2) rfl) (fun K hK=>?_) (AllReadyH.cons (hdAt (i:=7) rfl) (fun K hK=>?_) AllReadyH.nil)
    · skip
      (go_simp;(go_at_call 178;refine (low_drop_c k a1 n1 c1).mono ?_;rintro e W1 ⟨rfl,hbX⟩);go_wp2_with fail)
      replace hb:=bT' hb hbX (by have:=hA.lt;omega);replace hA:=hA.keep hbX hA.lt;replace hR:=hR.keep hbX hR.lt;clear hbX;refine hK.out _ _ ?_ (fun _=>?_)
      · ((try dsimp only);(exact ⟨hA.cell 0,hA.cell 1⟩))
      clear hK K
      (try simp only [Act.put,pA,pB,pC])
      refine wpAnyH_ready (rs:=[4,7]) (by kernel_rfl) (by simp) ?_;refine AllReadyH.cons (hdAt (i:=4) rfl) (fun K hK=>?_) (AllReadyH.cons (hdAt (i:=7) rfl) (fun K hK=>?_) AllReadyH.nil)
      · skip
        (go_simp;(go_at_call 178;refine (low_drop_c m a2 n2 c2).mono ?_;rintro e W2 ⟨rfl,hbX⟩);go_wp2_with fail)
        replace hb:=bT' hb hbX (by have:=hA.lt;omega);replace hA:=hA.keep hbX hA.lt;replace hR:=hR.keep hbX hR.lt;clear hbX;refine hK.out _ _ ?_ (fun _=>?_)
        · ((try dsimp only);(exact ⟨hA.cell 0,hA.cell 1⟩))
        clear hK K
        (try simp only [Act.put,pA,pB,pC])
        (refine hdT 5 ?_);rw [HWR.out]
        refine wpAnyH_ready (rs:=[6,7]) (by kernel_rfl) (by simp) ?_;refine AllReadyH.cons (hdAt (i:=6) rfl) (fun K hK=>?_) (AllReadyH.cons (hdAt (i:=7) rfl) (fun K hK=>?_) AllReadyH.nil)
        · skip
          have hbl:g1<W2.heap.size:=hR.lt
          (go_simp;(go_at_call 66;refine (newDerivation_c dc c (k+m) (HD.out.keep (show Below w.heap.size w _ by rw [HG.out];exact hb)) (by omega)).mono ?_;rintro e W3 ⟨gI,rfl,hgI,hI,hbX⟩);go_wp2_with fail)
          replace hb:=bT' hb hbX (by have:=hA.lt;omega);replace hA:=hA.keep hbX hA.lt;replace hR:=hR.keep hbX hR.lt;clear hbX;have hgI2:g1<gI:=(by omega);clear hgI hbl;refine hK.out _ _ ?_ (fun _=>?_)
          · ((try dsimp only);(exact ⟨hA.cell 0,hA.cell 1⟩))
          clear hK K
          (try simp only [Act.put,pA,pB,pC])
          refine hdC 7 (fun K hK=>?_)
          (go_simp;try go_wp2_with fail)
          have hO:=Own.new W3 32 #[.int .i64 0,.slice none 0 0];have hgX1:g1<W3.heap.size:=hR.lt;have hbX:=bA1 W3 (.cells #[.int .i64 0,.slice none 0 0] 32);replace hb:=bT' hb hbX (by have:=hA.lt;omega);replace hA:=hA.keep hbX hA.lt;replace hR:=hR.keep hbX hR.lt;replace hI:=hI.keep hbX hI.lt;clear hbX;generalize W3.alloc (.cells #[.int .i64 0,.slice none 0 0] 32)=W4 at *;generalize hgXg:W3.heap.size=gX at *;clear hgXg;refine hK.out _ _ ?_ (fun _=>?_)
          · ((try dsimp only);(exact ⟨hA.cell 0,hA.cell 1⟩))
          clear hK K
          (try simp only [Act.put,pA,pB,pC])
          refine hdC 8 (fun K hK=>?_);have s0:=hO.cell 0;have s1:=hO.cell 1;have f0:=hO.frozen 0;have f1:=hO.frozen 1;have hne:=own_neR hI hO (by decide)
          (go_simp;go_wp2_with fail)
          clear s0 s1 f0 f1;replace hA:=hA.far (p:=⟨gX,0,none⟩) (by dsimp only;omega) (.int .i64 (k+m));replace hR:=hR.far (p:=⟨gX,0,none⟩) (by dsimp only;omega) (.int .i64 (k+m));replace hI:=hI.far (p:=⟨gX,0,none⟩) hne (.int .i64 (k+m));replace hb:=hb.setCell (p:=⟨gX,0,none⟩) (by dsimp only;omega) (.int .i64 (k+m));replace hO:=hO.set 0 (.int .i64 (k+m));replace hA:=hA.far (p:=⟨gX,1,none⟩) (by dsimp only;omega) (.slice (some ⟨gI,0,none⟩) dn dn);replace hR:=hR.far (p:=⟨gX,1,none⟩) (by dsimp only;omega) (.slice (some ⟨gI,0,none⟩) dn dn);replace hI:=hI.far (p:=⟨gX,1,none⟩) hne (.slice (some ⟨gI,0,none⟩) dn dn);replace hb:=hb.setCell (p:=⟨gX,1,none⟩) (by dsimp only;omega) (.slice (some ⟨gI,0,none⟩) dn dn);replace hO:=hO.set 1 (.slice (some ⟨gI,0,none⟩) dn dn);generalize (W4.setCell ⟨gX,0,none⟩ (.int .i64 (k+m))).setCell ⟨gX,1,none⟩ (.slice (some ⟨gI,0,none⟩) dn dn)=W5 at *;clear hne;refine hK.out _ _ ?_ (fun _=>?_)
          · ((try dsimp only);(exact ⟨hA.cell 0,hA.cell 1⟩))
          clear hK K
          (try simp only [Act.put,pA,pB,pC])
          refine wpAnyH_done (by kernel_rfl) ?_ _;go_wp2_with fail
          go_meet
          exact ⟨gI,gX,rfl,hgI2,hgX1,hA,hR,hI,hO,hb⟩
        · skip
          (go_simp;try go_wp2_with fail)
          have hO:=Own.new W2 32 #[.int .i64 0,.slice none 0 0];have hgX1:g1<W2.heap.size:=hR.lt;have hbX:=bA1 W2 (.cells #[.int .i64 0,.slice none 0 0] 32);replace hb:=bT' hb hbX (by have:=hA.lt;omega);replace hA:=hA.keep hbX hA.lt;replace hR:=hR.keep hbX hR.lt;clear hbX;generalize W2.alloc (.cells #[.int .i64 0,.slice none 0 0] 32)=W6 at *;generalize hgXg:W2.heap.size=gX at *;clear hgXg;refine hK.out _ _ ?_ (fun _=>?_)
          · ((try dsimp only);(exact ⟨hA.cell 0,hA.cell 1⟩))
          clear hK K
          (try simp only [Act.put,pA,pB,pC])
          refine hdC 6 (fun K hK=>?_);have hbl:g1<W6.heap.size:=hR.lt
          (go_simp;(go_at_call 66;refine (newDerivation_c dc c (k+m) (HD.out.keep (show Below w.heap.size w _ by rw [HG.out];exact hb)) (by omega)).mono ?_;rintro e W7 ⟨gI,rfl,hgI,hI,hbX⟩);go_wp2_with fail)
          replace hb:=bT' hb hbX (by have:=hA.lt;omega);replace hA:=hA.keep hbX hA.lt;replace hR:=hR.keep hbX hR.lt;replace hO:=hO.keep hbX hO.lt;clear hbX;have hgI2:g1<gI:=(by omega);clear hgI hbl;refine hK.out _ _ ?_ (fun _=>?_)
          · ((try dsimp only);(exact ⟨hA.cell 0,hA.cell 1⟩))
          clear hK K
          (try simp only [Act.put,pA,pB,pC])
          refine hdC 8 (fun K hK=>?_);have s0:=hO.cell 0;have s1:=hO.cell 1;have f0:=hO.frozen 0;have f1:=hO.frozen 1;have hne:=own_neR hI hO (by decide)
          (go_simp;go_wp2_with fail)
          clear s0 s1 f0 f1;replace hA:=hA.far (p:=⟨gX,0,none⟩) (by dsimp only;omega) (.int .i64 (k+m));replace hR:=hR.far (p:=⟨gX,0,none⟩) (by dsimp only;omega) (.int .i64 (k+m));replace hI:=hI.far (p:=⟨gX,0,none⟩) hne (.int .i64 (k+m));replace hb:=hb.setCell (p:=⟨gX,0,none⟩) (by dsimp only;omega) (.int .i64 (k+m));replace hO:=hO.set 0 (.int .i64 (k+m));replace hA:=hA.far (p:=⟨gX,1,none⟩) (by dsimp only;omega) (.slice (some ⟨gI,0,none⟩) dn dn);replace hR:=hR.far (p:=⟨gX,1,none⟩) (by dsimp only;omega) (.slice (some ⟨gI,0,none⟩) dn dn);replace hI:=hI.far (p:=⟨gX,1,none⟩) hne (.slice (some ⟨gI,0,none⟩) dn dn);replace hb:=hb.setCell (p:=⟨gX,1,none⟩) (by dsimp only;omega) (.slice (some ⟨gI,0,none⟩) dn dn);replace hO:=hO.set 1 (.slice (some ⟨gI,0,none⟩) dn dn);generalize (W7.setCell ⟨gX,0,none⟩ (.int .i64 (k+m))).setCell ⟨gX,1,none⟩ (.slice (some ⟨gI,0,none⟩) dn dn)=W8 at *;clear hne;refine hK.out _ _ ?_ (fun _=>?_)
          · ((try dsimp only);(exact ⟨hA.cell 0,hA.cell 1⟩))
          clear hK K
          (try simp only [Act.put,pA,pB,pC])
          refine wpAnyH_done (by kernel_rfl) ?_ _;go_wp2_with fail
          go_meet
          exact ⟨gI,gX,rfl,hgI2,hgX1,hA,hR,hI,hO,hb⟩
      · skip
        (go_simp;try go_wp2_with fail)
        have hO:=Own.new W1 32 #[.int .i64 0,.slice none 0 0];have hgX1:g1<W1.heap.size:=hR.lt;have hbX:=bA1 W1 (.cells #[.int .i64 0,.slice none 0 0] 32);replace hb:=bT' hb hbX (by have:=hA.lt;omega);replace hA:=hA.keep hbX hA.lt;replace hR:=hR.keep hbX hR.lt;clear hbX;generalize W1.alloc (.cells #[.int .i64 0,.slice none 0 0] 32)=W9 at *;generalize hgXg:W1.heap.size=gX at *;clear hgXg;refine hK.out _ _ ?_ (fun _=>?_)
        · ((try dsimp only);(exact ⟨hA.cell 0,hA.cell 1⟩))
        clear hK K
        (try simp only [Act.put,pA,pB,pC])
        refine hdC 4 (fun K hK=>?_)
        (go_simp;(go_at_call 178;refine (low_drop_c m a2 n2 c2).mono ?_;rintro e W10 ⟨rfl,hbX⟩);go_wp2_with fail)
        replace hb:=bT' hb hbX (by have:=hA.lt;omega);replace hA:=hA.keep hbX hA.lt;replace hR:=hR.keep hbX hR.lt;replace hO:=hO.keep hbX hO.lt;clear hbX;refine hK.out _ _ ?_ (fun _=>?_)
        · ((try dsimp only);(exact ⟨hA.cell 0,hA.cell 1⟩))
        clear hK K
        (try simp only [Act.put,pA,pB,pC])
        (refine hdT 5 ?_);rw [HWR.out]
        refine hdC 6 (fun K hK=>?_);have hbl:g1<W10.heap.size:=hR.lt
        (go_simp;(go_at_call 66;refine (newDerivation_c dc c (k+m) (HD.out.keep (show Below w.heap.size w _ by rw [HG.out];exact hb)) (by omega)).mono ?_;rintro e W11 ⟨gI,rfl,hgI,hI,hbX⟩);go_wp2_with fail)
        replace hb:=bT' hb hbX (by have:=hA.lt;omega);replace hA:=hA.keep hbX hA.lt;replace hR:=hR.keep hbX hR.lt;replace hO:=hO.keep hbX hO.lt;clear hbX;have hgI2:g1<gI:=(by omega);clear hgI hbl;refine hK.out _ _ ?_ (fun _=>?_)
        · ((try dsimp only);(exact ⟨hA.cell 0,hA.cell 1⟩))
        clear hK K
        (try simp only [Act.put,pA,pB,pC])
        refine hdC 8 (fun K hK=>?_);have s0:=hO.cell 0;have s1:=hO.cell 1;have f0:=hO.frozen 0;have f1:=hO.frozen 1;have hne:=own_neR hI hO (by decide)
        (go_simp;go_wp2_with fail)
        clear s0 s1 f0 f1;replace hA:=hA.far (p:=⟨gX,0,none⟩) (by dsimp only;omega) (.int .i64 (k+m));replace hR:=hR.far (p:=⟨gX,0,none⟩) (by dsimp only;omega) (.int .i64 (k+m));replace hI:=hI.far (p:=⟨gX,0,none⟩) hne (.int .i64 (k+m));replace hb:=hb.setCell (p:=⟨gX,0,none⟩) (by dsimp only;omega) (.int .i64 (k+m));replace hO:=hO.set 0 (.int .i64 (k+m));replace hA:=hA.far (p:=⟨gX,1,none⟩) (by dsimp only;omega) (.slice (some ⟨gI,0,none⟩) dn dn);replace hR:=hR.far (p:=⟨gX,1,none⟩) (by dsimp only;omega) (.slice (some ⟨gI,0,none⟩) dn dn);replace hI:=hI.far (p:=⟨gX,1,none⟩) hne (.slice (some ⟨gI,0,none⟩) dn dn);replace hb:=hb.setCell (p:=⟨gX,1,none⟩) (by dsimp only;omega) (.slice (some ⟨gI,0,none⟩) dn dn);replace hO:=hO.set 1 (.slice (some ⟨gI,0,none⟩) dn dn);generalize (W11.setCell ⟨gX,0,none⟩ (.int .i64 (k+m))).setCell ⟨gX,1,none⟩ (.slice (some ⟨gI,0,none⟩) dn dn)=W12 at *;clear hne;refine hK.out _ _ ?_ (fun _=>?_)
        · ((try dsimp only);(exact ⟨hA.cell 0,hA.cell 1⟩))
        clear hK K
        (try simp only [Act.put,pA,pB,pC])
        refine wpAnyH_done (by kernel_rfl) ?_ _;go_wp2_with fail
        go_meet
        exact ⟨gI,gX,rfl,hgI2,hgX1,hA,hR,hI,hO,hb⟩
    · skip
      (go_simp;try go_wp2_with fail)
      have hO:=Own.new Wd 32 #[.int .i64 0,.slice none 0 0];have hgX1:g1<Wd.heap.size:=hR.lt;have hbX:=bA1 Wd (.cells #[.int .i64 0,.slice none 0 0] 32);replace hb:=bT' hb hbX (by have:=hA.lt;omega);replace hA:=hA.keep hbX hA.lt;replace hR:=hR.keep hbX hR.lt;clear hbX;generalize Wd.alloc (.cells #[.int .i64 0,.slice none 0 0] 32)=W13 at *;generalize hgXg:Wd.heap.size=gX at *;clear hgXg;refine hK.out _ _ ?_ (fun _=>?_)
      · ((try dsimp only);(exact ⟨hA.cell 0,hA.cell 1⟩))
      clear hK K
      (try simp only [Act.put,pA,pB,pC])
      refine hdC 2 (fun K hK=>?_)
      (go_simp;(go_at_call 178;refine (low_drop_c k a1 n1 c1).mono ?_;rintro e W14 ⟨rfl,hbX⟩);go_wp2_with fail)
      replace hb:=bT' hb hbX (by have:=hA.lt;omega);replace hA:=hA.keep hbX hA.lt;replace hR:=hR.keep hbX hR.lt;replace hO:=hO.keep hbX hO.lt;clear hbX;refine hK.out _ _ ?_ (fun _=>?_)
      · ((try dsimp only);(exact ⟨hA.cell 0,hA.cell 1⟩))
      clear hK K
      (try simp only [Act.put,pA,pB,pC])
      refine hdC 4 (fun K hK=>?_)
      (go_simp;(go_at_call 178;refine (low_drop_c m a2 n2 c2).mono ?_;rintro e W15 ⟨rfl,hbX⟩);go_wp2_with fail)
      replace hb:=bT' hb hbX (by have:=hA.lt;omega);replace hA:=hA.keep hbX hA.lt;replace hR:=hR.keep hbX hR.lt;replace hO:=hO.keep hbX hO.lt;clear hbX;refine hK.out _ _ ?_ (fun _=>?_)
      · ((try dsimp only);(exact ⟨hA.cell 0,hA.cell 1⟩))
      clear hK K
      (try simp only [Act.put,pA,pB,pC])
      (refine hdT 5 ?_);rw [HWR.out]
      refine hdC 6 (fun K hK=>?_);have hbl:g1<W15.heap.size:=hR.lt
      (go_simp;(go_at_call 66;refine (newDerivation_c dc c (k+m) (HD.out.keep (show Below w.heap.size w _ by rw [HG.out];exact hb)) (by omega)).mono ?_;rintro e W16 ⟨gI,rfl,hgI,hI,hbX⟩);go_wp2_with fail)
      replace hb:=bT' hb hbX (by have:=hA.lt;omega);replace hA:=hA.keep hbX hA.lt;replace hR:=hR.keep hbX hR.lt;replace hO:=hO.keep hbX hO.lt;clear hbX;have hgI2:g1<gI:=(by omega);clear hgI hbl;refine hK.out _ _ ?_ (fun _=>?_)
      · ((try dsimp only);(exact ⟨hA.cell 0,hA.cell 1⟩))
      clear hK K
      (try simp only [Act.put,pA,pB,pC])
      refine hdC 8 (fun K hK=>?_);have s0:=hO.cell 0;have s1:=hO.cell 1;have f0:=hO.frozen 0;have f1:=hO.frozen 1;have hne:=own_neR hI hO (by decide)
      (go_simp;go_wp2_with fail)
      clear s0 s1 f0 f1;replace hA:=hA.far (p:=⟨gX,0,none⟩) (by dsimp only;omega) (.int .i64 (k+m));replace hR:=hR.far (p:=⟨gX,0,none⟩) (by dsimp only;omega) (.int .i64 (k+m));replace hI:=hI.far (p:=⟨gX,0,none⟩) hne (.int .i64 (k+m));replace hb:=hb.setCell (p:=⟨gX,0,none⟩) (by dsimp only;omega) (.int .i64 (k+m));replace hO:=hO.set 0 (.int .i64 (k+m));replace hA:=hA.far (p:=⟨gX,1,none⟩) (by dsimp only;omega) (.slice (some ⟨gI,0,none⟩) dn dn);replace hR:=hR.far (p:=⟨gX,1,none⟩) (by dsimp only;omega) (.slice (some ⟨gI,0,none⟩) dn dn);replace hI:=hI.far (p:=⟨gX,1,none⟩) hne (.slice (some ⟨gI,0,none⟩) dn dn);replace hb:=hb.setCell (p:=⟨gX,1,none⟩) (by dsimp only;omega) (.slice (some ⟨gI,0,none⟩) dn dn);replace hO:=hO.set 1 (.slice (some ⟨gI,0,none⟩) dn dn);generalize (W16.setCell ⟨gX,0,none⟩ (.int .i64 (k+m))).setCell ⟨gX,1,none⟩ (.slice (some ⟨gI,0,none⟩) dn dn)=W17 at *;clear hne;refine hK.out _ _ ?_ (fun _=>?_)
      · ((try dsimp only);(exact ⟨hA.cell 0,hA.cell 1⟩))
      clear hK K
      (try simp only [Act.put,pA,pB,pC])
      refine wpAnyH_done (by kernel_rfl) ?_ _;go_wp2_with fail
      go_meet
      exact ⟨gI,gX,rfl,hgI2,hgX1,hA,hR,hI,hO,hb⟩
   case rest=>
    clear hb hA hR;obtain ⟨gI,gX,rfl,hgI2,hgX2,hA,hR,hI,hO,hb⟩:=hcut;have hVC0:(valCells dn []).toArray=Array.replicate dn (Value.slice none 0 0):=(by simp [valCells]);rw [←hVC0] at hI;have cO:=hO.cell 1;clear hVC0;go_wp2_with fail
    clear cO
    go_loopw [31] (fun y wr=>∃(p:Nat) (vs:List Value),p≤dn∧y=.int .i64 p∧Below g0 w wr∧Own wr g0 36 #[.slice da dn dc,.slice a n c]∧Own wr g1 32 #[.int .i64 0,.slice none 0 0]∧Own wr gX 32 #[.int .i64 (k+m),.slice (some ⟨gI,0,none⟩) dn dn]∧Hid (Own wr gI 59 (valCells dn vs).toArray)∧Hid (Vals wr g0 vs (brs (brAt zs k gss m hss) p))∧Hid (∀i,i<p→okT zs ((brAt zs k gss m hss) i)=true)) (fun y _=>dn - (intOf y).toNat)
    case atStart=>exact ⟨0,[],Nat.zero_le _,rfl,hb,hA,hR,hO,Lib.hid hI,Lib.hid (Vals.nil _ _),Lib.hid (fun i hi=>absurd hi (by omega))⟩
    case round=>
     clear hb hA hR hO hI;obtain ⟨p,vs,hp,rfl,hb,hA,hR,hO,hI,hW,HJ⟩:=hrel;by_cases hpn:p<dn
     · have hga:w.heap.size≤g0:=Nat.le_of_eq HG.out;have hp0:(0:Int)≤(p:Int):=(by omega);have hpd:(p:Int)<(dn:Int):=(by omega);have HN:=Lib.hid (brAt9 (k:=k) (m:=m) HA1.out HA2.out p);have HCO:Hid (∀x,diffR (odd m) zs hss (-1) (diffR (odd k) zs gss 1 zeroL (hss.getD p [])) (gss.getD p []) x=coef ((brAt zs k gss m hss) p) x):=Lib.hid (fun x=>by rw [←br_coef (k:=k) (m:=m) HA1.out HA2.out p x,HSC.out]);obtain ⟨TT,hTT⟩:∃T,(brAt zs k gss m hss) p=T:=⟨_,rfl⟩;have HTT:=Lib.hid hTT;rw [hTT] at HN HCO;clear hTT;obtain ⟨E,hE⟩:∃E,fE zs TT=E:=⟨_,rfl⟩;have HEE:=Lib.hid hE;clear hE;go_upto_region 8 with fail
       go_cut [11,12] (fun q e wx=>∃(g:Nat) (va:Option Addr) (vn vc:Nat),q=.pointer (some ⟨g,0,none⟩)∧e=.int .i64 E∧Below wr.heap.size wr wx∧wr.heap.size≤g∧Own wx g 59 #[.slice va vn vc]∧OwnR wx wr.heap.size (.slice va vn vc) (fV zs TT))
       case first=>
        have hC:Below wr.heap.size wr wr:=Below.refl _ _;replace hb:Below w.heap.size w wr:=(by rw [HG.out];exact hb);have c0:=hA.cell 0;have c1':=hA.cell 1;clear hI hW HJ hO hR;go_wp2_with fail
        refine (differenceL_c a n dc c k c1 m c2 p (HD.out.keep hb) (HF1.out.keep hb) (HF2.out.keep hb) HA1.out HA2.out hpn).mono ?_;rintro e W1 ⟨bm,NN,rfl,-,hNN,hM,hbX⟩;clear hA c0 c1';replace hb:=bT' hb hbX hb.size;replace hC:=bT' hC hbX hC.size;clear hbX;go_wp2_with fail
        have hbs:=hC.size;refine (form_c hM (by omega) (diffR_bd (diffR_bd (fun _=>by simp [zeroL])))).mono ?_;rintro e W2 ⟨hf,hbX⟩;obtain ⟨v,rfl,hV⟩:=hf.tolds HN.out.1.good HN.out.1.tm HN.out.2 HCO.out;rw [HEE.out];clear hM hf;replace hb:=bT' hb hbX hb.size;replace hC:=bT' hC hbX hC.size;clear hbX;replace hV:=hV.weaken hbs;clear hbs;obtain ⟨va,vn,vc,rfl⟩:=hV.isSlice;have hB0:=Own.new W2 59 #[.slice none 0 0];have s0:=hB0.cell 0;have f0:=hB0.frozen 0;go_wp2_with fail
        clear s0 f0 hB0;go_meet
        have hB:=Own.new W2 59 #[.slice va vn vc];have hbX:=bA1 W2 (.cells #[.slice va vn vc] 59);exact ⟨W2.heap.size,va,vn,vc,rfl,rfl,bT' hC hbX hC.size,hC.size,hB,hV.keep hbX⟩
       case rest=>
        obtain ⟨gF,va,vn,vc,rfl,rfl,hbX,hgF,hB,hV⟩:=hcut;have hsz:g1<wr.heap.size:=hR.lt;have HLT:=Lib.hid hW.out.lt;replace hO:=hO.keep hbX hO.lt;replace hI:=Lib.hid (hI.out.keep hbX hI.out.lt);replace hW:=Lib.hid (hW.out.keep hbX);replace hb:=bT' hb hbX (by have:=hA.lt;omega);replace hA:=hA.keep hbX hA.lt;replace hR:=hR.keep hbX hR.lt;clear hbX;have e0:=hB.cell 0;cases hkT:okT zs TT
        · have eE:fE zs TT=3:=(by rw [fE,hkT];rfl);rw [HEE.out] at eE;subst eE;have HE:=Lib.hid (okBr_no (zs:=zs) (B:=brAt zs k gss m hss) (i:=p) hpn (by rw [HTT.out];exact hkT));clear hI hW HLT hV e0 hO hA hB hkT;have r0:=hR.cell 0;have r1:=hR.cell 1;have f0:=hR.frozen 0;have f1:=hR.frozen 1;go_wp2_with fail
          have q:=(hR.set 0 (.int .i64 0)).set 1 (.slice none 0 0);have qb:=(hb.setCell (p:=⟨g1,0,none⟩) (by dsimp only;omega) (.int .i64 0)).setCell (p:=⟨g1,1,none⟩) (by dsimp only;omega) (.slice none 0 0);exact bodyPost_ret (results_row2 rfl _ _ g1 32 #[.int .i64 0,.slice none 0 0] (0,0) _ rfl q Tryz.underlying32 rfl Tryz.info_der) rfl ⟨none,0,0,by rw [HE.out.1,HE.out.2.1];rfl,by rw [HE.out.2.2];exact OwnF.none_,by rw [HG.out];exact qb⟩
        · have eE:fE zs TT=0:=(by rw [fE,if_pos hkT]);rw [HEE.out] at eE;subst eE;rw [fV,if_pos hkT] at hV;have HKT:=Lib.hid hkT;clear hkT;have hvl:vs.length=p:=(by rw [hW.out.len,brs_len]);have HS2:=Lib.hid (hW.out.snoc HLT.out (by have:=hsz;omega) hV);have HVC:=Lib.hid (valCells_step (v:=.slice va vn vc) hvl hpn);obtain ⟨oI,cI⟩:=hI.out.has (i:=p) (by rw [List.size_toArray,valCells_len (by omega)];exact hpn);have fI:=hI.out.frozen p;have cO:=hO.cell 1;clear hV;go_upto_region 12 with fail
          clear e0 cI fI cO;have hI5:=hI.out.set p (.slice va vn vc);rw [HVC.out] at hI5;have HI5:=Lib.hid hI5;have HW5:=Lib.hid (HS2.out.far (p:=⟨gI,p,none⟩) hI.out (.slice va vn vc));have hne:=own_neR hO hI.out (by decide);have hO5:=hO.far (p:=⟨gI,p,none⟩) hne (.slice va vn vc);have hA5:=hA.far (p:=⟨gI,p,none⟩) (by dsimp only;omega) (.slice va vn vc);have hR5:=hR.far (p:=⟨gI,p,none⟩) (by dsimp only;omega) (.slice va vn vc);have hb5:=hb.setCell (p:=⟨gI,p,none⟩) (by dsimp only;omega) (.slice va vn vc);clear hI5 hI hW HS2 hO hA hR hb hB hne;generalize World.setCell _ ⟨gI,p,none⟩ (.slice va vn vc)=wz at *;go_wp2_with fail
          go_roundw
          case rel=>
           refine ⟨p+1,vs++[.slice va vn vc],by omega,by go_num,hb5,hA5,hR5,hO5,HI5,by rw [brs_succ,HTT.out];exact HW5,Lib.hid (fun i hi=>?_)⟩;by_cases ei:i=p
           · rw [ei,HTT.out];exact HKT.out
           · exact HJ.out i (by omega)
          case measure=>simp [intOf] <;> omega
     · have he:p=dn:=(by omega);subst he;have HE:=Lib.hid (okBr_yes (zs:=zs) (B:=brAt zs k gss m hss) HJ.out);have hvl:vs.length=p:=(by rw [hW.out.len,brs_len]);have hFF:=hW.out.ownF (n:=p) (brs_len _ p) hI.out (fun i v hi=>by rw [valCells_full hvl,List.getElem?_toArray];exact hi) (by omega) (brs_tm (fun i=>(brAt9 (k:=k) (m:=m) HA1.out HA2.out i).1.tm) p);have HFFF:=Lib.hid hFF;have k0:=hO.cell 0;have k1:=hO.cell 1;have r0:=hR.cell 0;have r1:=hR.cell 1;have f0:=hR.frozen 0;have f1:=hR.frozen 1;clear hFF hI hW;go_wp2_with fail
       have q:=(hR.set 0 (.int .i64 (k+m))).set 1 (.slice (some ⟨gI,0,none⟩) p p);have qb:=(hb.setCell (p:=⟨g1,0,none⟩) (by dsimp only;omega) (.int .i64 (k+m))).setCell (p:=⟨g1,1,none⟩) (by dsimp only;omega) (.slice (some ⟨gI,0,none⟩) p p);have qF:=ownF_far9 (p:=⟨g1,1,none⟩) (ownF_far9 (p:=⟨g1,0,none⟩) HFFF.out hR (.int .i64 (k+m))) (hR.set 0 _) (.slice (some ⟨gI,0,none⟩) p p);exact bodyPost_ret (results_row2 rfl _ _ g1 32 #[.int .i64 (k+m),.slice (some ⟨gI,0,none⟩) p p] (0,0) _ rfl q Tryz.underlying32 rfl Tryz.info_der) rfl ⟨some ⟨gI,0,none⟩,p,p,by rw [HE.out.1,HE.out.2.1];rfl,by rw [HE.out.2.2,HG.out];exact qF.weaken (Nat.le_refl _) (by simp),by rw [HG.out];exact qb⟩
 · have HOK:=Lib.hid hok;clear hok;go_wp2_with fail
   refine (low_drop_c m a2 n2 c2).mono ?_;rintro e w2 ⟨rfl,hbX⟩;replace hb:=bT' hb hbX (by have:=hA.lt;omega);replace hA:=hA.keep hbX hA.lt;replace hR:=hR.keep hbX hR.lt;clear hbX;go_wp2_with fail
   refine (isOdd_c _ _).mono ?_;rintro e w' ⟨rfl,rfl⟩;cases hom:odd m
   · have HSC:Hid (sc9 k m=-1):=Lib.hid (by rw [sc9,hom];simp);clear hom;go_upto_region 4 with fail
     go_cut [9] (fun q wx=>∃gI gX:Nat,q=.pointer (some ⟨gX,0,none⟩)∧g1<gI∧g1<gX∧Own wx g0 36 #[.slice da dn dc,.slice a n c]∧Own wx g1 32 #[.int .i64 0,.slice none 0 0]∧Own wx gI 59 (Array.replicate dn (.slice none 0 0))∧Own wx gX 32 #[.int .i64 (k+m),.slice (some ⟨gI,0,none⟩) dn dn]∧Below g0 w wx)
     case first=>
      replace hA:Own w2.drew g0 36 #[.slice da dn dc,.slice a n c]:=hA;replace hR:Own w2.drew g1 32 #[.int .i64 0,.slice none 0 0]:=hR;replace hb:Below g0 w w2.drew:=hb.drew;refine wp_region_held_drew (S:=(fun w'=>w'.cell? ⟨g0,0,none⟩=some (.slice da dn dc)∧w'.cell? ⟨g0,1,none⟩=some (.slice a n c))) (by kernel_rfl) ?_ (fun _=>?_)
      · ((try dsimp only);(exact ⟨hA.cell 0,hA.cell 1⟩))
      generalize w2.drew=Wd at *;refine hdT 0 ?_;refine hdT 1 ?_;refine hdT 3 ?_;refine wpAnyH_ready (rs:=[2,7]) (by kernel_rfl) (by simp) ?_;refine AllReadyH.cons (hdAt (i:=2) rfl) (fun K hK=>?_) (AllReadyH.cons (hdAt (i:=7) rfl) (fun K hK=>?_) AllReadyH.nil)
      · skip
        (go_simp;(go_at_call 178;refine (low_drop_c k a1 n1 c1).mono ?_;rintro e W1 ⟨rfl,hbX⟩);go_wp2_with fail)
        replace hb:=bT' hb hbX (by have:=hA.lt;omega);replace hA:=hA.keep hbX hA.lt;replace hR:=hR.keep hbX hR.lt;clear hbX;refine hK.out _ _ ?_ (fun _=>?_)
        · ((try dsimp only);(exact ⟨hA.cell 0,hA.cell 1⟩))
        clear hK K
        (try simp only [Act.put,pA,pB,pC])
        refine wpAnyH_ready (rs:=[4,7]) (by kernel_rfl) (by simp) ?_;refine AllReadyH.cons (hdAt (i:=4) rfl) (fun K hK=>?_) (AllReadyH.cons (hdAt (i:=7) rfl) (fun K hK=>?_) AllReadyH.nil)
        · skip
          (go_simp;(go_at_call 178;refine (low_drop_c m a2 n2 c2).mono ?_;rintro e W2 ⟨rfl,hbX⟩);go_wp2_with fail)
          replace hb:=bT' hb hbX (by have:=hA.lt;omega);replace hA:=hA.keep hbX hA.lt;replace hR:=hR.keep hbX hR.lt;clear hbX;refine hK.out _ _ ?_ (fun _=>?_)
          · ((try dsimp only);(exact ⟨hA.cell 0,hA.cell 1⟩))
          clear hK K
          (try simp only [Act.put,pA,pB,pC])
          (refine hdT 5 ?_);rw [HWR.out]
          refine wpAnyH_ready (rs:=[6,7]) (by kernel_rfl) (by simp) ?_;refine AllReadyH.cons (hdAt (i:=6) rfl) (fun K hK=>?_) (AllReadyH.cons (hdAt (i:=7) rfl) (fun K hK=>?_) AllReadyH.nil)
          · skip
            have hbl:g1<W2.heap.size:=hR.lt
            (go_simp;(go_at_call 66;refine (newDerivation_c dc c (k+m) (HD.out.keep (show Below w.heap.size w _ by rw [HG.out];exact hb)) (by omega)).mono ?_;rintro e W3 ⟨gI,rfl,hgI,hI,hbX⟩);go_wp2_with fail)
            replace hb:=bT' hb hbX (by have:=hA.lt;omega);replace hA:=hA.keep hbX hA.lt;replace hR:=hR.keep hbX hR.lt;clear hbX;have hgI2:g1<gI:=(by omega);clear hgI hbl;refine hK.out _ _ ?_ (fun _=>?_)
            · ((try dsimp only);(exact ⟨hA.cell 0,hA.cell 1⟩))
            clear hK K
            (try simp only [Act.put,pA,pB,pC])
            refine hdC 7 (fun K hK=>?_)
            (go_simp;try go_wp2_with fail)
            have hO:=Own.new W3 32 #[.int .i64 0,.slice none 0 0];have hgX1:g1<W3.heap.size:=hR.lt;have hbX:=bA1 W3 (.cells #[.int .i64 0,.slice none 0 0] 32);replace hb:=bT' hb hbX (by have:=hA.lt;omega);replace hA:=hA.keep hbX hA.lt;replace hR:=hR.keep hbX hR.lt;replace hI:=hI.keep hbX hI.lt;clear hbX;generalize W3.alloc (.cells #[.int .i64 0,.slice none 0 0] 32)=W4 at *;generalize hgXg:W3.heap.size=gX at *;clear hgXg;refine hK.out _ _ ?_ (fun _=>?_)
            · ((try dsimp only);(exact ⟨hA.cell 0,hA.cell 1⟩))
            clear hK K
            (try simp only [Act.put,pA,pB,pC])
            refine hdC 8 (fun K hK=>?_);have s0:=hO.cell 0;have s1:=hO.cell 1;have f0:=hO.frozen 0;have f1:=hO.frozen 1;have hne:=own_neR hI hO (by decide)
            (go_simp;go_wp2_with fail)
            clear s0 s1 f0 f1;replace hA:=hA.far (p:=⟨gX,0,none⟩) (by dsimp only;omega) (.int .i64 (k+m));replace hR:=hR.far (p:=⟨gX,0,none⟩) (by dsimp only;omega) (.int .i64 (k+m));replace hI:=hI.far (p:=⟨gX,0,none⟩) hne (.int .i64 (k+m));replace hb:=hb.setCell (p:=⟨gX,0,none⟩) (by dsimp only;omega) (.int .i64 (k+m));replace hO:=hO.set 0 (.int .i64 (k+m));replace hA:=hA.far (p:=⟨gX,1,none⟩) (by dsimp only;omega) (.slice (some ⟨gI,0,none⟩) dn dn);replace hR:=hR.far (p:=⟨gX,1,none⟩) (by dsimp only;omega) (.slice (some ⟨gI,0,none⟩) dn dn);replace hI:=hI.far (p:=⟨gX,1,none⟩) hne (.slice (some ⟨gI,0,none⟩) dn dn);replace hb:=hb.setCell (p:=⟨gX,1,none⟩) (by dsimp only;omega) (.slice (some ⟨gI,0,none⟩) dn dn);replace hO:=hO.set 1 (.slice (some ⟨gI,0,none⟩) dn dn);generalize (W4.setCell ⟨gX,0,none⟩ (.int .i64 (k+m))).setCell ⟨gX,1,none⟩ (.slice (some ⟨gI,0,none⟩) dn dn)=W5 at *;clear hne;refine hK.out _ _ ?_ (fun _=>?_)
            · ((try dsimp only);(exact ⟨hA.cell 0,hA.cell 1⟩))
            clear hK K
            (try simp only [Act.put,pA,pB,pC])
            refine wpAnyH_done (by kernel_rfl) ?_ _;go_wp2_with fail
            go_meet
            exact ⟨gI,gX,rfl,hgI2,hgX1,hA,hR,hI,hO,hb⟩
          · skip
            (go_simp;try go_wp2_with fail)
            have hO:=Own.new W2 32 #[.int .i64 0,.slice none 0 0];have hgX1:g1<W2.heap.size:=hR.lt;have hbX:=bA1 W2 (.cells #[.int .i64 0,.slice none 0 0] 32);replace hb:=bT' hb hbX (by have:=hA.lt;omega);replace hA:=hA.keep hbX hA.lt;replace hR:=hR.keep hbX hR.lt;clear hbX;generalize W2.alloc (.cells #[.int .i64 0,.slice none 0 0] 32)=W6 at *;generalize hgXg:W2.heap.size=gX at *;clear hgXg;refine hK.out _ _ ?_ (fun _=>?_)
            · ((try dsimp only);(exact ⟨hA.cell 0,hA.cell 1⟩))
            clear hK K
            (try simp only [Act.put,pA,pB,pC])
            refine hdC 6 (fun K hK=>?_);have hbl:g1<W6.heap.size:=hR.lt
            (go_simp;(go_at_call 66;refine (newDerivation_c dc c (k+m) (HD.out.keep (show Below w.heap.size w _ by rw [HG.out];exact hb)) (by omega)).mono ?_;rintro e W7 ⟨gI,rfl,hgI,hI,hbX⟩);go_wp2_with fail)
            replace hb:=bT' hb hbX (by have:=hA.lt;omega);replace hA:=hA.keep hbX hA.lt;replace hR:=hR.keep hbX hR.lt;replace hO:=hO.keep hbX hO.lt;clear hbX;have hgI2:g1<gI:=(by omega);clear hgI hbl;refine hK.out _ _ ?_ (fun _=>?_)
            · ((try dsimp only);(exact ⟨hA.cell 0,hA.cell 1⟩))
            clear hK K
            (try simp only [Act.put,pA,pB,pC])
            refine hdC 8 (fun K hK=>?_);have s0:=hO.cell 0;have s1:=hO.cell 1;have f0:=hO.frozen 0;have f1:=hO.frozen 1;have hne:=own_neR hI hO (by decide)
            (go_simp;go_wp2_with fail)
            clear s0 s1 f0 f1;replace hA:=hA.far (p:=⟨gX,0,none⟩) (by dsimp only;omega) (.int .i64 (k+m));replace hR:=hR.far (p:=⟨gX,0,none⟩) (by dsimp only;omega) (.int .i64 (k+m));replace hI:=hI.far (p:=⟨gX,0,none⟩) hne (.int .i64 (k+m));replace hb:=hb.setCell (p:=⟨gX,0,none⟩) (by dsimp only;omega) (.int .i64 (k+m));replace hO:=hO.set 0 (.int .i64 (k+m));replace hA:=hA.far (p:=⟨gX,1,none⟩) (by dsimp only;omega) (.slice (some ⟨gI,0,none⟩) dn dn);replace hR:=hR.far (p:=⟨gX,1,none⟩) (by dsimp only;omega) (.slice (some ⟨gI,0,none⟩) dn dn);replace hI:=hI.far (p:=⟨gX,1,none⟩) hne (.slice (some ⟨gI,0,none⟩) dn dn);replace hb:=hb.setCell (p:=⟨gX,1,none⟩) (by dsimp only;omega) (.slice (some ⟨gI,0,none⟩) dn dn);replace hO:=hO.set 1 (.slice (some ⟨gI,0,none⟩) dn dn);generalize (W7.setCell ⟨gX,0,none⟩ (.int .i64 (k+m))).setCell ⟨gX,1,none⟩ (.slice (some ⟨gI,0,none⟩) dn dn)=W8 at *;clear hne;refine hK.out _ _ ?_ (fun _=>?_)
            · ((try dsimp only);(exact ⟨hA.cell 0,hA.cell 1⟩))
            clear hK K
            (try simp only [Act.put,pA,pB,pC])
            refine wpAnyH_done (by kernel_rfl) ?_ _;go_wp2_with fail
            go_meet
            exact ⟨gI,gX,rfl,hgI2,hgX1,hA,hR,hI,hO,hb⟩
        · skip
          (go_simp;try go_wp2_with fail)
          have hO:=Own.new W1 32 #[.int .i64 0,.slice none 0 0];have hgX1:g1<W1.heap.size:=hR.lt;have hbX:=bA1 W1 (.cells #[.int .i64 0,.slice none 0 0] 32);replace hb:=bT' hb hbX (by have:=hA.lt;omega);replace hA:=hA.keep hbX hA.lt;replace hR:=hR.keep hbX hR.lt;clear hbX;generalize W1.alloc (.cells #[.int .i64 0,.slice none 0 0] 32)=W9 at *;generalize hgXg:W1.heap.size=gX at *;clear hgXg;refine hK.out _ _ ?_ (fun _=>?_)
          · ((try dsimp only);(exact ⟨hA.cell 0,hA.cell 1⟩))
          clear hK K
          (try simp only [Act.put,pA,pB,pC])
          refine hdC 4 (fun K hK=>?_)
          (go_simp;(go_at_call 178;refine (low_drop_c m a2 n2 c2).mono ?_;rintro e W10 ⟨rfl,hbX⟩);go_wp2_with fail)
          replace hb:=bT' hb hbX (by have:=hA.lt;omega);replace hA:=hA.keep hbX hA.lt;replace hR:=hR.keep hbX hR.lt;replace hO:=hO.keep hbX hO.lt;clear hbX;refine hK.out _ _ ?_ (fun _=>?_)
          · ((try dsimp only);(exact ⟨hA.cell 0,hA.cell 1⟩))
          clear hK K
          (try simp only [Act.put,pA,pB,pC])
          (refine hdT 5 ?_);rw [HWR.out]
          refine hdC 6 (fun K hK=>?_);have hbl:g1<W10.heap.size:=hR.lt
          (go_simp;(go_at_call 66;refine (newDerivation_c dc c (k+m) (HD.out.keep (show Below w.heap.size w _ by rw [HG.out];exact hb)) (by omega)).mono ?_;rintro e W11 ⟨gI,rfl,hgI,hI,hbX⟩);go_wp2_with fail)
          replace hb:=bT' hb hbX (by have:=hA.lt;omega);replace hA:=hA.keep hbX hA.lt;replace hR:=hR.keep hbX hR.lt;replace hO:=hO.keep hbX hO.lt;clear hbX;have hgI2:g1<gI:=(by omega);clear hgI hbl;refine hK.out _ _ ?_ (fun _=>?_)
          · ((try dsimp only);(exact ⟨hA.cell 0,hA.cell 1⟩))
          clear hK K
          (try simp only [Act.put,pA,pB,pC])
          refine hdC 8 (fun K hK=>?_);have s0:=hO.cell 0;have s1:=hO.cell 1;have f0:=hO.frozen 0;have f1:=hO.frozen 1;have hne:=own_neR hI hO (by decide)
          (go_simp;go_wp2_with fail)
          clear s0 s1 f0 f1;replace hA:=hA.far (p:=⟨gX,0,none⟩) (by dsimp only;omega) (.int .i64 (k+m));replace hR:=hR.far (p:=⟨gX,0,none⟩) (by dsimp only;omega) (.int .i64 (k+m));replace hI:=hI.far (p:=⟨gX,0,none⟩) hne (.int .i64 (k+m));replace hb:=hb.setCell (p:=⟨gX,0,none⟩) (by dsimp only;omega) (.int .i64 (k+m));replace hO:=hO.set 0 (.int .i64 (k+m));replace hA:=hA.far (p:=⟨gX,1,none⟩) (by dsimp only;omega) (.slice (some ⟨gI,0,none⟩) dn dn);replace hR:=hR.far (p:=⟨gX,1,none⟩) (by dsimp only;omega) (.slice (some ⟨gI,0,none⟩) dn dn);replace hI:=hI.far (p:=⟨gX,1,none⟩) hne (.slice (some ⟨gI,0,none⟩) dn dn);replace hb:=hb.setCell (p:=⟨gX,1,none⟩) (by dsimp only;omega) (.slice (some ⟨gI,0,none⟩) dn dn);replace hO:=hO.set 1 (.slice (some ⟨gI,0,none⟩) dn dn);generalize (W11.setCell ⟨gX,0,none⟩ (.int .i64 (k+m))).setCell ⟨gX,1,none⟩ (.slice (some ⟨gI,0,none⟩) dn dn)=W12 at *;clear hne;refine hK.out _ _ ?_ (fun _=>?_)
          · ((try dsimp only);(exact ⟨hA.cell 0,hA.cell 1⟩))
          clear hK K
          (try simp only [Act.put,pA,pB,pC])
          refine wpAnyH_done (by kernel_rfl) ?_ _;go_wp2_with fail
          go_meet
          exact ⟨gI,gX,rfl,hgI2,hgX1,hA,hR,hI,hO,hb⟩
      · skip
        (go_simp;try go_wp2_with fail)
        have hO:=Own.new Wd 32 #[.int .i64 0,.slice none 0 0];have hgX1:g1<Wd.heap.size:=hR.lt;have hbX:=bA1 Wd (.cells #[.int .i64 0,.slice none 0 0] 32);replace hb:=bT' hb hbX (by have:=hA.lt;omega);replace hA:=hA.keep hbX hA.lt;replace hR:=hR.keep hbX hR.lt;clear hbX;generalize Wd.alloc (.cells #[.int .i64 0,.slice none 0 0] 32)=W13 at *;generalize hgXg:Wd.heap.size=gX at *;clear hgXg;refine hK.out _ _ ?_ (fun _=>?_)
        · ((try dsimp only);(exact ⟨hA.cell 0,hA.cell 1⟩))
        clear hK K
        (try simp only [Act.put,pA,pB,pC])
        refine hdC 2 (fun K hK=>?_)
        (go_simp;(go_at_call 178;refine (low_drop_c k a1 n1 c1).mono ?_;rintro e W14 ⟨rfl,hbX⟩);go_wp2_with fail)
        replace hb:=bT' hb hbX (by have:=hA.lt;omega);replace hA:=hA.keep hbX hA.lt;replace hR:=hR.keep hbX hR.lt;replace hO:=hO.keep hbX hO.lt;clear hbX;refine hK.out _ _ ?_ (fun _=>?_)
        · ((try dsimp only);(exact ⟨hA.cell 0,hA.cell 1⟩))
        clear hK K
        (try simp only [Act.put,pA,pB,pC])
        refine hdC 4 (fun K hK=>?_)
        (go_simp;(go_at_call 178;refine (low_drop_c m a2 n2 c2).mono ?_;rintro e W15 ⟨rfl,hbX⟩);go_wp2_with fail)
        replace hb:=bT' hb hbX (by have:=hA.lt;omega);replace hA:=hA.keep hbX hA.lt;replace hR:=hR.keep hbX hR.lt;replace hO:=hO.keep hbX hO.lt;clear hbX;refine hK.out _ _ ?_ (fun _=>?_)
        · ((try dsimp only);(exact ⟨hA.cell 0,hA.cell 1⟩))
        clear hK K
        (try simp only [Act.put,pA,pB,pC])
        (refine hdT 5 ?_);rw [HWR.out]
        refine hdC 6 (fun K hK=>?_);have hbl:g1<W15.heap.size:=hR.lt
        (go_simp;(go_at_call 66;refine (newDerivation_c dc c (k+m) (HD.out.keep (show Below w.heap.size w _ by rw [HG.out];exact hb)) (by omega)).mono ?_;rintro e W16 ⟨gI,rfl,hgI,hI,hbX⟩);go_wp2_with fail)
        replace hb:=bT' hb hbX (by have:=hA.lt;omega);replace hA:=hA.keep hbX hA.lt;replace hR:=hR.keep hbX hR.lt;replace hO:=hO.keep hbX hO.lt;clear hbX;have hgI2:g1<gI:=(by omega);clear hgI hbl;refine hK.out _ _ ?_ (fun _=>?_)
        · ((try dsimp only);(exact ⟨hA.cell 0,hA.cell 1⟩))
        clear hK K
        (try simp only [Act.put,pA,pB,pC])
        refine hdC 8 (fun K hK=>?_);have s0:=hO.cell 0;have s1:=hO.cell 1;have f0:=hO.frozen 0;have f1:=hO.frozen 1;have hne:=own_neR hI hO (by decide)
        (go_simp;go_wp2_with fail)
        clear s0 s1 f0 f1;replace hA:=hA.far (p:=⟨gX,0,none⟩) (by dsimp only;omega) (.int .i64 (k+m));replace hR:=hR.far (p:=⟨gX,0,none⟩) (by dsimp only;omega) (.int .i64 (k+m));replace hI:=hI.far (p:=⟨gX,0,none⟩) hne (.int .i64 (k+m));replace hb:=hb.setCell (p:=⟨gX,0,none⟩) (by dsimp only;omega) (.int .i64 (k+m));replace hO:=hO.set 0 (.int .i64 (k+m));replace hA:=hA.far (p:=⟨gX,1,none⟩) (by dsimp only;omega) (.slice (some ⟨gI,0,none⟩) dn dn);replace hR:=hR.far (p:=⟨gX,1,none⟩) (by dsimp only;omega) (.slice (some ⟨gI,0,none⟩) dn dn);replace hI:=hI.far (p:=⟨gX,1,none⟩) hne (.slice (some ⟨gI,0,none⟩) dn dn);replace hb:=hb.setCell (p:=⟨gX,1,none⟩) (by dsimp only;omega) (.slice (some ⟨gI,0,none⟩) dn dn);replace hO:=hO.set 1 (.slice (some ⟨gI,0,none⟩) dn dn);generalize (W16.setCell ⟨gX,0,none⟩ (.int .i64 (k+m))).setCell ⟨gX,1,none⟩ (.slice (some ⟨gI,0,none⟩) dn dn)=W17 at *;clear hne;refine hK.out _ _ ?_ (fun _=>?_)
        · ((try dsimp only);(exact ⟨hA.cell 0,hA.cell 1⟩))
        clear hK K
        (try simp only [Act.put,pA,pB,pC])
        refine wpAnyH_done (by kernel_rfl) ?_ _;go_wp2_with fail
        go_meet
        exact ⟨gI,gX,rfl,hgI2,hgX1,hA,hR,hI,hO,hb⟩
     case rest=>
      clear hb hA hR;obtain ⟨gI,gX,rfl,hgI2,hgX2,hA,hR,hI,hO,hb⟩:=hcut;have hVC0:(valCells dn []).toArray=Array.replicate dn (Value.slice none 0 0):=(by simp [valCells]);rw [←hVC0] at hI;have cO:=hO.cell 1;clear hVC0;go_wp2_with fail
      clear cO
      go_loopw [31] (fun y wr=>∃(p:Nat) (vs:List Value),p≤dn∧y=.int .i64 p∧Below g0 w wr∧Own wr g0 36 #[.slice da dn dc,.slice a n c]∧Own wr g1 32 #[.int .i64 0,.slice none 0 0]∧Own wr gX 32 #[.int .i64 (k+m),.slice (some ⟨gI,0,none⟩) dn dn]∧Hid (Own wr gI 59 (valCells dn vs).toArray)∧Hid (Vals wr g0 vs (brs (brAt zs k gss m hss) p))∧Hid (∀i,i<p→okT zs ((brAt zs k gss m hss) i)=true)) (fun y _=>dn - (intOf y).toNat)
      case atStart=>exact ⟨0,[],Nat.zero_le _,rfl,hb,hA,hR,hO,Lib.hid hI,Lib.hid (Vals.nil _ _),Lib.hid (fun i hi=>absurd hi (by omega))⟩
      case round=>
       clear hb hA hR hO hI;obtain ⟨p,vs,hp,rfl,hb,hA,hR,hO,hI,hW,HJ⟩:=hrel;by_cases hpn:p<dn
       · have hga:w.heap.size≤g0:=Nat.le_of_eq HG.out;have hp0:(0:Int)≤(p:Int):=(by omega);have hpd:(p:Int)<(dn:Int):=(by omega);have HN:=Lib.hid (brAt9 (k:=k) (m:=m) HA1.out HA2.out p);have HCO:Hid (∀x,diffR (odd m) zs hss (-1) (diffR (odd k) zs gss 1 zeroL (hss.getD p [])) (gss.getD p []) x=coef ((brAt zs k gss m hss) p) x):=Lib.hid (fun x=>by rw [←br_coef (k:=k) (m:=m) HA1.out HA2.out p x,HSC.out]);obtain ⟨TT,hTT⟩:∃T,(brAt zs k gss m hss) p=T:=⟨_,rfl⟩;have HTT:=Lib.hid hTT;rw [hTT] at HN HCO;clear hTT;obtain ⟨E,hE⟩:∃E,fE zs TT=E:=⟨_,rfl⟩;have HEE:=Lib.hid hE;clear hE;go_upto_region 8 with fail
         go_cut [11,12] (fun q e wx=>∃(g:Nat) (va:Option Addr) (vn vc:Nat),q=.pointer (some ⟨g,0,none⟩)∧e=.int .i64 E∧Below wr.heap.size wr wx∧wr.heap.size≤g∧Own wx g 59 #[.slice va vn vc]∧OwnR wx wr.heap.size (.slice va vn vc) (fV zs TT))
         case first=>
          have hC:Below wr.heap.size wr wr:=Below.refl _ _;replace hb:Below w.heap.size w wr:=(by rw [HG.out];exact hb);have c0:=hA.cell 0;have c1':=hA.cell 1;clear hI hW HJ hO hR;go_wp2_with fail
          refine (differenceL_c a n dc c k c1 m c2 p (HD.out.keep hb) (HF1.out.keep hb) (HF2.out.keep hb) HA1.out HA2.out hpn).mono ?_;rintro e W1 ⟨bm,NN,rfl,-,hNN,hM,hbX⟩;clear hA c0 c1';replace hb:=bT' hb hbX hb.size;replace hC:=bT' hC hbX hC.size;clear hbX;go_wp2_with fail
          have hbs:=hC.size;refine (form_c hM (by omega) (diffR_bd (diffR_bd (fun _=>by simp [zeroL])))).mono ?_;rintro e W2 ⟨hf,hbX⟩;obtain ⟨v,rfl,hV⟩:=hf.tolds HN.out.1.good HN.out.1.tm HN.out.2 HCO.out;rw [HEE.out];clear hM hf;replace hb:=bT' hb hbX hb.size;replace hC:=bT' hC hbX hC.size;clear hbX;replace hV:=hV.weaken hbs;clear hbs;obtain ⟨va,vn,vc,rfl⟩:=hV.isSlice;have hB0:=Own.new W2 59 #[.slice none 0 0];have s0:=hB0.cell 0;have f0:=hB0.frozen 0;go_wp2_with fail
          clear s0 f0 hB0;go_meet
          have hB:=Own.new W2 59 #[.slice va vn vc];have hbX:=bA1 W2 (.cells #[.slice va vn vc] 59);exact ⟨W2.heap.size,va,vn,vc,rfl,rfl,bT' hC hbX hC.size,hC.size,hB,hV.keep hbX⟩
         case rest=>
          obtain ⟨gF,va,vn,vc,rfl,rfl,hbX,hgF,hB,hV⟩:=hcut;have hsz:g1<wr.heap.size:=hR.lt;have HLT:=Lib.hid hW.out.lt;replace hO:=hO.keep hbX hO.lt;replace hI:=Lib.hid (hI.out.keep hbX hI.out.lt);replace hW:=Lib.hid (hW.out.keep hbX);replace hb:=bT' hb hbX (by have:=hA.lt;omega);replace hA:=hA.keep hbX hA.lt;replace hR:=hR.keep hbX hR.lt;clear hbX;have e0:=hB.cell 0;cases hkT:okT zs TT
          · have eE:fE zs TT=3:=(by rw [fE,hkT];rfl);rw [HEE.out] at eE;subst eE;have HE:=Lib.hid (okBr_no (zs:=zs) (B:=brAt zs k gss m hss) (i:=p) hpn (by rw [HTT.out];exact hkT));clear hI hW HLT hV e0 hO hA hB hkT;have r0:=hR.cell 0;have r1:=hR.cell 1;have f0:=hR.frozen 0;have f1:=hR.frozen 1;go_wp2_with fail
            have q:=(hR.set 0 (.int .i64 0)).set 1 (.slice none 0 0);have qb:=(hb.setCell (p:=⟨g1,0,none⟩) (by dsimp only;omega) (.int .i64 0)).setCell (p:=⟨g1,1,none⟩) (by dsimp only;omega) (.slice none 0 0);exact bodyPost_ret (results_row2 rfl _ _ g1 32 #[.int .i64 0,.slice none 0 0] (0,0) _ rfl q Tryz.underlying32 rfl Tryz.info_der) rfl ⟨none,0,0,by rw [HE.out.1,HE.out.2.1];rfl,by rw [HE.out.2.2];exact OwnF.none_,by rw [HG.out];exact qb⟩
          · have eE:fE zs TT=0:=(by rw [fE,if_pos hkT]);rw [HEE.out] at eE;subst eE;rw [fV,if_pos hkT] at hV;have HKT:=Lib.hid hkT;clear hkT;have hvl:vs.length=p:=(by rw [hW.out.len,brs_len]);have HS2:=Lib.hid (hW.out.snoc HLT.out (by have:=hsz;omega) hV);have HVC:=Lib.hid (valCells_step (v:=.slice va vn vc) hvl hpn);obtain ⟨oI,cI⟩:=hI.out.has (i:=p) (by rw [List.size_toArray,valCells_len (by omega)];exact hpn);have fI:=hI.out.frozen p;have cO:=hO.cell 1;clear hV;go_upto_region 12 with fail
            clear e0 cI fI cO;have hI5:=hI.out.set p (.slice va vn vc);rw [HVC.out] at hI5;have HI5:=Lib.hid hI5;have HW5:=Lib.hid (HS2.out.far (p:=⟨gI,p,none⟩) hI.out (.slice va vn vc));have hne:=own_neR hO hI.out (by decide);have hO5:=hO.far (p:=⟨gI,p,none⟩) hne (.slice va vn vc);have hA5:=hA.far (p:=⟨gI,p,none⟩) (by dsimp only;omega) (.slice va vn vc);have hR5:=hR.far (p:=⟨gI,p,none⟩) (by dsimp only;omega) (.slice va vn vc);have hb5:=hb.setCell (p:=⟨gI,p,none⟩) (by dsimp only;omega) (.slice va vn vc);clear hI5 hI hW HS2 hO hA hR hb hB hne;generalize World.setCell _ ⟨gI,p,none⟩ (.slice va vn vc)=wz at *;go_wp2_with fail
            go_roundw
            case rel=>
             refine ⟨p+1,vs++[.slice va vn vc],by omega,by go_num,hb5,hA5,hR5,hO5,HI5,by rw [brs_succ,HTT.out];exact HW5,Lib.hid (fun i hi=>?_)⟩;by_cases ei:i=p
             · rw [ei,HTT.out];exact HKT.out
             · exact HJ.out i (by omega)
            case measure=>simp [intOf] <;> omega
       · have he:p=dn:=(by omega);subst he;have HE:=Lib.hid (okBr_yes (zs:=zs) (B:=brAt zs k gss m hss) HJ.out);have hvl:vs.length=p:=(by rw [hW.out.len,brs_len]);have hFF:=hW.out.ownF (n:=p) (brs_len _ p) hI.out (fun i v hi=>by rw [valCells_full hvl,List.getElem?_toArray];exact hi) (by omega) (brs_tm (fun i=>(brAt9 (k:=k) (m:=m) HA1.out HA2.out i).1.tm) p);have HFFF:=Lib.hid hFF;have k0:=hO.cell 0;have k1:=hO.cell 1;have r0:=hR.cell 0;have r1:=hR.cell 1;have f0:=hR.frozen 0;have f1:=hR.frozen 1;clear hFF hI hW;go_wp2_with fail
         have q:=(hR.set 0 (.int .i64 (k+m))).set 1 (.slice (some ⟨gI,0,none⟩) p p);have qb:=(hb.setCell (p:=⟨g1,0,none⟩) (by dsimp only;omega) (.int .i64 (k+m))).setCell (p:=⟨g1,1,none⟩) (by dsimp only;omega) (.slice (some ⟨gI,0,none⟩) p p);have qF:=ownF_far9 (p:=⟨g1,1,none⟩) (ownF_far9 (p:=⟨g1,0,none⟩) HFFF.out hR (.int .i64 (k+m))) (hR.set 0 _) (.slice (some ⟨gI,0,none⟩) p p);exact bodyPost_ret (results_row2 rfl _ _ g1 32 #[.int .i64 (k+m),.slice (some ⟨gI,0,none⟩) p p] (0,0) _ rfl q Tryz.underlying32 rfl Tryz.info_der) rfl ⟨some ⟨gI,0,none⟩,p,p,by rw [HE.out.1,HE.out.2.1];rfl,by rw [HE.out.2.2,HG.out];exact qF.weaken (Nat.le_refl _) (by simp),by rw [HG.out];exact qb⟩
   · have HSC:Hid (sc9 k m=1):=Lib.hid (by rw [sc9,hom,HOK.out];simp);clear hom;go_upto_region 4 with fail
     go_cut [9] (fun q wx=>∃gI gX:Nat,q=.pointer (some ⟨gX,0,none⟩)∧g1<gI∧g1<gX∧Own wx g0 36 #[.slice da dn dc,.slice a n c]∧Own wx g1 32 #[.int .i64 0,.slice none 0 0]∧Own wx gI 59 (Array.replicate dn (.slice none 0 0))∧Own wx gX 32 #[.int .i64 (k+m),.slice (some ⟨gI,0,none⟩) dn dn]∧Below g0 w wx)
     case first=>
      replace hA:Own w2.drew g0 36 #[.slice da dn dc,.slice a n c]:=hA;replace hR:Own w2.drew g1 32 #[.int .i64 0,.slice none 0 0]:=hR;replace hb:Below g0 w w2.drew:=hb.drew;refine wp_region_held_drew (S:=(fun w'=>w'.cell? ⟨g0,0,none⟩=some (.slice da dn dc)∧w'.cell? ⟨g0,1,none⟩=some (.slice a n c))) (by kernel_rfl) ?_ (fun _=>?_)
      · ((try dsimp only);(exact ⟨hA.cell 0,hA.cell 1⟩))
      generalize w2.drew=Wd at *;refine hdT 0 ?_;refine hdT 1 ?_;refine hdT 3 ?_;refine wpAnyH_ready (rs:=[2,7]) (by kernel_rfl) (by simp) ?_;refine AllReadyH.cons (hdAt (i:=2) rfl) (fun K hK=>?_) (AllReadyH.cons (hdAt (i:=7) rfl) (fun K hK=>?_) AllReadyH.nil)
      · skip
        (go_simp;(go_at_call 178;refine (low_drop_c k a1 n1 c1).mono ?_;rintro e W1 ⟨rfl,hbX⟩);go_wp2_with fail)
        replace hb:=bT' hb hbX (by have:=hA.lt;omega);replace hA:=hA.keep hbX hA.lt;replace hR:=hR.keep hbX hR.lt;clear hbX;refine hK.out _ _ ?_ (fun _=>?_)
        · ((try dsimp only);(exact ⟨hA.cell 0,hA.cell 1⟩))
        clear hK K
        (try simp only [Act.put,pA,pB,pC])
        refine wpAnyH_ready (rs:=[4,7]) (by kernel_rfl) (by simp) ?_;refine AllReadyH.cons (hdAt (i:=4) rfl) (fun K hK=>?_) (AllReadyH.cons (hdAt (i:=7) rfl) (fun K hK=>?_) AllReadyH.nil)
        · skip
          (go_simp;(go_at_call 178;refine (low_drop_c m a2 n2 c2).mono ?_;rintro e W2 ⟨rfl,hbX⟩);go_wp2_with fail)
          replace hb:=bT' hb hbX (by have:=hA.lt;omega);replace hA:=hA.keep hbX hA.lt;replace hR:=hR.keep hbX hR.lt;clear hbX;refine hK.out _ _ ?_ (fun _=>?_)
          · ((try dsimp only);(exact ⟨hA.cell 0,hA.cell 1⟩))
          clear hK K
          (try simp only [Act.put,pA,pB,pC])
          (refine hdT 5 ?_);rw [HWR.out]
          refine wpAnyH_ready (rs:=[6,7]) (by kernel_rfl) (by simp) ?_;refine AllReadyH.cons (hdAt (i:=6) rfl) (fun K hK=>?_) (AllReadyH.cons (hdAt (i:=7) rfl) (fun K hK=>?_) AllReadyH.nil)
          · skip
            have hbl:g1<W2.heap.size:=hR.lt
            (go_simp;(go_at_call 66;refine (newDerivation_c dc c (k+m) (HD.out.keep (show Below w.heap.size w _ by rw [HG.out];exact hb)) (by omega)).mono ?_;rintro e W3 ⟨gI,rfl,hgI,hI,hbX⟩);go_wp2_with fail)
            replace hb:=bT' hb hbX (by have:=hA.lt;omega);replace hA:=hA.keep hbX hA.lt;replace hR:=hR.keep hbX hR.lt;clear hbX;have hgI2:g1<gI:=(by omega);clear hgI hbl;refine hK.out _ _ ?_ (fun _=>?_)
            · ((try dsimp only);(exact ⟨hA.cell 0,hA.cell 1⟩))
            clear hK K
            (try simp only [Act.put,pA,pB,pC])
            refine hdC 7 (fun K hK=>?_)
            (go_simp;try go_wp2_with fail)
            have hO:=Own.new W3 32 #[.int .i64 0,.slice none 0 0];have hgX1:g1<W3.heap.size:=hR.lt;have hbX:=bA1 W3 (.cells #[.int .i64 0,.slice none 0 0] 32);replace hb:=bT' hb hbX (by have:=hA.lt;omega);replace hA:=hA.keep hbX hA.lt;replace hR:=hR.keep hbX hR.lt;replace hI:=hI.keep hbX hI.lt;clear hbX;generalize W3.alloc (.cells #[.int .i64 0,.slice none 0 0] 32)=W4 at *;generalize hgXg:W3.heap.size=gX at *;clear hgXg;refine hK.out _ _ ?_ (fun _=>?_)
            · ((try dsimp only);(exact ⟨hA.cell 0,hA.cell 1⟩))
            clear hK K
            (try simp only [Act.put,pA,pB,pC])
            refine hdC 8 (fun K hK=>?_);have s0:=hO.cell 0;have s1:=hO.cell 1;have f0:=hO.frozen 0;have f1:=hO.frozen 1;have hne:=own_neR hI hO (by decide)
            (go_simp;go_wp2_with fail)
            clear s0 s1 f0 f1;replace hA:=hA.far (p:=⟨gX,0,none⟩) (by dsimp only;omega) (.int .i64 (k+m));replace hR:=hR.far (p:=⟨gX,0,none⟩) (by dsimp only;omega) (.int .i64 (k+m));replace hI:=hI.far (p:=⟨gX,0,none⟩) hne (.int .i64 (k+m));replace hb:=hb.setCell (p:=⟨gX,0,none⟩) (by dsimp only;omega) (.int .i64 (k+m));replace hO:=hO.set 0 (.int .i64 (k+m));replace hA:=hA.far (p:=⟨gX,1,none⟩) (by dsimp only;omega) (.slice (some ⟨gI,0,none⟩) dn dn);replace hR:=hR.far (p:=⟨gX,1,none⟩) (by dsimp only;omega) (.slice (some ⟨gI,0,none⟩) dn dn);replace hI:=hI.far (p:=⟨gX,1,none⟩) hne (.slice (some ⟨gI,0,none⟩) dn dn);replace hb:=hb.setCell (p:=⟨gX,1,none⟩) (by dsimp only;omega) (.slice (some ⟨gI,0,none⟩) dn dn);replace hO:=hO.set 1 (.slice (some ⟨gI,0,none⟩) dn dn);generalize (W4.setCell ⟨gX,0,none⟩ (.int .i64 (k+m))).setCell ⟨gX,1,none⟩ (.slice (some ⟨gI,0,none⟩) dn dn)=W5 at *;clear hne;refine hK.out _ _ ?_ (fun _=>?_)
            · ((try dsimp only);(exact ⟨hA.cell 0,hA.cell 1⟩))
            clear hK K
            (try simp only [Act.put,pA,pB,pC])
            refine wpAnyH_done (by kernel_rfl) ?_ _;go_wp2_with fail
            go_meet
            exact ⟨gI,gX,rfl,hgI2,hgX1,hA,hR,hI,hO,hb⟩
          · skip
            (go_simp;try go_wp2_with fail)
            have hO:=Own.new W2 32 #[.int .i64 0,.slice none 0 0];have hgX1:g1<W2.heap.size:=hR.lt;have hbX:=bA1 W2 (.cells #[.int .i64 0,.slice none 0 0] 32);replace hb:=bT' hb hbX (by have:=hA.lt;omega);replace hA:=hA.keep hbX hA.lt;replace hR:=hR.keep hbX hR.lt;clear hbX;generalize W2.alloc (.cells #[.int .i64 0,.slice none 0 0] 32)=W6 at *;generalize hgXg:W2.heap.size=gX at *;clear hgXg;refine hK.out _ _ ?_ (fun _=>?_)
            · ((try dsimp only);(exact ⟨hA.cell 0,hA.cell 1⟩))
            clear hK K
            (try simp only [Act.put,pA,pB,pC])
            refine hdC 6 (fun K hK=>?_);have hbl:g1<W6.heap.size:=hR.lt
            (go_simp;(go_at_call 66;refine (newDerivation_c dc c (k+m) (HD.out.keep (show Below w.heap.size w _ by rw [HG.out];exact hb)) (by omega)).mono ?_;rintro e W7 ⟨gI,rfl,hgI,hI,hbX⟩);go_wp2_with fail)
            replace hb:=bT' hb hbX (by have:=hA.lt;omega);replace hA:=hA.keep hbX hA.lt;replace hR:=hR.keep hbX hR.lt;replace hO:=hO.keep hbX hO.lt;clear hbX;have hgI2:g1<gI:=(by omega);clear hgI hbl;refine hK.out _ _ ?_ (fun _=>?_)
            · ((try dsimp only);(exact ⟨hA.cell 0,hA.cell 1⟩))
            clear hK K
            (try simp only [Act.put,pA,pB,pC])
            refine hdC 8 (fun K hK=>?_);have s0:=hO.cell 0;have s1:=hO.cell 1;have f0:=hO.frozen 0;have f1:=hO.frozen 1;have hne:=own_neR hI hO (by decide)
            (go_simp;go_wp2_with fail)
            clear s0 s1 f0 f1;replace hA:=hA.far (p:=⟨gX,0,none⟩) (by dsimp only;omega) (.int .i64 (k+m));replace hR:=hR.far (p:=⟨gX,0,none⟩) (by dsimp only;omega) (.int .i64 (k+m));replace hI:=hI.far (p:=⟨gX,0,none⟩) hne (.int .i64 (k+m));replace hb:=hb.setCell (p:=⟨gX,0,none⟩) (by dsimp only;omega) (.int .i64 (k+m));replace hO:=hO.set 0 (.int .i64 (k+m));replace hA:=hA.far (p:=⟨gX,1,none⟩) (by dsimp only;omega) (.slice (some ⟨gI,0,none⟩) dn dn);replace hR:=hR.far (p:=⟨gX,1,none⟩) (by dsimp only;omega) (.slice (some ⟨gI,0,none⟩) dn dn);replace hI:=hI.far (p:=⟨gX,1,none⟩) hne (.slice (some ⟨gI,0,none⟩) dn dn);replace hb:=hb.setCell (p:=⟨gX,1,none⟩) (by dsimp only;omega) (.slice (some ⟨gI,0,none⟩) dn dn);replace hO:=hO.set 1 (.slice (some ⟨gI,0,none⟩) dn dn);generalize (W7.setCell ⟨gX,0,none⟩ (.int .i64 (k+m))).setCell ⟨gX,1,none⟩ (.slice (some ⟨gI,0,none⟩) dn dn)=W8 at *;clear hne;refine hK.out _ _ ?_ (fun _=>?_)
            · ((try dsimp only);(exact ⟨hA.cell 0,hA.cell 1⟩))
            clear hK K
            (try simp only [Act.put,pA,pB,pC])
            refine wpAnyH_done (by kernel_rfl) ?_ _;go_wp2_with fail
            go_meet
            exact ⟨gI,gX,rfl,hgI2,hgX1,hA,hR,hI,hO,hb⟩
        · skip
          (go_simp;try go_wp2_with fail)
          have hO:=Own.new W1 32 #[.int .i64 0,.slice none 0 0];have hgX1:g1<W1.heap.size:=hR.lt;have hbX:=bA1 W1 (.cells #[.int .i64 0,.slice none 0 0] 32);replace hb:=bT' hb hbX (by have:=hA.lt;omega);replace hA:=hA.keep hbX hA.lt;replace hR:=hR.keep hbX hR.lt;clear hbX;generalize W1.alloc (.cells #[.int .i64 0,.slice none 0 0] 32)=W9 at *;generalize hgXg:W1.heap.size=gX at *;clear hgXg;refine hK.out _ _ ?_ (fun _=>?_)
          · ((try dsimp only);(exact ⟨hA.cell 0,hA.cell 1⟩))
          clear hK K
          (try simp only [Act.put,pA,pB,pC])
          refine hdC 4 (fun K hK=>?_)
          (go_simp;(go_at_call 178;refine (low_drop_c m a2 n2 c2).mono ?_;rintro e W10 ⟨rfl,hbX⟩);go_wp2_with fail)
          replace hb:=bT' hb hbX (by have:=hA.lt;omega);replace hA:=hA.keep hbX hA.lt;replace hR:=hR.keep hbX hR.lt;replace hO:=hO.keep hbX hO.lt;clear hbX;refine hK.out _ _ ?_ (fun _=>?_)
          · ((try dsimp only);(exact ⟨hA.cell 0,hA.cell 1⟩))
          clear hK K
          (try simp only [Act.put,pA,pB,pC])
          (refine hdT 5 ?_);rw [HWR.out]
          refine hdC 6 (fun K hK=>?_);have hbl:g1<W10.heap.size:=hR.lt
          (go_simp;(go_at_call 66;refine (newDerivation_c dc c (k+m) (HD.out.keep (show Below w.heap.size w _ by rw [HG.out];exact hb)) (by omega)).mono ?_;rintro e W11 ⟨gI,rfl,hgI,hI,hbX⟩);go_wp2_with fail)
          replace hb:=bT' hb hbX (by have:=hA.lt;omega);replace hA:=hA.keep hbX hA.lt;replace hR:=hR.keep hbX hR.lt;replace hO:=hO.keep hbX hO.lt;clear hbX;have hgI2:g1<gI:=(by omega);clear hgI hbl;refine hK.out _ _ ?_ (fun _=>?_)
          · ((try dsimp only);(exact ⟨hA.cell 0,hA.cell 1⟩))
          clear hK K
          (try simp only [Act.put,pA,pB,pC])
          refine hdC 8 (fun K hK=>?_);have s0:=hO.cell 0;have s1:=hO.cell 1;have f0:=hO.frozen 0;have f1:=hO.frozen 1;have hne:=own_neR hI hO (by decide)
          (go_simp;go_wp2_with fail)
          clear s0 s1 f0 f1;replace hA:=hA.far (p:=⟨gX,0,none⟩) (by dsimp only;omega) (.int .i64 (k+m));replace hR:=hR.far (p:=⟨gX,0,none⟩) (by dsimp only;omega) (.int .i64 (k+m));replace hI:=hI.far (p:=⟨gX,0,none⟩) hne (.int .i64 (k+m));replace hb:=hb.setCell (p:=⟨gX,0,none⟩) (by dsimp only;omega) (.int .i64 (k+m));replace hO:=hO.set 0 (.int .i64 (k+m));replace hA:=hA.far (p:=⟨gX,1,none⟩) (by dsimp only;omega) (.slice (some ⟨gI,0,none⟩) dn dn);replace hR:=hR.far (p:=⟨gX,1,none⟩) (by dsimp only;omega) (.slice (some ⟨gI,0,none⟩) dn dn);replace hI:=hI.far (p:=⟨gX,1,none⟩) hne (.slice (some ⟨gI,0,none⟩) dn dn);replace hb:=hb.setCell (p:=⟨gX,1,none⟩) (by dsimp only;omega) (.slice (some ⟨gI,0,none⟩) dn dn);replace hO:=hO.set 1 (.slice (some ⟨gI,0,none⟩) dn dn);generalize (W11.setCell ⟨gX,0,none⟩ (.int .i64 (k+m))).setCell ⟨gX,1,none⟩ (.slice (some ⟨gI,0,none⟩) dn dn)=W12 at *;clear hne;refine hK.out _ _ ?_ (fun _=>?_)
          · ((try dsimp only);(exact ⟨hA.cell 0,hA.cell 1⟩))
          clear hK K
          (try simp only [Act.put,pA,pB,pC])
          refine wpAnyH_done (by kernel_rfl) ?_ _;go_wp2_with fail
          go_meet
          exact ⟨gI,gX,rfl,hgI2,hgX1,hA,hR,hI,hO,hb⟩
      · skip
        (go_simp;try go_wp2_with fail)
        have hO:=Own.new Wd 32 #[.int .i64 0,.slice none 0 0];have hgX1:g1<Wd.heap.size:=hR.lt;have hbX:=bA1 Wd (.cells #[.int .i64 0,.slice none 0 0] 32);replace hb:=bT' hb hbX (by have:=hA.lt;omega);replace hA:=hA.keep hbX hA.lt;replace hR:=hR.keep hbX hR.lt;clear hbX;generalize Wd.alloc (.cells #[.int .i64 0,.slice none 0 0] 32)=W13 at *;generalize hgXg:Wd.heap.size=gX at *;clear hgXg;refine hK.out _ _ ?_ (fun _=>?_)
        · ((try dsimp only);(exact ⟨hA.cell 0,hA.cell 1⟩))
        clear hK K
        (try simp only [Act.put,pA,pB,pC])
        refine hdC 2 (fun K hK=>?_)
        (go_simp;(go_at_call 178;refine (low_drop_c k a1 n1 c1).mono ?_;rintro e W14 ⟨rfl,hbX⟩);go_wp2_with fail)
        replace hb:=bT' hb hbX (by have:=hA.lt;omega);replace hA:=hA.keep hbX hA.lt;replace hR:=hR.keep hbX hR.lt;replace hO:=hO.keep hbX hO.lt;clear hbX;refine hK.out _ _ ?_ (fun _=>?_)
        · ((try dsimp only);(exact ⟨hA.cell 0,hA.cell 1⟩))
        clear hK K
        (try simp only [Act.put,pA,pB,pC])
        refine hdC 4 (fun K hK=>?_)
        (go_simp;(go_at_call 178;refine (low_drop_c m a2 n2 c2).mono ?_;rintro e W15 ⟨rfl,hbX⟩);go_wp2_with fail)
        replace hb:=bT' hb hbX (by have:=hA.lt;omega);replace hA:=hA.keep hbX hA.lt;replace hR:=hR.keep hbX hR.lt;replace hO:=hO.keep hbX hO.lt;clear hbX;refine hK.out _ _ ?_ (fun _=>?_)
        · ((try dsimp only);(exact ⟨hA.cell 0,hA.cell 1⟩))
        clear hK K
        (try simp only [Act.put,pA,pB,pC])
        (refine hdT 5 ?_);rw [HWR.out]
        refine hdC 6 (fun K hK=>?_);have hbl:g1<W15.heap.size:=hR.lt
        (go_simp;(go_at_call 66;refine (newDerivation_c dc c (k+m) (HD.out.keep (show Below w.heap.size w _ by rw [HG.out];exact hb)) (by omega)).mono ?_;rintro e W16 ⟨gI,rfl,hgI,hI,hbX⟩);go_wp2_with fail)
        replace hb:=bT' hb hbX (by have:=hA.lt;omega);replace hA:=hA.keep hbX hA.lt;replace hR:=hR.keep hbX hR.lt;replace hO:=hO.keep hbX hO.lt;clear hbX;have hgI2:g1<gI:=(by omega);clear hgI hbl;refine hK.out _ _ ?_ (fun _=>?_)
        · ((try dsimp only);(exact ⟨hA.cell 0,hA.cell 1⟩))
        clear hK K
        (try simp only [Act.put,pA,pB,pC])
        refine hdC 8 (fun K hK=>?_);have s0:=hO.cell 0;have s1:=hO.cell 1;have f0:=hO.frozen 0;have f1:=hO.frozen 1;have hne:=own_neR hI hO (by decide)
        (go_simp;go_wp2_with fail)
        clear s0 s1 f0 f1;replace hA:=hA.far (p:=⟨gX,0,none⟩) (by dsimp only;omega) (.int .i64 (k+m));replace hR:=hR.far (p:=⟨gX,0,none⟩) (by dsimp only;omega) (.int .i64 (k+m));replace hI:=hI.far (p:=⟨gX,0,none⟩) hne (.int .i64 (k+m));replace hb:=hb.setCell (p:=⟨gX,0,none⟩) (by dsimp only;omega) (.int .i64 (k+m));replace hO:=hO.set 0 (.int .i64 (k+m));replace hA:=hA.far (p:=⟨gX,1,none⟩) (by dsimp only;omega) (.slice (some ⟨gI,0,none⟩) dn dn);replace hR:=hR.far (p:=⟨gX,1,none⟩) (by dsimp only;omega) (.slice (some ⟨gI,0,none⟩) dn dn);replace hI:=hI.far (p:=⟨gX,1,none⟩) hne (.slice (some ⟨gI,0,none⟩) dn dn);replace hb:=hb.setCell (p:=⟨gX,1,none⟩) (by dsimp only;omega) (.slice (some ⟨gI,0,none⟩) dn dn);replace hO:=hO.set 1 (.slice (some ⟨gI,0,none⟩) dn dn);generalize (W16.setCell ⟨gX,0,none⟩ (.int .i64 (k+m))).setCell ⟨gX,1,none⟩ (.slice (some ⟨gI,0,none⟩) dn dn)=W17 at *;clear hne;refine hK.out _ _ ?_ (fun _=>?_)
        · ((try dsimp only);(exact ⟨hA.cell 0,hA.cell 1⟩))
        clear hK K
        (try simp only [Act.put,pA,pB,pC])
        refine wpAnyH_done (by kernel_rfl) ?_ _;go_wp2_with fail
        go_meet
        exact ⟨gI,gX,rfl,hgI2,hgX1,hA,hR,hI,hO,hb⟩
     case rest=>
      clear hb hA hR;obtain ⟨gI,gX,rfl,hgI2,hgX2,hA,hR,hI,hO,hb⟩:=hcut;have hVC0:(valCells dn []).toArray=Array.replicate dn (Value.slice none 0 0):=(by simp [valCells]);rw [←hVC0] at hI;have cO:=hO.cell 1;clear hVC0;go_wp2_with fail
      clear cO
      go_loopw [31] (fun y wr=>∃(p:Nat) (vs:List Value),p≤dn∧y=.int .i64 p∧Below g0 w wr∧Own wr g0 36 #[.slice da dn dc,.slice a n c]∧Own wr g1 32 #[.int .i64 0,.slice none 0 0]∧Own wr gX 32 #[.int .i64 (k+m),.slice (some ⟨gI,0,none⟩) dn dn]∧Hid (Own wr gI 59 (valCells dn vs).toArray)∧Hid (Vals wr g0 vs (brs (brAt zs k gss m hss) p))∧Hid (∀i,i<p→okT zs ((brAt zs k gss m hss) i)=true)) (fun y _=>dn - (intOf y).toNat)
      case atStart=>exact ⟨0,[],Nat.zero_le _,rfl,hb,hA,hR,hO,Lib.hid hI,Lib.hid (Vals.nil _ _),Lib.hid (fun i hi=>absurd hi (by omega))⟩
      case round=>
       clear hb hA hR hO hI;obtain ⟨p,vs,hp,rfl,hb,hA,hR,hO,hI,hW,HJ⟩:=hrel;by_cases hpn:p<dn
       · have hga:w.heap.size≤g0:=Nat.le_of_eq HG.out;have hp0:(0:Int)≤(p:Int):=(by omega);have hpd:(p:Int)<(dn:Int):=(by omega);have HN:=Lib.hid (brAt9 (k:=k) (m:=m) HA1.out HA2.out p);have HCO:Hid (∀x,diffR (odd m) zs hss (1) (diffR (odd k) zs gss 1 zeroL (hss.getD p [])) (gss.getD p []) x=coef ((brAt zs k gss m hss) p) x):=Lib.hid (fun x=>by rw [←br_coef (k:=k) (m:=m) HA1.out HA2.out p x,HSC.out]);obtain ⟨TT,hTT⟩:∃T,(brAt zs k gss m hss) p=T:=⟨_,rfl⟩;have HTT:=Lib.hid hTT;rw [hTT] at HN HCO;clear hTT;obtain ⟨E,hE⟩:∃E,fE zs TT=E:=⟨_,rfl⟩;have HEE:=Lib.hid hE;clear hE;go_upto_region 8 with fail
         go_cut [11,12] (fun q e wx=>∃(g:Nat) (va:Option Addr) (vn vc:Nat),q=.pointer (some ⟨g,0,none⟩)∧e=.int .i64 E∧Below wr.heap.size wr wx∧wr.heap.size≤g∧Own wx g 59 #[.slice va vn vc]∧OwnR wx wr.heap.size (.slice va vn vc) (fV zs TT))
         case first=>
          have hC:Below wr.heap.size wr wr:=Below.refl _ _;replace hb:Below w.heap.size w wr:=(by rw [HG.out];exact hb);have c0:=hA.cell 0;have c1':=hA.cell 1;clear hI hW HJ hO hR;go_wp2_with fail
          refine (sumL_c a n dc c k c1 m c2 p (HD.out.keep hb) (HF1.out.keep hb) (HF2.out.keep hb) HA1.out HA2.out hpn).mono ?_;rintro e W1 ⟨bm,NN,rfl,-,hNN,hM,hbX⟩;clear hA c0 c1';replace hb:=bT' hb hbX hb.size;replace hC:=bT' hC hbX hC.size;clear hbX;go_wp2_with fail
          have hbs:=hC.size;refine (form_c hM (by omega) (diffR_bd (diffR_bd (fun _=>by simp [zeroL])))).mono ?_;rintro e W2 ⟨hf,hbX⟩;obtain ⟨v,rfl,hV⟩:=hf.tolds HN.out.1.good HN.out.1.tm HN.out.2 HCO.out;rw [HEE.out];clear hM hf;replace hb:=bT' hb hbX hb.size;replace hC:=bT' hC hbX hC.size;clear hbX;replace hV:=hV.weaken hbs;clear hbs;obtain ⟨va,vn,vc,rfl⟩:=hV.isSlice;have hB0:=Own.new W2 59 #[.slice none 0 0];have s0:=hB0.cell 0;have f0:=hB0.frozen 0;go_wp2_with fail
          clear s0 f0 hB0;go_meet
          have hB:=Own.new W2 59 #[.slice va vn vc];have hbX:=bA1 W2 (.cells #[.slice va vn vc] 59);exact ⟨W2.heap.size,va,vn,vc,rfl,rfl,bT' hC hbX hC.size,hC.size,hB,hV.keep hbX⟩
         case rest=>
          obtain ⟨gF,va,vn,vc,rfl,rfl,hbX,hgF,hB,hV⟩:=hcut;have hsz:g1<wr.heap.size:=hR.lt;have HLT:=Lib.hid hW.out.lt;replace hO:=hO.keep hbX hO.lt;replace hI:=Lib.hid (hI.out.keep hbX hI.out.lt);replace hW:=Lib.hid (hW.out.keep hbX);replace hb:=bT' hb hbX (by have:=hA.lt;omega);replace hA:=hA.keep hbX hA.lt;replace hR:=hR.keep hbX hR.lt;clear hbX;have e0:=hB.cell 0;cases hkT:okT zs TT
          · have eE:fE zs TT=3:=(by rw [fE,hkT];rfl);rw [HEE.out] at eE;subst eE;have HE:=Lib.hid (okBr_no (zs:=zs) (B:=brAt zs k gss m hss) (i:=p) hpn (by rw [HTT.out];exact hkT));clear hI hW HLT hV e0 hO hA hB hkT;have r0:=hR.cell 0;have r1:=hR.cell 1;have f0:=hR.frozen 0;have f1:=hR.frozen 1;go_wp2_with fail
            have q:=(hR.set 0 (.int .i64 0)).set 1 (.slice none 0 0);have qb:=(hb.setCell (p:=⟨g1,0,none⟩) (by dsimp only;omega) (.int .i64 0)).setCell (p:=⟨g1,1,none⟩) (by dsimp only;omega) (.slice none 0 0);exact bodyPost_ret (results_row2 rfl _ _ g1 32 #[.int .i64 0,.slice none 0 0] (0,0) _ rfl q Tryz.underlying32 rfl Tryz.info_der) rfl ⟨none,0,0,by rw [HE.out.1,HE.out.2.1];rfl,by rw [HE.out.2.2];exact OwnF.none_,by rw [HG.out];exact qb⟩
          · have eE:fE zs TT=0:=(by rw [fE,if_pos hkT]);rw [HEE.out] at eE;subst eE;rw [fV,if_pos hkT] at hV;have HKT:=Lib.hid hkT;clear hkT;have hvl:vs.length=p:=(by rw [hW.out.len,brs_len]);have HS2:=Lib.hid (hW.out.snoc HLT.out (by have:=hsz;omega) hV);have HVC:=Lib.hid (valCells_step (v:=.slice va vn vc) hvl hpn);obtain ⟨oI,cI⟩:=hI.out.has (i:=p) (by rw [List.size_toArray,valCells_len (by omega)];exact hpn);have fI:=hI.out.frozen p;have cO:=hO.cell 1;clear hV;go_upto_region 12 with fail
            clear e0 cI fI cO;have hI5:=hI.out.set p (.slice va vn vc);rw [HVC.out] at hI5;have HI5:=Lib.hid hI5;have HW5:=Lib.hid (HS2.out.far (p:=⟨gI,p,none⟩) hI.out (.slice va vn vc));have hne:=own_neR hO hI.out (by decide);have hO5:=hO.far (p:=⟨gI,p,none⟩) hne (.slice va vn vc);have hA5:=hA.far (p:=⟨gI,p,none⟩) (by dsimp only;omega) (.slice va vn vc);have hR5:=hR.far (p:=⟨gI,p,none⟩) (by dsimp only;omega) (.slice va vn vc);have hb5:=hb.setCell (p:=⟨gI,p,none⟩) (by dsimp only;omega) (.slice va vn vc);clear hI5 hI hW HS2 hO hA hR hb hB hne;generalize World.setCell _ ⟨gI,p,none⟩ (.slice va vn vc)=wz at *;go_wp2_with fail
            go_roundw
            case rel=>
             refine ⟨p+1,vs++[.slice va vn vc],by omega,by go_num,hb5,hA5,hR5,hO5,HI5,by rw [brs_succ,HTT.out];exact HW5,Lib.hid (fun i hi=>?_)⟩;by_cases ei:i=p
             · rw [ei,HTT.out];exact HKT.out
             · exact HJ.out i (by omega)
            case measure=>simp [intOf] <;> omega
       · have he:p=dn:=(by omega);subst he;have HE:=Lib.hid (okBr_yes (zs:=zs) (B:=brAt zs k gss m hss) HJ.out);have hvl:vs.length=p:=(by rw [hW.out.len,brs_len]);have hFF:=hW.out.ownF (n:=p) (brs_len _ p) hI.out (fun i v hi=>by rw [valCells_full hvl,List.getElem?_toArray];exact hi) (by omega) (brs_tm (fun i=>(brAt9 (k:=k) (m:=m) HA1.out HA2.out i).1.tm) p);have HFFF:=Lib.hid hFF;have k0:=hO.cell 0;have k1:=hO.cell 1;have r0:=hR.cell 0;have r1:=hR.cell 1;have f0:=hR.frozen 0;have f1:=hR.frozen 1;clear hFF hI hW;go_wp2_with fail
         have q:=(hR.set 0 (.int .i64 (k+m))).set 1 (.slice (some ⟨gI,0,none⟩) p p);have qb:=(hb.setCell (p:=⟨g1,0,none⟩) (by dsimp only;omega) (.int .i64 (k+m))).setCell (p:=⟨g1,1,none⟩) (by dsimp only;omega) (.slice (some ⟨gI,0,none⟩) p p);have qF:=ownF_far9 (p:=⟨g1,1,none⟩) (ownF_far9 (p:=⟨g1,0,none⟩) HFFF.out hR (.int .i64 (k+m))) (hR.set 0 _) (.slice (some ⟨gI,0,none⟩) p p);exact bodyPost_ret (results_row2 rfl _ _ g1 32 #[.int .i64 (k+m),.slice (some ⟨gI,0,none⟩) p p] (0,0) _ rfl q Tryz.underlying32 rfl Tryz.info_der) rfl ⟨some ⟨gI,0,none⟩,p,p,by rw [HE.out.1,HE.out.2.1];rfl,by rw [HE.out.2.2,HG.out];exact qF.weaken (Nat.le_refl _) (by simp),by rw [HG.out];exact qb⟩
set_option maxHeartbeats 16000000 in
theorem bracketD_c {w : World} {da : Option Addr} {dn : Nat} {zs : List Int} {a : Option Addr} {n : Nat} {gss : List (List Tm)} {a2 : Option Addr} {n2 : Nat} {hss : List (List Tm)}  (dc c : Nat)  (m : Int) (c2 : Nat) (hd : Ints w da dn zs) (hF1 : Frms w a n gss) (hF2 : Frms w a2 n2 hss) (H1 : AlgOk zs gss) (H2 : AlgOk zs hss) (hm : 0 ≤ m ∧ m ≤ 12) :
    Calls Tryz.prog 37 #[.agg #[.slice da dn dc,.slice a n c],.iface 72 (.agg #[.slice da dn dc,.slice a n c]),.iface 67 (.agg #[.int .i64 m,.slice a2 n2 c2])] w fun e w'=>∃rb bn bc,e=.returned (.tuple #[.agg #[.int .i64 (brD zs (dfAt zs gss m hss) dn ((-1)+m)),.slice rb bn bc],.int .i64 (brE zs (dfAt zs gss m hss) dn)])∧OwnF w' w.heap.size w'.heap.size rb bn (brI zs (dfAt zs gss m hss) dn)∧Below w.heap.size w w':=by
 have h8:dn≤8:=by have:=hd.len;have:=H1.h8;omega
 have HWR:Hid (IntKind.i64.wrap ((-1)+m)=(-1)+m):=Lib.hid (by rw [IntKind.wrap_i64];omega)
 have HA1:=Lib.hid H1
 have HA2:=Lib.hid H2
 have HD:=Lib.hid hd
 have HF1:=Lib.hid hF1
 have HF2:=Lib.hid hF2
 clear H1 H2
 have hA:=(Own.new w 36 #[.slice da dn dc,.slice a n c]).alloc (.cells #[.int .i64 0,.slice none 0 0] 32)
 have hR:=Own.new (w.alloc (.cells #[.slice da dn dc,.slice a n c] 36)) 32 #[.int .i64 0,.slice none 0 0]
 simp only [sAl] at hR
 have hb:=bTn (bA1 w (.cells #[.slice da dn dc,.slice a n c] 36)) (bA1 _ (.cells #[.int .i64 0,.slice none 0 0] 32))
 have hd1:=dif_drop_at da dn dc a n c
 have hd2:=low_drop_at m a2 n2 c2
 go_enter Tryz.func37,Tryz.ntmps37
 go_upto_region 1 with fail
 generalize (w.alloc (.cells #[.slice da dn dc,.slice a n c] 36)).alloc (.cells #[.int .i64 0,.slice none 0 0] 32)=w0 at *
 generalize hg1:w.heap.size+1=g1 at *
 generalize hg0:w.heap.size=g0 at *
 have HG:=Lib.hid hg0
 have e1:=hg1
 clear hg0 hg1
 go_wp2_with fail
 refine (dif_drop_c da dn dc a n c).mono ?_
 rintro e w1 ⟨rfl,hbX⟩
 replace hb:=bT' hb hbX (by have:=hA.lt;omega)
 replace hA:=hA.keep hbX hA.lt
 replace hR:=hR.keep hbX hR.lt
 clear hbX
 go_wp2_with fail
 refine (isOdd_c _ _).mono ?_
 rintro e w' ⟨rfl,rfl⟩
 rw [odd_neg1]
 go_wp2_with fail
 refine (low_drop_c m a2 n2 c2).mono ?_
 rintro e w2 ⟨rfl,hbX⟩
 replace hb:=bT' hb hbX (by have:=hA.lt;omega)
 replace hA:=hA.keep hbX hA.lt
 replace hR:=hR.keep hbX hR.lt
 clear hbX
 go_wp2_with fail
 refine (isOdd_c _ _).mono ?_
 rintro e w' ⟨rfl,rfl⟩
 cases hom:odd m
 · have HSC:Hid (sc9 (-1) m=-1):=Lib.hid (by rw [sc9,hom];simp);clear hom;go_upto_region 4 with fail
   go_cut [9] (fun q wx=>∃gI gX:Nat,q=.pointer (some ⟨gX,0,none⟩)∧g1<gI∧g1<gX∧Own wx g0 36 #[.slice da dn dc,.slice a n c]∧Own wx g1 32 #[.int .i64 0,.slice none 0 0]∧Own wx gI 59 (Array.replicate dn (.slice none 0 0))∧Own wx gX 32 #[.int .i64 ((-1)+m),.slice (some ⟨gI,0,none⟩) dn dn]∧Below g0 w wx)
   case first=>
    replace hA:Own w2.drew g0 36 #[.slice da dn dc,.slice a n c]:=hA;replace hR:Own w2.drew g1 32 #[.int .i64 0,.slice none 0 0]:=hR;replace hb:Below g0 w w2.drew:=hb.drew;refine wp_region_held_drew (S:=(fun w'=>w'.cell? ⟨g0,0,none⟩=some (.slice da dn dc)∧w'.cell? ⟨g0,1,none⟩=some (.slice a n c))) (by kernel_rfl) ?_ (fun _=>?_)
    · ((try dsimp only);(exact ⟨hA.cell 0,hA.cell 1⟩))
    generalize w2.drew=Wd at *;refine hdT 0 ?_;refine hdT 1 ?_;refine hdT 3 ?_;refine wpAnyH_ready (rs:=[2,7]) (by kernel_rfl) (by simp) ?_;refine AllReadyH.cons (hdAt (i:=2) rfl) (fun K hK=>?_) (AllReadyH.cons (hdAt (i:=7) rfl) (fun K hK=>?_) AllReadyH.nil)
    · skip
      (go_simp;(go_at_call 180;refine (dif_drop_c da dn dc a n c).mono ?_;rintro e W1 ⟨rfl,hbX⟩);go_wp2_with fail)
      replace hb:=bT' hb hbX (by have:=hA.lt;omega);replace hA:=hA.keep hbX hA.lt;replace hR:=hR.keep hbX hR.lt;clear hbX;refine hK.out _ _ ?_ (fun _=>?_)
      · ((try dsimp only);(exact ⟨hA.cell 0,hA.cell 1⟩))
      clear hK K
      (try simp only [Act.put,pA,pB,pC])
      refine wpAnyH_ready (rs:=[4,7]) (by kernel_rfl) (by simp) ?_;refine AllReadyH.cons (hdAt (i:=4) rfl) (fun K hK=>?_) (AllReadyH.cons (hdAt (i:=7) rfl) (fun K hK=>?_) AllReadyH.nil)
      · skip
        (go_simp;(go_at_call 178;refine (low_drop_c m a2 n2 c2).mono ?_;rintro e W2 ⟨rfl,hbX⟩);go_wp2_with fail)
        replace hb:=bT' hb hbX (by have:=hA.lt;omega);replace hA:=hA.keep hbX hA.lt;replace hR:=hR.keep hbX hR.lt;clear hbX;refine hK.out _ _ ?_ (fun _=>?_)
        · ((try dsimp only);(exact ⟨hA.cell 0,hA.cell 1⟩))
        clear hK K
        (try simp only [Act.put,pA,pB,pC])
        (refine hdT 5 ?_);rw [HWR.out]
        refine wpAnyH_ready (rs:=[6,7]) (by kernel_rfl) (by simp) ?_;refine AllReadyH.cons (hdAt (i:=6) rfl) (fun K hK=>?_) (AllReadyH.cons (hdAt (i:=7) rfl) (fun K hK=>?_) AllReadyH.nil)
        · skip
          have hbl:g1<W2.heap.size:=hR.lt
          (go_simp;(go_at_call 66;refine (newDerivation_c dc c ((-1)+m) (HD.out.keep (show Below w.heap.size w _ by rw [HG.out];exact hb)) (by omega)).mono ?_;rintro e W3 ⟨gI,rfl,hgI,hI,hbX⟩);go_wp2_with fail)
          replace hb:=bT' hb hbX (by have:=hA.lt;omega);replace hA:=hA.keep hbX hA.lt;replace hR:=hR.keep hbX hR.lt;clear hbX;have hgI2:g1<gI:=(by omega);clear hgI hbl;refine hK.out _ _ ?_ (fun _=>?_)
          · ((try dsimp only);(exact ⟨hA.cell 0,hA.cell 1⟩))
          clear hK K
          (try simp only [Act.put,pA,pB,pC])
          refine hdC 7 (fun K hK=>?_)
          (go_simp;try go_wp2_with fail)
          have hO:=Own.new W3 32 #[.int .i64 0,.slice none 0 0];have hgX1:g1<W3.heap.size:=hR.lt;have hbX:=bA1 W3 (.cells #[.int .i64 0,.slice none 0 0] 32);replace hb:=bT' hb hbX (by have:=hA.lt;omega);replace hA:=hA.keep hbX hA.lt;replace hR:=hR.keep hbX hR.lt;replace hI:=hI.keep hbX hI.lt;clear hbX;generalize W3.alloc (.cells #[.int .i64 0,.slice none 0 0] 32)=W4 at *;generalize hgXg:W3.heap.size=gX at *;clear hgXg;refine hK.out _ _ ?_ (fun _=>?_)
          · ((try dsimp only);(exact ⟨hA.cell 0,hA.cell 1⟩))
          clear hK K
          (try simp only [Act.put,pA,pB,pC])
          refine hdC 8 (fun K hK=>?_);have s0:=hO.cell 0;have s1:=hO.cell 1;have f0:=hO.frozen 0;have f1:=hO.frozen 1;have hne:=own_neR hI hO (by decide)
          (go_simp;go_wp2_with fail)
          clear s0 s1 f0 f1;replace hA:=hA.far (p:=⟨gX,0,none⟩) (by dsimp only;omega) (.int .i64 ((-1)+m));replace hR:=hR.far (p:=⟨gX,0,none⟩) (by dsimp only;omega) (.int .i64 ((-1)+m));replace hI:=hI.far (p:=⟨gX,0,none⟩) hne (.int .i64 ((-1)+m));replace hb:=hb.setCell (p:=⟨gX,0,none⟩) (by dsimp only;omega) (.int .i64 ((-1)+m));replace hO:=hO.set 0 (.int .i64 ((-1)+m));replace hA:=hA.far (p:=⟨gX,1,none⟩) (by dsimp only;omega) (.slice (some ⟨gI,0,none⟩) dn dn);replace hR:=hR.far (p:=⟨gX,1,none⟩) (by dsimp only;omega) (.slice (some ⟨gI,0,none⟩) dn dn);replace hI:=hI.far (p:=⟨gX,1,none⟩) hne (.slice (some ⟨gI,0,none⟩) dn dn);replace hb:=hb.setCell (p:=⟨gX,1,none⟩) (by dsimp only;omega) (.slice (some ⟨gI,0,none⟩) dn dn);replace hO:=hO.set 1 (.slice (some ⟨gI,0,none⟩) dn dn);generalize (W4.setCell ⟨gX,0,none⟩ (.int .i64 ((-1)+m))).setCell ⟨gX,1,none⟩ (.slice (some ⟨gI,0,none⟩) dn dn)=W5 at *;clear hne;refine hK.out _ _ ?_ (fun _=>?_)
          · ((try dsimp only);(exact ⟨hA.cell 0,hA.cell 1⟩))
          clear hK K
          (try simp only [Act.put,pA,pB,pC])
          refine wpAnyH_done (by kernel_rfl) ?_ _;go_wp2_with fail
          go_meet
          exact ⟨gI,gX,rfl,hgI2,hgX1,hA,hR,hI,hO,hb⟩
        · skip
          (go_simp;try go_wp2_with fail)
          have hO:=Own.new W2 32 #[.int .i64 0,.slice none 0 0];have hgX1:g1<W2.heap.size:=hR.lt;have hbX:=bA1 W2 (.cells #[.int .i64 0,.slice none 0 0] 32);replace hb:=bT' hb hbX (by have:=hA.lt;omega);replace hA:=hA.keep hbX hA.lt;replace hR:=hR.keep hbX hR.lt;clear hbX;generalize W2.alloc (.cells #[.int .i64 0,.slice none 0 0] 32)=W6 at *;generalize hgXg:W2.heap.size=gX at *;clear hgXg;refine hK.out _ _ ?_ (fun _=>?_)
          · ((try dsimp only);(exact ⟨hA.cell 0,hA.cell 1⟩))
          clear hK K
          (try simp only [Act.put,pA,pB,pC])
          refine hdC 6 (fun K hK=>?_);have hbl:g1<W6.heap.size:=hR.lt
          (go_simp;(go_at_call 66;refine (newDerivation_c dc c ((-1)+m) (HD.out.keep (show Below w.heap.size w _ by rw [HG.out];exact hb)) (by omega)).mono ?_;rintro e W7 ⟨gI,rfl,hgI,hI,hbX⟩);go_wp2_with fail)
          replace hb:=bT' hb hbX (by have:=hA.lt;omega);replace hA:=hA.keep hbX hA.lt;replace hR:=hR.keep hbX hR.lt;replace hO:=hO.keep hbX hO.lt;clear hbX;have hgI2:g1<gI:=(by omega);clear hgI hbl;refine hK.out _ _ ?_ (fun _=>?_)
          · ((try dsimp only);(exact ⟨hA.cell 0,hA.cell 1⟩))
          clear hK K
          (try simp only [Act.put,pA,pB,pC])
          refine hdC 8 (fun K hK=>?_);have s0:=hO.cell 0;have s1:=hO.cell 1;have f0:=hO.frozen 0;have f1:=hO.frozen 1;have hne:=own_neR hI hO (by decide)
          (go_simp;go_wp2_with fail)
          clear s0 s1 f0 f1;replace hA:=hA.far (p:=⟨gX,0,none⟩) (by dsimp only;omega) (.int .i64 ((-1)+m));replace hR:=hR.far (p:=⟨gX,0,none⟩) (by dsimp only;omega) (.int .i64 ((-1)+m));replace hI:=hI.far (p:=⟨gX,0,none⟩) hne (.int .i64 ((-1)+m));replace hb:=hb.setCell (p:=⟨gX,0,none⟩) (by dsimp only;omega) (.int .i64 ((-1)+m));replace hO:=hO.set 0 (.int .i64 ((-1)+m));replace hA:=hA.far (p:=⟨gX,1,none⟩) (by dsimp only;omega) (.slice (some ⟨gI,0,none⟩) dn dn);replace hR:=hR.far (p:=⟨gX,1,none⟩) (by dsimp only;omega) (.slice (some ⟨gI,0,none⟩) dn dn);replace hI:=hI.far (p:=⟨gX,1,none⟩) hne (.slice (some ⟨gI,0,none⟩) dn dn);replace hb:=hb.setCell (p:=⟨gX,1,none⟩) (by dsimp only;omega) (.slice (some ⟨gI,0,none⟩) dn dn);replace hO:=hO.set 1 (.slice (some ⟨gI,0,none⟩) dn dn);generalize (W7.setCell ⟨gX,0,none⟩ (.int .i64 ((-1)+m))).setCell ⟨gX,1,none⟩ (.slice (some ⟨gI,0,none⟩) dn dn)=W8 at *;clear hne;refine hK.out _ _ ?_ (fun _=>?_)
          · ((try dsimp only);(exact ⟨hA.cell 0,hA.cell 1⟩))
          clear hK K
          (try simp only [Act.put,pA,pB,pC])
          refine wpAnyH_done (by kernel_rfl) ?_ _;go_wp2_with fail
          go_meet
          exact ⟨gI,gX,rfl,hgI2,hgX1,hA,hR,hI,hO,hb⟩
      · skip
        (go_simp;try go_wp2_with fail)
        have hO:=Own.new W1 32 #[.int .i64 0,.slice none 0 0];have hgX1:g1<W1.heap.size:=hR.lt;have hbX:=bA1 W1 (.cells #[.int .i64 0,.slice none 0 0] 32);replace hb:=bT' hb hbX (by have:=hA.lt;omega);replace hA:=hA.keep hbX hA.lt;replace hR:=hR.keep hbX hR.lt;clear hbX;generalize W1.alloc (.cells #[.int .i64 0,.slice none 0 0] 32)=W9 at *;generalize hgXg:W1.heap.size=gX at *;clear hgXg;refine hK.out _ _ ?_ (fun _=>?_)
        · ((try dsimp only);(exact ⟨hA.cell 0,hA.cell 1⟩))
        clear hK K
        (try simp only [Act.put,pA,pB,pC])
        refine hdC 4 (fun K hK=>?_)
        (go_simp;(go_at_call 178;refine (low_drop_c m a2 n2 c2).mono ?_;rintro e W10 ⟨rfl,hbX⟩);go_wp2_with fail)
        replace hb:=bT' hb hbX (by have:=hA.lt;omega);replace hA:=hA.keep hbX hA.lt;replace hR:=hR.keep hbX hR.lt;replace hO:=hO.keep hbX hO.lt;clear hbX;refine hK.out _ _ ?_ (fun _=>?_)
        · ((try dsimp only);(exact ⟨hA.cell 0,hA.cell 1⟩))
        clear hK K
        (try simp only [Act.put,pA,pB,pC])
        (refine hdT 5 ?_);rw [HWR.out]
        refine hdC 6 (fun K hK=>?_);have hbl:g1<W10.heap.size:=hR.lt
        (go_simp;(go_at_call 66;refine (newDerivation_c dc c ((-1)+m) (HD.out.keep (show Below w.heap.size w _ by rw [HG.out];exact hb)) (by omega)).mono ?_;rintro e W11 ⟨gI,rfl,hgI,hI,hbX⟩);go_wp2_with fail)
        replace hb:=bT' hb hbX (by have:=hA.lt;omega);replace hA:=hA.keep hbX hA.lt;replace hR:=hR.keep hbX hR.lt;replace hO:=hO.keep hbX hO.lt;clear hbX;have hgI2:g1<gI:=(by omega);clear hgI hbl;refine hK.out _ _ ?_ (fun _=>?_)
        · ((try dsimp only);(exact ⟨hA.cell 0,hA.cell 1⟩))
        clear hK K
        (try simp only [Act.put,pA,pB,pC])
        refine hdC 8 (fun K hK=>?_);have s0:=hO.cell 0;have s1:=hO.cell 1;have f0:=hO.frozen 0;have f1:=hO.frozen 1;have hne:=own_neR hI hO (by decide)
        (go_simp;go_wp2_with fail)
        clear s0 s1 f0 f1;replace hA:=hA.far (p:=⟨gX,0,none⟩) (by dsimp only;omega) (.int .i64 ((-1)+m));replace hR:=hR.far (p:=⟨gX,0,none⟩) (by dsimp only;omega) (.int .i64 ((-1)+m));replace hI:=hI.far (p:=⟨gX,0,none⟩) hne (.int .i64 ((-1)+m));replace hb:=hb.setCell (p:=⟨gX,0,none⟩) (by dsimp only;omega) (.int .i64 ((-1)+m));replace hO:=hO.set 0 (.int .i64 ((-1)+m));replace hA:=hA.far (p:=⟨gX,1,none⟩) (by dsimp only;omega) (.slice (some ⟨gI,0,none⟩) dn dn);replace hR:=hR.far (p:=⟨gX,1,none⟩) (by dsimp only;omega) (.slice (some ⟨gI,0,none⟩) dn dn);replace hI:=hI.far (p:=⟨gX,1,none⟩) hne (.slice (some ⟨gI,0,none⟩) dn dn);replace hb:=hb.setCell (p:=⟨gX,1,none⟩) (by dsimp only;omega) (.slice (some ⟨gI,0,none⟩) dn dn);replace hO:=hO.set 1 (.slice (some ⟨gI,0,none⟩) dn dn);generalize (W11.setCell ⟨gX,0,none⟩ (.int .i64 ((-1)+m))).setCell ⟨gX,1,none⟩ (.slice (some ⟨gI,0,none⟩) dn dn)=W12 at *;clear hne;refine hK.out _ _ ?_ (fun _=>?_)
        · ((try dsimp only);(exact ⟨hA.cell 0,hA.cell 1⟩))
        clear hK K
        (try simp only [Act.put,pA,pB,pC])
        refine wpAnyH_done (by kernel_rfl) ?_ _;go_wp2_with fail
        go_meet
        exact ⟨gI,gX,rfl,hgI2,hgX1,hA,hR,hI,hO,hb⟩
    · skip
      (go_simp;try go_wp2_with fail)
      have hO:=Own.new Wd 32 #[.int .i64 0,.slice none 0 0];have hgX1:g1<Wd.heap.size:=hR.lt;have hbX:=bA1 Wd (.cells #[.int .i64 0,.slice none 0 0] 32);replace hb:=bT' hb hbX (by have:=hA.lt;omega);replace hA:=hA.keep hbX hA.lt;replace hR:=hR.keep hbX hR.lt;clear hbX;generalize Wd.alloc (.cells #[.int .i64 0,.slice none 0 0] 32)=W13 at *;generalize hgXg:Wd.heap.size=gX at *;clear hgXg;refine hK.out _ _ ?_ (fun _=>?_)
      · ((try dsimp only);(exact ⟨hA.cell 0,hA.cell 1⟩))
      clear hK K
      (try simp only [Act.put,pA,pB,pC])
      refine hdC 2 (fun K hK=>?_)
      (go_simp;(go_at_call 180;refine (dif_drop_c da dn dc a n c).mono ?_;rintro e W14 ⟨rfl,hbX⟩);go_wp2_with fail)
      replace hb:=bT' hb hbX (by have:=hA.lt;omega);replace hA:=hA.keep hbX hA.lt;replace hR:=hR.keep hbX hR.lt;replace hO:=hO.keep hbX hO.lt;clear hbX;refine hK.out _ _ ?_ (fun _=>?_)
      · ((try dsimp only);(exact ⟨hA.cell 0,hA.cell 1⟩))
      clear hK K
      (try simp only [Act.put,pA,pB,pC])
      refine hdC 4 (fun K hK=>?_)
      (go_simp;(go_at_call 178;refine (low_drop_c m a2 n2 c2).mono ?_;rintro e W15 ⟨rfl,hbX⟩);go_wp2_with fail)
      replace hb:=bT' hb hbX (by have:=hA.lt;omega);replace hA:=hA.keep hbX hA.lt;replace hR:=hR.keep hbX hR.lt;replace hO:=hO.keep hbX hO.lt;clear hbX;refine hK.out _ _ ?_ (fun _=>?_)
      · ((try dsimp only);(exact ⟨hA.cell 0,hA.cell 1⟩))
      clear hK K
      (try simp only [Act.put,pA,pB,pC])
      (refine hdT 5 ?_);rw [HWR.out]
      refine hdC 6 (fun K hK=>?_);have hbl:g1<W15.heap.size:=hR.lt
      (go_simp;(go_at_call 66;refine (newDerivation_c dc c ((-1)+m) (HD.out.keep (show Below w.heap.size w _ by rw [HG.out];exact hb)) (by omega)).mono ?_;rintro e W16 ⟨gI,rfl,hgI,hI,hbX⟩);go_wp2_with fail)
      replace hb:=bT' hb hbX (by have:=hA.lt;omega);replace hA:=hA.keep hbX hA.lt;replace hR:=hR.keep hbX hR.lt;replace hO:=hO.keep hbX hO.lt;clear hbX;have hgI2:g1<gI:=(by omega);clear hgI hbl;refine hK.out _ _ ?_ (fun _=>?_)
      · ((try dsimp only);(exact ⟨hA.cell 0,hA.cell 1⟩))
      clear hK K
      (try simp only [Act.put,pA,pB,pC])
      refine hdC 8 (fun K hK=>?_);have s0:=hO.cell 0;have s1:=hO.cell 1;have f0:=hO.frozen 0;have f1:=hO.frozen 1;have hne:=own_neR hI hO (by decide)
      (go_simp;go_wp2_with fail)
      clear s0 s1 f0 f1;replace hA:=hA.far (p:=⟨gX,0,none⟩) (by dsimp only;omega) (.int .i64 ((-1)+m));replace hR:=hR.far (p:=⟨gX,0,none⟩) (by dsimp only;omega) (.int .i64 ((-1)+m));replace hI:=hI.far (p:=⟨gX,0,none⟩) hne (.int .i64 ((-1)+m));replace hb:=hb.setCell (p:=⟨gX,0,none⟩) (by dsimp only;omega) (.int .i64 ((-1)+m));replace hO:=hO.set 0 (.int .i64 ((-1)+m));replace hA:=hA.far (p:=⟨gX,1,none⟩) (by dsimp only;omega) (.slice (some ⟨gI,0,none⟩) dn dn);replace hR:=hR.far (p:=⟨gX,1,none⟩) (by dsimp only;omega) (.slice (some ⟨gI,0,none⟩) dn dn);replace hI:=hI.far (p:=⟨gX,1,none⟩) hne (.slice (some ⟨gI,0,none⟩) dn dn);replace hb:=hb.setCell (p:=⟨gX,1,none⟩) (by dsimp only;omega) (.slice (some ⟨gI,0,none⟩) dn dn);replace hO:=hO.set 1 (.slice (some ⟨gI,0,none⟩) dn dn);generalize (W16.setCell ⟨gX,0,none⟩ (.int .i64 ((-1)+m))).setCell ⟨gX,1,none⟩ (.slice (some ⟨gI,0,none⟩) dn dn)=W17 at *;clear hne;refine hK.out _ _ ?_ (fun _=>?_)
      · ((try dsimp only);(exact ⟨hA.cell 0,hA.cell 1⟩))
      clear hK K
      (try simp only [Act.put,pA,pB,pC])
      refine wpAnyH_done (by kernel_rfl) ?_ _;go_wp2_with fail
      go_meet
      exact ⟨gI,gX,rfl,hgI2,hgX1,hA,hR,hI,hO,hb⟩
   case rest=>
    clear hb hA hR;obtain ⟨gI,gX,rfl,hgI2,hgX2,hA,hR,hI,hO,hb⟩:=hcut;have hVC0:(valCells dn []).toArray=Array.replicate dn (Value.slice none 0 0):=(by simp [valCells]);rw [←hVC0] at hI;have cO:=hO.cell 1;clear hVC0;go_wp2_with fail
    clear cO
    go_loopw [31] (fun y wr=>∃(p:Nat) (vs:List Value),p≤dn∧y=.int .i64 p∧Below g0 w wr∧Own wr g0 36 #[.slice da dn dc,.slice a n c]∧Own wr g1 32 #[.int .i64 0,.slice none 0 0]∧Own wr gX 32 #[.int .i64 ((-1)+m),.slice (some ⟨gI,0,none⟩) dn dn]∧Hid (Own wr gI 59 (valCells dn vs).toArray)∧Hid (Vals wr g0 vs (brs (dfAt zs gss m hss) p))∧Hid (∀i,i<p→okT zs ((dfAt zs gss m hss) i)=true)) (fun y _=>dn - (intOf y).toNat)
    case atStart=>exact ⟨0,[],Nat.zero_le _,rfl,hb,hA,hR,hO,Lib.hid hI,Lib.hid (Vals.nil _ _),Lib.hid (fun i hi=>absurd hi (by omega))⟩
    case round=>
     clear hb hA hR hO hI;obtain ⟨p,vs,hp,rfl,hb,hA,hR,hO,hI,hW,HJ⟩:=hrel;by_cases hpn:p<dn
     · have hga:w.heap.size≤g0:=Nat.le_of_eq HG.out;have hp0:(0:Int)≤(p:Int):=(by omega);have hpd:(p:Int)<(dn:Int):=(by omega);have HN:=Lib.hid (dfAt9 (k:=m) HA1.out HA2.out p);have HCO:Hid (∀x,diffR (odd m) zs hss (-1) (diffR true zs gss 1 zeroL (hss.getD p [])) (gss.getD p []) x=coef ((dfAt zs gss m hss) p) x):=Lib.hid (fun x=>by rw [←df_coef (k:=m) HA1.out HA2.out p x,HSC.out]);obtain ⟨TT,hTT⟩:∃T,(dfAt zs gss m hss) p=T:=⟨_,rfl⟩;have HTT:=Lib.hid hTT;rw [hTT] at HN HCO;clear hTT;obtain ⟨E,hE⟩:∃E,fE zs TT=E:=⟨_,rfl⟩;have HEE:=Lib.hid hE;clear hE;go_upto_region 8 with fail
       go_cut [11,12] (fun q e wx=>∃(g:Nat) (va:Option Addr) (vn vc:Nat),q=.pointer (some ⟨g,0,none⟩)∧e=.int .i64 E∧Below wr.heap.size wr wx∧wr.heap.size≤g∧Own wx g 59 #[.slice va vn vc]∧OwnR wx wr.heap.size (.slice va vn vc) (fV zs TT))
       case first=>
        have hC:Below wr.heap.size wr wr:=Below.refl _ _;replace hb:Below w.heap.size w wr:=(by rw [HG.out];exact hb);have c0:=hA.cell 0;have c1':=hA.cell 1;clear hI hW HJ hO hR;go_wp2_with fail
        refine (differenceD_c dc c m c2 p (HD.out.keep hb) (HF1.out.keep hb) (HF2.out.keep hb) HA1.out HA2.out hpn).mono ?_;rintro e W1 ⟨bm,NN,rfl,-,hNN,hM,hbX⟩;clear hA c0 c1';replace hb:=bT' hb hbX hb.size;replace hC:=bT' hC hbX hC.size;clear hbX;go_wp2_with fail
        have hbs:=hC.size;refine (form_c hM (by omega) (diffR_bd (diffR_bd (fun _=>by simp [zeroL])))).mono ?_;rintro e W2 ⟨hf,hbX⟩;obtain ⟨v,rfl,hV⟩:=hf.tolds HN.out.1.good HN.out.1.tm HN.out.2 HCO.out;rw [HEE.out];clear hM hf;replace hb:=bT' hb hbX hb.size;replace hC:=bT' hC hbX hC.size;clear hbX;replace hV:=hV.weaken hbs;clear hbs;obtain ⟨va,vn,vc,rfl⟩:=hV.isSlice;have hB0:=Own.new W2 59 #[.slice none 0 0];have s0:=hB0.cell 0;have f0:=hB0.frozen 0;go_wp2_with fail
        clear s0 f0 hB0;go_meet
        have hB:=Own.new W2 59 #[.slice va vn vc];have hbX:=bA1 W2 (.cells #[.slice va vn vc] 59);exact ⟨W2.heap.size,va,vn,vc,rfl,rfl,bT' hC hbX hC.size,hC.size,hB,hV.keep hbX⟩
       case rest=>
        obtain ⟨gF,va,vn,vc,rfl,rfl,hbX,hgF,hB,hV⟩:=hcut;have hsz:g1<wr.heap.size:=hR.lt;have HLT:=Lib.hid hW.out.lt;replace hO:=hO.keep hbX hO.lt;replace hI:=Lib.hid (hI.out.keep hbX hI.out.lt);replace hW:=Lib.hid (hW.out.keep hbX);replace hb:=bT' hb hbX (by have:=hA.lt;omega);replace hA:=hA.keep hbX hA.lt;replace hR:=hR.keep hbX hR.lt;clear hbX;have e0:=hB.cell 0;cases hkT:okT zs TT
        · have eE:fE zs TT=3:=(by rw [fE,hkT];rfl);rw [HEE.out] at eE;subst eE;have HE:=Lib.hid (okBr_no (zs:=zs) (B:=dfAt zs gss m hss) (i:=p) hpn (by rw [HTT.out];exact hkT));clear hI hW HLT hV e0 hO hA hB hkT;have r0:=hR.cell 0;have r1:=hR.cell 1;have f0:=hR.frozen 0;have f1:=hR.frozen 1;go_wp2_with fail
          have q:=(hR.set 0 (.int .i64 0)).set 1 (.slice none 0 0);have qb:=(hb.setCell (p:=⟨g1,0,none⟩) (by dsimp only;omega) (.int .i64 0)).setCell (p:=⟨g1,1,none⟩) (by dsimp only;omega) (.slice none 0 0);exact bodyPost_ret (results_row2 rfl _ _ g1 32 #[.int .i64 0,.slice none 0 0] (0,0) _ rfl q Tryz.underlying32 rfl Tryz.info_der) rfl ⟨none,0,0,by rw [HE.out.1,HE.out.2.1];rfl,by rw [HE.out.2.2];exact OwnF.none_,by rw [HG.out];exact qb⟩
        · have eE:fE zs TT=0:=(by rw [fE,if_pos hkT]);rw [HEE.out] at eE;subst eE;rw [fV,if_pos hkT] at hV;have HKT:=Lib.hid hkT;clear hkT;have hvl:vs.length=p:=(by rw [hW.out.len,brs_len]);have HS2:=Lib.hid (hW.out.snoc HLT.out (by have:=hsz;omega) hV);have HVC:=Lib.hid (valCells_step (v:=.slice va vn vc) hvl hpn);obtain ⟨oI,cI⟩:=hI.out.has (i:=p) (by rw [List.size_toArray,valCells_len (by omega)];exact hpn);have fI:=hI.out.frozen p;have cO:=hO.cell 1;clear hV;go_upto_region 12 with fail
          clear e0 cI fI cO;have hI5:=hI.out.set p (.slice va vn vc);rw [HVC.out] at hI5;have HI5:=Lib.hid hI5;have HW5:=Lib.hid (HS2.out.far (p:=⟨gI,p,none⟩) hI.out (.slice va vn vc));have hne:=own_neR hO hI.out (by decide);have hO5:=hO.far (p:=⟨gI,p,none⟩) hne (.slice va vn vc);have hA5:=hA.far (p:=⟨gI,p,none⟩) (by dsimp only;omega) (.slice va vn vc);have hR5:=hR.far (p:=⟨gI,p,none⟩) (by dsimp only;omega) (.slice va vn vc);have hb5:=hb.setCell (p:=⟨gI,p,none⟩) (by dsimp only;omega) (.slice va vn vc);clear hI5 hI hW HS2 hO hA hR hb hB hne;generalize World.setCell _ ⟨gI,p,none⟩ (.slice va vn vc)=wz at *;go_wp2_with fail
          go_roundw
          case rel=>
           refine ⟨p+1,vs++[.slice va vn vc],by omega,by go_num,hb5,hA5,hR5,hO5,HI5,by rw [brs_succ,HTT.out];exact HW5,Lib.hid (fun i hi=>?_)⟩;by_cases ei:i=p
           · rw [ei,HTT.out];exact HKT.out
           · exact HJ.out i (by omega)
          case measure=>simp [intOf] <;> omega
     · have he:p=dn:=(by omega);subst he;have HE:=Lib.hid (okBr_yes (zs:=zs) (B:=dfAt zs gss m hss) HJ.out);have hvl:vs.length=p:=(by rw [hW.out.len,brs_len]);have hFF:=hW.out.ownF (n:=p) (brs_len _ p) hI.out (fun i v hi=>by rw [valCells_full hvl,List.getElem?_toArray];exact hi) (by omega) (brs_tm (fun i=>(dfAt9 (k:=m) HA1.out HA2.out i).1.tm) p);have HFFF:=Lib.hid hFF;have k0:=hO.cell 0;have k1:=hO.cell 1;have r0:=hR.cell 0;have r1:=hR.cell 1;have f0:=hR.frozen 0;have f1:=hR.frozen 1;clear hFF hI hW;go_wp2_with fail
       have q:=(hR.set 0 (.int .i64 ((-1)+m))).set 1 (.slice (some ⟨gI,0,none⟩) p p);have qb:=(hb.setCell (p:=⟨g1,0,none⟩) (by dsimp only;omega) (.int .i64 ((-1)+m))).setCell (p:=⟨g1,1,none⟩) (by dsimp only;omega) (.slice (some ⟨gI,0,none⟩) p p);have qF:=ownF_far9 (p:=⟨g1,1,none⟩) (ownF_far9 (p:=⟨g1,0,none⟩) HFFF.out hR (.int .i64 ((-1)+m))) (hR.set 0 _) (.slice (some ⟨gI,0,none⟩) p p);exact bodyPost_ret (results_row2 rfl _ _ g1 32 #[.int .i64 ((-1)+m),.slice (some ⟨gI,0,none⟩) p p] (0,0) _ rfl q Tryz.underlying32 rfl Tryz.info_der) rfl ⟨some ⟨gI,0,none⟩,p,p,by rw [HE.out.1,HE.out.2.1];rfl,by rw [HE.out.2.2,HG.out];exact qF.weaken (Nat.le_refl _) (by simp),by rw [HG.out];exact qb⟩
 · have HSC:Hid (sc9 (-1) m=1):=Lib.hid (by rw [sc9,hom,odd_neg1];simp);clear hom;go_upto_region 4 with fail
   go_cut [9] (fun q wx=>∃gI gX:Nat,q=.pointer (some ⟨gX,0,none⟩)∧g1<gI∧g1<gX∧Own wx g0 36 #[.slice da dn dc,.slice a n c]∧Own wx g1 32 #[.int .i64 0,.slice none 0 0]∧Own wx gI 59 (Array.replicate dn (.slice none 0 0))∧Own wx gX 32 #[.int .i64 ((-1)+m),.slice (some ⟨gI,0,none⟩) dn dn]∧Below g0 w wx)
   case first=>
    replace hA:Own w2.drew g0 36 #[.slice da dn dc,.slice a n c]:=hA;replace hR:Own w2.drew g1 32 #[.int .i64 0,.slice none 0 0]:=hR;replace hb:Below g0 w w2.drew:=hb.drew;refine wp_region_held_drew (S:=(fun w'=>w'.cell? ⟨g0,0,none⟩=some (.slice da dn dc)∧w'.cell? ⟨g0,1,none⟩=some (.slice a n c))) (by kernel_rfl) ?_ (fun _=>?_)
    · ((try dsimp only);(exact ⟨hA.cell 0,hA.cell 1⟩))
    generalize w2.drew=Wd at *;refine hdT 0 ?_;refine hdT 1 ?_;refine hdT 3 ?_;refine wpAnyH_ready (rs:=[2,7]) (by kernel_rfl) (by simp) ?_;refine AllReadyH.cons (hdAt (i:=2) rfl) (fun K hK=>?_) (AllReadyH.cons (hdAt (i:=7) rfl) (fun K hK=>?_) AllReadyH.nil)
    · skip
      (go_simp;(go_at_call 180;refine (dif_drop_c da dn dc a n c).mono ?_;rintro e W1 ⟨rfl,hbX⟩);go_wp2_with fail)
      replace hb:=bT' hb hbX (by have:=hA.lt;omega);replace hA:=hA.keep hbX hA.lt;replace hR:=hR.keep hbX hR.lt;clear hbX;refine hK.out _ _ ?_ (fun _=>?_)
      · ((try dsimp only);(exact ⟨hA.cell 0,hA.cell 1⟩))
      clear hK K
      (try simp only [Act.put,pA,pB,pC])
      refine wpAnyH_ready (rs:=[4,7]) (by kernel_rfl) (by simp) ?_;refine AllReadyH.cons (hdAt (i:=4) rfl) (fun K hK=>?_) (AllReadyH.cons (hdAt (i:=7) rfl) (fun K hK=>?_) AllReadyH.nil)
      · skip
        (go_simp;(go_at_call 178;refine (low_drop_c m a2 n2 c2).mono ?_;rintro e W2 ⟨rfl,hbX⟩);go_wp2_with fail)
        replace hb:=bT' hb hbX (by have:=hA.lt;omega);replace hA:=hA.keep hbX hA.lt;replace hR:=hR.keep hbX hR.lt;clear hbX;refine hK.out _ _ ?_ (fun _=>?_)
        · ((try dsimp only);(exact ⟨hA.cell 0,hA.cell 1⟩))
        clear hK K
        (try simp only [Act.put,pA,pB,pC])
        (refine hdT 5 ?_);rw [HWR.out]
        refine wpAnyH_ready (rs:=[6,7]) (by kernel_rfl) (by simp) ?_;refine AllReadyH.cons (hdAt (i:=6) rfl) (fun K hK=>?_) (AllReadyH.cons (hdAt (i:=7) rfl) (fun K hK=>?_) AllReadyH.nil)
        · skip
          have hbl:g1<W2.heap.size:=hR.lt
          (go_simp;(go_at_call 66;refine (newDerivation_c dc c ((-1)+m) (HD.out.keep (show Below w.heap.size w _ by rw [HG.out];exact hb)) (by omega)).mono ?_;rintro e W3 ⟨gI,rfl,hgI,hI,hbX⟩);go_wp2_with fail)
          replace hb:=bT' hb hbX (by have:=hA.lt;omega);replace hA:=hA.keep hbX hA.lt;replace hR:=hR.keep hbX hR.lt;clear hbX;have hgI2:g1<gI:=(by omega);clear hgI hbl;refine hK.out _ _ ?_ (fun _=>?_)
          · ((try dsimp only);(exact ⟨hA.cell 0,hA.cell 1⟩))
          clear hK K
          (try simp only [Act.put,pA,pB,pC])
          refine hdC 7 (fun K hK=>?_)
          (go_simp;try go_wp2_with fail)
          have hO:=Own.new W3 32 #[.int .i64 0,.slice none 0 0];have hgX1:g1<W3.heap.size:=hR.lt;have hbX:=bA1 W3 (.cells #[.int .i64 0,.slice none 0 0] 32);replace hb:=bT' hb hbX (by have:=hA.lt;omega);replace hA:=hA.keep hbX hA.lt;replace hR:=hR.keep hbX hR.lt;replace hI:=hI.keep hbX hI.lt;clear hbX;generalize W3.alloc (.cells #[.int .i64 0,.slice none 0 0] 32)=W4 at *;generalize hgXg:W3.heap.size=gX at *;clear hgXg;refine hK.out _ _ ?_ (fun _=>?_)
          · ((try dsimp only);(exact ⟨hA.cell 0,hA.cell 1⟩))
          clear hK K
          (try simp only [Act.put,pA,pB,pC])
          refine hdC 8 (fun K hK=>?_);have s0:=hO.cell 0;have s1:=hO.cell 1;have f0:=hO.frozen 0;have f1:=hO.frozen 1;have hne:=own_neR hI hO (by decide)
          (go_simp;go_wp2_with fail)
          clear s0 s1 f0 f1;replace hA:=hA.far (p:=⟨gX,0,none⟩) (by dsimp only;omega) (.int .i64 ((-1)+m));replace hR:=hR.far (p:=⟨gX,0,none⟩) (by dsimp only;omega) (.int .i64 ((-1)+m));replace hI:=hI.far (p:=⟨gX,0,none⟩) hne (.int .i64 ((-1)+m));replace hb:=hb.setCell (p:=⟨gX,0,none⟩) (by dsimp only;omega) (.int .i64 ((-1)+m));replace hO:=hO.set 0 (.int .i64 ((-1)+m));replace hA:=hA.far (p:=⟨gX,1,none⟩) (by dsimp only;omega) (.slice (some ⟨gI,0,none⟩) dn dn);replace hR:=hR.far (p:=⟨gX,1,none⟩) (by dsimp only;omega) (.slice (some ⟨gI,0,none⟩) dn dn);replace hI:=hI.far (p:=⟨gX,1,none⟩) hne (.slice (some ⟨gI,0,none⟩) dn dn);replace hb:=hb.setCell (p:=⟨gX,1,none⟩) (by dsimp only;omega) (.slice (some ⟨gI,0,none⟩) dn dn);replace hO:=hO.set 1 (.slice (some ⟨gI,0,none⟩) dn dn);generalize (W4.setCell ⟨gX,0,none⟩ (.int .i64 ((-1)+m))).setCell ⟨gX,1,none⟩ (.slice (some ⟨gI,0,none⟩) dn dn)=W5 at *;clear hne;refine hK.out _ _ ?_ (fun _=>?_)
          · ((try dsimp only);(exact ⟨hA.cell 0,hA.cell 1⟩))
          clear hK K
          (try simp only [Act.put,pA,pB,pC])
          refine wpAnyH_done (by kernel_rfl) ?_ _;go_wp2_with fail
          go_meet
          exact ⟨gI,gX,rfl,hgI2,hgX1,hA,hR,hI,hO,hb⟩
        · skip
          (go_simp;try go_wp2_with fail)
          have hO:=Own.new W2 32 #[.int .i64 0,.slice none 0 0];have hgX1:g1<W2.heap.size:=hR.lt;have hbX:=bA1 W2 (.cells #[.int .i64 0,.slice none 0 0] 32);replace hb:=bT' hb hbX (by have:=hA.lt;omega);replace hA:=hA.keep hbX hA.lt;replace hR:=hR.keep hbX hR.lt;clear hbX;generalize W2.alloc (.cells #[.int .i64 0,.slice none 0 0] 32)=W6 at *;generalize hgXg:W2.heap.size=gX at *;clear hgXg;refine hK.out _ _ ?_ (fun _=>?_)
          · ((try dsimp only);(exact ⟨hA.cell 0,hA.cell 1⟩))
          clear hK K
          (try simp only [Act.put,pA,pB,pC])
          refine hdC 6 (fun K hK=>?_);have hbl:g1<W6.heap.size:=hR.lt
          (go_simp;(go_at_call 66;refine (newDerivation_c dc c ((-1)+m) (HD.out.keep (show Below w.heap.size w _ by rw [HG.out];exact hb)) (by omega)).mono ?_;rintro e W7 ⟨gI,rfl,hgI,hI,hbX⟩);go_wp2_with fail)
          replace hb:=bT' hb hbX (by have:=hA.lt;omega);replace hA:=hA.keep hbX hA.lt;replace hR:=hR.keep hbX hR.lt;replace hO:=hO.keep hbX hO.lt;clear hbX;have hgI2:g1<gI:=(by omega);clear hgI hbl;refine hK.out _ _ ?_ (fun _=>?_)
          · ((try dsimp only);(exact ⟨hA.cell 0,hA.cell 1⟩))
          clear hK K
          (try simp only [Act.put,pA,pB,pC])
          refine hdC 8 (fun K hK=>?_);have s0:=hO.cell 0;have s1:=hO.cell 1;have f0:=hO.frozen 0;have f1:=hO.frozen 1;have hne:=own_neR hI hO (by decide)
          (go_simp;go_wp2_with fail)
          clear s0 s1 f0 f1;replace hA:=hA.far (p:=⟨gX,0,none⟩) (by dsimp only;omega) (.int .i64 ((-1)+m));replace hR:=hR.far (p:=⟨gX,0,none⟩) (by dsimp only;omega) (.int .i64 ((-1)+m));replace hI:=hI.far (p:=⟨gX,0,none⟩) hne (.int .i64 ((-1)+m));replace hb:=hb.setCell (p:=⟨gX,0,none⟩) (by dsimp only;omega) (.int .i64 ((-1)+m));replace hO:=hO.set 0 (.int .i64 ((-1)+m));replace hA:=hA.far (p:=⟨gX,1,none⟩) (by dsimp only;omega) (.slice (some ⟨gI,0,none⟩) dn dn);replace hR:=hR.far (p:=⟨gX,1,none⟩) (by dsimp only;omega) (.slice (some ⟨gI,0,none⟩) dn dn);replace hI:=hI.far (p:=⟨gX,1,none⟩) hne (.slice (some ⟨gI,0,none⟩) dn dn);replace hb:=hb.setCell (p:=⟨gX,1,none⟩) (by dsimp only;omega) (.slice (some ⟨gI,0,none⟩) dn dn);replace hO:=hO.set 1 (.slice (some ⟨gI,0,none⟩) dn dn);generalize (W7.setCell ⟨gX,0,none⟩ (.int .i64 ((-1)+m))).setCell ⟨gX,1,none⟩ (.slice (some ⟨gI,0,none⟩) dn dn)=W8 at *;clear hne;refine hK.out _ _ ?_ (fun _=>?_)
          · ((try dsimp only);(exact ⟨hA.cell 0,hA.cell 1⟩))
          clear hK K
          (try simp only [Act.put,pA,pB,pC])
          refine wpAnyH_done (by kernel_rfl) ?_ _;go_wp2_with fail
          go_meet
          exact ⟨gI,gX,rfl,hgI2,hgX1,hA,hR,hI,hO,hb⟩
      · skip
        (go_simp;try go_wp2_with fail)
        have hO:=Own.new W1 32 #[.int .i64 0,.slice none 0 0];have hgX1:g1<W1.heap.size:=hR.lt;have hbX:=bA1 W1 (.cells #[.int .i64 0,.slice none 0 0] 32);replace hb:=bT' hb hbX (by have:=hA.lt;omega);replace hA:=hA.keep hbX hA.lt;replace hR:=hR.keep hbX hR.lt;clear hbX;generalize W1.alloc (.cells #[.int .i64 0,.slice none 0 0] 32)=W9 at *;generalize hgXg:W1.heap.size=gX at *;clear hgXg;refine hK.out _ _ ?_ (fun _=>?_)
        · ((try dsimp only);(exact ⟨hA.cell 0,hA.cell 1⟩))
        clear hK K
        (try simp only [Act.put,pA,pB,pC])
        refine hdC 4 (fun K hK=>?_)
        (go_simp;(go_at_call 178;refine (low_drop_c m a2 n2 c2).mono ?_;rintro e W10 ⟨rfl,hbX⟩);go_wp2_with fail)
        replace hb:=bT' hb hbX (by have:=hA.lt;omega);replace hA:=hA.keep hbX hA.lt;replace hR:=hR.keep hbX hR.lt;replace hO:=hO.keep hbX hO.lt;clear hbX;refine hK.out _ _ ?_ (fun _=>?_)
        · ((try dsimp only);(exact ⟨hA.cell 0,hA.cell 1⟩))
        clear hK K
        (try simp only [Act.put,pA,pB,pC])
        (refine hdT 5 ?_);rw [HWR.out]
        refine hdC 6 (fun K hK=>?_);have hbl:g1<W10.heap.size:=hR.lt
        (go_simp;(go_at_call 66;refine (newDerivation_c dc c ((-1)+m) (HD.out.keep (show Below w.heap.size w _ by rw [HG.out];exact hb)) (by omega)).mono ?_;rintro e W11 ⟨gI,rfl,hgI,hI,hbX⟩);go_wp2_with fail)
        replace hb:=bT' hb hbX (by have:=hA.lt;omega);replace hA:=hA.keep hbX hA.lt;replace hR:=hR.keep hbX hR.lt;replace hO:=hO.keep hbX hO.lt;clear hbX;have hgI2:g1<gI:=(by omega);clear hgI hbl;refine hK.out _ _ ?_ (fun _=>?_)
        · ((try dsimp only);(exact ⟨hA.cell 0,hA.cell 1⟩))
        clear hK K
        (try simp only [Act.put,pA,pB,pC])
        refine hdC 8 (fun K hK=>?_);have s0:=hO.cell 0;have s1:=hO.cell 1;have f0:=hO.frozen 0;have f1:=hO.frozen 1;have hne:=own_neR hI hO (by decide)
        (go_simp;go_wp2_with fail)
        clear s0 s1 f0 f1;replace hA:=hA.far (p:=⟨gX,0,none⟩) (by dsimp only;omega) (.int .i64 ((-1)+m));replace hR:=hR.far (p:=⟨gX,0,none⟩) (by dsimp only;omega) (.int .i64 ((-1)+m));replace hI:=hI.far (p:=⟨gX,0,none⟩) hne (.int .i64 ((-1)+m));replace hb:=hb.setCell (p:=⟨gX,0,none⟩) (by dsimp only;omega) (.int .i64 ((-1)+m));replace hO:=hO.set 0 (.int .i64 ((-1)+m));replace hA:=hA.far (p:=⟨gX,1,none⟩) (by dsimp only;omega) (.slice (some ⟨gI,0,none⟩) dn dn);replace hR:=hR.far (p:=⟨gX,1,none⟩) (by dsimp only;omega) (.slice (some ⟨gI,0,none⟩) dn dn);replace hI:=hI.far (p:=⟨gX,1,none⟩) hne (.slice (some ⟨gI,0,none⟩) dn dn);replace hb:=hb.setCell (p:=⟨gX,1,none⟩) (by dsimp only;omega) (.slice (some ⟨gI,0,none⟩) dn dn);replace hO:=hO.set 1 (.slice (some ⟨gI,0,none⟩) dn dn);generalize (W11.setCell ⟨gX,0,none⟩ (.int .i64 ((-1)+m))).setCell ⟨gX,1,none⟩ (.slice (some ⟨gI,0,none⟩) dn dn)=W12 at *;clear hne;refine hK.out _ _ ?_ (fun _=>?_)
        · ((try dsimp only);(exact ⟨hA.cell 0,hA.cell 1⟩))
        clear hK K
        (try simp only [Act.put,pA,pB,pC])
        refine wpAnyH_done (by kernel_rfl) ?_ _;go_wp2_with fail
        go_meet
        exact ⟨gI,gX,rfl,hgI2,hgX1,hA,hR,hI,hO,hb⟩
    · skip
      (go_simp;try go_wp2_with fail)
      have hO:=Own.new Wd 32 #[.int .i64 0,.slice none 0 0];have hgX1:g1<Wd.heap.size:=hR.lt;have hbX:=bA1 Wd (.cells #[.int .i64 0,.slice none 0 0] 32);replace hb:=bT' hb hbX (by have:=hA.lt;omega);replace hA:=hA.keep hbX hA.lt;replace hR:=hR.keep hbX hR.lt;clear hbX;generalize Wd.alloc (.cells #[.int .i64 0,.slice none 0 0] 32)=W13 at *;generalize hgXg:Wd.heap.size=gX at *;clear hgXg;refine hK.out _ _ ?_ (fun _=>?_)
      · ((try dsimp only);(exact ⟨hA.cell 0,hA.cell 1⟩))
      clear hK K
      (try simp only [Act.put,pA,pB,pC])
      refine hdC 2 (fun K hK=>?_)
      (go_simp;(go_at_call 180;refine (dif_drop_c da dn dc a n c).mono ?_;rintro e W14 ⟨rfl,hbX⟩);go_wp2_with fail)
      replace hb:=bT' hb hbX (by have:=hA.lt;omega);replace hA:=hA.keep hbX hA.lt;replace hR:=hR.keep hbX hR.lt;replace hO:=hO.keep hbX hO.lt;clear hbX;refine hK.out _ _ ?_ (fun _=>?_)
      · ((try dsimp only);(exact ⟨hA.cell 0,hA.cell 1⟩))
      clear hK K
      (try simp only [Act.put,pA,pB,pC])
      refine hdC 4 (fun K hK=>?_)
      (go_simp;(go_at_call 178;refine (low_drop_c m a2 n2 c2).mono ?_;rintro e W15 ⟨rfl,hbX⟩);go_wp2_with fail)
      replace hb:=bT' hb hbX (by have:=hA.lt;omega);replace hA:=hA.keep hbX hA.lt;replace hR:=hR.keep hbX hR.lt;replace hO:=hO.keep hbX hO.lt;clear hbX;refine hK.out _ _ ?_ (fun _=>?_)
      · ((try dsimp only);(exact ⟨hA.cell 0,hA.cell 1⟩))
      clear hK K
      (try simp only [Act.put,pA,pB,pC])
      (refine hdT 5 ?_);rw [HWR.out]
      refine hdC 6 (fun K hK=>?_);have hbl:g1<W15.heap.size:=hR.lt
      (go_simp;(go_at_call 66;refine (newDerivation_c dc c ((-1)+m) (HD.out.keep (show Below w.heap.size w _ by rw [HG.out];exact hb)) (by omega)).mono ?_;rintro e W16 ⟨gI,rfl,hgI,hI,hbX⟩);go_wp2_with fail)
      replace hb:=bT' hb hbX (by have:=hA.lt;omega);replace hA:=hA.keep hbX hA.lt;replace hR:=hR.keep hbX hR.lt;replace hO:=hO.keep hbX hO.lt;clear hbX;have hgI2:g1<gI:=(by omega);clear hgI hbl;refine hK.out _ _ ?_ (fun _=>?_)
      · ((try dsimp only);(exact ⟨hA.cell 0,hA.cell 1⟩))
      clear hK K
      (try simp only [Act.put,pA,pB,pC])
      refine hdC 8 (fun K hK=>?_);have s0:=hO.cell 0;have s1:=hO.cell 1;have f0:=hO.frozen 0;have f1:=hO.frozen 1;have hne:=own_neR hI hO (by decide)
      (go_simp;go_wp2_with fail)
      clear s0 s1 f0 f1;replace hA:=hA.far (p:=⟨gX,0,none⟩) (by dsimp only;omega) (.int .i64 ((-1)+m));replace hR:=hR.far (p:=⟨gX,0,none⟩) (by dsimp only;omega) (.int .i64 ((-1)+m));replace hI:=hI.far (p:=⟨gX,0,none⟩) hne (.int .i64 ((-1)+m));replace hb:=hb.setCell (p:=⟨gX,0,none⟩) (by dsimp only;omega) (.int .i64 ((-1)+m));replace hO:=hO.set 0 (.int .i64 ((-1)+m));replace hA:=hA.far (p:=⟨gX,1,none⟩) (by dsimp only;omega) (.slice (some ⟨gI,0,none⟩) dn dn);replace hR:=hR.far (p:=⟨gX,1,none⟩) (by dsimp only;omega) (.slice (some ⟨gI,0,none⟩) dn dn);replace hI:=hI.far (p:=⟨gX,1,none⟩) hne (.slice (some ⟨gI,0,none⟩) dn dn);replace hb:=hb.setCell (p:=⟨gX,1,none⟩) (by dsimp only;omega) (.slice (some ⟨gI,0,none⟩) dn dn);replace hO:=hO.set 1 (.slice (some ⟨gI,0,none⟩) dn dn);generalize (W16.setCell ⟨gX,0,none⟩ (.int .i64 ((-1)+m))).setCell ⟨gX,1,none⟩ (.slice (some ⟨gI,0,none⟩) dn dn)=W17 at *;clear hne;refine hK.out _ _ ?_ (fun _=>?_)
      · ((try dsimp only);(exact ⟨hA.cell 0,hA.cell 1⟩))
      clear hK K
      (try simp only [Act.put,pA,pB,pC])
      refine wpAnyH_done (by kernel_rfl) ?_ _;go_wp2_with fail
      go_meet
      exact ⟨gI,gX,rfl,hgI2,hgX1,hA,hR,hI,hO,hb⟩
   case rest=>
    clear hb hA hR;obtain ⟨gI,gX,rfl,hgI2,hgX2,hA,hR,hI,hO,hb⟩:=hcut;have hVC0:(valCells dn []).toArray=Array.replicate dn (Value.slice none 0 0):=(by simp [valCells]);rw [←hVC0] at hI;have cO:=hO.cell 1;clear hVC0;go_wp2_with fail
    clear cO
    go_loopw [31] (fun y wr=>∃(p:Nat) (vs:List Value),p≤dn∧y=.int .i64 p∧Below g0 w wr∧Own wr g0 36 #[.slice da dn dc,.slice a n c]∧Own wr g1 32 #[.int .i64 0,.slice none 0 0]∧Own wr gX 32 #[.int .i64 ((-1)+m),.slice (some ⟨gI,0,none⟩) dn dn]∧Hid (Own wr gI 59 (valCells dn vs).toArray)∧Hid (Vals wr g0 vs (brs (dfAt zs gss m hss) p))∧Hid (∀i,i<p→okT zs ((dfAt zs gss m hss) i)=true)) (fun y _=>dn - (intOf y).toNat)
    case atStart=>exact ⟨0,[],Nat.zero_le _,rfl,hb,hA,hR,hO,Lib.hid hI,Lib.hid (Vals.nil _ _),Lib.hid (fun i hi=>absurd hi (by omega))⟩
    case round=>
     clear hb hA hR hO hI;obtain ⟨p,vs,hp,rfl,hb,hA,hR,hO,hI,hW,HJ⟩:=hrel;by_cases hpn:p<dn
     · have hga:w.heap.size≤g0:=Nat.le_of_eq HG.out;have hp0:(0:Int)≤(p:Int):=(by omega);have hpd:(p:Int)<(dn:Int):=(by omega);have HN:=Lib.hid (dfAt9 (k:=m) HA1.out HA2.out p);have HCO:Hid (∀x,diffR (odd m) zs hss (1) (diffR true zs gss 1 zeroL (hss.getD p [])) (gss.getD p []) x=coef ((dfAt zs gss m hss) p) x):=Lib.hid (fun x=>by rw [←df_coef (k:=m) HA1.out HA2.out p x,HSC.out]);obtain ⟨TT,hTT⟩:∃T,(dfAt zs gss m hss) p=T:=⟨_,rfl⟩;have HTT:=Lib.hid hTT;rw [hTT] at HN HCO;clear hTT;obtain ⟨E,hE⟩:∃E,fE zs TT=E:=⟨_,rfl⟩;have HEE:=Lib.hid hE;clear hE;go_upto_region 8 with fail
       go_cut [11,12] (fun q e wx=>∃(g:Nat) (va:Option Addr) (vn vc:Nat),q=.pointer (some ⟨g,0,none⟩)∧e=.int .i64 E∧Below wr.heap.size wr wx∧wr.heap.size≤g∧Own wx g 59 #[.slice va vn vc]∧OwnR wx wr.heap.size (.slice va vn vc) (fV zs TT))
       case first=>
        have hC:Below wr.heap.size wr wr:=Below.refl _ _;replace hb:Below w.heap.size w wr:=(by rw [HG.out];exact hb);have c0:=hA.cell 0;have c1':=hA.cell 1;clear hI hW HJ hO hR;go_wp2_with fail
        refine (sumD_c dc c m c2 p (HD.out.keep hb) (HF1.out.keep hb) (HF2.out.keep hb) HA1.out HA2.out hpn).mono ?_;rintro e W1 ⟨bm,NN,rfl,-,hNN,hM,hbX⟩;clear hA c0 c1';replace hb:=bT' hb hbX hb.size;replace hC:=bT' hC hbX hC.size;clear hbX;go_wp2_with fail
        have hbs:=hC.size;refine (form_c hM (by omega) (diffR_bd (diffR_bd (fun _=>by simp [zeroL])))).mono ?_;rintro e W2 ⟨hf,hbX⟩;obtain ⟨v,rfl,hV⟩:=hf.tolds HN.out.1.good HN.out.1.tm HN.out.2 HCO.out;rw [HEE.out];clear hM hf;replace hb:=bT' hb hbX hb.size;replace hC:=bT' hC hbX hC.size;clear hbX;replace hV:=hV.weaken hbs;clear hbs;obtain ⟨va,vn,vc,rfl⟩:=hV.isSlice;have hB0:=Own.new W2 59 #[.slice none 0 0];have s0:=hB0.cell 0;have f0:=hB0.frozen 0;go_wp2_with fail
        clear s0 f0 hB0;go_meet
        have hB:=Own.new W2 59 #[.slice va vn vc];have hbX:=bA1 W2 (.cells #[.slice va vn vc] 59);exact ⟨W2.heap.size,va,vn,vc,rfl,rfl,bT' hC hbX hC.size,hC.size,hB,hV.keep hbX⟩
       case rest=>
        obtain ⟨gF,va,vn,vc,rfl,rfl,hbX,hgF,hB,hV⟩:=hcut;have hsz:g1<wr.heap.size:=hR.lt;have HLT:=Lib.hid hW.out.lt;replace hO:=hO.keep hbX hO.lt;replace hI:=Lib.hid (hI.out.keep hbX hI.out.lt);replace hW:=Lib.hid (hW.out.keep hbX);replace hb:=bT' hb hbX (by have:=hA.lt;omega);replace hA:=hA.keep hbX hA.lt;replace hR:=hR.keep hbX hR.lt;clear hbX;have e0:=hB.cell 0;cases hkT:okT zs TT
        · have eE:fE zs TT=3:=(by rw [fE,hkT];rfl);rw [HEE.out] at eE;subst eE;have HE:=Lib.hid (okBr_no (zs:=zs) (B:=dfAt zs gss m hss) (i:=p) hpn (by rw [HTT.out];exact hkT));clear hI hW HLT hV e0 hO hA hB hkT;have r0:=hR.cell 0;have r1:=hR.cell 1;have f0:=hR.frozen 0;have f1:=hR.frozen 1;go_wp2_with fail
          have q:=(hR.set 0 (.int .i64 0)).set 1 (.slice none 0 0);have qb:=(hb.setCell (p:=⟨g1,0,none⟩) (by dsimp only;omega) (.int .i64 0)).setCell (p:=⟨g1,1,none⟩) (by dsimp only;omega) (.slice none 0 0);exact bodyPost_ret (results_row2 rfl _ _ g1 32 #[.int .i64 0,.slice none 0 0] (0,0) _ rfl q Tryz.underlying32 rfl Tryz.info_der) rfl ⟨none,0,0,by rw [HE.out.1,HE.out.2.1];rfl,by rw [HE.out.2.2];exact OwnF.none_,by rw [HG.out];exact qb⟩
        · have eE:fE zs TT=0:=(by rw [fE,if_pos hkT]);rw [HEE.out] at eE;subst eE;rw [fV,if_pos hkT] at hV;have HKT:=Lib.hid hkT;clear hkT;have hvl:vs.length=p:=(by rw [hW.out.len,brs_len]);have HS2:=Lib.hid (hW.out.snoc HLT.out (by have:=hsz;omega) hV);have HVC:=Lib.hid (valCells_step (v:=.slice va vn vc) hvl hpn);obtain ⟨oI,cI⟩:=hI.out.has (i:=p) (by rw [List.size_toArray,valCells_len (by omega)];exact hpn);have fI:=hI.out.frozen p;have cO:=hO.cell 1;clear hV;go_upto_region 12 with fail
          clear e0 cI fI cO;have hI5:=hI.out.set p (.slice va vn vc);rw [HVC.out] at hI5;have HI5:=Lib.hid hI5;have HW5:=Lib.hid (HS2.out.far (p:=⟨gI,p,none⟩) hI.out (.slice va vn vc));have hne:=own_neR hO hI.out (by decide);have hO5:=hO.far (p:=⟨gI,p,none⟩) hne (.slice va vn vc);have hA5:=hA.far (p:=⟨gI,p,none⟩) (by dsimp only;omega) (.slice va vn vc);have hR5:=hR.far (p:=⟨gI,p,none⟩) (by dsimp only;omega) (.slice va vn vc);have hb5:=hb.setCell (p:=⟨gI,p,none⟩) (by dsimp only;omega) (.slice va vn vc);clear hI5 hI hW HS2 hO hA hR hb hB hne;generalize World.setCell _ ⟨gI,p,none⟩ (.slice va vn vc)=wz at *;go_wp2_with fail
          go_roundw
          case rel=>
           refine ⟨p+1,vs++[.slice va vn vc],by omega,by go_num,hb5,hA5,hR5,hO5,HI5,by rw [brs_succ,HTT.out];exact HW5,Lib.hid (fun i hi=>?_)⟩;by_cases ei:i=p
           · rw [ei,HTT.out];exact HKT.out
           · exact HJ.out i (by omega)
          case measure=>simp [intOf] <;> omega
     · have he:p=dn:=(by omega);subst he;have HE:=Lib.hid (okBr_yes (zs:=zs) (B:=dfAt zs gss m hss) HJ.out);have hvl:vs.length=p:=(by rw [hW.out.len,brs_len]);have hFF:=hW.out.ownF (n:=p) (brs_len _ p) hI.out (fun i v hi=>by rw [valCells_full hvl,List.getElem?_toArray];exact hi) (by omega) (brs_tm (fun i=>(dfAt9 (k:=m) HA1.out HA2.out i).1.tm) p);have HFFF:=Lib.hid hFF;have k0:=hO.cell 0;have k1:=hO.cell 1;have r0:=hR.cell 0;have r1:=hR.cell 1;have f0:=hR.frozen 0;have f1:=hR.frozen 1;clear hFF hI hW;go_wp2_with fail
       have q:=(hR.set 0 (.int .i64 ((-1)+m))).set 1 (.slice (some ⟨gI,0,none⟩) p p);have qb:=(hb.setCell (p:=⟨g1,0,none⟩) (by dsimp only;omega) (.int .i64 ((-1)+m))).setCell (p:=⟨g1,1,none⟩) (by dsimp only;omega) (.slice (some ⟨gI,0,none⟩) p p);have qF:=ownF_far9 (p:=⟨g1,1,none⟩) (ownF_far9 (p:=⟨g1,0,none⟩) HFFF.out hR (.int .i64 ((-1)+m))) (hR.set 0 _) (.slice (some ⟨gI,0,none⟩) p p);exact bodyPost_ret (results_row2 rfl _ _ g1 32 #[.int .i64 ((-1)+m),.slice (some ⟨gI,0,none⟩) p p] (0,0) _ rfl q Tryz.underlying32 rfl Tryz.info_der) rfl ⟨some ⟨gI,0,none⟩,p,p,by rw [HE.out.1,HE.out.2.1];rfl,by rw [HE.out.2.2,HG.out];exact qF.weaken (Nat.le_refl _) (by simp),by rw [HG.out];exact qb⟩
end Go.Proofs.YtdppjlndcacfnaaGreat
