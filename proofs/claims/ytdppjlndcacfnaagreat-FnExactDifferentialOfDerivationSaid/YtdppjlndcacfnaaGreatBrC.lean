
import Derived.Test.YtdppjlndcacfnaaGreatBrN
import Derived.Test.YtdppjlndcacfnaaGreatAppC
namespace Go.Proofs.YtdppjlndcacfnaaGreat
set_option maxRecDepth 100000
open Go.RowKit Go.Deep
theorem dif_drop_c {w : World} (ea : Option Addr) (en ec : Nat) (a2 : Option Addr) (n2 c2 : Nat) :
    Calls Tryz.prog 180 #[.agg #[.slice ea en ec,.slice a2 n2 c2]] w fun e w'=>e=.returned (.int .i64 (-1))∧Below w.heap.size w w':=by
 have hA:=Own.new w 72 #[.slice ea en ec,.slice a2 n2 c2]
 have hb:=bA1 w (.cells #[.slice ea en ec,.slice a2 n2 c2] 72)
 have c0:=hA.cell 0
 have c1:=hA.cell 1
 go_enter Tryz.func180,Tryz.ntmps180
 go_upto_region 1 with fail
 generalize w.alloc (.cells #[.slice ea en ec,.slice a2 n2 c2] 72)=w0 at *
 go_wp2_with fail
 go_ret
 exact ⟨rfl,hb⟩
theorem dif_drop_at (ea : Option Addr) (en ec : Nat) (a2 : Option Addr) (n2 c2 : Nat) (w : World) : (method 340 72 (.agg #[.slice ea en ec, .slice a2 n2 c2]) "loop.example/g01219/impl.drop").run Tryz.prog w = .ok (180, .agg #[.slice ea en ec, .slice a2 n2 c2]) w := by kernel_rfl
theorem dif_images_c {w : World} (ea : Option Addr) (en ec : Nat) (a2 : Option Addr) (n2 c2 : Nat) :
    Calls Tryz.prog 181 #[.agg #[.slice ea en ec,.slice a2 n2 c2]] w fun e w'=>e=.returned (.slice a2 n2 c2)∧Below w.heap.size w w':=by
 have hA:=Own.new w 72 #[.slice ea en ec,.slice a2 n2 c2]
 have hb:=bA1 w (.cells #[.slice ea en ec,.slice a2 n2 c2] 72)
 have c0:=hA.cell 0
 have c1:=hA.cell 1
 go_enter Tryz.func181,Tryz.ntmps181
 go_upto_region 1 with fail
 generalize w.alloc (.cells #[.slice ea en ec,.slice a2 n2 c2] 72)=w0 at *
 go_wp2_with fail
 go_ret
 exact ⟨rfl,hb⟩
theorem dif_images_at (ea : Option Addr) (en ec : Nat) (a2 : Option Addr) (n2 c2 : Nat) (w : World) : (method 340 72 (.agg #[.slice ea en ec, .slice a2 n2 c2]) "loop.example/g01219/impl.images").run Tryz.prog w = .ok (181, .agg #[.slice ea en ec, .slice a2 n2 c2]) w := by kernel_rfl
set_option maxHeartbeats 8000000 in
theorem ruleOfD_c {w : World} (da : Option Addr) (dn dc : Nat) (a : Option Addr) (n c : Nat) (ea : Option Addr) (en ec : Nat) (a2 : Option Addr) (n2 c2 : Nat) :
    Calls Tryz.prog 115 #[.agg #[.slice da dn dc,.slice a n c],.iface 72 (.agg #[.slice ea en ec,.slice a2 n2 c2])] w fun e w'=>e=.returned (.agg #[.slice da dn dc,.slice a2 n2 c2,.bool true])∧Below w.heap.size w w':=by
 have hA:=(Own.new w 36 #[.slice da dn dc,.slice a n c]).alloc (.cells #[.slice none 0 0,.slice none 0 0,.bool false] 168)
 have hR:=Own.new (w.alloc (.cells #[.slice da dn dc,.slice a n c] 36)) 168 #[.slice none 0 0,.slice none 0 0,.bool false]
 rw [sAl] at hR
 have hb:=bTn (bA1 w (.cells #[.slice da dn dc,.slice a n c] 36)) (bA1 _ (.cells #[.slice none 0 0,.slice none 0 0,.bool false] 168))
 have hm1:=dif_images_at ea en ec a2 n2 c2
 have hm2:=dif_drop_at ea en ec a2 n2 c2
 go_enter Tryz.func115,Tryz.ntmps115
 go_upto_region 1 with fail
 generalize (w.alloc (.cells #[.slice da dn dc,.slice a n c] 36)).alloc (.cells #[.slice none 0 0,.slice none 0 0,.bool false] 168)=w0 at *
 obtain ⟨g0,hg0⟩:∃g,w.heap.size=g:=⟨_,rfl⟩
 rw [hg0] at hA hR hb ⊢
 try rw [hg0]
 have HG:=Lib.hid hg0
 clear hg0
 replace hA:Own w0.drew g0 36 #[.slice da dn dc,.slice a n c]:=hA
 replace hR:Own w0.drew (g0+1) 168 #[.slice none 0 0,.slice none 0 0,.bool false]:=hR
 replace hb:Below g0 w w0.drew:=hb.drew
 refine wp_region_held_drew (S:=(fun w'=>w'.cell? ⟨g0,0,none⟩=some (.slice da dn dc))) (by kernel_rfl) ?_ (fun _=>?_)
 · ((try dsimp only);(exact hA.cell 0))
 generalize w0.drew=Wd at *
 refine hdT 0 ?_
 refine hdT 1 ?_
 refine hdT 2 ?_
 refine hdT 4 ?_
 refine hdC 3 (fun K hK=>?_)
 (go_simp;(go_at_call 181;refine (dif_images_c ea en ec a2 n2 c2).mono ?_;rintro e W1 ⟨rfl,hbX⟩);go_wp2_with fail)
 replace hb:=bT' hb hbX (by have:=hA.lt;omega)
 replace hA:=hA.keep hbX hA.lt
 replace hR:=hR.keep hbX hR.lt
 clear hbX
 refine hK.out _ _ ?_ (fun _=>?_)
 · ((try dsimp only);(exact hA.cell 0))
 clear hK K
 (try simp only [Act.put,pA,pB,pC])
 refine hdC 5 (fun K hK=>?_)
 (go_simp;(go_at_call 180;refine (dif_drop_c ea en ec a2 n2 c2).mono ?_;rintro e W2 ⟨rfl,hbX⟩);go_wp2_with fail)
 replace hb:=bT' hb hbX (by have:=hA.lt;omega)
 replace hA:=hA.keep hbX hA.lt
 replace hR:=hR.keep hbX hR.lt
 clear hbX
 refine hK.out _ _ ?_ (fun _=>?_)
 · ((try dsimp only);(exact hA.cell 0))
 clear hK K
 (try simp only [Act.put,pA,pB,pC])
 refine hdC 6 (fun K hK=>?_)
 (go_simp;(go_at_call 64;refine (isOdd_c _ _).mono ?_;rintro e w' ⟨rfl,rfl⟩;rw [odd_neg1]);go_wp2_with fail)
 refine hK.out _ _ ?_ (fun _=>?_)
 · ((try dsimp only);(exact hA.cell 0))
 clear hK K
 (try simp only [Act.put,pA,pB,pC])
 refine hdT 7 ?_
 refine hdC 8 (fun K hK=>?_)
 have r0:=hR.cell 0
 have r1:=hR.cell 1
 have r2:=hR.cell 2
 have f0:=hR.frozen 0
 have f1:=hR.frozen 1
 have f2:=hR.frozen 2
 (go_simp;go_wp2_with fail)
 clear r0 r1 r2 f0 f1 f2
 replace hA:=hA.far (p:=⟨g0+1,0,none⟩) (by dsimp only;omega) (.slice da dn dc)
 replace hb:=hb.setCell (p:=⟨g0+1,0,none⟩) (by dsimp only;omega) (.slice da dn dc)
 replace hR:=hR.set 0 (.slice da dn dc)
 replace hA:=hA.far (p:=⟨g0+1,1,none⟩) (by dsimp only;omega) (.slice a2 n2 c2)
 replace hb:=hb.setCell (p:=⟨g0+1,1,none⟩) (by dsimp only;omega) (.slice a2 n2 c2)
 replace hR:=hR.set 1 (.slice a2 n2 c2)
 replace hA:=hA.far (p:=⟨g0+1,2,none⟩) (by dsimp only;omega) (.bool true)
 replace hb:=hb.setCell (p:=⟨g0+1,2,none⟩) (by dsimp only;omega) (.bool true)
 replace hR:=hR.set 2 (.bool true)
 generalize (((W2).setCell ⟨g0+1,0,none⟩ (.slice da dn dc)).setCell ⟨g0+1,1,none⟩ (.slice a2 n2 c2)).setCell ⟨g0+1,2,none⟩ (.bool true)=W3 at *
 refine hK.out _ _ ?_ (fun _=>?_)
 · ((try dsimp only);(exact hA.cell 0))
 clear hK K
 (try simp only [Act.put,pA,pB,pC])
 refine wpAnyH_done (by kernel_rfl) ?_ _
 go_wp2_with fail
 exact bodyPost_ret (results_cell_row rfl _ _ (g0+1) 168 #[.slice da dn dc,.slice a2 n2 c2,.bool true] (0,0) _ rfl hR Tryz.underlying168 rfl Tryz.info_rule) rfl ⟨rfl,by rw [HG.out];exact hb⟩
set_option maxHeartbeats 8000000 in
theorem joinedL_c {w : World} {da : Option Addr} {dn : Nat} {zs : List Int} {a1 : Option Addr} {n1 : Nat} {gss : List (List Tm)} {a2 : Option Addr} {n2 : Nat} {hss : List (List Tm)} (a : Option Addr) (n : Nat) (dc c : Nat) (k : Int) (c1 : Nat) (m : Int) (c2 i : Nat) (sg : Int) (hd : Ints w da dn zs) (hF1 : Frms w a1 n1 gss) (hF2 : Frms w a2 n2 hss) (H1 : AlgOk zs gss) (H2 : AlgOk zs hss) (hi : i < dn) (hsg : sg = 1 ∨ sg = -1) :
    Calls Tryz.prog 93 #[.agg #[.slice da dn dc,.slice a n c,.iface 67 (.agg #[.int .i64 k,.slice a1 n1 c1]),.iface 67 (.agg #[.int .i64 m,.slice a2 n2 c2])],.int .i64 i,.int .i64 sg] w fun e w'=>∃b N,e=.returned (.map (some b))∧w.heap.size≤b∧N≤2560000∧MapIs w' b N (diffR (odd m) zs hss sg (diffR (odd k) zs gss 1 zeroL (hss.getD i [])) (gss.getD i []))∧Below w.heap.size w w':=by
 have hn1:n1=dn:=by have:=hd.len;have:=hF1.len;have:=H1.ln;omega
 have hn2:n2=dn:=by have:=hd.len;have:=hF2.len;have:=H2.ln;omega
 have h81:n1≤8:=by have:=hF1.len;have:=H1.ln;have:=H1.h8;omega
 have h82:n2≤8:=by have:=hF2.len;have:=H2.ln;have:=H2.h8;omega
 obtain ⟨b1,o1,fs,x1,m1,d1,ea1,hl1,hc1,hT1,-,hx1⟩:=hF1.at_ (i:=i) (by omega)
 obtain ⟨b2,o2,gs,x2,m2,d2,ea2,hl2,hc2,hT2,-,hx2⟩:=hF2.at_ (i:=i) (by omega)
 subst ea1 ea2
 have ef:gss.getD i []=fs:=by rw [List.getD_eq_getElem?_getD,hx1.out];rfl
 have eg:hss.getD i []=gs:=by rw [List.getD_eq_getElem?_getD,hx2.out];rfl
 have hm1:m1≤400:=by have:=isForm_400 (H1.fm fs (List.mem_of_getElem? hx1.out));have:=hT1.len;omega
 have hm2:m2≤400:=by have:=isForm_400 (H2.fm gs (List.mem_of_getElem? hx2.out));have:=hT2.len;omega
 have HK1:=Lib.hid (isForm_fit (H1.fm fs (List.mem_of_getElem? hx1.out)))
 have HK2:=Lib.hid (isForm_fit (H2.fm gs (List.mem_of_getElem? hx2.out)))
 have HB1:=Lib.hid (isForm_f (H1.fm fs (List.mem_of_getElem? hx1.out)))
 have HB2:=Lib.hid (isForm_f (H2.fm gs (List.mem_of_getElem? hx2.out)))
 have HI1:=Lib.hid (show (i:Int)<(n1:Int) by omega)
 have HI2:=Lib.hid (show (i:Int)<(n2:Int) by omega)
 have HND1:=Lib.hid hn1
 have HND2:=Lib.hid hn2
 rw [ef,eg]
 have HC1:=Lib.hid hc1
 have HC2:=Lib.hid hc2
 have HT1:=Lib.hid hT1
 have HT2:=Lib.hid hT2
 have HA1:=Lib.hid H1
 have HA2:=Lib.hid H2
 have HD:=Lib.hid hd
 have HF1:=Lib.hid hF1
 have HF2:=Lib.hid hF2
 have HSG:=Lib.hid hsg
 clear ef eg hx1 hx2 hc1 hc2 hT1 hT2 H1 H2 hsg hn1 hn2 hi
 have hA:=Own.new w 105 #[.slice da dn dc,.slice a n c,.iface 67 (.agg #[.int .i64 k,.slice (some ⟨b1,o1,none⟩) n1 c1]),.iface 67 (.agg #[.int .i64 m,.slice (some ⟨b2,o2,none⟩) n2 c2])]
 have hb:=bA1 w (.cells #[.slice da dn dc,.slice a n c,.iface 67 (.agg #[.int .i64 k,.slice (some ⟨b1,o1,none⟩) n1 c1]),.iface 67 (.agg #[.int .i64 m,.slice (some ⟨b2,o2,none⟩) n2 c2])] 105)
 go_enter Tryz.func93,Tryz.ntmps93
 go_upto_region 1 with fail
 generalize w.alloc (.cells #[.slice da dn dc,.slice a n c,.iface 67 (.agg #[.int .i64 k,.slice (some ⟨b1,o1,none⟩) n1 c1]),.iface 67 (.agg #[.int .i64 m,.slice (some ⟨b2,o2,none⟩) n2 c2])] 105)=w0 at *
 generalize hg0:w.heap.size=g0 at *
 have HG:=Lib.hid hg0
 clear hg0
 have hmm:=@run_makeMap Tryz.prog
 have hM:=mapIs_made w0
 have hbb:g0≤w0.heap.size:=Nat.le_of_lt hA.lt
 have hbX:=bA1 w0 (.map #[] 0)
 replace hb:=bT' hb hbX hbb
 replace hA:=hA.keep hbX hA.lt
 clear hbX
 go_upto_region 2 with fail
 clear hmm
 generalize w0.alloc (.map #[] 0)=w3 at *
 generalize hgb:w0.heap.size=bm at *
 clear hgb
 replace hA:Own w3.drew g0 105 #[.slice da dn dc,.slice a n c,.iface 67 (.agg #[.int .i64 k,.slice (some ⟨b1,o1,none⟩) n1 c1]),.iface 67 (.agg #[.int .i64 m,.slice (some ⟨b2,o2,none⟩) n2 c2])]:=hA
 replace hb:Below g0 w w3.drew:=hb.drew
 replace hM:=hM.keep ((Below.refl _ _).drew:Below w3.heap.size w3 w3.drew)
 have hi0:(0:Int)≤(i:Int):=by omega
 have hin:=HI2.out
 refine wp_region_held_drew (S:=(fun w'=>w'.cell? ⟨g0,0,none⟩=some (.slice da dn dc)∧w'.cell? ⟨g0,1,none⟩=some (.slice a n c)∧w'.cell? ⟨g0,2,none⟩=some (.iface 67 (.agg #[.int .i64 k,.slice (some ⟨b1,o1,none⟩) n1 c1]))∧w'.cell? ⟨g0,3,none⟩=some (.iface 67 (.agg #[.int .i64 m,.slice (some ⟨b2,o2,none⟩) n2 c2]))∧w'.cell? ⟨b2,o2+i,none⟩=some (.slice x2 m2 d2))) (by kernel_rfl) ?_ (fun _=>?_)
 · ((try dsimp only);(exact ⟨hA.cell 0,hA.cell 1,hA.cell 2,hA.cell 3,(World.cell?_of_block (a:=⟨b2,o2+i,none⟩) (hb.block b2 hl2)).trans HC2.out⟩))
 generalize w3.drew=Wd at *
 refine hdT 0 ?_
 refine hdT 1 ?_
 refine hdT 2 ?_
 refine hdT 3 ?_
 refine hdT 5 ?_
 refine hdT 6 ?_
 refine hdT 7 ?_
 refine hdT 9 ?_
 refine hdC 4 (fun K hK=>?_)
 (go_simp;(go_at_call 115;refine (ruleOf_c da dn dc a n c k (some ⟨b1,o1,none⟩) n1 c1).mono ?_;rintro e W4 ⟨rfl,hbX⟩);go_wp2_with fail)
 replace hM:=hM.keep hbX
 replace hb:=bT' hb hbX (by have:=hA.lt;omega)
 replace hA:=hA.keep hbX hA.lt
 clear hbX
 refine hK.out _ _ ?_ (fun _=>?_)
 · ((try dsimp only);(exact ⟨hA.cell 0,hA.cell 1,hA.cell 2,hA.cell 3,(World.cell?_of_block (a:=⟨b2,o2+i,none⟩) (hb.block b2 hl2)).trans HC2.out⟩))
 clear hK K
 (try simp only [Act.put,pA,pB,pC])
 have hme:=low_images_at m (some ⟨b2,o2,none⟩) n2 c2
 refine hdC 8 (fun K hK=>?_)
 (go_simp;(go_at_call 179;refine (low_images_c m (some ⟨b2,o2,none⟩) n2 c2).mono ?_;rintro e W8 ⟨rfl,hbX⟩);go_wp2_with fail)
 replace hM:=hM.keep hbX
 replace hb:=bT' hb hbX (by have:=hA.lt;omega)
 replace hA:=hA.keep hbX hA.lt
 clear hbX
 refine hK.out _ _ ?_ (fun _=>?_)
 · ((try dsimp only);(exact ⟨hA.cell 0,hA.cell 1,hA.cell 2,hA.cell 3,(World.cell?_of_block (a:=⟨b2,o2+i,none⟩) (hb.block b2 hl2)).trans HC2.out⟩))
 clear hK K
 (try simp only [Act.put,pA,pB,pC])
 clear hme
 refine hdT 10 ?_
 refine hdT 11 ?_
 refine hdC 12 (fun K hK=>?_)
 (go_simp;(go_at_call 112;refine (ruleAdd_c (odd k) 1 dc c1 d2 hM (by omega) (fun _=>by simp [zeroL]) (HD.out.keep (show Below w.heap.size w _ by rw [HG.out];exact hb)) (HF1.out.keep (show Below w.heap.size w _ by rw [HG.out];exact hb)) HND1.out h81 (HT2.out.keep (show Below w.heap.size w _ by rw [HG.out];exact hb)) hm2 HK2.out HB2.out (Or.inl rfl) (fun im hi=>isForm_400 (HA1.out.fm im hi)) (fun im hi u hu=>⟨(HA1.out.tm im hi u hu).1,isForm_fit (HA1.out.fm im hi) u hu,isForm_f (HA1.out.fm im hi) u hu⟩)).mono ?_;rintro e W12 ⟨rfl,hM2,hgr⟩);go_wp2_with fail)
 replace hA:=hA.grownM hM hgr
 have hbw:=bel_grown (show Below w.heap.size w _ by rw [HG.out];exact hb) hgr (by rw [HG.out];exact hbb)
 rw [HG.out] at hbw
 replace hb:=hbw
 clear hM hgr hbw
 have hM:=hM2
 clear hM2
 refine hK.out _ _ ?_ (fun _=>?_)
 · ((try dsimp only);(exact ⟨hA.cell 0,hA.cell 1,hA.cell 2,hA.cell 3,(World.cell?_of_block (a:=⟨b2,o2+i,none⟩) (hb.block b2 hl2)).trans HC2.out⟩))
 clear hK K
 (try simp only [Act.put,pA,pB,pC])
 refine wpAnyH_done (by kernel_rfl) ?_ _
 clear hin
 have hin:=HI1.out
 go_upto_region 3 with fail
 generalize W12=w4 at *
 replace hA:Own w4.drew g0 105 #[.slice da dn dc,.slice a n c,.iface 67 (.agg #[.int .i64 k,.slice (some ⟨b1,o1,none⟩) n1 c1]),.iface 67 (.agg #[.int .i64 m,.slice (some ⟨b2,o2,none⟩) n2 c2])]:=hA
 replace hb:Below g0 w w4.drew:=hb.drew
 replace hM:=hM.keep ((Below.refl _ _).drew:Below w4.heap.size w4 w4.drew)
 refine wp_region_held_drew (S:=(fun w'=>w'.cell? ⟨g0,0,none⟩=some (.slice da dn dc)∧w'.cell? ⟨g0,1,none⟩=some (.slice a n c)∧w'.cell? ⟨g0,2,none⟩=some (.iface 67 (.agg #[.int .i64 k,.slice (some ⟨b1,o1,none⟩) n1 c1]))∧w'.cell? ⟨g0,3,none⟩=some (.iface 67 (.agg #[.int .i64 m,.slice (some ⟨b2,o2,none⟩) n2 c2]))∧w'.cell? ⟨b1,o1+i,none⟩=some (.slice x1 m1 d1))) (by kernel_rfl) ?_ (fun hHeldB=>?_)
 · ((try dsimp only);(exact ⟨hA.cell 0,hA.cell 1,hA.cell 2,hA.cell 3,(World.cell?_of_block (a:=⟨b1,o1+i,none⟩) (hb.block b1 hl1)).trans HC1.out⟩))
 generalize w4.drew=We at *
 refine hdT 0 ?_
 refine hdT 1 ?_
 refine hdT 2 ?_
 refine hdT 3 ?_
 refine hdT 5 ?_
 refine hdT 6 ?_
 refine hdT 7 ?_
 refine hdT 8 ?_
 refine hdT 10 ?_
 refine hdC 4 (fun K hK=>?_)
 (go_simp;(go_at_call 115;refine (ruleOf_c da dn dc a n c m (some ⟨b2,o2,none⟩) n2 c2).mono ?_;rintro e W4 ⟨rfl,hbX⟩);go_wp2_with fail)
 replace hM:=hM.keep hbX
 replace hb:=bT' hb hbX (by have:=hA.lt;omega)
 replace hA:=hA.keep hbX hA.lt
 clear hbX
 refine hK.out _ _ ?_ (fun _=>?_)
 · ((try dsimp only);(exact ⟨hA.cell 0,hA.cell 1,hA.cell 2,hA.cell 3,(World.cell?_of_block (a:=⟨b1,o1+i,none⟩) (hb.block b1 hl1)).trans HC1.out⟩))
 clear hK K
 (try simp only [Act.put,pA,pB,pC])
 have hme:=low_images_at k (some ⟨b1,o1,none⟩) n1 c1
 refine hdC 9 (fun K hK=>?_)
 (go_simp;(go_at_call 179;refine (low_images_c k (some ⟨b1,o1,none⟩) n1 c1).mono ?_;rintro e W9 ⟨rfl,hbX⟩);go_wp2_with fail)
 replace hM:=hM.keep hbX
 replace hb:=bT' hb hbX (by have:=hA.lt;omega)
 replace hA:=hA.keep hbX hA.lt
 clear hbX
 refine hK.out _ _ ?_ (fun _=>?_)
 · ((try dsimp only);(exact ⟨hA.cell 0,hA.cell 1,hA.cell 2,hA.cell 3,(World.cell?_of_block (a:=⟨b1,o1+i,none⟩) (hb.block b1 hl1)).trans HC1.out⟩))
 clear hK K
 (try simp only [Act.put,pA,pB,pC])
 clear hme
 refine hdT 11 ?_
 refine hdT 12 ?_
 refine hdC 13 (fun K hK=>?_)
 (go_simp;(go_at_call 112;refine (ruleAdd_c (odd m) sg dc c2 d1 hM (by omega) (diffR_bd (fun _=>by simp [zeroL])) (HD.out.keep (show Below w.heap.size w _ by rw [HG.out];exact hb)) (HF2.out.keep (show Below w.heap.size w _ by rw [HG.out];exact hb)) HND2.out h82 (HT1.out.keep (show Below w.heap.size w _ by rw [HG.out];exact hb)) hm1 HK1.out HB1.out HSG.out (fun im hi=>isForm_400 (HA2.out.fm im hi)) (fun im hi u hu=>⟨(HA2.out.tm im hi u hu).1,isForm_fit (HA2.out.fm im hi) u hu,isForm_f (HA2.out.fm im hi) u hu⟩)).mono ?_;rintro e W13 ⟨rfl,hM2,hgr⟩);go_wp2_with fail)
 replace hA:=hA.grownM hM hgr
 have hbw:=bel_grown (show Below w.heap.size w _ by rw [HG.out];exact hb) hgr (by rw [HG.out];exact hbb)
 rw [HG.out] at hbw
 replace hb:=hbw
 clear hM hgr hbw
 have hM:=hM2
 clear hM2
 refine hK.out _ _ ?_ (fun _=>?_)
 · ((try dsimp only);(exact ⟨hA.cell 0,hA.cell 1,hA.cell 2,hA.cell 3,(World.cell?_of_block (a:=⟨b1,o1+i,none⟩) (hb.block b1 hl1)).trans HC1.out⟩))
 clear hK K
 (try simp only [Act.put,pA,pB,pC])
 refine wpAnyH_done (by kernel_rfl) ?_ _
 clear hin
 go_wp2_with fail
 go_ret
 exact ⟨bm,_,rfl,by rw [HG.out];exact hbb,by omega,hM,by rw [HG.out];exact hb⟩
set_option maxHeartbeats 8000000 in
theorem joinedD_c {w : World} {da : Option Addr} {dn : Nat} {zs : List Int} {a : Option Addr} {n : Nat} {gss : List (List Tm)} {a2 : Option Addr} {n2 : Nat} {hss : List (List Tm)}  (dc c : Nat)  (m : Int) (c2 i : Nat) (sg : Int) (hd : Ints w da dn zs) (hF1 : Frms w a n gss) (hF2 : Frms w a2 n2 hss) (H1 : AlgOk zs gss) (H2 : AlgOk zs hss) (hi : i < dn) (hsg : sg = 1 ∨ sg = -1) :
    Calls Tryz.prog 93 #[.agg #[.slice da dn dc,.slice a n c,.iface 72 (.agg #[.slice da dn dc,.slice a n c]),.iface 67 (.agg #[.int .i64 m,.slice a2 n2 c2])],.int .i64 i,.int .i64 sg] w fun e w'=>∃b N,e=.returned (.map (some b))∧w.heap.size≤b∧N≤2560000∧MapIs w' b N (diffR (odd m) zs hss sg (diffR true zs gss 1 zeroL (hss.getD i [])) (gss.getD i []))∧Below w.heap.size w w':=by
 have hn1:n=dn:=by have:=hd.len;have:=hF1.len;have:=H1.ln;omega
 have hn2:n2=dn:=by have:=hd.len;have:=hF2.len;have:=H2.ln;omega
 have h81:n≤8:=by have:=hF1.len;have:=H1.ln;have:=H1.h8;omega
 have h82:n2≤8:=by have:=hF2.len;have:=H2.ln;have:=H2.h8;omega
 obtain ⟨b1,o1,fs,x1,m1,d1,ea1,hl1,hc1,hT1,-,hx1⟩:=hF1.at_ (i:=i) (by omega)
 obtain ⟨b2,o2,gs,x2,m2,d2,ea2,hl2,hc2,hT2,-,hx2⟩:=hF2.at_ (i:=i) (by omega)
 subst ea1 ea2
 have ef:gss.getD i []=fs:=by rw [List.getD_eq_getElem?_getD,hx1.out];rfl
 have eg:hss.getD i []=gs:=by rw [List.getD_eq_getElem?_getD,hx2.out];rfl
 have hm1:m1≤400:=by have:=isForm_400 (H1.fm fs (List.mem_of_getElem? hx1.out));have:=hT1.len;omega
 have hm2:m2≤400:=by have:=isForm_400 (H2.fm gs (List.mem_of_getElem? hx2.out));have:=hT2.len;omega
 have HK1:=Lib.hid (isForm_fit (H1.fm fs (List.mem_of_getElem? hx1.out)))
 have HK2:=Lib.hid (isForm_fit (H2.fm gs (List.mem_of_getElem? hx2.out)))
 have HB1:=Lib.hid (isForm_f (H1.fm fs (List.mem_of_getElem? hx1.out)))
 have HB2:=Lib.hid (isForm_f (H2.fm gs (List.mem_of_getElem? hx2.out)))
 have HI1:=Lib.hid (show (i:Int)<(n:Int) by omega)
 have HI2:=Lib.hid (show (i:Int)<(n2:Int) by omega)
 have HND1:=Lib.hid hn1
 have HND2:=Lib.hid hn2
 rw [ef,eg]
 have HC1:=Lib.hid hc1
 have HC2:=Lib.hid hc2
 have HT1:=Lib.hid hT1
 have HT2:=Lib.hid hT2
 have HA1:=Lib.hid H1
 have HA2:=Lib.hid H2
 have HD:=Lib.hid hd
 have HF1:=Lib.hid hF1
 have HF2:=Lib.hid hF2
 have HSG:=Lib.hid hsg
 clear ef eg hx1 hx2 hc1 hc2 hT1 hT2 H1 H2 hsg hn1 hn2 hi
 have hA:=Own.new w 105 #[.slice da dn dc,.slice (some ⟨b1,o1,none⟩) n c,.iface 72 (.agg #[.slice da dn dc,.slice (some ⟨b1,o1,none⟩) n c]),.iface 67 (.agg #[.int .i64 m,.slice (some ⟨b2,o2,none⟩) n2 c2])]
 have hb:=bA1 w (.cells #[.slice da dn dc,.slice (some ⟨b1,o1,none⟩) n c,.iface 72 (.agg #[.slice da dn dc,.slice (some ⟨b1,o1,none⟩) n c]),.iface 67 (.agg #[.int .i64 m,.slice (some ⟨b2,o2,none⟩) n2 c2])] 105)
 go_enter Tryz.func93,Tryz.ntmps93
 go_upto_region 1 with fail
 generalize w.alloc (.cells #[.slice da dn dc,.slice (some ⟨b1,o1,none⟩) n c,.iface 72 (.agg #[.slice da dn dc,.slice (some ⟨b1,o1,none⟩) n c]),.iface 67 (.agg #[.int .i64 m,.slice (some ⟨b2,o2,none⟩) n2 c2])] 105)=w0 at *
 generalize hg0:w.heap.size=g0 at *
 have HG:=Lib.hid hg0
 clear hg0
 have hmm:=@run_makeMap Tryz.prog
 have hM:=mapIs_made w0
 have hbb:g0≤w0.heap.size:=Nat.le_of_lt hA.lt
 have hbX:=bA1 w0 (.map #[] 0)
 replace hb:=bT' hb hbX hbb
 replace hA:=hA.keep hbX hA.lt
 clear hbX
 go_upto_region 2 with fail
 clear hmm
 generalize w0.alloc (.map #[] 0)=w3 at *
 generalize hgb:w0.heap.size=bm at *
 clear hgb
 replace hA:Own w3.drew g0 105 #[.slice da dn dc,.slice (some ⟨b1,o1,none⟩) n c,.iface 72 (.agg #[.slice da dn dc,.slice (some ⟨b1,o1,none⟩) n c]),.iface 67 (.agg #[.int .i64 m,.slice (some ⟨b2,o2,none⟩) n2 c2])]:=hA
 replace hb:Below g0 w w3.drew:=hb.drew
 replace hM:=hM.keep ((Below.refl _ _).drew:Below w3.heap.size w3 w3.drew)
 have hi0:(0:Int)≤(i:Int):=by omega
 have hin:=HI2.out
 refine wp_region_held_drew (S:=(fun w'=>w'.cell? ⟨g0,0,none⟩=some (.slice da dn dc)∧w'.cell? ⟨g0,1,none⟩=some (.slice (some ⟨b1,o1,none⟩) n c)∧w'.cell? ⟨g0,2,none⟩=some (.iface 72 (.agg #[.slice da dn dc,.slice (some ⟨b1,o1,none⟩) n c]))∧w'.cell? ⟨g0,3,none⟩=some (.iface 67 (.agg #[.int .i64 m,.slice (some ⟨b2,o2,none⟩) n2 c2]))∧w'.cell? ⟨b2,o2+i,none⟩=some (.slice x2 m2 d2))) (by kernel_rfl) ?_ (fun _=>?_)
 · ((try dsimp only);(exact ⟨hA.cell 0,hA.cell 1,hA.cell 2,hA.cell 3,(World.cell?_of_block (a:=⟨b2,o2+i,none⟩) (hb.block b2 hl2)).trans HC2.out⟩))
 generalize w3.drew=Wd at *
 refine hdT 0 ?_
 refine hdT 1 ?_
 refine hdT 2 ?_
 refine hdT 3 ?_
 refine hdT 5 ?_
 refine hdT 6 ?_
 refine hdT 7 ?_
 refine hdT 9 ?_
 refine hdC 4 (fun K hK=>?_)
 (go_simp;(go_at_call 115;refine (ruleOfD_c da dn dc (some ⟨b1,o1,none⟩) n c da dn dc (some ⟨b1,o1,none⟩) n c).mono ?_;rintro e W4 ⟨rfl,hbX⟩);go_wp2_with fail)
 replace hM:=hM.keep hbX
 replace hb:=bT' hb hbX (by have:=hA.lt;omega)
 replace hA:=hA.keep hbX hA.lt
 clear hbX
 refine hK.out _ _ ?_ (fun _=>?_)
 · ((try dsimp only);(exact ⟨hA.cell 0,hA.cell 1,hA.cell 2,hA.cell 3,(World.cell?_of_block (a:=⟨b2,o2+i,none⟩) (hb.block b2 hl2)).trans HC2.out⟩))
 clear hK K
 (try simp only [Act.put,pA,pB,pC])
 have hme:=low_images_at m (some ⟨b2,o2,none⟩) n2 c2
 refine hdC 8 (fun K hK=>?_)
 (go_simp;(go_at_call 179;refine (low_images_c m (some ⟨b2,o2,none⟩) n2 c2).mono ?_;rintro e W8 ⟨rfl,hbX⟩);go_wp2_with fail)
 replace hM:=hM.keep hbX
 replace hb:=bT' hb hbX (by have:=hA.lt;omega)
 replace hA:=hA.keep hbX hA.lt
 clear hbX
 refine hK.out _ _ ?_ (fun _=>?_)
 · ((try dsimp only);(exact ⟨hA.cell 0,hA.cell 1,hA.cell 2,hA.cell 3,(World.cell?_of_block (a:=⟨b2,o2+i,none⟩) (hb.block b2 hl2)).trans HC2.out⟩))
 clear hK K
 (try simp only [Act.put,pA,pB,pC])
 clear hme
 refine hdT 10 ?_
 refine hdT 11 ?_
 refine hdC 12 (fun K hK=>?_)
 (go_simp;(go_at_call 112;refine (ruleAdd_c true 1 dc c d2 hM (by omega) (fun _=>by simp [zeroL]) (HD.out.keep (show Below w.heap.size w _ by rw [HG.out];exact hb)) (HF1.out.keep (show Below w.heap.size w _ by rw [HG.out];exact hb)) HND1.out h81 (HT2.out.keep (show Below w.heap.size w _ by rw [HG.out];exact hb)) hm2 HK2.out HB2.out (Or.inl rfl) (fun im hi=>isForm_400 (HA1.out.fm im hi)) (fun im hi u hu=>⟨(HA1.out.tm im hi u hu).1,isForm_fit (HA1.out.fm im hi) u hu,isForm_f (HA1.out.fm im hi) u hu⟩)).mono ?_;rintro e W12 ⟨rfl,hM2,hgr⟩);go_wp2_with fail)
 replace hA:=hA.grownM hM hgr
 have hbw:=bel_grown (show Below w.heap.size w _ by rw [HG.out];exact hb) hgr (by rw [HG.out];exact hbb)
 rw [HG.out] at hbw
 replace hb:=hbw
 clear hM hgr hbw
 have hM:=hM2
 clear hM2
 refine hK.out _ _ ?_ (fun _=>?_)
 · ((try dsimp only);(exact ⟨hA.cell 0,hA.cell 1,hA.cell 2,hA.cell 3,(World.cell?_of_block (a:=⟨b2,o2+i,none⟩) (hb.block b2 hl2)).trans HC2.out⟩))
 clear hK K
 (try simp only [Act.put,pA,pB,pC])
 refine wpAnyH_done (by kernel_rfl) ?_ _
 clear hin
 have hin:=HI1.out
 go_upto_region 3 with fail
 generalize W12=w4 at *
 replace hA:Own w4.drew g0 105 #[.slice da dn dc,.slice (some ⟨b1,o1,none⟩) n c,.iface 72 (.agg #[.slice da dn dc,.slice (some ⟨b1,o1,none⟩) n c]),.iface 67 (.agg #[.int .i64 m,.slice (some ⟨b2,o2,none⟩) n2 c2])]:=hA
 replace hb:Below g0 w w4.drew:=hb.drew
 replace hM:=hM.keep ((Below.refl _ _).drew:Below w4.heap.size w4 w4.drew)
 refine wp_region_held_drew (S:=(fun w'=>w'.cell? ⟨g0,0,none⟩=some (.slice da dn dc)∧w'.cell? ⟨g0,1,none⟩=some (.slice (some ⟨b1,o1,none⟩) n c)∧w'.cell? ⟨g0,2,none⟩=some (.iface 72 (.agg #[.slice da dn dc,.slice (some ⟨b1,o1,none⟩) n c]))∧w'.cell? ⟨g0,3,none⟩=some (.iface 67 (.agg #[.int .i64 m,.slice (some ⟨b2,o2,none⟩) n2 c2]))∧w'.cell? ⟨b1,o1+i,none⟩=some (.slice x1 m1 d1))) (by kernel_rfl) ?_ (fun hHeldB=>?_)
 · ((try dsimp only);(exact ⟨hA.cell 0,hA.cell 1,hA.cell 2,hA.cell 3,(World.cell?_of_block (a:=⟨b1,o1+i,none⟩) (hb.block b1 hl1)).trans HC1.out⟩))
 generalize w4.drew=We at *
 refine hdT 0 ?_
 refine hdT 1 ?_
 refine hdT 2 ?_
 refine hdT 3 ?_
 refine hdT 5 ?_
 refine hdT 6 ?_
 refine hdT 7 ?_
 refine hdT 8 ?_
 refine hdT 10 ?_
 refine hdC 4 (fun K hK=>?_)
 (go_simp;(go_at_call 115;refine (ruleOf_c da dn dc (some ⟨b1,o1,none⟩) n c m (some ⟨b2,o2,none⟩) n2 c2).mono ?_;rintro e W4 ⟨rfl,hbX⟩);go_wp2_with fail)
 replace hM:=hM.keep hbX
 replace hb:=bT' hb hbX (by have:=hA.lt;omega)
 replace hA:=hA.keep hbX hA.lt
 clear hbX
 refine hK.out _ _ ?_ (fun _=>?_)
 · ((try dsimp only);(exact ⟨hA.cell 0,hA.cell 1,hA.cell 2,hA.cell 3,(World.cell?_of_block (a:=⟨b1,o1+i,none⟩) (hb.block b1 hl1)).trans HC1.out⟩))
 clear hK K
 (try simp only [Act.put,pA,pB,pC])
 have hme:=dif_images_at da dn dc (some ⟨b1,o1,none⟩) n c
 refine hdC 9 (fun K hK=>?_)
 (go_simp;(go_at_call 181;refine (dif_images_c da dn dc (some ⟨b1,o1,none⟩) n c).mono ?_;rintro e W9 ⟨rfl,hbX⟩);go_wp2_with fail)
 replace hM:=hM.keep hbX
 replace hb:=bT' hb hbX (by have:=hA.lt;omega)
 replace hA:=hA.keep hbX hA.lt
 clear hbX
 refine hK.out _ _ ?_ (fun _=>?_)
 · ((try dsimp only);(exact ⟨hA.cell 0,hA.cell 1,hA.cell 2,hA.cell 3,(World.cell?_of_block (a:=⟨b1,o1+i,none⟩) (hb.block b1 hl1)).trans HC1.out⟩))
 clear hK K
 (try simp only [Act.put,pA,pB,pC])
 clear hme
 refine hdT 11 ?_
 refine hdT 12 ?_
 refine hdC 13 (fun K hK=>?_)
 (go_simp;(go_at_call 112;refine (ruleAdd_c (odd m) sg dc c2 d1 hM (by omega) (diffR_bd (fun _=>by simp [zeroL])) (HD.out.keep (show Below w.heap.size w _ by rw [HG.out];exact hb)) (HF2.out.keep (show Below w.heap.size w _ by rw [HG.out];exact hb)) HND2.out h82 (HT1.out.keep (show Below w.heap.size w _ by rw [HG.out];exact hb)) hm1 HK1.out HB1.out HSG.out (fun im hi=>isForm_400 (HA2.out.fm im hi)) (fun im hi u hu=>⟨(HA2.out.tm im hi u hu).1,isForm_fit (HA2.out.fm im hi) u hu,isForm_f (HA2.out.fm im hi) u hu⟩)).mono ?_;rintro e W13 ⟨rfl,hM2,hgr⟩);go_wp2_with fail)
 replace hA:=hA.grownM hM hgr
 have hbw:=bel_grown (show Below w.heap.size w _ by rw [HG.out];exact hb) hgr (by rw [HG.out];exact hbb)
 rw [HG.out] at hbw
 replace hb:=hbw
 clear hM hgr hbw
 have hM:=hM2
 clear hM2
 refine hK.out _ _ ?_ (fun _=>?_)
 · ((try dsimp only);(exact ⟨hA.cell 0,hA.cell 1,hA.cell 2,hA.cell 3,(World.cell?_of_block (a:=⟨b1,o1+i,none⟩) (hb.block b1 hl1)).trans HC1.out⟩))
 clear hK K
 (try simp only [Act.put,pA,pB,pC])
 refine wpAnyH_done (by kernel_rfl) ?_ _
 clear hin
 go_wp2_with fail
 go_ret
 exact ⟨bm,_,rfl,by rw [HG.out];exact hbb,by omega,hM,by rw [HG.out];exact hb⟩
set_option maxHeartbeats 8000000 in
theorem differenceL_c {w : World} {da : Option Addr} {dn : Nat} {zs : List Int} {a1 : Option Addr} {n1 : Nat} {gss : List (List Tm)} {a2 : Option Addr} {n2 : Nat} {hss : List (List Tm)} (a : Option Addr) (n : Nat) (dc c : Nat) (k : Int) (c1 : Nat) (m : Int) (c2 i : Nat) (hd : Ints w da dn zs) (hF1 : Frms w a1 n1 gss) (hF2 : Frms w a2 n2 hss) (H1 : AlgOk zs gss) (H2 : AlgOk zs hss) (hi : i < dn) :
    Calls Tryz.prog 63 #[.agg #[.slice da dn dc,.slice a n c,.iface 67 (.agg #[.int .i64 k,.slice a1 n1 c1]),.iface 67 (.agg #[.int .i64 m,.slice a2 n2 c2])],.int .i64 i] w fun e w'=>∃b N,e=.returned (.map (some b))∧w.heap.size≤b∧N≤2560000∧MapIs w' b N (diffR (odd m) zs hss (-1) (diffR (odd k) zs gss 1 zeroL (hss.getD i [])) (gss.getD i []))∧Below w.heap.size w w':=by
 have HA1:=Lib.hid H1
 have HA2:=Lib.hid H2
 have HD:=Lib.hid hd
 have HF1:=Lib.hid hF1
 have HF2:=Lib.hid hF2
 have HI:=Lib.hid hi
 clear H1 H2 hi
 have hA:=Own.new w 105 #[.slice da dn dc,.slice a n c,.iface 67 (.agg #[.int .i64 k,.slice a1 n1 c1]),.iface 67 (.agg #[.int .i64 m,.slice a2 n2 c2])]
 have hb:=bA1 w (.cells #[.slice da dn dc,.slice a n c,.iface 67 (.agg #[.int .i64 k,.slice a1 n1 c1]),.iface 67 (.agg #[.int .i64 m,.slice a2 n2 c2])] 105)
 have hbs:w.heap.size≤(w.alloc (.cells #[.slice da dn dc,.slice a n c,.iface 67 (.agg #[.int .i64 k,.slice a1 n1 c1]),.iface 67 (.agg #[.int .i64 m,.slice a2 n2 c2])] 105)).heap.size:=hb.size
 have c0:=hA.cell 0
 have c1':=hA.cell 1
 have c2':=hA.cell 2
 have c3':=hA.cell 3
 go_enter Tryz.func63,Tryz.ntmps63
 go_upto_region 1 with fail
 generalize w.alloc (.cells #[.slice da dn dc,.slice a n c,.iface 67 (.agg #[.int .i64 k,.slice a1 n1 c1]),.iface 67 (.agg #[.int .i64 m,.slice a2 n2 c2])] 105)=w0 at *
 go_wp2_with fail
 refine (joinedL_c a n dc c k c1 m c2 i (-1) (HD.out.keep hb) (HF1.out.keep hb) (HF2.out.keep hb) HA1.out HA2.out HI.out (Or.inr rfl)).mono ?_
 rintro e w1 ⟨b,N,rfl,hbb,hN,hM,hbX⟩
 go_wp2_with fail
 go_ret
 exact ⟨b,N,rfl,Nat.le_trans hbs hbb,hN,hM,bT' hb hbX hbs⟩
set_option maxHeartbeats 8000000 in
theorem sumL_c {w : World} {da : Option Addr} {dn : Nat} {zs : List Int} {a1 : Option Addr} {n1 : Nat} {gss : List (List Tm)} {a2 : Option Addr} {n2 : Nat} {hss : List (List Tm)} (a : Option Addr) (n : Nat) (dc c : Nat) (k : Int) (c1 : Nat) (m : Int) (c2 i : Nat) (hd : Ints w da dn zs) (hF1 : Frms w a1 n1 gss) (hF2 : Frms w a2 n2 hss) (H1 : AlgOk zs gss) (H2 : AlgOk zs hss) (hi : i < dn) :
    Calls Tryz.prog 65 #[.agg #[.slice da dn dc,.slice a n c,.iface 67 (.agg #[.int .i64 k,.slice a1 n1 c1]),.iface 67 (.agg #[.int .i64 m,.slice a2 n2 c2])],.int .i64 i] w fun e w'=>∃b N,e=.returned (.map (some b))∧w.heap.size≤b∧N≤2560000∧MapIs w' b N (diffR (odd m) zs hss (1) (diffR (odd k) zs gss 1 zeroL (hss.getD i [])) (gss.getD i []))∧Below w.heap.size w w':=by
 have HA1:=Lib.hid H1
 have HA2:=Lib.hid H2
 have HD:=Lib.hid hd
 have HF1:=Lib.hid hF1
 have HF2:=Lib.hid hF2
 have HI:=Lib.hid hi
 clear H1 H2 hi
 have hA:=Own.new w 105 #[.slice da dn dc,.slice a n c,.iface 67 (.agg #[.int .i64 k,.slice a1 n1 c1]),.iface 67 (.agg #[.int .i64 m,.slice a2 n2 c2])]
 have hb:=bA1 w (.cells #[.slice da dn dc,.slice a n c,.iface 67 (.agg #[.int .i64 k,.slice a1 n1 c1]),.iface 67 (.agg #[.int .i64 m,.slice a2 n2 c2])] 105)
 have hbs:w.heap.size≤(w.alloc (.cells #[.slice da dn dc,.slice a n c,.iface 67 (.agg #[.int .i64 k,.slice a1 n1 c1]),.iface 67 (.agg #[.int .i64 m,.slice a2 n2 c2])] 105)).heap.size:=hb.size
 have c0:=hA.cell 0
 have c1':=hA.cell 1
 have c2':=hA.cell 2
 have c3':=hA.cell 3
 go_enter Tryz.func65,Tryz.ntmps65
 go_upto_region 1 with fail
 generalize w.alloc (.cells #[.slice da dn dc,.slice a n c,.iface 67 (.agg #[.int .i64 k,.slice a1 n1 c1]),.iface 67 (.agg #[.int .i64 m,.slice a2 n2 c2])] 105)=w0 at *
 go_wp2_with fail
 refine (joinedL_c a n dc c k c1 m c2 i (1) (HD.out.keep hb) (HF1.out.keep hb) (HF2.out.keep hb) HA1.out HA2.out HI.out (Or.inl rfl)).mono ?_
 rintro e w1 ⟨b,N,rfl,hbb,hN,hM,hbX⟩
 go_wp2_with fail
 go_ret
 exact ⟨b,N,rfl,Nat.le_trans hbs hbb,hN,hM,bT' hb hbX hbs⟩
set_option maxHeartbeats 8000000 in
theorem differenceD_c {w : World} {da : Option Addr} {dn : Nat} {zs : List Int} {a : Option Addr} {n : Nat} {gss : List (List Tm)} {a2 : Option Addr} {n2 : Nat} {hss : List (List Tm)}  (dc c : Nat)  (m : Int) (c2 i : Nat) (hd : Ints w da dn zs) (hF1 : Frms w a n gss) (hF2 : Frms w a2 n2 hss) (H1 : AlgOk zs gss) (H2 : AlgOk zs hss) (hi : i < dn) :
    Calls Tryz.prog 63 #[.agg #[.slice da dn dc,.slice a n c,.iface 72 (.agg #[.slice da dn dc,.slice a n c]),.iface 67 (.agg #[.int .i64 m,.slice a2 n2 c2])],.int .i64 i] w fun e w'=>∃b N,e=.returned (.map (some b))∧w.heap.size≤b∧N≤2560000∧MapIs w' b N (diffR (odd m) zs hss (-1) (diffR true zs gss 1 zeroL (hss.getD i [])) (gss.getD i []))∧Below w.heap.size w w':=by
 have HA1:=Lib.hid H1
 have HA2:=Lib.hid H2
 have HD:=Lib.hid hd
 have HF1:=Lib.hid hF1
 have HF2:=Lib.hid hF2
 have HI:=Lib.hid hi
 clear H1 H2 hi
 have hA:=Own.new w 105 #[.slice da dn dc,.slice a n c,.iface 72 (.agg #[.slice da dn dc,.slice a n c]),.iface 67 (.agg #[.int .i64 m,.slice a2 n2 c2])]
 have hb:=bA1 w (.cells #[.slice da dn dc,.slice a n c,.iface 72 (.agg #[.slice da dn dc,.slice a n c]),.iface 67 (.agg #[.int .i64 m,.slice a2 n2 c2])] 105)
 have hbs:w.heap.size≤(w.alloc (.cells #[.slice da dn dc,.slice a n c,.iface 72 (.agg #[.slice da dn dc,.slice a n c]),.iface 67 (.agg #[.int .i64 m,.slice a2 n2 c2])] 105)).heap.size:=hb.size
 have c0:=hA.cell 0
 have c1':=hA.cell 1
 have c2':=hA.cell 2
 have c3':=hA.cell 3
 go_enter Tryz.func63,Tryz.ntmps63
 go_upto_region 1 with fail
 generalize w.alloc (.cells #[.slice da dn dc,.slice a n c,.iface 72 (.agg #[.slice da dn dc,.slice a n c]),.iface 67 (.agg #[.int .i64 m,.slice a2 n2 c2])] 105)=w0 at *
 go_wp2_with fail
 refine (joinedD_c dc c m c2 i (-1) (HD.out.keep hb) (HF1.out.keep hb) (HF2.out.keep hb) HA1.out HA2.out HI.out (Or.inr rfl)).mono ?_
 rintro e w1 ⟨b,N,rfl,hbb,hN,hM,hbX⟩
 go_wp2_with fail
 go_ret
 exact ⟨b,N,rfl,Nat.le_trans hbs hbb,hN,hM,bT' hb hbX hbs⟩
set_option maxHeartbeats 8000000 in
theorem sumD_c {w : World} {da : Option Addr} {dn : Nat} {zs : List Int} {a : Option Addr} {n : Nat} {gss : List (List Tm)} {a2 : Option Addr} {n2 : Nat} {hss : List (List Tm)}  (dc c : Nat)  (m : Int) (c2 i : Nat) (hd : Ints w da dn zs) (hF1 : Frms w a n gss) (hF2 : Frms w a2 n2 hss) (H1 : AlgOk zs gss) (H2 : AlgOk zs hss) (hi : i < dn) :
    Calls Tryz.prog 65 #[.agg #[.slice da dn dc,.slice a n c,.iface 72 (.agg #[.slice da dn dc,.slice a n c]),.iface 67 (.agg #[.int .i64 m,.slice a2 n2 c2])],.int .i64 i] w fun e w'=>∃b N,e=.returned (.map (some b))∧w.heap.size≤b∧N≤2560000∧MapIs w' b N (diffR (odd m) zs hss (1) (diffR true zs gss 1 zeroL (hss.getD i [])) (gss.getD i []))∧Below w.heap.size w w':=by
 have HA1:=Lib.hid H1
 have HA2:=Lib.hid H2
 have HD:=Lib.hid hd
 have HF1:=Lib.hid hF1
 have HF2:=Lib.hid hF2
 have HI:=Lib.hid hi
 clear H1 H2 hi
 have hA:=Own.new w 105 #[.slice da dn dc,.slice a n c,.iface 72 (.agg #[.slice da dn dc,.slice a n c]),.iface 67 (.agg #[.int .i64 m,.slice a2 n2 c2])]
 have hb:=bA1 w (.cells #[.slice da dn dc,.slice a n c,.iface 72 (.agg #[.slice da dn dc,.slice a n c]),.iface 67 (.agg #[.int .i64 m,.slice a2 n2 c2])] 105)
 have hbs:w.heap.size≤(w.alloc (.cells #[.slice da dn dc,.slice a n c,.iface 72 (.agg #[.slice da dn dc,.slice a n c]),.iface 67 (.agg #[.int .i64 m,.slice a2 n2 c2])] 105)).heap.size:=hb.size
 have c0:=hA.cell 0
 have c1':=hA.cell 1
 have c2':=hA.cell 2
 have c3':=hA.cell 3
 go_enter Tryz.func65,Tryz.ntmps65
 go_upto_region 1 with fail
 generalize w.alloc (.cells #[.slice da dn dc,.slice a n c,.iface 72 (.agg #[.slice da dn dc,.slice a n c]),.iface 67 (.agg #[.int .i64 m,.slice a2 n2 c2])] 105)=w0 at *
 go_wp2_with fail
 refine (joinedD_c dc c m c2 i (1) (HD.out.keep hb) (HF1.out.keep hb) (HF2.out.keep hb) HA1.out HA2.out HI.out (Or.inl rfl)).mono ?_
 rintro e w1 ⟨b,N,rfl,hbb,hN,hM,hbX⟩
 go_wp2_with fail
 go_ret
 exact ⟨b,N,rfl,Nat.le_trans hbs hbb,hN,hM,bT' hb hbX hbs⟩
end Go.Proofs.YtdppjlndcacfnaaGreat
