
import Derived.Test.YtefjinnpofojnaaAppM
namespace Go.Proofs.Ytefjinnpofojnaa
set_option maxRecDepth 100000
open Go.RowKit Go.Deep
theorem low_drop_c {w : World} (k : Int) (a2 : Option Addr) (n2 c2 : Nat) :
    Calls Try.prog 136 #[.agg #[.int .i64 k,.slice a2 n2 c2]] w fun e w'=>e=.returned (.int .i64 k)∧Below w.heap.size w w':=by
 have hA:=Own.new w 76 #[.int .i64 k,.slice a2 n2 c2]
 have hb:=bA1 w (.cells #[.int .i64 k,.slice a2 n2 c2] 76)
 have c0:=hA.cell 0
 have c1:=hA.cell 1
 go_enter Try.func136,Try.ntmps136
 go_upto_region 1 with fail
 generalize w.alloc (.cells #[.int .i64 k,.slice a2 n2 c2] 76)=w0 at *
 go_wp2_with fail
 go_ret
 exact ⟨rfl,hb⟩
theorem low_drop_at (k : Int) (a2 : Option Addr) (n2 c2 : Nat) (w : World) : (method 299 76 (.agg #[.int .i64 k, .slice a2 n2 c2]) "loop.example/g01219/impl.drop").run Try.prog w = .ok (136, .agg #[.int .i64 k, .slice a2 n2 c2]) w := by kernel_rfl
theorem low_images_c {w : World} (k : Int) (a2 : Option Addr) (n2 c2 : Nat) :
    Calls Try.prog 137 #[.agg #[.int .i64 k,.slice a2 n2 c2]] w fun e w'=>e=.returned (.slice a2 n2 c2)∧Below w.heap.size w w':=by
 have hA:=Own.new w 76 #[.int .i64 k,.slice a2 n2 c2]
 have hb:=bA1 w (.cells #[.int .i64 k,.slice a2 n2 c2] 76)
 have c0:=hA.cell 0
 have c1:=hA.cell 1
 go_enter Try.func137,Try.ntmps137
 go_upto_region 1 with fail
 generalize w.alloc (.cells #[.int .i64 k,.slice a2 n2 c2] 76)=w0 at *
 go_wp2_with fail
 go_ret
 exact ⟨rfl,hb⟩
theorem low_images_at (k : Int) (a2 : Option Addr) (n2 c2 : Nat) (w : World) : (method 299 76 (.agg #[.int .i64 k, .slice a2 n2 c2]) "loop.example/g01219/impl.images").run Try.prog w = .ok (137, .agg #[.int .i64 k, .slice a2 n2 c2]) w := by kernel_rfl
theorem Try.info_rule:(Try.prog.info? 74).map (·.size)=some 3:=by kernel_rfl
set_option maxHeartbeats 8000000 in
theorem ruleOf_c {w : World} (da : Option Addr) (dn dc : Nat) (a : Option Addr) (n c : Nat) (k : Int) (a2 : Option Addr) (n2 c2 : Nat) :
    Calls Try.prog 37 #[.agg #[.slice da dn dc,.slice a n c],.iface 76 (.agg #[.int .i64 k,.slice a2 n2 c2])] w fun e w'=>e=.returned (.agg #[.slice da dn dc,.slice a2 n2 c2,.bool (odd k)])∧Below w.heap.size w w':=by
 have hA:=(Own.new w 41 #[.slice da dn dc,.slice a n c]).alloc (.cells #[.slice none 0 0,.slice none 0 0,.bool false] 74)
 have hR:=Own.new (w.alloc (.cells #[.slice da dn dc,.slice a n c] 41)) 74 #[.slice none 0 0,.slice none 0 0,.bool false]
 rw [sAl] at hR
 have hb:=bTn (bA1 w (.cells #[.slice da dn dc,.slice a n c] 41)) (bA1 _ (.cells #[.slice none 0 0,.slice none 0 0,.bool false] 74))
 have hm1:=low_images_at k a2 n2 c2
 have hm2:=low_drop_at k a2 n2 c2
 go_enter Try.func37,Try.ntmps37
 go_upto_region 1 with fail
 generalize (w.alloc (.cells #[.slice da dn dc,.slice a n c] 41)).alloc (.cells #[.slice none 0 0,.slice none 0 0,.bool false] 74)=w0 at *
 obtain ⟨g0,hg0⟩:∃g,w.heap.size=g:=⟨_,rfl⟩
 rw [hg0] at hA hR hb ⊢
 try rw [hg0]
 have HG:=Lib.hid hg0
 clear hg0
 replace hA:Own w0.drew g0 41 #[.slice da dn dc,.slice a n c]:=hA
 replace hR:Own w0.drew (g0+1) 74 #[.slice none 0 0,.slice none 0 0,.bool false]:=hR
 replace hb:Below g0 w w0.drew:=hb.drew
 refine wp_region_held_drew (S:=(fun w'=>w'.cell? ⟨g0,0,none⟩=some (.slice da dn dc))) (by kernel_rfl) ?_ (fun _=>?_)
 · ((try dsimp only);(exact hA.cell 0))
 generalize w0.drew=Wd at *
 refine hdT 0 ?_
 refine hdT 1 ?_
 refine hdT 2 ?_
 refine hdT 4 ?_
 refine hdC 3 (fun K hK=>?_)
 (go_simp;(go_at_call 137;refine (low_images_c k a2 n2 c2).mono ?_;rintro e W1 ⟨rfl,hbX⟩);go_wp2_with fail)
 replace hb:=bT' hb hbX (by have:=hA.lt;omega)
 replace hA:=hA.keep hbX hA.lt
 replace hR:=hR.keep hbX hR.lt
 clear hbX
 refine hK.out _ _ ?_ (fun _=>?_)
 · ((try dsimp only);(exact hA.cell 0))
 clear hK K
 (try simp only [Act.put,pA,pB,pC])
 refine hdC 5 (fun K hK=>?_)
 (go_simp;(go_at_call 136;refine (low_drop_c k a2 n2 c2).mono ?_;rintro e W2 ⟨rfl,hbX⟩);go_wp2_with fail)
 replace hb:=bT' hb hbX (by have:=hA.lt;omega)
 replace hA:=hA.keep hbX hA.lt
 replace hR:=hR.keep hbX hR.lt
 clear hbX
 refine hK.out _ _ ?_ (fun _=>?_)
 · ((try dsimp only);(exact hA.cell 0))
 clear hK K
 (try simp only [Act.put,pA,pB,pC])
 refine hdC 6 (fun K hK=>?_)
 (go_simp;(go_at_call 66;refine (isOdd_c _ _).mono ?_;rintro e w' ⟨rfl,rfl⟩);go_wp2_with fail)
 refine hK.out _ _ ?_ (fun _=>?_)
 · ((try dsimp only);(exact hA.cell 0))
 clear hK K
 (try simp only [Act.put,pA,pB,pC])
 refine hdT 7 ?_
 refine hdC 8 (fun K hK=>?_)
 have r0:=hR.cell 0
 have r1:=hR.cell 1
 have r2:=hR.cell 2
 have f0:=hR.frozen 0
 have f1:=hR.frozen 1
 have f2:=hR.frozen 2
 (go_simp;go_wp2_with fail)
 clear r0 r1 r2 f0 f1 f2
 replace hA:=hA.far (p:=⟨g0+1,0,none⟩) (by dsimp only;omega) (.slice da dn dc)
 replace hb:=hb.setCell (p:=⟨g0+1,0,none⟩) (by dsimp only;omega) (.slice da dn dc)
 replace hR:=hR.set 0 (.slice da dn dc)
 replace hA:=hA.far (p:=⟨g0+1,1,none⟩) (by dsimp only;omega) (.slice a2 n2 c2)
 replace hb:=hb.setCell (p:=⟨g0+1,1,none⟩) (by dsimp only;omega) (.slice a2 n2 c2)
 replace hR:=hR.set 1 (.slice a2 n2 c2)
 replace hA:=hA.far (p:=⟨g0+1,2,none⟩) (by dsimp only;omega) (.bool (odd k))
 replace hb:=hb.setCell (p:=⟨g0+1,2,none⟩) (by dsimp only;omega) (.bool (odd k))
 replace hR:=hR.set 2 (.bool (odd k))
 generalize (((W2).setCell ⟨g0+1,0,none⟩ (.slice da dn dc)).setCell ⟨g0+1,1,none⟩ (.slice a2 n2 c2)).setCell ⟨g0+1,2,none⟩ (.bool (odd k))=W3 at *
 refine hK.out _ _ ?_ (fun _=>?_)
 · ((try dsimp only);(exact hA.cell 0))
 clear hK K
 (try simp only [Act.put,pA,pB,pC])
 refine wpAnyH_done (by kernel_rfl) ?_ _
 go_wp2_with fail
 exact bodyPost_ret (results_cell_row rfl _ _ (g0+1) 74 #[.slice da dn dc,.slice a2 n2 c2,.bool (odd k)] (0,0) _ rfl hR Try.underlying74 rfl Try.info_rule) rfl ⟨rfl,by rw [HG.out];exact hb⟩
set_option maxHeartbeats 8000000 in
theorem ApplyDerivation_c {w : World} {da : Option Addr} {dn : Nat} {zs : List Int} {a : Option Addr} {n : Nat} {ims : List (List Tm)} {a2 : Option Addr} {n2 : Nat} {gss : List (List Tm)} {a3 : Option Addr} {n3 : Nat} {fs : List Tm} (dc c : Nat) (k : Int) (c2 c3 : Nat) (hd : Ints w da dn zs) (hdn : dn ≤ 1048576) (hF : Frms w a n ims) (hn : n ≤ 1048576) (hL : ∀ im ∈ ims, (im.length : Int) ≤ 1048576) (hF2 : Frms w a2 n2 gss) (hn2 : n2 ≤ 1048576) (hL2 : ∀ im ∈ gss, (im.length : Int) ≤ 1048576) (h3 : Terms w a3 n3 fs) (hn3 : n3 ≤ 1048576) :
    Calls Try.prog 12 #[.agg #[.slice da dn dc,.slice a n c],.agg #[.int .i64 k,.slice a2 n2 c2],.agg #[.slice a3 n3 c3]] w fun e w'=>∃v,e=.returned (.tuple #[.agg #[v],.int .i64 (apE zs ims k gss fs)])∧OwnR w' w.heap.size v (apV zs ims k gss fs)∧Below w.heap.size w w':=by
 have HLL:=Lib.hid hL
 have HLL2:=Lib.hid hL2
 have HD:=Lib.hid hd
 have HF:=Lib.hid hF
 have HF2:=Lib.hid hF2
 have H3:=Lib.hid h3
 have HDL:=Lib.hid hd.len
 clear hL hL2
 have hA:=(((Own.new w 41 #[.slice da dn dc,.slice a n c]).alloc (.cells #[.int .i64 k,.slice a2 n2 c2] 44)).alloc (.cells #[.slice a3 n3 c3] 36)).alloc (.cells #[.slice none 0 0] 36)
 have hT:=((Own.new (w.alloc (.cells #[.slice da dn dc,.slice a n c] 41)) 44 #[.int .i64 k,.slice a2 n2 c2]).alloc (.cells #[.slice a3 n3 c3] 36)).alloc (.cells #[.slice none 0 0] 36)
 have hP:=(Own.new ((w.alloc (.cells #[.slice da dn dc,.slice a n c] 41)).alloc (.cells #[.int .i64 k,.slice a2 n2 c2] 44)) 36 #[.slice a3 n3 c3]).alloc (.cells #[.slice none 0 0] 36)
 have hR:=Own.new (((w.alloc (.cells #[.slice da dn dc,.slice a n c] 41)).alloc (.cells #[.int .i64 k,.slice a2 n2 c2] 44)).alloc (.cells #[.slice a3 n3 c3] 36)) 36 #[.slice none 0 0]
 simp only [sAl] at hT hP hR
 have hb:=bTn (bTn (bTn (bA1 w (.cells #[.slice da dn dc,.slice a n c] 41)) (bA1 _ (.cells #[.int .i64 k,.slice a2 n2 c2] 44))) (bA1 _ (.cells #[.slice a3 n3 c3] 36))) (bA1 _ (.cells #[.slice none 0 0] 36))
 go_enter Try.func12,Try.ntmps12
 go_upto_region 1 with fail
 generalize (((w.alloc (.cells #[.slice da dn dc,.slice a n c] 41)).alloc (.cells #[.int .i64 k,.slice a2 n2 c2] 44)).alloc (.cells #[.slice a3 n3 c3] 36)).alloc (.cells #[.slice none 0 0] 36)=w0 at *
 generalize hg3:w.heap.size+1+1+1=g3 at *
 generalize hg2:w.heap.size+1+1=g2 at *
 generalize hg1:w.heap.size+1=g1 at *
 generalize hg0:w.heap.size=g0 at *
 have HG:=Lib.hid hg0
 have e1:=hg1
 have e2:=hg2
 have e3:=hg3
 clear hg0 hg1 hg2 hg3
 have c0:=hA.cell 0
 have c1:=hA.cell 1
 have s0:=hT.cell 0
 have s1:=hT.cell 1
 have p0:=hP.cell 0
 have hX:=Own.new w0 44 #[.int .i64 k,.slice a2 n2 c2]
 have hbX:=bA1 w0 (.cells #[.int .i64 k,.slice a2 n2 c2] 44)
 have hbx:Below w.heap.size w (w0.alloc (.cells #[.int .i64 k,.slice a2 n2 c2] 44)):=by rw [HG.out];exact bT' hb hbX (by have:=hA.lt;omega)
 replace hb:=bT' hb hbX (by have:=hA.lt;omega)
 replace hA:=hA.keep hbX hA.lt
 replace hT:=hT.keep hbX hT.lt
 replace hP:=hP.keep hbX hP.lt
 replace hR:=hR.keep hbX hR.lt
 clear hbX
 go_wp2_with fail
 have hDs:Ders (w0.alloc (.cells #[.int .i64 k,.slice a2 n2 c2] 44)) w0.heap.size 0 [(k,gss)]:=⟨hX.lt,fun i x hx=>by
  obtain ⟨h1,rfl⟩:=List.getElem?_eq_some_iff.1 hx;have hi:i=0:=(by simpa using h1);subst hi
  exact ⟨a2,n2,c2,hX.cell 0,hX.cell 1,HF2.out.keep hbx,hn2⟩⟩
 refine (areDerivations_c (m:=1) dc c 1 (HD.out.keep hbx) hdn (HF.out.keep hbx) hn HLL.out hDs rfl (by omega) (fun x hx=>by rw [List.mem_singleton.1 hx];exact HLL2.out)).mono ?_
 rintro e w1 ⟨rfl,hbX⟩
 rw [dersB_one]
 clear hX hDs hbx c0 c1 s0 s1 p0
 replace hb:=bT' hb hbX (by have:=hA.lt;omega)
 replace hA:=hA.keep hbX hA.lt
 replace hT:=hT.keep hbX hT.lt
 replace hP:=hP.keep hbX hP.lt
 replace hR:=hR.keep hbX hR.lt
 clear hbX
 cases hd1:derB zs ims k gss
 · have HE:=Lib.hid (ap_no (zs:=zs) (ims:=ims) (k:=k) (gss:=gss) (fs:=fs) (by rw [apF,hd1];rfl));clear hd1;have r0:=hR.cell 0;have f0:=hR.frozen 0;go_wp2_with fail
   have q:=hR.set 0 (.slice none 0 0);have qb:=hb.setCell (p:=⟨g3,0,none⟩) (by dsimp only;omega) (.slice none 0 0);exact bodyPost_ret (results_row2 rfl _ _ g3 36 #[.slice none 0 0] (0,0) _ rfl q Try.underlying36 rfl Try.info_form) rfl ⟨.slice none 0 0,by rw [HE.out.1];rfl,by rw [HE.out.2];exact ownR_none _ _,by rw [HG.out];exact qb⟩
 · have H1:=Lib.hid hd1;clear hd1;have c0:=hA.cell 0;have p0:=hP.cell 0;have hbw:Below w.heap.size w w1:=(by rw [HG.out];exact hb);go_wp2_with fail
   refine (IsForm_c dc c3 (HD.out.keep hbw) hdn (H3.out.keep hbw) hn3).mono ?_;rintro e w2 ⟨rfl,hbX⟩;clear c0 p0 hbw;replace hb:=bT' hb hbX (by have:=hA.lt;omega);replace hA:=hA.keep hbX hA.lt;replace hT:=hT.keep hbX hT.lt;replace hP:=hP.keep hbX hP.lt;replace hR:=hR.keep hbX hR.lt;clear hbX;cases hif:isForm zs fs
   · have HE:=Lib.hid (ap_no (zs:=zs) (ims:=ims) (k:=k) (gss:=gss) (fs:=fs) (by rw [apF,H1.out,hif];rfl));clear hif;have r0:=hR.cell 0;have f0:=hR.frozen 0;go_wp2_with fail
     have q:=hR.set 0 (.slice none 0 0);have qb:=hb.setCell (p:=⟨g3,0,none⟩) (by dsimp only;omega) (.slice none 0 0);exact bodyPost_ret (results_row2 rfl _ _ g3 36 #[.slice none 0 0] (0,0) _ rfl q Try.underlying36 rfl Try.info_form) rfl ⟨.slice none 0 0,by rw [HE.out.1];rfl,by rw [HE.out.2];exact ownR_none _ _,by rw [HG.out];exact qb⟩
   · have H2:Hid (apF zs ims k gss fs=true):=Lib.hid (by rw [apF,H1.out,hif];rfl);have HAO:=Lib.hid (derB_ok H1.out HF2.out.tm);have HK:=Lib.hid (isForm_fit hif);have HFB:=Lib.hid (isForm_f hif);have hn4:n3≤400:=(by have:=isForm_400 hif;have:=H3.out.len;omega);have HS9:=Lib.hid (apply9 (k:=k) HAO.out fs [] 0 H3.out.2.1 HK.out sum9_nil);have HW:=Lib.hid (winApply (k:=k) HAO.out fs [] H3.out.2.1 HK.out (by simp [WinOk]));have hnd:n2=dn:=(by have:=derB_ln H1.out;have:=HF2.out.len;have:=HDL.out;omega);have h8:n2≤8:=(by have:=HAO.out.h8;have:=HDL.out;omega);have HND:=Lib.hid hnd;clear hif hnd;have hlR:g3<w2.heap.size:=hR.lt;have hmm:=@run_makeMap Try.prog;have hM:=mapIs_made w2;have hbX:=bA1 w2 (.map #[] 0);have hbb:g0≤w2.heap.size:=(by omega);replace hb:=bT' hb hbX (by have:=hA.lt;omega);replace hA:=hA.keep hbX hA.lt;replace hT:=hT.keep hbX hT.lt;replace hP:=hP.keep hbX hP.lt;replace hR:=hR.keep hbX hR.lt;clear hbX;go_upto_region 4 with fail
     clear hmm;generalize w2.alloc (.map #[] 0)=w3 at *;generalize hgb:w2.heap.size=bm at *;clear hgb;replace hA:Own w3.drew g0 41 #[.slice da dn dc,.slice a n c]:=hA;replace hT:Own w3.drew g1 44 #[.int .i64 k,.slice a2 n2 c2]:=hT;replace hP:Own w3.drew g2 36 #[.slice a3 n3 c3]:=hP;replace hR:Own w3.drew g3 36 #[.slice none 0 0]:=hR;replace hb:Below g0 w w3.drew:=hb.drew;replace hM:=hM.keep ((Below.refl _ _).drew:Below w3.heap.size w3 w3.drew);refine wp_region_held_drew (S:=(fun w'=>w'.cell? ⟨g0,0,none⟩=some (.slice da dn dc)∧w'.cell? ⟨g0,1,none⟩=some (.slice a n c)∧w'.cell? ⟨g1,0,none⟩=some (.int .i64 k)∧w'.cell? ⟨g1,1,none⟩=some (.slice a2 n2 c2)∧w'.cell? ⟨g2,0,none⟩=some (.slice a3 n3 c3))) (by kernel_rfl) ?_ (fun _=>?_)
     · ((try dsimp only);(exact ⟨hA.cell 0,hA.cell 1,hT.cell 0,hT.cell 1,hP.cell 0⟩))
     generalize w3.drew=Wd at *;refine hdT 0 ?_;refine hdT 1 ?_;refine hdT 2 ?_;refine hdT 4 ?_;refine hdT 5 ?_;refine hdC 3 (fun K hK=>?_)
     (go_simp;(go_at_call 37;refine (ruleOf_c da dn dc a n c k a2 n2 c2).mono ?_;rintro e W1 ⟨rfl,hbX⟩);go_wp2_with fail)
     replace hM:=hM.keep hbX;replace hb:=bT' hb hbX (by have:=hA.lt;omega);replace hA:=hA.keep hbX hA.lt;replace hT:=hT.keep hbX hT.lt;replace hP:=hP.keep hbX hP.lt;replace hR:=hR.keep hbX hR.lt;clear hbX;refine hK.out _ _ ?_ (fun _=>?_)
     · ((try dsimp only);(exact ⟨hA.cell 0,hA.cell 1,hT.cell 0,hT.cell 1,hP.cell 0⟩))
     clear hK K
     (try simp only [Act.put,pA,pB,pC])
     refine hdC 6 (fun K hK=>?_)
     (go_simp;(go_at_call 38;refine (ruleAdd_c (odd k) 1 dc c2 c3 hM (by omega) (fun _=>by simp) (HD.out.keep (show Below w.heap.size w _ by rw [HG.out];exact hb)) (HF2.out.keep (show Below w.heap.size w _ by rw [HG.out];exact hb)) HND.out h8 (H3.out.keep (show Below w.heap.size w _ by rw [HG.out];exact hb)) hn4 HK.out HFB.out (Or.inl rfl) (fun im hi=>isForm_400 (HAO.out.fm im hi)) (fun im hi u hu=>⟨(HAO.out.tm im hi u hu).1,isForm_fit (HAO.out.fm im hi) u hu,isForm_f (HAO.out.fm im hi) u hu⟩)).mono ?_;rintro e W2 ⟨rfl,hM2,hgr⟩);go_wp2_with fail)
     replace hA:=hA.grownM hM hgr;replace hT:=hT.grownM hM hgr;replace hP:=hP.grownM hM hgr;replace hR:=hR.grownM hM hgr;have hbw:=bel_grown (show Below w.heap.size w _ by rw [HG.out];exact hb) hgr (by rw [HG.out];exact hbb);rw [HG.out] at hbw;replace hb:=hbw;clear hM hgr;refine hK.out _ _ ?_ (fun _=>?_)
     · ((try dsimp only);(exact ⟨hA.cell 0,hA.cell 1,hT.cell 0,hT.cell 1,hP.cell 0⟩))
     clear hK K
     (try simp only [Act.put,pA,pB,pC])
     refine wpAnyH_done (by kernel_rfl) ?_ _;have HM2:=Lib.hid hM2;clear hM2;go_wp2_with fail
     have hsb:∀x,0≤diffR (odd k) zs gss 1 zeroL fs x∧diffR (odd k) zs gss 1 zeroL fs x≤10006:=diffR_bd (fun _=>by simp [zeroL])
     have hco:∀x,diffR (odd k) zs gss 1 zeroL fs x=coef (applyT zs gss k [] fs) x:=fun x=>by
      rw [diffR_apply (k:=k) HAO.out H3.out.2.1 HK.out (fun _=>by simp [zeroL]) x];show num (0+1 * _)=_
      rw [Int.zero_add,Int.one_mul,num_self (coef_rg HS9.out x)]
     refine (form_c HM2.out (by omega) hsb).mono ?_;rintro e w5 ⟨hf,hb5⟩;have hR3:=hR.keep hb5 hR.lt;have hb6:=bT' hb hb5 (by have:=hA.lt;omega);have hlo:g0≤_:=Nat.le_of_lt hA.lt;have hl3:=hR.lt;have cR:=hR3.cell 0;have fR:=hR3.frozen 0
     rcases hf.told HS9.out.good HS9.out.tm HW.out hco with ⟨hok,v,rfl,hO⟩ | ⟨hok,rfl⟩
     · have HOK:=Lib.hid hok;clear hok hf hco;obtain ⟨va,vn,vc,rfl⟩:=hO.isSlice;go_wp2_with fail
       have q:=hR3.set 0 (.slice va vn vc);have qb:=hb6.setCell (p:=⟨g3,0,none⟩) (by dsimp only;omega) (.slice va vn vc);exact bodyPost_ret (results_row2 rfl _ _ g3 36 #[.slice va vn vc] (0,0) _ rfl q Try.underlying36 rfl Try.info_form) rfl ⟨.slice va vn vc,by rw [(ap_yes H2.out HOK.out).1];rfl,by rw [(ap_yes H2.out HOK.out).2,HG.out];exact (hO.set (p:=⟨g3,0,none⟩) (by dsimp only;omega) _).weaken hlo,by rw [HG.out];exact qb⟩
     · have HOK:=Lib.hid hok;clear hok hf hco;go_wp2_with fail
       have q:=hR3.set 0 (.slice none 0 0);have qb:=hb6.setCell (p:=⟨g3,0,none⟩) (by dsimp only;omega) (.slice none 0 0);exact bodyPost_ret (results_row2 rfl _ _ g3 36 #[.slice none 0 0] (0,0) _ rfl q Try.underlying36 rfl Try.info_form) rfl ⟨.slice none 0 0,by rw [(ap_lim H2.out HOK.out).1];rfl,by rw [(ap_lim H2.out HOK.out).2];exact ownR_none _ _,by rw [HG.out];exact qb⟩
end Go.Proofs.Ytefjinnpofojnaa
