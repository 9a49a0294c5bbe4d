
import Derived.Test.YtikldofmpkidbaaAdd9S
namespace Go.Proofs.Ytikldofmpkidbaa
set_option maxRecDepth 100000
open Go.RowKit Go.Deep
set_option maxHeartbeats 8000000 in
theorem newDerivation_c {w : World} {da : Option Addr} {dn : Nat} {zs : List Int} {a : Option Addr} {n : Nat} (dc c : Nat) (k : Int) (_hd : Ints w da dn zs) (hdn : dn ≤ 1048576) :
    Calls Try.prog 72 #[.agg #[.slice da dn dc,.slice a n c],.int .i64 k] w fun e w'=>∃g,e=.returned (.agg #[.int .i64 k,.slice (some ⟨g,0,none⟩) dn dn])∧w.heap.size≤g∧Own w' g 61 (Array.replicate dn (.slice none 0 0))∧Below w.heap.size w w':=by
 have hA:=(Own.new w 33 #[.slice da dn dc,.slice a n c]).alloc (.cells #[.int .i64 0,.slice none 0 0] 36)
 have hX:=Own.new (w.alloc (.cells #[.slice da dn dc,.slice a n c] 33)) 36 #[.int .i64 0,.slice none 0 0]
 rw [sAl] at hX
 have hb:=bTn (bA1 w (.cells #[.slice da dn dc,.slice a n c] 33)) (bA1 _ (.cells #[.int .i64 0,.slice none 0 0] 36))
 have hmk:=make_forms dn hdn
 go_enter Try.func72,Try.ntmps72
 go_upto_region 1 with fail
 generalize (w.alloc (.cells #[.slice da dn dc,.slice a n c] 33)).alloc (.cells #[.int .i64 0,.slice none 0 0] 36)=w1 at *
 obtain ⟨gX,hgX⟩:∃g,w.heap.size+1=g:=⟨_,rfl⟩
 rw [hgX] at hX
 try rw [hgX]
 have hwX:w.heap.size≤gX:=by omega
 clear hgX
 have hmk1:=hmk w1
 have hF:=Own.new w1 61 (Array.replicate dn (Value.slice none 0 0))
 have hba:=bA1 w1 (.cells (Array.replicate dn (Value.slice none 0 0)) 61)
 have hlX:=hX.lt
 have hs1:=hb.size
 have hX2:=hX.keep hba hX.lt
 have hA2:=hA.keep hba hA.lt
 have hb2:=bT' hb hba hb.size
 have cA:=hA.cell 0
 clear hmk hX hb hba
 generalize w1.alloc (.cells (Array.replicate dn (Value.slice none 0 0)) 61)=w2 at *
 obtain ⟨gF,hgF⟩:∃g,w1.heap.size=g:=⟨_,rfl⟩
 rw [hgF] at hmk1 hF hlX hs1
 have c0:=hX2.cell 0
 have c1:=hX2.cell 1
 have f0:=hX2.frozen 0
 have f1:=hX2.frozen 1
 clear hgF hA hA2
 go_wp2_with fail
 have s2:=(hX2.set 0 (.int .i64 k)).set 1 (.slice (some ⟨gF,0,none⟩) dn dn)
 have hF2:=(hF.far (p:=⟨gX,0,none⟩) (by dsimp only;omega) (.int .i64 k)).far (p:=⟨gX,1,none⟩) (by dsimp only;omega) (.slice (some ⟨gF,0,none⟩) dn dn)
 have hb3:=(hb2.setCell (p:=⟨gX,0,none⟩) hwX (.int .i64 k)).setCell (p:=⟨gX,1,none⟩) hwX (.slice (some ⟨gF,0,none⟩) dn dn)
 exact bodyPost_ret (results_cell_row rfl _ _ gX 36 #[.int .i64 k,.slice (some ⟨gF,0,none⟩) dn dn] (0,0) _ rfl s2 Try.underlying36 rfl Try.info_der) rfl ⟨gF,rfl,hs1,hF2,hb3⟩
set_option maxHeartbeats 8000000 in
theorem AddDerivations_c {w : World} {da : Option Addr} {dn : Nat} {zs : List Int} {a : Option Addr} {n : Nat} {ims : List (List Tm)} {a1 : Option Addr} {n1 : Nat} {gss : List (List Tm)} {a2 : Option Addr} {n2 : Nat} {hss : List (List Tm)} (dc c : Nat) (k : Int) (c1 : Nat) (k2 : Int) (c2 : Nat) (hd : Ints w da dn zs) (hdn : dn ≤ 1048576) (hF : Frms w a n ims) (hn : n ≤ 1048576) (hL : ∀ im ∈ ims, (im.length : Int) ≤ 1048576) (hF1 : FrmsA w a1 n1 gss) (hn1 : n1 ≤ 1048576) (hL1 : ∀ im ∈ gss, (im.length : Int) ≤ 1048576) (hF2 : FrmsA w a2 n2 hss) (hn2 : n2 ≤ 1048576) (hL2 : ∀ im ∈ hss, (im.length : Int) ≤ 1048576) (hT1 : ∀ ts ∈ gss, ∀ t ∈ ts, IsTm t) (hT2 : ∀ ts ∈ hss, ∀ t ∈ ts, IsTm t) :
    Calls Try.prog 30 #[.agg #[.slice da dn dc,.slice a n c],.agg #[.int .i64 k,.slice a1 n1 c1],.agg #[.int .i64 k2,.slice a2 n2 c2]] w fun e w'=>∃rb bn bc,e=.returned (.tuple #[.agg #[.int .i64 (ad9D zs ims k gss k2 hss),.slice rb bn bc],.int .i64 (ad9E zs ims k gss k2 hss)])∧OwnF w' w.heap.size w'.heap.size rb bn (ad9I zs ims k gss k2 hss)∧Below w.heap.size w w':=by
 have HLL:=Lib.hid hL
 have HLL1:=Lib.hid hL1
 have HLL2:=Lib.hid hL2
 have HT1:=Lib.hid hT1
 have HT2:=Lib.hid hT2
 have HLn1:=Lib.hid hF1.1
 have HLn2:=Lib.hid hF2.1
 have HDL:=Lib.hid hd.len
 have HD:=Lib.hid hd
 have HF:=Lib.hid hF
 have HF1:=Lib.hid hF1
 have HF2:=Lib.hid hF2
 clear hL hL1 hL2 hT1 hT2
 have hA:=(((Own.new w 33 #[.slice da dn dc,.slice a n c]).alloc (.cells #[.int .i64 k,.slice a1 n1 c1] 36)).alloc (.cells #[.int .i64 k2,.slice a2 n2 c2] 36)).alloc (.cells #[.int .i64 0,.slice none 0 0] 36)
 have hS:=((Own.new (w.alloc (.cells #[.slice da dn dc,.slice a n c] 33)) 36 #[.int .i64 k,.slice a1 n1 c1]).alloc (.cells #[.int .i64 k2,.slice a2 n2 c2] 36)).alloc (.cells #[.int .i64 0,.slice none 0 0] 36)
 have hT:=(Own.new ((w.alloc (.cells #[.slice da dn dc,.slice a n c] 33)).alloc (.cells #[.int .i64 k,.slice a1 n1 c1] 36)) 36 #[.int .i64 k2,.slice a2 n2 c2]).alloc (.cells #[.int .i64 0,.slice none 0 0] 36)
 have hR:=Own.new (((w.alloc (.cells #[.slice da dn dc,.slice a n c] 33)).alloc (.cells #[.int .i64 k,.slice a1 n1 c1] 36)).alloc (.cells #[.int .i64 k2,.slice a2 n2 c2] 36)) 36 #[.int .i64 0,.slice none 0 0]
 simp only [sAl] at hS hT hR
 have hb:=bTn (bTn (bTn (bA1 w (.cells #[.slice da dn dc,.slice a n c] 33)) (bA1 _ (.cells #[.int .i64 k,.slice a1 n1 c1] 36))) (bA1 _ (.cells #[.int .i64 k2,.slice a2 n2 c2] 36))) (bA1 _ (.cells #[.int .i64 0,.slice none 0 0] 36))
 go_enter Try.func30,Try.ntmps30
 go_upto_region 1 with fail
 generalize (((w.alloc (.cells #[.slice da dn dc,.slice a n c] 33)).alloc (.cells #[.int .i64 k,.slice a1 n1 c1] 36)).alloc (.cells #[.int .i64 k2,.slice a2 n2 c2] 36)).alloc (.cells #[.int .i64 0,.slice none 0 0] 36)=w0 at *
 generalize hg3:w.heap.size+1+1+1=g3 at *
 generalize hg2:w.heap.size+1+1=g2 at *
 generalize hg1:w.heap.size+1=g1 at *
 generalize hg0:w.heap.size=g0 at *
 have HG:=Lib.hid hg0
 have e1:=hg1
 have e2:=hg2
 have e3:=hg3
 clear hg0 hg1 hg2 hg3
 have c0:=hA.cell 0
 have c1':=hA.cell 1
 have s0:=hS.cell 0
 have s1:=hS.cell 1
 have t0:=hT.cell 0
 have t1:=hT.cell 1
 have hX:=Own.new w0 36 #[.int .i64 k,.slice a1 n1 c1,.int .i64 k2,.slice a2 n2 c2]
 have hbX:=bA1 w0 (.cells #[.int .i64 k,.slice a1 n1 c1,.int .i64 k2,.slice a2 n2 c2] 36)
 have hbx:Below w.heap.size w (w0.alloc (.cells #[.int .i64 k,.slice a1 n1 c1,.int .i64 k2,.slice a2 n2 c2] 36)):=by rw [HG.out];exact bT' hb hbX (by have:=hA.lt;omega)
 replace hb:=bT' hb hbX (by have:=hA.lt;omega)
 replace hA:=hA.keep hbX hA.lt
 replace hS:=hS.keep hbX hS.lt
 replace hT:=hT.keep hbX hT.lt
 replace hR:=hR.keep hbX hR.lt
 clear hbX
 go_wp2_with fail
 have hDs:Ders (w0.alloc (.cells #[.int .i64 k,.slice a1 n1 c1,.int .i64 k2,.slice a2 n2 c2] 36)) w0.heap.size 0 [(k,gss),(k2,hss)]:=⟨hX.lt,fun i x hx=>by
  match i,hx with
  | 0, hx =>
    simp only [List.getElem?_cons_zero,Option.some.injEq] at hx;subst hx;exact ⟨a1,n1,c1,hX.cell 0,hX.cell 1,(HF1.out.frms HLL1.out).keep hbx,hn1⟩
  | 1, hx =>
    simp only [List.getElem?_cons_succ,List.getElem?_cons_zero,Option.some.injEq] at hx;subst hx;exact ⟨a2,n2,c2,hX.cell 2,hX.cell 3,(HF2.out.frms HLL2.out).keep hbx,hn2⟩
  | i+2,hx=>simp at hx⟩
 refine (areDerivations_c (m:=2) dc c 2 (HD.out.keep hbx) hdn (HF.out.keep hbx) hn HLL.out hDs rfl (by omega) (fun x hx=>by
  rcases List.mem_cons.1 hx with rfl | hx
  · exact HLL1.out
  · rw [List.mem_singleton.1 hx];exact HLL2.out)).mono ?_
 rintro e w1 ⟨rfl,hbX⟩
 rw [dersB_two]
 clear hX hDs hbx c0 c1' s0 s1 t0 t1
 replace hb:=bT' hb hbX (by have:=hA.lt;omega)
 replace hA:=hA.keep hbX hA.lt
 replace hS:=hS.keep hbX hS.lt
 replace hT:=hT.keep hbX hT.lt
 replace hR:=hR.keep hbX hR.lt
 clear hbX
 cases hd1:derB zs ims k gss
 · have HE:=Lib.hid (ad9_ne (ad9_1 (k:=k) (k2:=k2) (hss:=hss) (Or.inl hd1)) (by omega));clear hd1;rw [Bool.false_and];have r0:=hR.cell 0;have r1:=hR.cell 1;have f0:=hR.frozen 0;have f1:=hR.frozen 1;go_wp2_with fail
   have q:=(hR.set 0 (.int .i64 0)).set 1 (.slice none 0 0);have qb:=(hb.setCell (p:=⟨g3,0,none⟩) (by dsimp only;omega) (.int .i64 0)).setCell (p:=⟨g3,1,none⟩) (by dsimp only;omega) (.slice none 0 0);exact bodyPost_ret (results_row2 rfl _ _ g3 36 #[.int .i64 0,.slice none 0 0] (0,0) _ rfl q Try.underlying36 rfl Try.info_der) rfl ⟨none,0,0,by rw [HE.out.1,HE.out.2.1];rfl,by rw [HE.out.2.2];exact OwnF.none_,by rw [HG.out];exact qb⟩
 · have H1:=Lib.hid hd1;rw [Bool.true_and];cases hd2:derB zs ims k2 hss
   · have HE:=Lib.hid (ad9_ne (ad9_1 (k:=k) (k2:=k2) (gss:=gss) (Or.inr hd2)) (by omega));clear hd1 hd2;have r0:=hR.cell 0;have r1:=hR.cell 1;have f0:=hR.frozen 0;have f1:=hR.frozen 1;go_wp2_with fail
     have q:=(hR.set 0 (.int .i64 0)).set 1 (.slice none 0 0);have qb:=(hb.setCell (p:=⟨g3,0,none⟩) (by dsimp only;omega) (.int .i64 0)).setCell (p:=⟨g3,1,none⟩) (by dsimp only;omega) (.slice none 0 0);exact bodyPost_ret (results_row2 rfl _ _ g3 36 #[.int .i64 0,.slice none 0 0] (0,0) _ rfl q Try.underlying36 rfl Try.info_der) rfl ⟨none,0,0,by rw [HE.out.1,HE.out.2.1];rfl,by rw [HE.out.2.2];exact OwnF.none_,by rw [HG.out];exact qb⟩
   · have H2:=Lib.hid hd2;clear hd1 hd2;by_cases hkk:k=k2
     rotate_left
     · have HE:=Lib.hid (ad9_ne (ad9_2 H1.out H2.out hkk) (by omega));have hkb:(k != k2)=true:=(by simpa using hkk);have s0:=hS.cell 0;have t0:=hT.cell 0;have r0:=hR.cell 0;have r1:=hR.cell 1;have f0:=hR.frozen 0;have f1:=hR.frozen 1;go_wp2_with fail
       have q:=(hR.set 0 (.int .i64 0)).set 1 (.slice none 0 0);have qb:=(hb.setCell (p:=⟨g3,0,none⟩) (by dsimp only;omega) (.int .i64 0)).setCell (p:=⟨g3,1,none⟩) (by dsimp only;omega) (.slice none 0 0);exact bodyPost_ret (results_row2 rfl _ _ g3 36 #[.int .i64 0,.slice none 0 0] (0,0) _ rfl q Try.underlying36 rfl Try.info_der) rfl ⟨none,0,0,by rw [HE.out.1,HE.out.2.1];rfl,by rw [HE.out.2.2];exact OwnF.none_,by rw [HG.out];exact qb⟩
     · subst hkk;have hkb:(k != k)=false:=(by simp);have hl1:=derB_len H1.out;have hl2:=derB_len H2.out;obtain rfl:dn=n1:=(by have:=HLn1.out;have:=HDL.out;omega);obtain rfl:dn=n2:=by have:=HLn2.out;have:=HDL.out;omega
       have h8:dn≤8:=by
        have:=derB_alg H1.out;simp only [isAlg,Bool.and_eq_true] at this;have:=degsOk_len this.1;have:=HDL.out;omega
       have HF400a:=Lib.hid (fun (i:Nat) ts (hi:gss[i]? = some ts)=>derB_form H1.out hi);have HF400b:=Lib.hid (fun (i:Nat) ts (hi:hss[i]? = some ts)=>derB_form H2.out hi);clear hl1 hl2;have s0:=hS.cell 0;have t0:=hT.cell 0;have c0:=hA.cell 0;have c1':=hA.cell 1;go_wp2_with fail
       refine (newDerivation_c dc c k (HD.out.keep (show Below w.heap.size w _ by rw [HG.out];exact hb)) hdn).mono ?_;rintro e w2 ⟨gI,rfl,hgI,hI,hbX⟩;have hgI2:g3<gI:=(by have:=hR.lt;omega);clear s0 t0 c0 c1' hkb hgI;replace hb:=bT' hb hbX (by have:=hA.lt;omega);replace hA:=hA.keep hbX hA.lt;replace hS:=hS.keep hbX hS.lt;replace hT:=hT.keep hbX hT.lt;replace hR:=hR.keep hbX hR.lt;clear hbX;have hO:=Own.new w2 36 #[.int .i64 k,.slice (some ⟨gI,0,none⟩) dn dn];have hbX:=bA1 w2 (.cells #[.int .i64 k,.slice (some ⟨gI,0,none⟩) dn dn] 36);have hlI:=hI.lt;replace hI:=hI.keep hbX hI.lt;go_upto_region 6 with fail
       replace hb:=bT' hb hbX (by have:=hA.lt;omega);replace hA:=hA.keep hbX hA.lt;replace hS:=hS.keep hbX hS.lt;replace hT:=hT.keep hbX hT.lt;replace hR:=hR.keep hbX hR.lt;clear hbX;generalize w2.alloc (.cells #[.int .i64 k,.slice (some ⟨gI,0,none⟩) dn dn] 36)=w3 at *;generalize w2.heap.size=gX at *;have hVC0:(valCells dn []).toArray=Array.replicate dn (Value.slice none 0 0):=(by simp [valCells]);rw [←hVC0] at hI;have cO:=hO.cell 1;clear hVC0;go_wp2_with fail
       clear cO
       go_loopw [32] (fun y wr=>∃(p:Nat) (vs:List Value),p≤dn∧y=.int .i64 p∧Below g0 w wr∧Own wr g0 33 #[.slice da dn dc,.slice a n c]∧Own wr g1 36 #[.int .i64 k,.slice a1 dn c1]∧Own wr g2 36 #[.int .i64 k,.slice a2 dn c2]∧Own wr g3 36 #[.int .i64 0,.slice none 0 0]∧Own wr gX 36 #[.int .i64 k,.slice (some ⟨gI,0,none⟩) dn dn]∧Hid (Own wr gI 61 (valCells dn vs).toArray)∧Hid (Vals wr g0 vs (sums gss hss p))∧Hid (∀i,i<p→(sumAt gss hss i).length≤400)) (fun y _=>dn - (intOf y).toNat)
       case atStart=>exact ⟨0,[],Nat.zero_le _,rfl,hb,hA,hS,hT,hR,hO,Lib.hid hI,Lib.hid (Vals.nil _ _),Lib.hid (fun i hi=>absurd hi (by omega))⟩
       case round=>
        clear hb hA hS hT hR hO hI;obtain ⟨p,vs,hp,rfl,hb,hA,hS,hT,hR,hO,hI,hW,HJ⟩:=hrel;by_cases hpn:p<dn
        · obtain ⟨b1,o1,fs,x1,y1,m1,d1,rfl,hl1,hc1,hTa,hm1,hx1⟩:=HF1.out.at_ hpn;obtain ⟨b2,o2,gs,x2,y2,m2,d2,rfl,hl2,hc2,hTb,hm2,hx2⟩:=HF2.out.at_ hpn;have hga:w.heap.size≤g0:=Nat.le_of_eq HG.out;have hgb:g0≤w.heap.size:=Nat.le_of_eq HG.out.symm;have fa:=HF400a.out p fs hx1.out;have fb:=HF400b.out p gs hx2.out;have hm1':m1≤400:=(by have:=isForm_400 fa;have:=hTa.len;omega);have hm2':m2≤400:=(by have:=isForm_400 fb;have:=hTb.len;omega);have HSM:Hid (sumAt gss hss p=addT 1 fs gs):=Lib.hid (sumAt_of hx1.out hx2.out);have HFA:=Lib.hid fa;have HFB:=Lib.hid fb;have HC1:=Lib.hid hc1;have HC2:=Lib.hid hc2;have HTa:=Lib.hid hTa;have HTb:=Lib.hid hTb;clear hc1 hc2 hTa hTb fa fb;have hp0:(0:Int)≤(p:Int):=(by omega);have hpd:(p:Int)<(dn:Int):=(by omega);obtain ⟨E,hE⟩:∃E,addE zs fs gs=E:=⟨_,rfl⟩;have HEE:=Lib.hid hE;clear hE;go_upto_region 9 with fail
          go_cut [10,11] (fun q e wx=>∃(wy:World) (g:Nat) (va:Option Addr) (vn vc:Nat),wy=wx∧q=.pointer (some ⟨g,0,none⟩)∧e=.int .i64 E∧Below wr.heap.size wr wx∧wr.heap.size≤g∧Own wx g 61 #[.slice va vn vc]∧OwnR wx wr.heap.size (.slice va vn vc) (addV zs fs gs))
          case first=>
           have hC:Below wr.heap.size wr wr.drew:=(Below.refl _ _).drew;replace hA:Own wr.drew g0 33 #[.slice da dn dc,.slice a n c]:=hA;replace hS:Own wr.drew g1 36 #[.int .i64 k,.slice (some ⟨b1,o1,none⟩) dn c1]:=hS;replace hT:Own wr.drew g2 36 #[.int .i64 k,.slice (some ⟨b2,o2,none⟩) dn c2]:=hT;replace hb:Below w.heap.size w wr.drew:=(by rw [HG.out];exact hb.drew);clear hI hW HJ hO hR;refine wp_region_held_drew (S:=(fun w'=>w'.cell? ⟨g0,0,none⟩=some (.slice da dn dc)∧w'.cell? ⟨g1,1,none⟩=some (.slice (some ⟨b1,o1,none⟩) dn c1)∧w'.cell? ⟨g2,1,none⟩=some (.slice (some ⟨b2,o2,none⟩) dn c2)∧w'.cell? ⟨b1,o1+p,none⟩=some (.slice (some ⟨x1,y1,none⟩) m1 d1)∧w'.cell? ⟨b2,o2+p,none⟩=some (.slice (some ⟨x2,y2,none⟩) m2 d2))) (by kernel_rfl) ?_ (fun _=>?_)
           · ((try dsimp only);(exact ⟨hA.cell 0,hS.cell 1,hT.cell 1,(World.cell?_of_block (a:=⟨b1,o1+p,none⟩) (hb.block b1 hl1)).trans HC1.out,(World.cell?_of_block (a:=⟨b2,o2+p,none⟩) (hb.block b2 hl2)).trans HC2.out⟩))
           generalize wr.drew=Wd at *;refine hdT 0 ?_;refine hdT 1 ?_;refine hdT 2 ?_;refine hdT 3 ?_;refine hdT 4 ?_;refine hdT 5 ?_;refine hdT 6 ?_;refine hdT 7 ?_;refine hdT 8 ?_;refine hdT 9 ?_;refine hdT 10 ?_;refine hdT 11 ?_;refine wpAnyH_ready (rs:=[12,16]) (by kernel_rfl) (by simp) ?_;refine AllReadyH.cons (hdAt (i:=12) rfl) (fun K hK=>?_) (AllReadyH.cons (hdAt (i:=16) rfl) (fun K hK=>?_) AllReadyH.nil)
           · skip
             have hbs:=hC.size
             (go_simp;(go_at_call 73;refine (AddForms_c dc d1 d2 (HD.out.keep hb) hdn (HTa.out.keep hb) (by omega) hm1 (HTb.out.keep hb) (by omega) hm2).mono ?_;rintro e W1 ⟨v,rfl,hV,hbX⟩;rw [HEE.out]);go_wp2_with fail)
             replace hA:=hA.keep hbX hA.lt;replace hS:=hS.keep hbX hS.lt;replace hT:=hT.keep hbX hT.lt;replace hb:=bT' hb hbX hb.size;replace hC:=bT' hC hbX hC.size;replace hV:=hV.weaken hbs;clear hbX hbs;obtain ⟨va,vn,vc,rfl⟩:=hV.isSlice;refine hK.out _ _ ?_ (fun _=>?_)
             · ((try dsimp only);(exact ⟨hA.cell 0,hS.cell 1,hT.cell 1,(World.cell?_of_block (a:=⟨b1,o1+p,none⟩) (hb.block b1 hl1)).trans HC1.out,(World.cell?_of_block (a:=⟨b2,o2+p,none⟩) (hb.block b2 hl2)).trans HC2.out⟩))
             clear hK K
             (try simp only [Act.put,pA,pB,pC])
             refine hdT 13 ?_;refine hdT 14 ?_;refine hdT 15 ?_;refine hdC 16 (fun K hK=>?_)
             (go_simp;try go_wp2_with fail)
             have hB:=Own.new W1 61 #[.slice none 0 0];have HGb:=Lib.hid hb.size;have HGC:=Lib.hid hC.size;have hbX:=bA1 W1 (.cells #[.slice none 0 0] 61);replace hA:=hA.keep hbX hA.lt;replace hS:=hS.keep hbX hS.lt;replace hT:=hT.keep hbX hT.lt;replace hb:=bT' hb hbX hb.size;replace hC:=bT' hC hbX hC.size;replace hV:=hV.keep hbX;generalize W1.alloc (.cells #[.slice none 0 0] 61)=W2 at *;generalize hgB:W1.heap.size=gB at *;clear hbX hgB;refine hK.out _ _ ?_ (fun _=>?_)
             · ((try dsimp only);(exact ⟨hA.cell 0,hS.cell 1,hT.cell 1,(World.cell?_of_block (a:=⟨b1,o1+p,none⟩) (hb.block b1 hl1)).trans HC1.out,(World.cell?_of_block (a:=⟨b2,o2+p,none⟩) (hb.block b2 hl2)).trans HC2.out⟩))
             clear hK K
             (try simp only [Act.put,pA,pB,pC])
             refine hdC 17 (fun K hK=>?_);have s0:=hB.cell 0;have f0:=hB.frozen 0
             (go_simp;go_wp2_with fail)
             clear s0 f0;replace hA:=hA.far (p:=⟨gB,0,none⟩) (own_neR hA hB (by decide)) (.slice va vn vc);replace hS:=hS.far (p:=⟨gB,0,none⟩) (own_neR hS hB (by decide)) (.slice va vn vc);replace hT:=hT.far (p:=⟨gB,0,none⟩) (own_neR hT hB (by decide)) (.slice va vn vc);replace hb:=hb.setCell (p:=⟨gB,0,none⟩) HGb.out (.slice va vn vc);replace hC:=hC.setCell (p:=⟨gB,0,none⟩) HGC.out (.slice va vn vc);replace hV:=hV.far (p:=⟨gB,0,none⟩) (hV.ne_form hB) (.slice va vn vc);replace hB:=hB.set 0 (.slice va vn vc);generalize W2.setCell ⟨gB,0,none⟩ (.slice va vn vc)=W3 at *;refine hK.out _ _ ?_ (fun _=>?_)
             · ((try dsimp only);(exact ⟨hA.cell 0,hS.cell 1,hT.cell 1,(World.cell?_of_block (a:=⟨b1,o1+p,none⟩) (hb.block b1 hl1)).trans HC1.out,(World.cell?_of_block (a:=⟨b2,o2+p,none⟩) (hb.block b2 hl2)).trans HC2.out⟩))
             clear hK K
             (try simp only [Act.put,pA,pB,pC])
             refine hdT 18 ?_;refine wpAnyH_done (by kernel_rfl) ?_ _;go_wp2_with fail
             go_meet
             exact ⟨_,gB,va,vn,vc,rfl,rfl,rfl,hC,HGC.out,hB,hV⟩
           · skip
             (go_simp;try go_wp2_with fail)
             have hB:=Own.new Wd 61 #[.slice none 0 0];have HGb:=Lib.hid hb.size;have HGC:=Lib.hid hC.size;have hbX:=bA1 Wd (.cells #[.slice none 0 0] 61);replace hA:=hA.keep hbX hA.lt;replace hS:=hS.keep hbX hS.lt;replace hT:=hT.keep hbX hT.lt;replace hb:=bT' hb hbX hb.size;replace hC:=bT' hC hbX hC.size;generalize Wd.alloc (.cells #[.slice none 0 0] 61)=W4 at *;generalize hgB:Wd.heap.size=gB at *;clear hbX hgB;refine hK.out _ _ ?_ (fun _=>?_)
             · ((try dsimp only);(exact ⟨hA.cell 0,hS.cell 1,hT.cell 1,(World.cell?_of_block (a:=⟨b1,o1+p,none⟩) (hb.block b1 hl1)).trans HC1.out,(World.cell?_of_block (a:=⟨b2,o2+p,none⟩) (hb.block b2 hl2)).trans HC2.out⟩))
             clear hK K
             (try simp only [Act.put,pA,pB,pC])
             refine hdC 12 (fun K hK=>?_);have hbs:=hC.size
             (go_simp;(go_at_call 73;refine (AddForms_c dc d1 d2 (HD.out.keep hb) hdn (HTa.out.keep hb) (by omega) hm1 (HTb.out.keep hb) (by omega) hm2).mono ?_;rintro e W5 ⟨v,rfl,hV,hbX⟩;rw [HEE.out]);go_wp2_with fail)
             replace hA:=hA.keep hbX hA.lt;replace hS:=hS.keep hbX hS.lt;replace hT:=hT.keep hbX hT.lt;replace hb:=bT' hb hbX hb.size;replace hC:=bT' hC hbX hC.size;replace hB:=hB.keep hbX hB.lt;replace hV:=hV.weaken hbs;clear hbX hbs;obtain ⟨va,vn,vc,rfl⟩:=hV.isSlice;refine hK.out _ _ ?_ (fun _=>?_)
             · ((try dsimp only);(exact ⟨hA.cell 0,hS.cell 1,hT.cell 1,(World.cell?_of_block (a:=⟨b1,o1+p,none⟩) (hb.block b1 hl1)).trans HC1.out,(World.cell?_of_block (a:=⟨b2,o2+p,none⟩) (hb.block b2 hl2)).trans HC2.out⟩))
             clear hK K
             (try simp only [Act.put,pA,pB,pC])
             refine hdT 13 ?_;refine hdT 14 ?_;refine hdT 15 ?_;refine hdC 17 (fun K hK=>?_);have s0:=hB.cell 0;have f0:=hB.frozen 0
             (go_simp;go_wp2_with fail)
             clear s0 f0;replace hA:=hA.far (p:=⟨gB,0,none⟩) (own_neR hA hB (by decide)) (.slice va vn vc);replace hS:=hS.far (p:=⟨gB,0,none⟩) (own_neR hS hB (by decide)) (.slice va vn vc);replace hT:=hT.far (p:=⟨gB,0,none⟩) (own_neR hT hB (by decide)) (.slice va vn vc);replace hb:=hb.setCell (p:=⟨gB,0,none⟩) HGb.out (.slice va vn vc);replace hC:=hC.setCell (p:=⟨gB,0,none⟩) HGC.out (.slice va vn vc);replace hV:=hV.far (p:=⟨gB,0,none⟩) (hV.ne_form hB) (.slice va vn vc);replace hB:=hB.set 0 (.slice va vn vc);generalize W5.setCell ⟨gB,0,none⟩ (.slice va vn vc)=W6 at *;refine hK.out _ _ ?_ (fun _=>?_)
             · ((try dsimp only);(exact ⟨hA.cell 0,hS.cell 1,hT.cell 1,(World.cell?_of_block (a:=⟨b1,o1+p,none⟩) (hb.block b1 hl1)).trans HC1.out,(World.cell?_of_block (a:=⟨b2,o2+p,none⟩) (hb.block b2 hl2)).trans HC2.out⟩))
             clear hK K
             (try simp only [Act.put,pA,pB,pC])
             refine hdT 18 ?_;refine wpAnyH_done (by kernel_rfl) ?_ _;go_wp2_with fail
             go_meet
             exact ⟨_,gB,va,vn,vc,rfl,rfl,rfl,hC,HGC.out,hB,hV⟩
          case rest=>
           obtain ⟨wx,gF,va,vn,vc,rfl,rfl,rfl,hbX,hgF,hB,hV⟩:=hcut;have hsz:g3<wr.heap.size:=hR.lt;have HIl:=Lib.hid hI.out.lt;replace hO:=hO.keep hbX hO.lt;replace hI:=Lib.hid (hI.out.keep hbX hI.out.lt);have HLT:=Lib.hid hW.out.lt;replace hW:=Lib.hid (hW.out.keep hbX);replace hb:=bT' hb hbX (by have:=hA.lt;omega);replace hA:=hA.keep hbX hA.lt;replace hS:=hS.keep hbX hS.lt;replace hT:=hT.keep hbX hT.lt;replace hR:=hR.keep hbX hR.lt;clear hbX;have e0:=hB.cell 0;by_cases h400:(addT 1 fs gs).length≤400
           · obtain ⟨eE,eV⟩:=addE_0 HFA.out HFB.out h400;rw [HEE.out] at eE;subst eE;rw [eV] at hV;have hvl:vs.length=p:=(by rw [hW.out.len,sums_len]);have HS2:=Lib.hid (hW.out.snoc HLT.out (by have:=hsz;omega) hV);have HV1:=Lib.hid hV;have HVC:=Lib.hid (valCells_step (v:=.slice va vn vc) hvl hpn);obtain ⟨oI,cI⟩:=hI.out.has (i:=p) (by rw [List.size_toArray,valCells_len (by omega)];exact hpn);have fI:=hI.out.frozen p;have cO:=hO.cell 1;have hgIl:g3<gI:=hgI2;clear hV eV;go_upto_region 13 with fail
             clear e0 cI fI cO;have hI5:=hI.out.set p (.slice va vn vc);rw [HVC.out] at hI5;have HI5:=Lib.hid hI5;have HW5:=Lib.hid (HS2.out.far (p:=⟨gI,p,none⟩) hI.out (.slice va vn vc));have hne:=own_neR hO hI.out (by decide);have hO5:=hO.far (p:=⟨gI,p,none⟩) hne (.slice va vn vc);have hA5:=hA.far (p:=⟨gI,p,none⟩) (by dsimp only;omega) (.slice va vn vc);have hS5:=hS.far (p:=⟨gI,p,none⟩) (by dsimp only;omega) (.slice va vn vc);have hT5:=hT.far (p:=⟨gI,p,none⟩) (by dsimp only;omega) (.slice va vn vc);have hR5:=hR.far (p:=⟨gI,p,none⟩) (by dsimp only;omega) (.slice va vn vc);have hb5:=hb.setCell (p:=⟨gI,p,none⟩) (by dsimp only;omega) (.slice va vn vc);clear hI5 hI hW HS2 hO hA hS hT hR hb hB hne;generalize wx.setCell ⟨gI,p,none⟩ (.slice va vn vc)=wz at *;go_wp2_with fail
             go_roundw
             case rel=>
              refine ⟨p+1,vs++[.slice va vn vc],by omega,by go_num,hb5,hA5,hS5,hT5,hR5,hO5,HI5,by rw [sums_succ,HSM.out];exact HW5,Lib.hid (fun i hi=>?_)⟩;by_cases ei:i=p
              · rw [ei,HSM.out];exact h400
              · exact HJ.out i (by omega)
             case measure=>simp [intOf] <;> omega
           · obtain ⟨eE,-⟩:=addE_3 HFA.out HFB.out h400;rw [HEE.out] at eE;subst eE;have HE:=Lib.hid (ad9_ne (ad9_3 H1.out H2.out (okSums_no (i:=p) (by rw [HDL.out];exact hpn) (by rw [HSM.out];exact h400))) (by omega));clear hI hW HLT hV e0 hO hA hS hT hB;have r0:=hR.cell 0;have r1:=hR.cell 1;have f0:=hR.frozen 0;have f1:=hR.frozen 1;go_wp2_with fail
             have q:=(hR.set 0 (.int .i64 0)).set 1 (.slice none 0 0);have qb:=(hb.setCell (p:=⟨g3,0,none⟩) (by dsimp only;omega) (.int .i64 0)).setCell (p:=⟨g3,1,none⟩) (by dsimp only;omega) (.slice none 0 0);exact bodyPost_ret (results_row2 rfl _ _ g3 36 #[.int .i64 0,.slice none 0 0] (0,0) _ rfl q Try.underlying36 rfl Try.info_der) rfl ⟨none,0,0,by rw [HE.out.1,HE.out.2.1];rfl,by rw [HE.out.2.2];exact OwnF.none_,by rw [HG.out];exact qb⟩
        · have he:p=dn:=(by omega);subst he;have HE:=Lib.hid (ad9_0 H1.out H2.out (by rw [HDL.out];exact okSums_yes HJ.out));have hvl:vs.length=p:=(by rw [hW.out.len,sums_len]);have hFF:=hW.out.ownF (n:=p) (sums_len p) hI.out (fun i v hi=>by rw [valCells_full hvl,List.getElem?_toArray];exact hi) (by omega) (sums_tm HT1.out HT2.out);have HFFF:=Lib.hid hFF;have k0:=hO.cell 0;have k1:=hO.cell 1;have r0:=hR.cell 0;have r1:=hR.cell 1;have f0:=hR.frozen 0;have f1:=hR.frozen 1;clear hFF hI hW;go_wp2_with fail
          have q:=(hR.set 0 (.int .i64 k)).set 1 (.slice (some ⟨gI,0,none⟩) p p);have qb:=(hb.setCell (p:=⟨g3,0,none⟩) (by dsimp only;omega) (.int .i64 k)).setCell (p:=⟨g3,1,none⟩) (by dsimp only;omega) (.slice (some ⟨gI,0,none⟩) p p);have qF:=ownF_far9 (p:=⟨g3,1,none⟩) (ownF_far9 (p:=⟨g3,0,none⟩) HFFF.out hR (.int .i64 k)) (hR.set 0 _) (.slice (some ⟨gI,0,none⟩) p p);exact bodyPost_ret (results_row2 rfl _ _ g3 36 #[.int .i64 k,.slice (some ⟨gI,0,none⟩) p p] (0,0) _ rfl q Try.underlying36 rfl Try.info_der) rfl ⟨some ⟨gI,0,none⟩,p,p,by rw [HE.out.1,HE.out.2.1];rfl,by rw [HE.out.2.2,HG.out,HDL.out];exact qF.weaken (Nat.le_refl _) (by simp),by rw [HG.out];exact qb⟩
end Go.Proofs.Ytikldofmpkidbaa
