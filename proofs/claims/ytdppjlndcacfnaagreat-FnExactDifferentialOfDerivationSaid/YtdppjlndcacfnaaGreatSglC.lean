
import Derived.Test.YtdppjlndcacfnaaGreatAppC
import Derived.Test.YtdppjlndcacfnaaGreatBrD
import Derived.Test.YtdppjlndcacfnaaGreatAdd9C
import Derived.Test.YtdppjlndcacfnaaGreatSingle
namespace Go.Proofs.YtdppjlndcacfnaaGreat
set_option maxRecDepth 100000
open Go.RowKit Go.Deep
set_option maxHeartbeats 8000000 in
theorem BracketOf_c {w : World} {da : Option Addr} {dn : Nat} {zs : List Int} {a : Option Addr} {n : Nat} {ims : List (List Tm)} {a1 : Option Addr} {n1 : Nat} {gss : List (List Tm)} {a2 : Option Addr} {n2 : Nat} {hss : List (List Tm)} (dc c : Nat) (k : Int) (c1 : Nat) (k2 : Int) (c2 : Nat) (hd : Ints w da dn zs) (hdn : dn ≤ 1048576) (hF : Frms w a n ims) (hn : n ≤ 1048576) (hL : ∀ im ∈ ims, (im.length : Int) ≤ 1048576) (hF1 : FrmsA w a1 n1 gss) (hn1 : n1 ≤ 1048576) (hL1 : ∀ im ∈ gss, (im.length : Int) ≤ 1048576) (hF2 : FrmsA w a2 n2 hss) (hn2 : n2 ≤ 1048576) (hL2 : ∀ im ∈ hss, (im.length : Int) ≤ 1048576) (hT1 : ∀ ts ∈ gss, ∀ t ∈ ts, IsTm t) (hT2 : ∀ ts ∈ hss, ∀ t ∈ ts, IsTm t) :
    Calls Tryz.prog 12 #[.agg #[.slice da dn dc,.slice a n c],.agg #[.int .i64 k,.slice a1 n1 c1],.agg #[.int .i64 k2,.slice a2 n2 c2]] w fun e w'=>∃rb bn bc,e=.returned (.tuple #[.agg #[.int .i64 (br9D zs ims k gss k2 hss),.slice rb bn bc],.int .i64 (br9E zs ims k gss k2 hss)])∧OwnF w' w.heap.size w'.heap.size rb bn (br9I zs ims k gss k2 hss)∧Below w.heap.size w w':=by
 have HLL:=Lib.hid hL
 have HLL1:=Lib.hid hL1
 have HLL2:=Lib.hid hL2
 have HT1:=Lib.hid hT1
 have HT2:=Lib.hid hT2
 have HDL:=Lib.hid hd.len
 have HLn1:=Lib.hid hF1.1
 have HLn2:=Lib.hid hF2.1
 have HD:=Lib.hid hd
 have HF:=Lib.hid hF
 have HF1:=Lib.hid hF1
 have HF2:=Lib.hid hF2
 clear hL hL1 hL2 hT1 hT2
 have hA:=(((Own.new w 36 #[.slice da dn dc,.slice a n c]).alloc (.cells #[.int .i64 k,.slice a1 n1 c1] 32)).alloc (.cells #[.int .i64 k2,.slice a2 n2 c2] 32)).alloc (.cells #[.int .i64 0,.slice none 0 0] 32)
 have hS:=((Own.new (w.alloc (.cells #[.slice da dn dc,.slice a n c] 36)) 32 #[.int .i64 k,.slice a1 n1 c1]).alloc (.cells #[.int .i64 k2,.slice a2 n2 c2] 32)).alloc (.cells #[.int .i64 0,.slice none 0 0] 32)
 have hT:=(Own.new ((w.alloc (.cells #[.slice da dn dc,.slice a n c] 36)).alloc (.cells #[.int .i64 k,.slice a1 n1 c1] 32)) 32 #[.int .i64 k2,.slice a2 n2 c2]).alloc (.cells #[.int .i64 0,.slice none 0 0] 32)
 have hR:=Own.new (((w.alloc (.cells #[.slice da dn dc,.slice a n c] 36)).alloc (.cells #[.int .i64 k,.slice a1 n1 c1] 32)).alloc (.cells #[.int .i64 k2,.slice a2 n2 c2] 32)) 32 #[.int .i64 0,.slice none 0 0]
 simp only [sAl] at hS hT hR
 have hb:=bTn (bTn (bTn (bA1 w (.cells #[.slice da dn dc,.slice a n c] 36)) (bA1 _ (.cells #[.int .i64 k,.slice a1 n1 c1] 32))) (bA1 _ (.cells #[.int .i64 k2,.slice a2 n2 c2] 32))) (bA1 _ (.cells #[.int .i64 0,.slice none 0 0] 32))
 go_enter Tryz.func12,Tryz.ntmps12
 go_upto_region 1 with fail
 generalize (((w.alloc (.cells #[.slice da dn dc,.slice a n c] 36)).alloc (.cells #[.int .i64 k,.slice a1 n1 c1] 32)).alloc (.cells #[.int .i64 k2,.slice a2 n2 c2] 32)).alloc (.cells #[.int .i64 0,.slice none 0 0] 32)=w0 at *
 generalize hg3:w.heap.size+1+1+1=g3 at *
 generalize hg2:w.heap.size+1+1=g2 at *
 generalize hg1:w.heap.size+1=g1 at *
 generalize hg0:w.heap.size=g0 at *
 have HG:=Lib.hid hg0
 have e1:=hg1
 have e2:=hg2
 have e3:=hg3
 clear hg0 hg1 hg2 hg3
 have c0:=hA.cell 0
 have c1':=hA.cell 1
 have s0:=hS.cell 0
 have s1:=hS.cell 1
 have t0:=hT.cell 0
 have t1:=hT.cell 1
 have hX:=Own.new w0 32 #[.int .i64 k,.slice a1 n1 c1,.int .i64 k2,.slice a2 n2 c2]
 have hbX:=bA1 w0 (.cells #[.int .i64 k,.slice a1 n1 c1,.int .i64 k2,.slice a2 n2 c2] 32)
 have hbx:Below w.heap.size w (w0.alloc (.cells #[.int .i64 k,.slice a1 n1 c1,.int .i64 k2,.slice a2 n2 c2] 32)):=by rw [HG.out];exact bT' hb hbX (by have:=hA.lt;omega)
 replace hb:=bT' hb hbX (by have:=hA.lt;omega)
 replace hA:=hA.keep hbX hA.lt
 replace hS:=hS.keep hbX hS.lt
 replace hT:=hT.keep hbX hT.lt
 replace hR:=hR.keep hbX hR.lt
 clear hbX
 go_wp2_with fail
 have hDs:Ders (w0.alloc (.cells #[.int .i64 k,.slice a1 n1 c1,.int .i64 k2,.slice a2 n2 c2] 32)) w0.heap.size 0 [(k,gss),(k2,hss)]:=⟨hX.lt,fun i x hx=>by
  match i,hx with
  | 0, hx =>
    simp only [List.getElem?_cons_zero,Option.some.injEq] at hx;subst hx;exact ⟨a1,n1,c1,hX.cell 0,hX.cell 1,(HF1.out.frms HLL1.out).keep hbx,hn1⟩
  | 1, hx =>
    simp only [List.getElem?_cons_succ,List.getElem?_cons_zero,Option.some.injEq] at hx;subst hx;exact ⟨a2,n2,c2,hX.cell 2,hX.cell 3,(HF2.out.frms HLL2.out).keep hbx,hn2⟩
  | i+2,hx=>simp at hx⟩
 refine (areDerivations_c (m:=2) dc c 2 (HD.out.keep hbx) hdn (HF.out.keep hbx) hn HLL.out hDs rfl (by omega) (fun x hx=>by
  rcases List.mem_cons.1 hx with rfl | hx
  · exact HLL1.out
  · rw [List.mem_singleton.1 hx];exact HLL2.out)).mono ?_
 rintro e w1 ⟨rfl,hbX⟩
 rw [dersB_two]
 clear hX hDs hbx c0 c1' s0 s1 t0 t1
 replace hb:=bT' hb hbX (by have:=hA.lt;omega)
 replace hA:=hA.keep hbX hA.lt
 replace hS:=hS.keep hbX hS.lt
 replace hT:=hT.keep hbX hT.lt
 replace hR:=hR.keep hbX hR.lt
 clear hbX
 cases hd1:derB zs ims k gss
 · have HE:=Lib.hid (br9_1 (k:=k) (k2:=k2) (hss:=hss) (Or.inl hd1));clear hd1;rw [Bool.false_and];have r0:=hR.cell 0;have r1:=hR.cell 1;have f0:=hR.frozen 0;have f1:=hR.frozen 1;go_wp2_with fail
   have q:=(hR.set 0 (.int .i64 0)).set 1 (.slice none 0 0);have qb:=(hb.setCell (p:=⟨g3,0,none⟩) (by dsimp only;omega) (.int .i64 0)).setCell (p:=⟨g3,1,none⟩) (by dsimp only;omega) (.slice none 0 0);exact bodyPost_ret (results_row2 rfl _ _ g3 32 #[.int .i64 0,.slice none 0 0] (0,0) _ rfl q Tryz.underlying32 rfl Tryz.info_der) rfl ⟨none,0,0,by rw [HE.out.1,HE.out.2.1];rfl,by rw [HE.out.2.2];exact OwnF.none_,by rw [HG.out];exact qb⟩
 · have H1:=Lib.hid hd1;rw [Bool.true_and];cases hd2:derB zs ims k2 hss
   · have HE:=Lib.hid (br9_1 (k:=k) (k2:=k2) (gss:=gss) (Or.inr hd2));clear hd1 hd2;have r0:=hR.cell 0;have r1:=hR.cell 1;have f0:=hR.frozen 0;have f1:=hR.frozen 1;go_wp2_with fail
     have q:=(hR.set 0 (.int .i64 0)).set 1 (.slice none 0 0);have qb:=(hb.setCell (p:=⟨g3,0,none⟩) (by dsimp only;omega) (.int .i64 0)).setCell (p:=⟨g3,1,none⟩) (by dsimp only;omega) (.slice none 0 0);exact bodyPost_ret (results_row2 rfl _ _ g3 32 #[.int .i64 0,.slice none 0 0] (0,0) _ rfl q Tryz.underlying32 rfl Tryz.info_der) rfl ⟨none,0,0,by rw [HE.out.1,HE.out.2.1];rfl,by rw [HE.out.2.2];exact OwnF.none_,by rw [HG.out];exact qb⟩
   · have H2:=Lib.hid hd2;clear hd1 hd2;obtain ⟨hk0,hk12⟩:=derB_k H1.out;obtain ⟨hm0,hm12⟩:=derB_k H2.out;have HWR:Hid (IntKind.i64.wrap (k+k2)=k+k2):=Lib.hid (by rw [IntKind.wrap_i64];omega);by_cases hbig:12<k+k2
     · have HE:=Lib.hid (br9_3 H1.out H2.out hbig);have hgt:k+k2 > 12:=hbig;have hwr:=HWR.out;have s0:=hS.cell 0;have t0:=hT.cell 0;have r0:=hR.cell 0;have r1:=hR.cell 1;have f0:=hR.frozen 0;have f1:=hR.frozen 1;go_wp2_with fail
       have q:=(hR.set 0 (.int .i64 0)).set 1 (.slice none 0 0);have qb:=(hb.setCell (p:=⟨g3,0,none⟩) (by dsimp only;omega) (.int .i64 0)).setCell (p:=⟨g3,1,none⟩) (by dsimp only;omega) (.slice none 0 0);exact bodyPost_ret (results_row2 rfl _ _ g3 32 #[.int .i64 0,.slice none 0 0] (0,0) _ rfl q Tryz.underlying32 rfl Tryz.info_der) rfl ⟨none,0,0,by rw [HE.out.1,HE.out.2.1];rfl,by rw [HE.out.2.2];exact OwnF.none_,by rw [HG.out];exact qb⟩
     · have HE:=Lib.hid (br9_0 H1.out H2.out hbig);have hgt:¬k+k2 > 12:=hbig;have hwr:=HWR.out;have hl1:=derB_len H1.out;have hl2:=derB_len H2.out;obtain rfl:dn=n1:=(by have:=HLn1.out;have:=HDL.out;omega);obtain rfl:dn=n2:=(by have:=HLn2.out;have:=HDL.out;omega);have s0:=hS.cell 0;have t0:=hT.cell 0;have s1:=hS.cell 1;have t1:=hT.cell 1;have c0:=hA.cell 0;have c1':=hA.cell 1;have hbw:Below w.heap.size w w1:=(by rw [HG.out];exact hb);go_wp2_with fail
       refine (bracketL_c a n dc c k c1 k2 c2 (HD.out.keep hbw) ((HF1.out.frms HLL1.out).keep hbw) ((HF2.out.frms HLL2.out).keep hbw) (derB_ok H1.out HT1.out) (derB_ok H2.out HT2.out) ⟨hk0,hk12⟩ ⟨hm0,hm12⟩).mono ?_;rintro e w2 ⟨rb,bn,bc,rfl,hO,hbX⟩;clear s0 t0 s1 t1 c0 c1' hwr hgt hbw;have hlR:=hR.lt;have HO:=Lib.hid ((hO.keep (Below.refl _ _)).weaken (lo':=g0) (by have:=hA.lt;omega) (Nat.le_refl _));clear hO;replace hb:=bT' hb hbX (by have:=hA.lt;omega);replace hA:=hA.keep hbX hA.lt;replace hS:=hS.keep hbX hS.lt;replace hT:=hT.keep hbX hT.lt;replace hR:=hR.keep hbX hR.lt;clear hbX;have r0:=hR.cell 0;have r1:=hR.cell 1;have f0:=hR.frozen 0;have f1:=hR.frozen 1;obtain ⟨DD,hDD⟩:∃D,brD zs (brAt zs k gss k2 hss) dn (k+k2)=D:=⟨_,rfl⟩;obtain ⟨EE,hEE⟩:∃E,brE zs (brAt zs k gss k2 hss) dn=E:=⟨_,rfl⟩;have HDD:=Lib.hid hDD;have HEE:=Lib.hid hEE;rw [hDD,hEE];clear hDD hEE;go_wp2_with fail
       have q:=(hR.set 0 (.int .i64 DD)).set 1 (.slice rb bn bc);have qb:=(hb.setCell (p:=⟨g3,0,none⟩) (by dsimp only;omega) (.int .i64 DD)).setCell (p:=⟨g3,1,none⟩) (by dsimp only;omega) (.slice rb bn bc);have qF:=ownF_far9 (p:=⟨g3,1,none⟩) (ownF_far9 (p:=⟨g3,0,none⟩) HO.out hR (.int .i64 DD)) (hR.set 0 _) (.slice rb bn bc);exact bodyPost_ret (results_row2 rfl _ _ g3 32 #[.int .i64 DD,.slice rb bn bc] (0,0) _ rfl q Tryz.underlying32 rfl Tryz.info_der) rfl ⟨rb,bn,bc,by rw [HE.out.1,HE.out.2.1,HDL.out,HDD.out,HEE.out];rfl,by rw [HE.out.2.2,HDL.out,HG.out];exact qF.weaken (Nat.le_refl _) (by simp),by rw [HG.out];exact qb⟩
set_option maxHeartbeats 4000000 in
theorem l01SingleN_c {w : World} {p0 p1 p2 p3 p4 p5 p6 p7 : Int} (x c : Int) (hx : -1000000 ≤ x ∧ x ≤ 1000000) (hxc : num x = c) (hc : 1 ≤ c ∧ c ≤ 10006) (hm : IsMono [p0, p1, p2, p3, p4, p5, p6, p7]) :
    Calls Tryz.prog 87 #[.agg #[.int .u8 p0,.int .u8 p1,.int .u8 p2,.int .u8 p3,.int .u8 p4,.int .u8 p5,.int .u8 p6,.int .u8 p7],.int .i64 x] w fun e w'=>∃g,e=.returned (.agg #[.slice (some ⟨g,0,none⟩) 1 1])∧w.heap.size≤g∧Own w' g 94 #[.int .u8 p0,.int .u8 p1,.int .u8 p2,.int .u8 p3,.int .u8 p4,.int .u8 p5,.int .u8 p6,.int .u8 p7,.int .i64 c]∧Below w.heap.size w w':=by
 have HM:=Lib.hid hm
 have hM:=(Own.new w 92 #[.int .u8 p0,.int .u8 p1,.int .u8 p2,.int .u8 p3,.int .u8 p4,.int .u8 p5,.int .u8 p6,.int .u8 p7]).alloc (.cells #[.slice none 0 0] 59)
 have hR:=Own.new (w.alloc (.cells #[.int .u8 p0,.int .u8 p1,.int .u8 p2,.int .u8 p3,.int .u8 p4,.int .u8 p5,.int .u8 p6,.int .u8 p7] 92)) 59 #[.slice none 0 0]
 rw [sAl] at hR
 have hb:=bTn (bA1 w (.cells #[.int .u8 p0,.int .u8 p1,.int .u8 p2,.int .u8 p3,.int .u8 p4,.int .u8 p5,.int .u8 p6,.int .u8 p7] 92)) (bA1 _ (.cells #[.slice none 0 0] 59))
 have n1:num x=c:=hxc
 have h10:(c==0)=false:=by simp;omega
 go_enter Tryz.func87,Tryz.ntmps87
 go_upto_region 1 with fail
 generalize (w.alloc (.cells #[.int .u8 p0,.int .u8 p1,.int .u8 p2,.int .u8 p3,.int .u8 p4,.int .u8 p5,.int .u8 p6,.int .u8 p7] 92)).alloc (.cells #[.slice none 0 0] 59)=w0 at *
 go_wp2_with fail
 refine (l01Mod_c x _ (by omega) (by omega)).mono ?_
 rintro e wM ⟨rfl,rfl⟩
 rw [n1]
 have hR0:=hR
 go_upto_region 3 with fail
 have N1:=Lib.hid n1
 clear n1
 replace hM:Own w0.drew w.heap.size 92 #[.int .u8 p0,.int .u8 p1,.int .u8 p2,.int .u8 p3,.int .u8 p4,.int .u8 p5,.int .u8 p6,.int .u8 p7]:=hM
 replace hR:Own w0.drew (w.heap.size+1) 59 #[.slice none 0 0]:=hR
 replace hb:Below w.heap.size w w0.drew:=hb.drew
 refine wp_region_held_drew (S:=(fun w'=>w'.cell? ⟨w.heap.size,0,none⟩=some (.int .u8 p0)∧w'.cell? ⟨w.heap.size,1,none⟩=some (.int .u8 p1)∧w'.cell? ⟨w.heap.size,2,none⟩=some (.int .u8 p2)∧w'.cell? ⟨w.heap.size,3,none⟩=some (.int .u8 p3)∧w'.cell? ⟨w.heap.size,4,none⟩=some (.int .u8 p4)∧w'.cell? ⟨w.heap.size,5,none⟩=some (.int .u8 p5)∧w'.cell? ⟨w.heap.size,6,none⟩=some (.int .u8 p6)∧w'.cell? ⟨w.heap.size,7,none⟩=some (.int .u8 p7))) (by kernel_rfl) ?_ (fun hHeld=>?_)
 · ((try dsimp only);(exact ⟨hM.cell 0,hM.cell 1,hM.cell 2,hM.cell 3,hM.cell 4,hM.cell 5,hM.cell 6,hM.cell 7⟩))
 refine hdT 0 ?_
 refine hdT 1 ?_
 refine hdC 2 (fun K hK=>?_)
 (go_simp;(go_at_call 58;refine (l01Mod_c x _ (by omega) (by omega)).mono ?_;rintro e wM ⟨rfl,rfl⟩;rw [N1.out]);go_wp2_with fail)
 refine hK.out _ _ ?_ (fun _=>?_)
 · ((try dsimp only);(exact ⟨hM.cell 0,hM.cell 1,hM.cell 2,hM.cell 3,hM.cell 4,hM.cell 5,hM.cell 6,hM.cell 7⟩))
 clear hK K
 (try simp only [Act.put,pA,pB,pC])
 refine hdT 3 ?_
 refine hdC 4 (fun K hK=>?_)
 (go_simp;try go_wp2_with fail)
 have hN:Own (w0.alloc (.cells #[.int .u8 p0,.int .u8 p1,.int .u8 p2,.int .u8 p3,.int .u8 p4,.int .u8 p5,.int .u8 p6,.int .u8 p7,.int .i64 c] 94)).drew w0.heap.size 94 #[.int .u8 p0,.int .u8 p1,.int .u8 p2,.int .u8 p3,.int .u8 p4,.int .u8 p5,.int .u8 p6,.int .u8 p7,.int .i64 c]:=Own.new w0 94 #[.int .u8 p0,.int .u8 p1,.int .u8 p2,.int .u8 p3,.int .u8 p4,.int .u8 p5,.int .u8 p6,.int .u8 p7,.int .i64 c]
 have hlM:=hM.lt
 replace hM:Own (w0.alloc (.cells #[.int .u8 p0,.int .u8 p1,.int .u8 p2,.int .u8 p3,.int .u8 p4,.int .u8 p5,.int .u8 p6,.int .u8 p7,.int .i64 c] 94)).drew w.heap.size 92 #[.int .u8 p0,.int .u8 p1,.int .u8 p2,.int .u8 p3,.int .u8 p4,.int .u8 p5,.int .u8 p6,.int .u8 p7]:=Own.alloc (w:=w0) hM (.cells #[.int .u8 p0,.int .u8 p1,.int .u8 p2,.int .u8 p3,.int .u8 p4,.int .u8 p5,.int .u8 p6,.int .u8 p7,.int .i64 c] 94)
 replace hR:Own (w0.alloc (.cells #[.int .u8 p0,.int .u8 p1,.int .u8 p2,.int .u8 p3,.int .u8 p4,.int .u8 p5,.int .u8 p6,.int .u8 p7,.int .i64 c] 94)).drew (w.heap.size+1) 59 #[.slice none 0 0]:=Own.alloc (w:=w0) hR (.cells #[.int .u8 p0,.int .u8 p1,.int .u8 p2,.int .u8 p3,.int .u8 p4,.int .u8 p5,.int .u8 p6,.int .u8 p7,.int .i64 c] 94)
 have hgN:=hb.size
 replace hb:Below w.heap.size w (w0.alloc (.cells #[.int .u8 p0,.int .u8 p1,.int .u8 p2,.int .u8 p3,.int .u8 p4,.int .u8 p5,.int .u8 p6,.int .u8 p7,.int .i64 c] 94)).drew:=bT' hb (bA1 w0.drew (.cells #[.int .u8 p0,.int .u8 p1,.int .u8 p2,.int .u8 p3,.int .u8 p4,.int .u8 p5,.int .u8 p6,.int .u8 p7,.int .i64 c] 94)) hb.size
 have hlR:=hR.lt
 have cR:=hR.cell 0
 have fR:=hR.frozen 0
 refine hK.out _ _ ?_ (fun _=>?_)
 · ((try dsimp only);(exact ⟨hM.cell 0,hM.cell 1,hM.cell 2,hM.cell 3,hM.cell 4,hM.cell 5,hM.cell 6,hM.cell 7⟩))
 clear hK K
 (try simp only [Act.put,pA,pB,pC])
 refine hdT 5 ?_
 refine hdC 6 (fun K hK=>?_)
 (go_simp;go_wp2_with fail)
 have hgR:w.heap.size+1<w0.heap.size:=hR0.lt
 replace hM:=hM.far (p:=⟨w.heap.size+1,0,none⟩) (by dsimp only;omega) (.slice (some ⟨w0.heap.size,0,none⟩) 1 1)
 replace hN:=hN.far (p:=⟨w.heap.size+1,0,none⟩) (by dsimp only;show w0.heap.size≠_;omega) (.slice (some ⟨w0.heap.size,0,none⟩) 1 1)
 replace hR:=hR.set 0 (.slice (some ⟨w0.heap.size,0,none⟩) 1 1)
 replace hb:=hb.setCell (p:=⟨w.heap.size+1,0,none⟩) (by dsimp only;omega) (.slice (some ⟨w0.heap.size,0,none⟩) 1 1)
 refine hK.out _ _ ?_ (fun _=>?_)
 · ((try dsimp only);(exact ⟨hM.cell 0,hM.cell 1,hM.cell 2,hM.cell 3,hM.cell 4,hM.cell 5,hM.cell 6,hM.cell 7⟩))
 clear hK K
 (try simp only [Act.put,pA,pB,pC])
 refine wpAnyH_done (by kernel_rfl) ?_ _
 go_wp2_with fail
 refine bodyPost_ret (results_cell_row rfl _ _ (w.heap.size+1) 59 #[.slice (some ⟨w0.heap.size,0,none⟩) 1 1] (0,0) _ rfl hR Tryz.underlying59 rfl Tryz.info_form) rfl ⟨w0.heap.size,rfl,by omega,?_,hb⟩
 exact hN
theorem l01SingleC_c {w : World} {p0 p1 p2 p3 p4 p5 p6 p7 : Int} (x c : Int) (hx : -1000000 ≤ x ∧ x ≤ 1000000) (hxc : num x = c) (hc : 1 ≤ c ∧ c ≤ 10006) (hm : IsMono [p0, p1, p2, p3, p4, p5, p6, p7]) :
    Calls Tryz.prog 87 #[.agg #[.int .u8 p0,.int .u8 p1,.int .u8 p2,.int .u8 p3,.int .u8 p4,.int .u8 p5,.int .u8 p6,.int .u8 p7],.int .i64 x] w fun e w'=>∃g,e=.returned (.agg #[.slice (some ⟨g,0,none⟩) 1 1])∧w.heap.size≤g∧Terms w' (some ⟨g,0,none⟩) 1 [⟨[p0,p1,p2,p3,p4,p5,p6,p7],c⟩]∧Below w.heap.size w w':=by
 have HM:=Lib.hid hm
 refine (l01SingleN_c x c hx hxc hc hm).mono ?_
 rintro e w' ⟨g,rfl,hg,hN,hb⟩
 have hT1:∀t∈[(⟨[p0,p1,p2,p3,p4,p5,p6,p7],c⟩:Tm)],IsTm t:=by
  intro t ht;obtain rfl:t=⟨[p0,p1,p2,p3,p4,p5,p6,p7],c⟩:=(by simpa using ht);exact ⟨HM.out,by dsimp only;omega,by dsimp only;omega⟩
 exact ⟨g,rfl,hg,Terms.of_own (ts:=[⟨[p0,p1,p2,p3,p4,p5,p6,p7],c⟩]) (t:=94) hN hT1 rfl,hb⟩
end Go.Proofs.YtdppjlndcacfnaaGreat
