
import Derived.Test.YtdppjlndcacfnaaGreatAppC
import Derived.Test.YtdppjlndcacfnaaGreatAppT
namespace Go.Proofs.YtdppjlndcacfnaaGreat
set_option maxRecDepth 100000
open Go.RowKit Go.Deep
theorem OwnF.frmsB {w:World} {lo hi n:Nat} {a:Option Addr} {V:List (List Tm)} (h:OwnF w lo hi a n V) (hL:∀ts∈V,(ts.length:Int)≤4000000):Frms w a n V:=
 ⟨h.1,fun hn=>by
  obtain ⟨g,R,rfl,h2,h3,h4,h5,h7⟩:=h.2 hn;obtain ⟨os,ho,-⟩:=h4.own;refine ⟨g,0,rfl,ho.lt,fun i ts hi=>?_⟩;obtain ⟨r,hr⟩:=h.at_ h4 hi;have hT:=h7 i r ts hr hi;refine ⟨r.a,r.m,r.c,?_,hT,?_⟩
  · rw [Nat.zero_add];exact h4.row hr
  · have:=hL ts (List.mem_of_getElem? hi);have:=hT.len
    omega⟩
theorem l09Sign_c (k m : Int) (w : World) (hk : 0 ≤ k) (hk2 : k ≤ 12) (hm : 0 ≤ m) (hm2 : m ≤ 12) :
    Calls Tryz.prog 32 #[.int .i64 k,.int .i64 m] w fun e w'=>e=.returned (.int .i64 (sg9 k m))∧Below w.heap.size w w':=by
 have hp:0≤k * m:=Int.mul_nonneg hk hm
 have hq:k * m≤12 * 12:=Int.mul_le_mul hk2 hm2 hm (by omega)
 have HW:Hid (IntKind.i64.wrap (k * m)=k * m):=Lib.hid (by rw [IntKind.wrap_i64];omega)
 obtain ⟨q,hqe⟩:∃q,k * m=q:=⟨_,rfl⟩
 have HQ:=Lib.hid hqe
 have hwr:=HW.out
 rw [hqe] at hp hq hwr
 have htm:q.tmod 2=q % 2:=Int.tmod_eq_emod_of_nonneg hp
 have hwq:IntKind.i64.wrap (q % 2)=q % 2:=by rw [IntKind.wrap_i64];omega
 have hsg:sg9 k m=if q % 2=0 then 10006 else 1:=by rw [sg9,HQ.out]
 by_cases hz:q % 2=0
 · rw [if_pos hz] at hsg;have HS:=Lib.hid hsg;clear hsg;go_enter Tryz.func32,Tryz.ntmps32
   go_wp2_with fail
   go_ret
   exact ⟨by rw [HS.out];rfl,Below.refl _ _⟩
 · rw [if_neg hz] at hsg;have HS:=Lib.hid hsg;clear hsg;go_enter Tryz.func32,Tryz.ntmps32
   go_wp2_with fail
   go_ret
   exact ⟨by rw [HS.out];rfl,Below.refl _ _⟩
set_option maxHeartbeats 8000000 in
theorem BracketOf_s {w : World} {da : Option Addr} {dn : Nat} {zs : List Int} {a : Option Addr} {n : Nat} {ims : List (List Tm)} {a1 : Option Addr} {n1 : Nat} {gss : List (List Tm)} {a2 : Option Addr} {n2 : Nat} {hss : List (List Tm)} (dc c : Nat) (k : Int) (c1 : Nat) (k2 : Int) (c2 : Nat) (hd : Ints w da dn zs) (hdn : dn ≤ 1048576) (hF : Frms w a n ims) (hn : n ≤ 1048576) (hL : ∀ im ∈ ims, (im.length : Int) ≤ 1048576) (hF1 : Frms w a1 n1 gss) (hn1 : n1 ≤ 1048576) (hL1 : ∀ im ∈ gss, (im.length : Int) ≤ 1048576) (hF2 : Frms w a2 n2 hss) (hn2 : n2 ≤ 1048576) (hL2 : ∀ im ∈ hss, (im.length : Int) ≤ 1048576) (hT1 : ∀ ts ∈ gss, ∀ t ∈ ts, IsTm t) (hT2 : ∀ ts ∈ hss, ∀ t ∈ ts, IsTm t) :
    Calls Tryz.prog 9 #[.agg #[.slice da dn dc,.slice a n c],.agg #[.int .i64 k,.slice a1 n1 c1],.agg #[.int .i64 k2,.slice a2 n2 c2]] w fun e w'=>∃rb bn bc,e=.returned (.tuple #[.agg #[.int .i64 (br9D zs ims k gss k2 hss),.slice rb bn bc],.int .i64 (br9E zs ims k gss k2 hss)])∧OwnF w' w.heap.size w'.heap.size rb bn (br9I zs ims k gss k2 hss)∧Below w.heap.size w w':=by
 obtain ⟨ti,tz,hti,htz,hts,htb,htzs⟩:=Tryz.info_formA
 have HI:=Lib.hid hti
 have HZ:=Lib.hid htz
 have HSz:=Lib.hid hts
 have HBt:=Lib.hid htb
 have HZs:=Lib.hid htzs
 clear hti htz hts htb htzs
 have HLL:=Lib.hid hL
 have HLL1:=Lib.hid hL1
 have HLL2:=Lib.hid hL2
 have HT1:=Lib.hid hT1
 have HT2:=Lib.hid hT2
 have HDL:=Lib.hid hd.len
 have HD:=Lib.hid hd
 have HF:=Lib.hid hF
 have HF1:=Lib.hid hF1
 have HF2:=Lib.hid hF2
 clear hL hL1 hL2 hT1 hT2
 have hA:=(((Own.new w 36 #[.slice da dn dc,.slice a n c]).alloc (.cells #[.int .i64 k,.slice a1 n1 c1] 32)).alloc (.cells #[.int .i64 k2,.slice a2 n2 c2] 32)).alloc (.cells #[.int .i64 0,.slice none 0 0] 32)
 have hS:=((Own.new (w.alloc (.cells #[.slice da dn dc,.slice a n c] 36)) 32 #[.int .i64 k,.slice a1 n1 c1]).alloc (.cells #[.int .i64 k2,.slice a2 n2 c2] 32)).alloc (.cells #[.int .i64 0,.slice none 0 0] 32)
 have hT:=(Own.new ((w.alloc (.cells #[.slice da dn dc,.slice a n c] 36)).alloc (.cells #[.int .i64 k,.slice a1 n1 c1] 32)) 32 #[.int .i64 k2,.slice a2 n2 c2]).alloc (.cells #[.int .i64 0,.slice none 0 0] 32)
 have hR:=Own.new (((w.alloc (.cells #[.slice da dn dc,.slice a n c] 36)).alloc (.cells #[.int .i64 k,.slice a1 n1 c1] 32)).alloc (.cells #[.int .i64 k2,.slice a2 n2 c2] 32)) 32 #[.int .i64 0,.slice none 0 0]
 simp only [sAl] at hS hT hR
 have hb:=bTn (bTn (bTn (bA1 w (.cells #[.slice da dn dc,.slice a n c] 36)) (bA1 _ (.cells #[.int .i64 k,.slice a1 n1 c1] 32))) (bA1 _ (.cells #[.int .i64 k2,.slice a2 n2 c2] 32))) (bA1 _ (.cells #[.int .i64 0,.slice none 0 0] 32))
 go_enter Tryz.func9,Tryz.ntmps9
 go_upto_region 1 with fail
 generalize (((w.alloc (.cells #[.slice da dn dc,.slice a n c] 36)).alloc (.cells #[.int .i64 k,.slice a1 n1 c1] 32)).alloc (.cells #[.int .i64 k2,.slice a2 n2 c2] 32)).alloc (.cells #[.int .i64 0,.slice none 0 0] 32)=w0 at *
 generalize hg3:w.heap.size+1+1+1=g3 at *
 generalize hg2:w.heap.size+1+1=g2 at *
 generalize hg1:w.heap.size+1=g1 at *
 generalize hg0:w.heap.size=g0 at *
 have HG:=Lib.hid hg0
 have e1:=hg1
 have e2:=hg2
 have e3:=hg3
 clear hg0 hg1 hg2 hg3
 cases hd1:derB zs ims k gss
 · have H1:=Lib.hid hd1;have HE:=Lib.hid (br9_1 (k:=k) (k2:=k2) (hss:=hss) (Or.inl hd1));clear hd1;have c0:=hA.cell 0;have c1':=hA.cell 1;have s0:=hS.cell 0;have s1:=hS.cell 1;have t0:=hT.cell 0;have t1:=hT.cell 1;go_wp2_with fail
   refine (l09Is_c dc c k c1 (HD.out.keep (show Below w.heap.size w _ by rw [HG.out];exact hb)) hdn (HF.out.keep (show Below w.heap.size w _ by rw [HG.out];exact hb)) hn HLL.out (HF1.out.keep (show Below w.heap.size w _ by rw [HG.out];exact hb)) hn1 HLL1.out).mono ?_;rintro e wx1 ⟨rfl,hbX⟩;rw [H1.out];clear c0 c1' s0 s1 t0 t1;replace hb:=bT' hb hbX (by have:=hA.lt;omega);replace hA:=hA.keep hbX hA.lt;replace hS:=hS.keep hbX hS.lt;replace hT:=hT.keep hbX hT.lt;replace hR:=hR.keep hbX hR.lt;clear hbX;have r0:=hR.cell 0;have r1:=hR.cell 1;have f0:=hR.frozen 0;have f1:=hR.frozen 1;go_wp2_with fail
   have q:=(hR.set 0 (.int .i64 0)).set 1 (.slice none 0 0);have qb:=(hb.setCell (p:=⟨g3,0,none⟩) (by dsimp only;omega) (.int .i64 0)).setCell (p:=⟨g3,1,none⟩) (by dsimp only;omega) (.slice none 0 0);exact bodyPost_ret (results_row2 rfl _ _ g3 32 #[.int .i64 0,.slice none 0 0] (0,0) _ rfl q Tryz.underlying32 rfl Tryz.info_der) rfl ⟨none,0,0,by rw [HE.out.1,HE.out.2.1];rfl,by rw [HE.out.2.2];exact OwnF.none_,by rw [HG.out];exact qb⟩
 · have H1:=Lib.hid hd1;cases hd2:derB zs ims k2 hss
   · have H2:=Lib.hid hd2;have HE:=Lib.hid (br9_1 (k:=k) (k2:=k2) (gss:=gss) (Or.inr hd2));clear hd1 hd2;have c0:=hA.cell 0;have c1':=hA.cell 1;have s0:=hS.cell 0;have s1:=hS.cell 1;have t0:=hT.cell 0;have t1:=hT.cell 1;go_wp2_with fail
     refine (l09Is_c dc c k c1 (HD.out.keep (show Below w.heap.size w _ by rw [HG.out];exact hb)) hdn (HF.out.keep (show Below w.heap.size w _ by rw [HG.out];exact hb)) hn HLL.out (HF1.out.keep (show Below w.heap.size w _ by rw [HG.out];exact hb)) hn1 HLL1.out).mono ?_;rintro e wx1 ⟨rfl,hbX⟩;rw [H1.out];clear c0 c1' s0 s1 t0 t1;replace hb:=bT' hb hbX (by have:=hA.lt;omega);replace hA:=hA.keep hbX hA.lt;replace hS:=hS.keep hbX hS.lt;replace hT:=hT.keep hbX hT.lt;replace hR:=hR.keep hbX hR.lt;clear hbX;have c0:=hA.cell 0;have c1':=hA.cell 1;have s0:=hS.cell 0;have s1:=hS.cell 1;have t0:=hT.cell 0;have t1:=hT.cell 1;go_wp2_with fail
     refine (l09Is_c dc c k2 c2 (HD.out.keep (show Below w.heap.size w _ by rw [HG.out];exact hb)) hdn (HF.out.keep (show Below w.heap.size w _ by rw [HG.out];exact hb)) hn HLL.out (HF2.out.keep (show Below w.heap.size w _ by rw [HG.out];exact hb)) hn2 HLL2.out).mono ?_;rintro e wx2 ⟨rfl,hbX⟩;rw [H2.out];clear c0 c1' s0 s1 t0 t1;replace hb:=bT' hb hbX (by have:=hA.lt;omega);replace hA:=hA.keep hbX hA.lt;replace hS:=hS.keep hbX hS.lt;replace hT:=hT.keep hbX hT.lt;replace hR:=hR.keep hbX hR.lt;clear hbX;have r0:=hR.cell 0;have r1:=hR.cell 1;have f0:=hR.frozen 0;have f1:=hR.frozen 1;go_wp2_with fail
     have q:=(hR.set 0 (.int .i64 0)).set 1 (.slice none 0 0);have qb:=(hb.setCell (p:=⟨g3,0,none⟩) (by dsimp only;omega) (.int .i64 0)).setCell (p:=⟨g3,1,none⟩) (by dsimp only;omega) (.slice none 0 0);exact bodyPost_ret (results_row2 rfl _ _ g3 32 #[.int .i64 0,.slice none 0 0] (0,0) _ rfl q Tryz.underlying32 rfl Tryz.info_der) rfl ⟨none,0,0,by rw [HE.out.1,HE.out.2.1];rfl,by rw [HE.out.2.2];exact OwnF.none_,by rw [HG.out];exact qb⟩
   · have H2:=Lib.hid hd2;clear hd1 hd2;have c0:=hA.cell 0;have c1':=hA.cell 1;have s0:=hS.cell 0;have s1:=hS.cell 1;have t0:=hT.cell 0;have t1:=hT.cell 1;go_wp2_with fail
     refine (l09Is_c dc c k c1 (HD.out.keep (show Below w.heap.size w _ by rw [HG.out];exact hb)) hdn (HF.out.keep (show Below w.heap.size w _ by rw [HG.out];exact hb)) hn HLL.out (HF1.out.keep (show Below w.heap.size w _ by rw [HG.out];exact hb)) hn1 HLL1.out).mono ?_;rintro e wx1 ⟨rfl,hbX⟩;rw [H1.out];clear c0 c1' s0 s1 t0 t1;replace hb:=bT' hb hbX (by have:=hA.lt;omega);replace hA:=hA.keep hbX hA.lt;replace hS:=hS.keep hbX hS.lt;replace hT:=hT.keep hbX hT.lt;replace hR:=hR.keep hbX hR.lt;clear hbX;have c0:=hA.cell 0;have c1':=hA.cell 1;have s0:=hS.cell 0;have s1:=hS.cell 1;have t0:=hT.cell 0;have t1:=hT.cell 1;go_wp2_with fail
     refine (l09Is_c dc c k2 c2 (HD.out.keep (show Below w.heap.size w _ by rw [HG.out];exact hb)) hdn (HF.out.keep (show Below w.heap.size w _ by rw [HG.out];exact hb)) hn HLL.out (HF2.out.keep (show Below w.heap.size w _ by rw [HG.out];exact hb)) hn2 HLL2.out).mono ?_;rintro e w' ⟨rfl,hbX⟩;rw [H2.out];clear c0 c1' s0 s1 t0 t1;replace hb:=bT' hb hbX (by have:=hA.lt;omega);replace hA:=hA.keep hbX hA.lt;replace hS:=hS.keep hbX hS.lt;replace hT:=hT.keep hbX hT.lt;replace hR:=hR.keep hbX hR.lt;clear hbX;have hl1:=derB_len H1.out;have hl2:=derB_len H2.out;obtain rfl:dn=n1:=(by have:=HF1.out.len;have:=HDL.out;omega);obtain rfl:dn=n2:=(by have:=HF2.out.len;have:=HDL.out;omega);have h8:dn≤8:=(by have:=derB_len8 H1.out;have:=HDL.out;omega);obtain ⟨hk0,hk12⟩:=derB_k H1.out;obtain ⟨hm0,hm12⟩:=derB_k H2.out;have HWR:Hid (IntKind.i64.wrap (k+k2)=k+k2):=Lib.hid (by rw [IntKind.wrap_i64];omega);have HF400a:=Lib.hid (fun (i:Nat) ts (hi:gss[i]? = some ts)=>derB_form H1.out hi);have HF400b:=Lib.hid (fun (i:Nat) ts (hi:hss[i]? = some ts)=>derB_form H2.out hi);have HAO1:=Lib.hid (derB_ok H1.out HT1.out);have HAO2:=Lib.hid (derB_ok H2.out HT2.out);have HMI:=Lib.hid (degsOk_mild (derB_degs H1.out));clear hl1 hl2;obtain ⟨D,hD⟩:∃D,k+k2=D:=⟨_,rfl⟩;have hwr:=HWR.out;rw [hD] at hwr;have HDE:=Lib.hid hD;have hO:=Own.new w' 32 #[.int .i64 D,.slice none 0 0];have hbX:=bA1 w' (.cells #[.int .i64 D,.slice none 0 0] 32);have hlR:=hR.lt;have s0:=hS.cell 0;have t0:=hT.cell 0;go_upto_region 4 with fail
     clear s0 t0 hwr hD;replace hb:=bT' hb hbX (by have:=hA.lt;omega);replace hA:=hA.keep hbX hA.lt;replace hS:=hS.keep hbX hS.lt;replace hT:=hT.keep hbX hT.lt;replace hR:=hR.keep hbX hR.lt;clear hbX;generalize w'.alloc (.cells #[.int .i64 D,.slice none 0 0] 32)=w3 at *;generalize w'.heap.size=gX at *;go_upto_region 5 with fail
     go_loopw [9] (fun y wr=>∃(p:Nat) (va0:Option Addr) (vc0:Nat) (vs:List Value),p≤dn∧y=.int .i64 p∧Below g0 w wr∧Own wr g0 36 #[.slice da dn dc,.slice a n c]∧Own wr g1 32 #[.int .i64 k,.slice a1 dn c1]∧Own wr g2 32 #[.int .i64 k2,.slice a2 dn c2]∧Own wr g3 32 #[.int .i64 0,.slice none 0 0]∧Own wr gX 32 #[.int .i64 D,.slice va0 p vc0]∧wr.ownsRow g0 59 1 (.slice va0 p vc0) p vs∧Hid (Vals wr g0 vs (brs (brAt zs k gss k2 hss) p))) (fun y _=>dn - (intOf y).toNat)
     case atStart=>exact ⟨0,none,0,[],Nat.zero_le _,rfl,hb,hA,hS,hT,hR,hO,World.ownsRow_nil _ _ _ _,Lib.hid (Vals.nil _ _)⟩
     case round=>
      clear hb hA hS hT hR hO;obtain ⟨p,va0,vc0,vs,hp,rfl,hb,hA,hS,hT,hR,hO,hI,hW⟩:=hrel;have HIR:=Lib.hid hI;clear hI;have s1:=hS.cell 1;by_cases hpn:p<dn
      · obtain ⟨b1,o1,fs,x1,m1,d1,rfl,hl1,hc1,hTa,hm1,hx1⟩:=HF1.out.at_ hpn;obtain ⟨b2,o2,gs,x2,m2,d2,rfl,hl2,hc2,hTb,hm2,hx2⟩:=HF2.out.at_ hpn;have hga:w.heap.size≤g0:=Nat.le_of_eq HG.out;have hgb:g0≤w.heap.size:=Nat.le_of_eq HG.out.symm;have fa:=HF400a.out p fs hx1.out;have fb:=HF400b.out p gs hx2.out;have HFa:=Lib.hid (isForm_f fa);have HFb:=Lib.hid (isForm_f fb);have HOKa:=Lib.hid (isForm_fit fa);have HOKb:=Lib.hid (isForm_fit fb);have hm1':m1≤400:=(by have:=isForm_400 fa;have:=hTa.len;omega);have hm2':m2≤400:=(by have:=isForm_400 fb;have:=hTb.len;omega);have e1g:gss.getD p []=fs:=(by rw [List.getD_eq_getElem?_getD,hx1.out];rfl);have e2g:hss.getD p []=gs:=(by rw [List.getD_eq_getElem?_getD,hx2.out];rfl);have HS1:=Lib.hid (ap9_at HAO1.out HAO2.out k p);have HS2:=Lib.hid (ap9_at HAO2.out HAO1.out k2 p);rw [e2g] at HS1;rw [e1g] at HS2;have HSM:Hid (brAt zs k gss k2 hss p=addT (sg9 k k2) (applyT zs gss k [] gs) (applyT zs hss k2 [] fs)):=Lib.hid (by rw [brAt,two9,e1g,e2g]);have HY1T:=Lib.hid HS1.out.1.tm;have HY2T:=Lib.hid HS2.out.1.tm;have HY1L:=Lib.hid HS1.out.1.len;have HY2L:=Lib.hid HS2.out.1.len;have HY1B:=Lib.hid HS1.out.1.bd;have HY2B:=Lib.hid HS2.out.1.bd;have HC1:=Lib.hid hc1;have HC2:=Lib.hid hc2;have HTa:=Lib.hid hTa;have HTb:=Lib.hid hTb;clear hc1 hc2 hTa hTb fa fb e1g e2g;have hp0:(0:Int)≤(p:Int):=(by omega);have hpd:(p:Int)<(dn:Int):=(by omega);go_upto_region 7 with fail
        clear s1;replace hA:Own wr.drew g0 36 #[.slice da dn dc,.slice a n c]:=hA;replace hS:Own wr.drew g1 32 #[.int .i64 k,.slice (some ⟨b1,o1,none⟩) dn c1]:=hS;replace hT:Own wr.drew g2 32 #[.int .i64 k2,.slice (some ⟨b2,o2,none⟩) dn c2]:=hT;replace hR:Own wr.drew g3 32 #[.int .i64 0,.slice none 0 0]:=hR;replace hO:Own wr.drew gX 32 #[.int .i64 D,.slice va0 p vc0]:=hO;have hI:wr.drew.ownsRow g0 59 1 (.slice va0 p vc0) p vs:=HIR.out;replace hW:Hid (Vals wr.drew g0 vs (brs (brAt zs k gss k2 hss) p)):=Lib.hid (hW.out.keep ((Below.refl _ _).drew));replace hb:Below w.heap.size w wr.drew:=(by rw [HG.out];exact hb.drew);clear HIR;refine wp_region_held_drew (S:=(fun w'=>w'.cell? ⟨g0,0,none⟩=some (.slice da dn dc)∧w'.cell? ⟨g0,1,none⟩=some (.slice a n c)∧w'.cell? ⟨g1,0,none⟩=some (.int .i64 k)∧w'.cell? ⟨g1,1,none⟩=some (.slice (some ⟨b1,o1,none⟩) dn c1)∧w'.cell? ⟨g2,0,none⟩=some (.int .i64 k2)∧w'.cell? ⟨g2,1,none⟩=some (.slice (some ⟨b2,o2,none⟩) dn c2)∧w'.cell? ⟨b1,o1+p,none⟩=some (.slice x1 m1 d1)∧w'.cell? ⟨b2,o2+p,none⟩=some (.slice x2 m2 d2))) (by kernel_rfl) ?_ (fun _=>?_)
        · ((try dsimp only);(exact ⟨hA.cell 0,hA.cell 1,hS.cell 0,hS.cell 1,hT.cell 0,hT.cell 1,(World.cell?_of_block (a:=⟨b1,o1+p,none⟩) (hb.block b1 hl1)).trans HC1.out,(World.cell?_of_block (a:=⟨b2,o2+p,none⟩) (hb.block b2 hl2)).trans HC2.out⟩))
        generalize wr.drew=W0d at *;refine hdT 0 ?_;refine hdT 2 ?_;refine hdT 3 ?_;refine hdT 4 ?_;refine hdT 5 ?_;refine hdT 6 ?_;refine hdT 7 ?_;refine hdT 8 ?_;refine hdT 10 ?_;refine hdT 11 ?_;refine hdT 12 ?_;refine hdT 13 ?_;refine hdT 14 ?_;refine hdT 15 ?_;refine hdT 16 ?_;refine hdT 18 ?_;refine hdT 19 ?_;refine hdT 20 ?_;refine hdT 21 ?_;refine wpAnyH_ready (rs:=[1,9]) (by kernel_rfl) (by simp) ?_;refine AllReadyH.cons (hdAt (i:=1) rfl) (fun K hK=>?_) (AllReadyH.cons (hdAt (i:=9) rfl) (fun K hK=>?_) AllReadyH.nil)
        · skip
          have cO1:=hO.cell 1
          (go_simp;try go_wp2_with fail)
          refine hK.out _ _ ?_ (fun _=>?_)
          · ((try dsimp only);(exact ⟨hA.cell 0,hA.cell 1,hS.cell 0,hS.cell 1,hT.cell 0,hT.cell 1,(World.cell?_of_block (a:=⟨b1,o1+p,none⟩) (hb.block b1 hl1)).trans HC1.out,(World.cell?_of_block (a:=⟨b2,o2+p,none⟩) (hb.block b2 hl2)).trans HC2.out⟩))
          clear hK K
          (try simp only [Act.put,pA,pB,pC])
          refine hdC 9 (fun K hK=>?_)
          (go_simp;(go_at_call 31;refine (l09Apply_c dc c k c1 d2 (HD.out.keep hb) (HF1.out.keep hb) HAO1.out HMI.out ⟨hk0,hk12⟩ (HTb.out.keep hb) HOKb.out HFb.out hm2').mono ?_;rintro e W1 ⟨v1,rfl,hY1,hbX⟩;obtain ⟨y1a,y1n,q1,rfl⟩:=OwnR.isSlice hY1);go_wp2_with fail)
          replace hA:=hA.keep hbX hA.lt;replace hS:=hS.keep hbX hS.lt;replace hT:=hT.keep hbX hT.lt;replace hR:=hR.keep hbX hR.lt;replace hI:=row_keep hI hbX;replace hW:=Lib.hid (hW.out.keep hbX);replace hb:=bT' hb hbX hb.size;replace hO:=hO.keep hbX hO.lt;have hwk:g0≤_:=Nat.le_of_lt hA.lt;clear hwk;clear hbX;refine hK.out _ _ ?_ (fun _=>?_)
          · ((try dsimp only);(exact ⟨hA.cell 0,hA.cell 1,hS.cell 0,hS.cell 1,hT.cell 0,hT.cell 1,(World.cell?_of_block (a:=⟨b1,o1+p,none⟩) (hb.block b1 hl1)).trans HC1.out,(World.cell?_of_block (a:=⟨b2,o2+p,none⟩) (hb.block b2 hl2)).trans HC2.out⟩))
          clear hK K
          (try simp only [Act.put,pA,pB,pC])
          refine hdC 17 (fun K hK=>?_)
          (go_simp;(go_at_call 31;refine (l09Apply_c dc c k2 c2 d1 (HD.out.keep hb) (HF2.out.keep hb) HAO2.out HMI.out ⟨hm0,hm12⟩ (HTa.out.keep hb) HOKa.out HFa.out hm1').mono ?_;rintro e W2 ⟨v2,rfl,hY2,hbX⟩;obtain ⟨y2a,y2n,q2,rfl⟩:=OwnR.isSlice hY2);go_wp2_with fail)
          replace hA:=hA.keep hbX hA.lt;replace hS:=hS.keep hbX hS.lt;replace hT:=hT.keep hbX hT.lt;replace hR:=hR.keep hbX hR.lt;replace hI:=row_keep hI hbX;replace hW:=Lib.hid (hW.out.keep hbX);replace hb:=bT' hb hbX hb.size;replace hO:=hO.keep hbX hO.lt;replace hY1:=hY1.keep hbX;have hwk:g0≤_:=Nat.le_of_lt hA.lt;clear hwk;clear hbX;refine hK.out _ _ ?_ (fun _=>?_)
          · ((try dsimp only);(exact ⟨hA.cell 0,hA.cell 1,hS.cell 0,hS.cell 1,hT.cell 0,hT.cell 1,(World.cell?_of_block (a:=⟨b1,o1+p,none⟩) (hb.block b1 hl1)).trans HC1.out,(World.cell?_of_block (a:=⟨b2,o2+p,none⟩) (hb.block b2 hl2)).trans HC2.out⟩))
          clear hK K
          (try simp only [Act.put,pA,pB,pC])
          refine hdC 22 (fun K hK=>?_)
          (go_simp;(go_at_call 32;refine (l09Sign_c k k2 _ (by omega) (by omega) (by omega) (by omega)).mono ?_;rintro e W3 ⟨rfl,hbX⟩);go_wp2_with fail)
          replace hA:=hA.keep hbX hA.lt;replace hS:=hS.keep hbX hS.lt;replace hT:=hT.keep hbX hT.lt;replace hR:=hR.keep hbX hR.lt;replace hI:=row_keep hI hbX;replace hW:=Lib.hid (hW.out.keep hbX);replace hb:=bT' hb hbX hb.size;replace hO:=hO.keep hbX hO.lt;replace hY1:=hY1.keep hbX;replace hY2:=hY2.keep hbX;clear hbX;refine hK.out _ _ ?_ (fun _=>?_)
          · ((try dsimp only);(exact ⟨hA.cell 0,hA.cell 1,hS.cell 0,hS.cell 1,hT.cell 0,hT.cell 1,(World.cell?_of_block (a:=⟨b1,o1+p,none⟩) (hb.block b1 hl1)).trans HC1.out,(World.cell?_of_block (a:=⟨b2,o2+p,none⟩) (hb.block b2 hl2)).trans HC2.out⟩))
          clear hK K
          (try simp only [Act.put,pA,pB,pC])
          refine hdC 23 (fun K hK=>?_);have HLT:=Lib.hid hW.out.lt;have hbs:g0≤_:=Nat.le_of_lt hA.lt;have HYL:Hid (y1n+y2n≤4000000):=Lib.hid (by have:=(OwnR.read hY1 HY1T.out).len;have:=(OwnR.read hY2 HY2T.out).len;have:=HY1L.out;have:=HY2L.out;omega)
          (go_simp;(go_at_call 30;refine (l01Add_c q1 q2 (sg9 k k2) (sg9_rg k k2).1 (sg9_rg k k2).2 (OwnR.read hY1 HY1T.out) (OwnR.read hY2 HY2T.out) HYL.out HY1B.out HY2B.out).mono ?_;rintro e W4 ⟨v,rfl,hV0,hbX⟩);go_wp2_with fail)
          replace hA:=hA.keep hbX hA.lt;replace hS:=hS.keep hbX hS.lt;replace hT:=hT.keep hbX hT.lt;replace hR:=hR.keep hbX hR.lt;replace hI:=row_keep hI hbX;replace hW:=Lib.hid (hW.out.keep hbX);replace hb:=bT' hb hbX hb.size;replace hO:=hO.keep hbX hO.lt;replace hY1:=hY1.keep hbX;replace hY2:=hY2.keep hbX;have hV:=hV0.r;clear hV0 hY1 hY2 HYL;obtain ⟨va,vn,vc,rfl⟩:=hV.isSlice;replace hW:=Lib.hid (hW.out.snoc HLT.out hbs hV);have HON:Hid (∀u∈([Value.slice va vn vc]:List Value),u.oneCell'=true):=Lib.hid (by simp [Value.oneCell']);clear HLT hbs hV;clear hbX;refine hK.out _ _ ?_ (fun _=>?_)
          · ((try dsimp only);(exact ⟨hA.cell 0,hA.cell 1,hS.cell 0,hS.cell 1,hT.cell 0,hT.cell 1,(World.cell?_of_block (a:=⟨b1,o1+p,none⟩) (hb.block b1 hl1)).trans HC1.out,(World.cell?_of_block (a:=⟨b2,o2+p,none⟩) (hb.block b2 hl2)).trans HC2.out⟩))
          clear hK K
          (try simp only [Act.put,pA,pB,pC])
          refine hdC 24 (fun K hK=>?_)
          (go_simp;try go_wp2_with fail)
          have hN:=Own.new W4 59 #[.slice va vn vc];have hbX:=bA1 W4 (.cells #[.slice va vn vc] 59);replace hA:=hA.keep hbX hA.lt;replace hS:=hS.keep hbX hS.lt;replace hT:=hT.keep hbX hT.lt;replace hR:=hR.keep hbX hR.lt;replace hI:=row_keep hI hbX;replace hW:=Lib.hid (hW.out.keep hbX);replace hb:=bT' hb hbX hb.size;replace hO:=hO.keep hbX hO.lt;generalize W4.alloc (.cells #[.slice va vn vc] 59)=W5 at *;generalize hhNg:W4.heap.size=ghN at *;clear hbX hhNg;refine hK.out _ _ ?_ (fun _=>?_)
          · ((try dsimp only);(exact ⟨hA.cell 0,hA.cell 1,hS.cell 0,hS.cell 1,hT.cell 0,hT.cell 1,(World.cell?_of_block (a:=⟨b1,o1+p,none⟩) (hb.block b1 hl1)).trans HC1.out,(World.cell?_of_block (a:=⟨b2,o2+p,none⟩) (hb.block b2 hl2)).trans HC2.out⟩))
          clear hK K
          (try simp only [Act.put,pA,pB,pC])
          refine hdC 25 (fun K hK=>?_);have HNW:Hid (∀j u,([Value.slice va vn vc]:List Value)[j]? = some u→W5.cell? ((⟨ghN,0,none⟩:Addr).add j)=some u):=Lib.hid (fun j u hu=>by rw [Addr.add_mid];exact hN.range j u hu);have HRW:=Lib.hid hI;have hszW:g0≤W5.heap.size:=(by have:=hA.lt;omega);rw [if_pos (by rfl)];refine wp_append_own_wide _ (.tmp 35) (.tmp 58) 30 rfl g0 59 ti tz 1 24 Tryz.underlying30 HI.out HZ.out HSz.out HBt.out HZs.out (by omega) (.slice va0 p vc0) p _ rfl HRW.out ⟨ghN,0,none⟩ 1 1 [Value.slice va vn vc] rfl rfl HNW.out HON.out (by simp only [maxLen];omega) (by omega) hszW (fun v' W6 h2 h3 h4=>?_);obtain ⟨xa9,xc9,rfl⟩:=row_slice h2;replace hA:=hA.grown h3 (own_ne_row hA HRW.out (by decide));replace hS:=hS.grown h3 (own_ne_row hS HRW.out (by decide));replace hT:=hT.grown h3 (own_ne_row hT HRW.out (by decide));replace hR:=hR.grown h3 (own_ne_row hR HRW.out (by decide));replace hW:=Lib.hid (hW.out.grown h3 (fun q e=>row_own HRW.out e));replace hb:=grown_below hb h3 (fun j e=>by have:=(HRW.out.lt j e).1;omega) hb.size;replace hO:=hO.grown h3 (own_ne_row hO HRW.out (by decide));have H2:=Lib.hid h2;clear h2 h4 hI hN;clear HNW HRW hszW h3;refine hK.out _ _ ?_ (fun _=>?_)
          · ((try dsimp only);(exact ⟨hA.cell 0,hA.cell 1,hS.cell 0,hS.cell 1,hT.cell 0,hT.cell 1,(World.cell?_of_block (a:=⟨b1,o1+p,none⟩) (hb.block b1 hl1)).trans HC1.out,(World.cell?_of_block (a:=⟨b2,o2+p,none⟩) (hb.block b2 hl2)).trans HC2.out⟩))
          clear hK K
          (try simp only [Act.put,pA,pB,pC])
          refine hdT 26 ?_;refine hdC 27 (fun K hK=>?_);have cO2:=hO.cell 1;have fO2:=hO.frozen 1
          (go_simp;go_wp2_with fail)
          replace hA:=hA.far (p:=⟨gX,1,none⟩) (by dsimp only;omega) (.slice xa9 (p+1) xc9);replace hS:=hS.far (p:=⟨gX,1,none⟩) (by dsimp only;omega) (.slice xa9 (p+1) xc9);replace hT:=hT.far (p:=⟨gX,1,none⟩) (by dsimp only;omega) (.slice xa9 (p+1) xc9);replace hR:=hR.far (p:=⟨gX,1,none⟩) (by dsimp only;omega) (.slice xa9 (p+1) xc9);have H5:=Lib.hid (row_far9 (p:=⟨gX,1,none⟩) H2.out hO (by decide) (.slice xa9 (p+1) xc9));replace hW:=Lib.hid (vals_far9 (p:=⟨gX,1,none⟩) hW.out hO (by decide) (.slice xa9 (p+1) xc9));replace hb:=hb.setCell (p:=⟨gX,1,none⟩) (by dsimp only;omega) (.slice xa9 (p+1) xc9);replace hO:=hO.set 1 (.slice xa9 (p+1) xc9);generalize W6.setCell ⟨gX,1,none⟩ (.slice xa9 (p+1) xc9)=W7 at *;refine hK.out _ _ ?_ (fun _=>?_)
          · ((try dsimp only);(exact ⟨hA.cell 0,hA.cell 1,hS.cell 0,hS.cell 1,hT.cell 0,hT.cell 1,(World.cell?_of_block (a:=⟨b1,o1+p,none⟩) (hb.block b1 hl1)).trans HC1.out,(World.cell?_of_block (a:=⟨b2,o2+p,none⟩) (hb.block b2 hl2)).trans HC2.out⟩))
          clear hK K
          (try simp only [Act.put,pA,pB,pC])
          refine wpAnyH_done (by kernel_rfl) ?_ _;go_wp2_with fail
          go_roundw
          case rel=>exact ⟨p+1,xa9,xc9,vs++[.slice va vn vc],by omega,by go_num,by rw [←HG.out];exact hb,hA,hS,hT,hR,hO,H5.out,by rw [brs_succ,HSM.out];exact hW⟩
          case measure=>simp [intOf] <;> omega
        · skip
          (go_simp;(go_at_call 31;refine (l09Apply_c dc c k c1 d2 (HD.out.keep hb) (HF1.out.keep hb) HAO1.out HMI.out ⟨hk0,hk12⟩ (HTb.out.keep hb) HOKb.out HFb.out hm2').mono ?_;rintro e W8 ⟨v1,rfl,hY1,hbX⟩;obtain ⟨y1a,y1n,q1,rfl⟩:=OwnR.isSlice hY1);go_wp2_with fail)
          replace hA:=hA.keep hbX hA.lt;replace hS:=hS.keep hbX hS.lt;replace hT:=hT.keep hbX hT.lt;replace hR:=hR.keep hbX hR.lt;replace hI:=row_keep hI hbX;replace hW:=Lib.hid (hW.out.keep hbX);replace hb:=bT' hb hbX hb.size;replace hO:=hO.keep hbX hO.lt;have hwk:g0≤_:=Nat.le_of_lt hA.lt;clear hwk;clear hbX;refine hK.out _ _ ?_ (fun _=>?_)
          · ((try dsimp only);(exact ⟨hA.cell 0,hA.cell 1,hS.cell 0,hS.cell 1,hT.cell 0,hT.cell 1,(World.cell?_of_block (a:=⟨b1,o1+p,none⟩) (hb.block b1 hl1)).trans HC1.out,(World.cell?_of_block (a:=⟨b2,o2+p,none⟩) (hb.block b2 hl2)).trans HC2.out⟩))
          clear hK K
          (try simp only [Act.put,pA,pB,pC])
          refine wpAnyH_ready (rs:=[1,17]) (by kernel_rfl) (by simp) ?_;refine AllReadyH.cons (hdAt (i:=1) rfl) (fun K hK=>?_) (AllReadyH.cons (hdAt (i:=17) rfl) (fun K hK=>?_) AllReadyH.nil)
          · skip
            have cO1:=hO.cell 1
            (go_simp;try go_wp2_with fail)
            refine hK.out _ _ ?_ (fun _=>?_)
            · ((try dsimp only);(exact ⟨hA.cell 0,hA.cell 1,hS.cell 0,hS.cell 1,hT.cell 0,hT.cell 1,(World.cell?_of_block (a:=⟨b1,o1+p,none⟩) (hb.block b1 hl1)).trans HC1.out,(World.cell?_of_block (a:=⟨b2,o2+p,none⟩) (hb.block b2 hl2)).trans HC2.out⟩))
            clear hK K
            (try simp only [Act.put,pA,pB,pC])
            refine hdC 17 (fun K hK=>?_)
            (go_simp;(go_at_call 31;refine (l09Apply_c dc c k2 c2 d1 (HD.out.keep hb) (HF2.out.keep hb) HAO2.out HMI.out ⟨hm0,hm12⟩ (HTa.out.keep hb) HOKa.out HFa.out hm1').mono ?_;rintro e W9 ⟨v2,rfl,hY2,hbX⟩;obtain ⟨y2a,y2n,q2,rfl⟩:=OwnR.isSlice hY2);go_wp2_with fail)
            replace hA:=hA.keep hbX hA.lt;replace hS:=hS.keep hbX hS.lt;replace hT:=hT.keep hbX hT.lt;replace hR:=hR.keep hbX hR.lt;replace hI:=row_keep hI hbX;replace hW:=Lib.hid (hW.out.keep hbX);replace hb:=bT' hb hbX hb.size;replace hO:=hO.keep hbX hO.lt;replace hY1:=hY1.keep hbX;have hwk:g0≤_:=Nat.le_of_lt hA.lt;clear hwk;clear hbX;refine hK.out _ _ ?_ (fun _=>?_)
            · ((try dsimp only);(exact ⟨hA.cell 0,hA.cell 1,hS.cell 0,hS.cell 1,hT.cell 0,hT.cell 1,(World.cell?_of_block (a:=⟨b1,o1+p,none⟩) (hb.block b1 hl1)).trans HC1.out,(World.cell?_of_block (a:=⟨b2,o2+p,none⟩) (hb.block b2 hl2)).trans HC2.out⟩))
            clear hK K
            (try simp only [Act.put,pA,pB,pC])
            refine hdC 22 (fun K hK=>?_)
            (go_simp;(go_at_call 32;refine (l09Sign_c k k2 _ (by omega) (by omega) (by omega) (by omega)).mono ?_;rintro e W10 ⟨rfl,hbX⟩);go_wp2_with fail)
            replace hA:=hA.keep hbX hA.lt;replace hS:=hS.keep hbX hS.lt;replace hT:=hT.keep hbX hT.lt;replace hR:=hR.keep hbX hR.lt;replace hI:=row_keep hI hbX;replace hW:=Lib.hid (hW.out.keep hbX);replace hb:=bT' hb hbX hb.size;replace hO:=hO.keep hbX hO.lt;replace hY1:=hY1.keep hbX;replace hY2:=hY2.keep hbX;clear hbX;refine hK.out _ _ ?_ (fun _=>?_)
            · ((try dsimp only);(exact ⟨hA.cell 0,hA.cell 1,hS.cell 0,hS.cell 1,hT.cell 0,hT.cell 1,(World.cell?_of_block (a:=⟨b1,o1+p,none⟩) (hb.block b1 hl1)).trans HC1.out,(World.cell?_of_block (a:=⟨b2,o2+p,none⟩) (hb.block b2 hl2)).trans HC2.out⟩))
            clear hK K
            (try simp only [Act.put,pA,pB,pC])
            refine hdC 23 (fun K hK=>?_);have HLT:=Lib.hid hW.out.lt;have hbs:g0≤_:=Nat.le_of_lt hA.lt;have HYL:Hid (y1n+y2n≤4000000):=Lib.hid (by have:=(OwnR.read hY1 HY1T.out).len;have:=(OwnR.read hY2 HY2T.out).len;have:=HY1L.out;have:=HY2L.out;omega)
            (go_simp;(go_at_call 30;refine (l01Add_c q1 q2 (sg9 k k2) (sg9_rg k k2).1 (sg9_rg k k2).2 (OwnR.read hY1 HY1T.out) (OwnR.read hY2 HY2T.out) HYL.out HY1B.out HY2B.out).mono ?_;rintro e W11 ⟨v,rfl,hV0,hbX⟩);go_wp2_with fail)
            replace hA:=hA.keep hbX hA.lt;replace hS:=hS.keep hbX hS.lt;replace hT:=hT.keep hbX hT.lt;replace hR:=hR.keep hbX hR.lt;replace hI:=row_keep hI hbX;replace hW:=Lib.hid (hW.out.keep hbX);replace hb:=bT' hb hbX hb.size;replace hO:=hO.keep hbX hO.lt;replace hY1:=hY1.keep hbX;replace hY2:=hY2.keep hbX;have hV:=hV0.r;clear hV0 hY1 hY2 HYL;obtain ⟨va,vn,vc,rfl⟩:=hV.isSlice;replace hW:=Lib.hid (hW.out.snoc HLT.out hbs hV);have HON:Hid (∀u∈([Value.slice va vn vc]:List Value),u.oneCell'=true):=Lib.hid (by simp [Value.oneCell']);clear HLT hbs hV;clear hbX;refine hK.out _ _ ?_ (fun _=>?_)
            · ((try dsimp only);(exact ⟨hA.cell 0,hA.cell 1,hS.cell 0,hS.cell 1,hT.cell 0,hT.cell 1,(World.cell?_of_block (a:=⟨b1,o1+p,none⟩) (hb.block b1 hl1)).trans HC1.out,(World.cell?_of_block (a:=⟨b2,o2+p,none⟩) (hb.block b2 hl2)).trans HC2.out⟩))
            clear hK K
            (try simp only [Act.put,pA,pB,pC])
            refine hdC 24 (fun K hK=>?_)
            (go_simp;try go_wp2_with fail)
            have hN:=Own.new W11 59 #[.slice va vn vc];have hbX:=bA1 W11 (.cells #[.slice va vn vc] 59);replace hA:=hA.keep hbX hA.lt;replace hS:=hS.keep hbX hS.lt;replace hT:=hT.keep hbX hT.lt;replace hR:=hR.keep hbX hR.lt;replace hI:=row_keep hI hbX;replace hW:=Lib.hid (hW.out.keep hbX);replace hb:=bT' hb hbX hb.size;replace hO:=hO.keep hbX hO.lt;generalize W11.alloc (.cells #[.slice va vn vc] 59)=W12 at *;generalize hhNg:W11.heap.size=ghN at *;clear hbX hhNg;refine hK.out _ _ ?_ (fun _=>?_)
            · ((try dsimp only);(exact ⟨hA.cell 0,hA.cell 1,hS.cell 0,hS.cell 1,hT.cell 0,hT.cell 1,(World.cell?_of_block (a:=⟨b1,o1+p,none⟩) (hb.block b1 hl1)).trans HC1.out,(World.cell?_of_block (a:=⟨b2,o2+p,none⟩) (hb.block b2 hl2)).trans HC2.out⟩))
            clear hK K
            (try simp only [Act.put,pA,pB,pC])
            refine hdC 25 (fun K hK=>?_);have HNW:Hid (∀j u,([Value.slice va vn vc]:List Value)[j]? = some u→W12.cell? ((⟨ghN,0,none⟩:Addr).add j)=some u):=Lib.hid (fun j u hu=>by rw [Addr.add_mid];exact hN.range j u hu);have HRW:=Lib.hid hI;have hszW:g0≤W12.heap.size:=(by have:=hA.lt;omega);rw [if_pos (by rfl)];refine wp_append_own_wide _ (.tmp 35) (.tmp 58) 30 rfl g0 59 ti tz 1 24 Tryz.underlying30 HI.out HZ.out HSz.out HBt.out HZs.out (by omega) (.slice va0 p vc0) p _ rfl HRW.out ⟨ghN,0,none⟩ 1 1 [Value.slice va vn vc] rfl rfl HNW.out HON.out (by simp only [maxLen];omega) (by omega) hszW (fun v' W13 h2 h3 h4=>?_);obtain ⟨xa9,xc9,rfl⟩:=row_slice h2;replace hA:=hA.grown h3 (own_ne_row hA HRW.out (by decide));replace hS:=hS.grown h3 (own_ne_row hS HRW.out (by decide));replace hT:=hT.grown h3 (own_ne_row hT HRW.out (by decide));replace hR:=hR.grown h3 (own_ne_row hR HRW.out (by decide));replace hW:=Lib.hid (hW.out.grown h3 (fun q e=>row_own HRW.out e));replace hb:=grown_below hb h3 (fun j e=>by have:=(HRW.out.lt j e).1;omega) hb.size;replace hO:=hO.grown h3 (own_ne_row hO HRW.out (by decide));have H2:=Lib.hid h2;clear h2 h4 hI hN;clear HNW HRW hszW h3;refine hK.out _ _ ?_ (fun _=>?_)
            · ((try dsimp only);(exact ⟨hA.cell 0,hA.cell 1,hS.cell 0,hS.cell 1,hT.cell 0,hT.cell 1,(World.cell?_of_block (a:=⟨b1,o1+p,none⟩) (hb.block b1 hl1)).trans HC1.out,(World.cell?_of_block (a:=⟨b2,o2+p,none⟩) (hb.block b2 hl2)).trans HC2.out⟩))
            clear hK K
            (try simp only [Act.put,pA,pB,pC])
            refine hdT 26 ?_;refine hdC 27 (fun K hK=>?_);have cO2:=hO.cell 1;have fO2:=hO.frozen 1
            (go_simp;go_wp2_with fail)
            replace hA:=hA.far (p:=⟨gX,1,none⟩) (by dsimp only;omega) (.slice xa9 (p+1) xc9);replace hS:=hS.far (p:=⟨gX,1,none⟩) (by dsimp only;omega) (.slice xa9 (p+1) xc9);replace hT:=hT.far (p:=⟨gX,1,none⟩) (by dsimp only;omega) (.slice xa9 (p+1) xc9);replace hR:=hR.far (p:=⟨gX,1,none⟩) (by dsimp only;omega) (.slice xa9 (p+1) xc9);have H5:=Lib.hid (row_far9 (p:=⟨gX,1,none⟩) H2.out hO (by decide) (.slice xa9 (p+1) xc9));replace hW:=Lib.hid (vals_far9 (p:=⟨gX,1,none⟩) hW.out hO (by decide) (.slice xa9 (p+1) xc9));replace hb:=hb.setCell (p:=⟨gX,1,none⟩) (by dsimp only;omega) (.slice xa9 (p+1) xc9);replace hO:=hO.set 1 (.slice xa9 (p+1) xc9);generalize W13.setCell ⟨gX,1,none⟩ (.slice xa9 (p+1) xc9)=W14 at *;refine hK.out _ _ ?_ (fun _=>?_)
            · ((try dsimp only);(exact ⟨hA.cell 0,hA.cell 1,hS.cell 0,hS.cell 1,hT.cell 0,hT.cell 1,(World.cell?_of_block (a:=⟨b1,o1+p,none⟩) (hb.block b1 hl1)).trans HC1.out,(World.cell?_of_block (a:=⟨b2,o2+p,none⟩) (hb.block b2 hl2)).trans HC2.out⟩))
            clear hK K
            (try simp only [Act.put,pA,pB,pC])
            refine wpAnyH_done (by kernel_rfl) ?_ _;go_wp2_with fail
            go_roundw
            case rel=>exact ⟨p+1,xa9,xc9,vs++[.slice va vn vc],by omega,by go_num,by rw [←HG.out];exact hb,hA,hS,hT,hR,hO,H5.out,by rw [brs_succ,HSM.out];exact hW⟩
            case measure=>simp [intOf] <;> omega
          · skip
            (go_simp;(go_at_call 31;refine (l09Apply_c dc c k2 c2 d1 (HD.out.keep hb) (HF2.out.keep hb) HAO2.out HMI.out ⟨hm0,hm12⟩ (HTa.out.keep hb) HOKa.out HFa.out hm1').mono ?_;rintro e W15 ⟨v2,rfl,hY2,hbX⟩;obtain ⟨y2a,y2n,q2,rfl⟩:=OwnR.isSlice hY2);go_wp2_with fail)
            replace hA:=hA.keep hbX hA.lt;replace hS:=hS.keep hbX hS.lt;replace hT:=hT.keep hbX hT.lt;replace hR:=hR.keep hbX hR.lt;replace hI:=row_keep hI hbX;replace hW:=Lib.hid (hW.out.keep hbX);replace hb:=bT' hb hbX hb.size;replace hO:=hO.keep hbX hO.lt;replace hY1:=hY1.keep hbX;have hwk:g0≤_:=Nat.le_of_lt hA.lt;clear hwk;clear hbX;refine hK.out _ _ ?_ (fun _=>?_)
            · ((try dsimp only);(exact ⟨hA.cell 0,hA.cell 1,hS.cell 0,hS.cell 1,hT.cell 0,hT.cell 1,(World.cell?_of_block (a:=⟨b1,o1+p,none⟩) (hb.block b1 hl1)).trans HC1.out,(World.cell?_of_block (a:=⟨b2,o2+p,none⟩) (hb.block b2 hl2)).trans HC2.out⟩))
            clear hK K
            (try simp only [Act.put,pA,pB,pC])
            refine wpAnyH_ready (rs:=[1,22]) (by kernel_rfl) (by simp) ?_;refine AllReadyH.cons (hdAt (i:=1) rfl) (fun K hK=>?_) (AllReadyH.cons (hdAt (i:=22) rfl) (fun K hK=>?_) AllReadyH.nil)
            · skip
              have cO1:=hO.cell 1
              (go_simp;try go_wp2_with fail)
              refine hK.out _ _ ?_ (fun _=>?_)
              · ((try dsimp only);(exact ⟨hA.cell 0,hA.cell 1,hS.cell 0,hS.cell 1,hT.cell 0,hT.cell 1,(World.cell?_of_block (a:=⟨b1,o1+p,none⟩) (hb.block b1 hl1)).trans HC1.out,(World.cell?_of_block (a:=⟨b2,o2+p,none⟩) (hb.block b2 hl2)).trans HC2.out⟩))
              clear hK K
              (try simp only [Act.put,pA,pB,pC])
              refine hdC 22 (fun K hK=>?_)
              (go_simp;(go_at_call 32;refine (l09Sign_c k k2 _ (by omega) (by omega) (by omega) (by omega)).mono ?_;rintro e W16 ⟨rfl,hbX⟩);go_wp2_with fail)
              replace hA:=hA.keep hbX hA.lt;replace hS:=hS.keep hbX hS.lt;replace hT:=hT.keep hbX hT.lt;replace hR:=hR.keep hbX hR.lt;replace hI:=row_keep hI hbX;replace hW:=Lib.hid (hW.out.keep hbX);replace hb:=bT' hb hbX hb.size;replace hO:=hO.keep hbX hO.lt;replace hY1:=hY1.keep hbX;replace hY2:=hY2.keep hbX;clear hbX;refine hK.out _ _ ?_ (fun _=>?_)
              · ((try dsimp only);(exact ⟨hA.cell 0,hA.cell 1,hS.cell 0,hS.cell 1,hT.cell 0,hT.cell 1,(World.cell?_of_block (a:=⟨b1,o1+p,none⟩) (hb.block b1 hl1)).trans HC1.out,(World.cell?_of_block (a:=⟨b2,o2+p,none⟩) (hb.block b2 hl2)).trans HC2.out⟩))
              clear hK K
              (try simp only [Act.put,pA,pB,pC])
              refine hdC 23 (fun K hK=>?_);have HLT:=Lib.hid hW.out.lt;have hbs:g0≤_:=Nat.le_of_lt hA.lt;have HYL:Hid (y1n+y2n≤4000000):=Lib.hid (by have:=(OwnR.read hY1 HY1T.out).len;have:=(OwnR.read hY2 HY2T.out).len;have:=HY1L.out;have:=HY2L.out;omega)
              (go_simp;(go_at_call 30;refine (l01Add_c q1 q2 (sg9 k k2) (sg9_rg k k2).1 (sg9_rg k k2).2 (OwnR.read hY1 HY1T.out) (OwnR.read hY2 HY2T.out) HYL.out HY1B.out HY2B.out).mono ?_;rintro e W17 ⟨v,rfl,hV0,hbX⟩);go_wp2_with fail)
              replace hA:=hA.keep hbX hA.lt;replace hS:=hS.keep hbX hS.lt;replace hT:=hT.keep hbX hT.lt;replace hR:=hR.keep hbX hR.lt;replace hI:=row_keep hI hbX;replace hW:=Lib.hid (hW.out.keep hbX);replace hb:=bT' hb hbX hb.size;replace hO:=hO.keep hbX hO.lt;replace hY1:=hY1.keep hbX;replace hY2:=hY2.keep hbX;have hV:=hV0.r;clear hV0 hY1 hY2 HYL;obtain ⟨va,vn,vc,rfl⟩:=hV.isSlice;replace hW:=Lib.hid (hW.out.snoc HLT.out hbs hV);have HON:Hid (∀u∈([Value.slice va vn vc]:List Value),u.oneCell'=true):=Lib.hid (by simp [Value.oneCell']);clear HLT hbs hV;clear hbX;refine hK.out _ _ ?_ (fun _=>?_)
              · ((try dsimp only);(exact ⟨hA.cell 0,hA.cell 1,hS.cell 0,hS.cell 1,hT.cell 0,hT.cell 1,(World.cell?_of_block (a:=⟨b1,o1+p,none⟩) (hb.block b1 hl1)).trans HC1.out,(World.cell?_of_block (a:=⟨b2,o2+p,none⟩) (hb.block b2 hl2)).trans HC2.out⟩))
              clear hK K
              (try simp only [Act.put,pA,pB,pC])
              refine hdC 24 (fun K hK=>?_)
              (go_simp;try go_wp2_with fail)
              have hN:=Own.new W17 59 #[.slice va vn vc];have hbX:=bA1 W17 (.cells #[.slice va vn vc] 59);replace hA:=hA.keep hbX hA.lt;replace hS:=hS.keep hbX hS.lt;replace hT:=hT.keep hbX hT.lt;replace hR:=hR.keep hbX hR.lt;replace hI:=row_keep hI hbX;replace hW:=Lib.hid (hW.out.keep hbX);replace hb:=bT' hb hbX hb.size;replace hO:=hO.keep hbX hO.lt;generalize W17.alloc (.cells #[.slice va vn vc] 59)=W18 at *;generalize hhNg:W17.heap.size=ghN at *;clear hbX hhNg;refine hK.out _ _ ?_ (fun _=>?_)
              · ((try dsimp only);(exact ⟨hA.cell 0,hA.cell 1,hS.cell 0,hS.cell 1,hT.cell 0,hT.cell 1,(World.cell?_of_block (a:=⟨b1,o1+p,none⟩) (hb.block b1 hl1)).trans HC1.out,(World.cell?_of_block (a:=⟨b2,o2+p,none⟩) (hb.block b2 hl2)).trans HC2.out⟩))
              clear hK K
              (try simp only [Act.put,pA,pB,pC])
              refine hdC 25 (fun K hK=>?_);have HNW:Hid (∀j u,([Value.slice va vn vc]:List Value)[j]? = some u→W18.cell? ((⟨ghN,0,none⟩:Addr).add j)=some u):=Lib.hid (fun j u hu=>by rw [Addr.add_mid];exact hN.range j u hu);have HRW:=Lib.hid hI;have hszW:g0≤W18.heap.size:=(by have:=hA.lt;omega);rw [if_pos (by rfl)];refine wp_append_own_wide _ (.tmp 35) (.tmp 58) 30 rfl g0 59 ti tz 1 24 Tryz.underlying30 HI.out HZ.out HSz.out HBt.out HZs.out (by omega) (.slice va0 p vc0) p _ rfl HRW.out ⟨ghN,0,none⟩ 1 1 [Value.slice va vn vc] rfl rfl HNW.out HON.out (by simp only [maxLen];omega) (by omega) hszW (fun v' W19 h2 h3 h4=>?_);obtain ⟨xa9,xc9,rfl⟩:=row_slice h2;replace hA:=hA.grown h3 (own_ne_row hA HRW.out (by decide));replace hS:=hS.grown h3 (own_ne_row hS HRW.out (by decide));replace hT:=hT.grown h3 (own_ne_row hT HRW.out (by decide));replace hR:=hR.grown h3 (own_ne_row hR HRW.out (by decide));replace hW:=Lib.hid (hW.out.grown h3 (fun q e=>row_own HRW.out e));replace hb:=grown_below hb h3 (fun j e=>by have:=(HRW.out.lt j e).1;omega) hb.size;replace hO:=hO.grown h3 (own_ne_row hO HRW.out (by decide));have H2:=Lib.hid h2;clear h2 h4 hI hN;clear HNW HRW hszW h3;refine hK.out _ _ ?_ (fun _=>?_)
              · ((try dsimp only);(exact ⟨hA.cell 0,hA.cell 1,hS.cell 0,hS.cell 1,hT.cell 0,hT.cell 1,(World.cell?_of_block (a:=⟨b1,o1+p,none⟩) (hb.block b1 hl1)).trans HC1.out,(World.cell?_of_block (a:=⟨b2,o2+p,none⟩) (hb.block b2 hl2)).trans HC2.out⟩))
              clear hK K
              (try simp only [Act.put,pA,pB,pC])
              refine hdT 26 ?_;refine hdC 27 (fun K hK=>?_);have cO2:=hO.cell 1;have fO2:=hO.frozen 1
              (go_simp;go_wp2_with fail)
              replace hA:=hA.far (p:=⟨gX,1,none⟩) (by dsimp only;omega) (.slice xa9 (p+1) xc9);replace hS:=hS.far (p:=⟨gX,1,none⟩) (by dsimp only;omega) (.slice xa9 (p+1) xc9);replace hT:=hT.far (p:=⟨gX,1,none⟩) (by dsimp only;omega) (.slice xa9 (p+1) xc9);replace hR:=hR.far (p:=⟨gX,1,none⟩) (by dsimp only;omega) (.slice xa9 (p+1) xc9);have H5:=Lib.hid (row_far9 (p:=⟨gX,1,none⟩) H2.out hO (by decide) (.slice xa9 (p+1) xc9));replace hW:=Lib.hid (vals_far9 (p:=⟨gX,1,none⟩) hW.out hO (by decide) (.slice xa9 (p+1) xc9));replace hb:=hb.setCell (p:=⟨gX,1,none⟩) (by dsimp only;omega) (.slice xa9 (p+1) xc9);replace hO:=hO.set 1 (.slice xa9 (p+1) xc9);generalize W19.setCell ⟨gX,1,none⟩ (.slice xa9 (p+1) xc9)=W20 at *;refine hK.out _ _ ?_ (fun _=>?_)
              · ((try dsimp only);(exact ⟨hA.cell 0,hA.cell 1,hS.cell 0,hS.cell 1,hT.cell 0,hT.cell 1,(World.cell?_of_block (a:=⟨b1,o1+p,none⟩) (hb.block b1 hl1)).trans HC1.out,(World.cell?_of_block (a:=⟨b2,o2+p,none⟩) (hb.block b2 hl2)).trans HC2.out⟩))
              clear hK K
              (try simp only [Act.put,pA,pB,pC])
              refine wpAnyH_done (by kernel_rfl) ?_ _;go_wp2_with fail
              go_roundw
              case rel=>exact ⟨p+1,xa9,xc9,vs++[.slice va vn vc],by omega,by go_num,by rw [←HG.out];exact hb,hA,hS,hT,hR,hO,H5.out,by rw [brs_succ,HSM.out];exact hW⟩
              case measure=>simp [intOf] <;> omega
            · skip
              (go_simp;(go_at_call 32;refine (l09Sign_c k k2 _ (by omega) (by omega) (by omega) (by omega)).mono ?_;rintro e W21 ⟨rfl,hbX⟩);go_wp2_with fail)
              replace hA:=hA.keep hbX hA.lt;replace hS:=hS.keep hbX hS.lt;replace hT:=hT.keep hbX hT.lt;replace hR:=hR.keep hbX hR.lt;replace hI:=row_keep hI hbX;replace hW:=Lib.hid (hW.out.keep hbX);replace hb:=bT' hb hbX hb.size;replace hO:=hO.keep hbX hO.lt;replace hY1:=hY1.keep hbX;replace hY2:=hY2.keep hbX;clear hbX;refine hK.out _ _ ?_ (fun _=>?_)
              · ((try dsimp only);(exact ⟨hA.cell 0,hA.cell 1,hS.cell 0,hS.cell 1,hT.cell 0,hT.cell 1,(World.cell?_of_block (a:=⟨b1,o1+p,none⟩) (hb.block b1 hl1)).trans HC1.out,(World.cell?_of_block (a:=⟨b2,o2+p,none⟩) (hb.block b2 hl2)).trans HC2.out⟩))
              clear hK K
              (try simp only [Act.put,pA,pB,pC])
              refine wpAnyH_ready (rs:=[1,23]) (by kernel_rfl) (by simp) ?_;refine AllReadyH.cons (hdAt (i:=1) rfl) (fun K hK=>?_) (AllReadyH.cons (hdAt (i:=23) rfl) (fun K hK=>?_) AllReadyH.nil)
              · skip
                have cO1:=hO.cell 1
                (go_simp;try go_wp2_with fail)
                refine hK.out _ _ ?_ (fun _=>?_)
                · ((try dsimp only);(exact ⟨hA.cell 0,hA.cell 1,hS.cell 0,hS.cell 1,hT.cell 0,hT.cell 1,(World.cell?_of_block (a:=⟨b1,o1+p,none⟩) (hb.block b1 hl1)).trans HC1.out,(World.cell?_of_block (a:=⟨b2,o2+p,none⟩) (hb.block b2 hl2)).trans HC2.out⟩))
                clear hK K
                (try simp only [Act.put,pA,pB,pC])
                refine hdC 23 (fun K hK=>?_);have HLT:=Lib.hid hW.out.lt;have hbs:g0≤_:=Nat.le_of_lt hA.lt;have HYL:Hid (y1n+y2n≤4000000):=Lib.hid (by have:=(OwnR.read hY1 HY1T.out).len;have:=(OwnR.read hY2 HY2T.out).len;have:=HY1L.out;have:=HY2L.out;omega)
                (go_simp;(go_at_call 30;refine (l01Add_c q1 q2 (sg9 k k2) (sg9_rg k k2).1 (sg9_rg k k2).2 (OwnR.read hY1 HY1T.out) (OwnR.read hY2 HY2T.out) HYL.out HY1B.out HY2B.out).mono ?_;rintro e W22 ⟨v,rfl,hV0,hbX⟩);go_wp2_with fail)
                replace hA:=hA.keep hbX hA.lt;replace hS:=hS.keep hbX hS.lt;replace hT:=hT.keep hbX hT.lt;replace hR:=hR.keep hbX hR.lt;replace hI:=row_keep hI hbX;replace hW:=Lib.hid (hW.out.keep hbX);replace hb:=bT' hb hbX hb.size;replace hO:=hO.keep hbX hO.lt;replace hY1:=hY1.keep hbX;replace hY2:=hY2.keep hbX;have hV:=hV0.r;clear hV0 hY1 hY2 HYL;obtain ⟨va,vn,vc,rfl⟩:=hV.isSlice;replace hW:=Lib.hid (hW.out.snoc HLT.out hbs hV);have HON:Hid (∀u∈([Value.slice va vn vc]:List Value),u.oneCell'=true):=Lib.hid (by simp [Value.oneCell']);clear HLT hbs hV;clear hbX;refine hK.out _ _ ?_ (fun _=>?_)
                · ((try dsimp only);(exact ⟨hA.cell 0,hA.cell 1,hS.cell 0,hS.cell 1,hT.cell 0,hT.cell 1,(World.cell?_of_block (a:=⟨b1,o1+p,none⟩) (hb.block b1 hl1)).trans HC1.out,(World.cell?_of_block (a:=⟨b2,o2+p,none⟩) (hb.block b2 hl2)).trans HC2.out⟩))
                clear hK K
                (try simp only [Act.put,pA,pB,pC])
                refine hdC 24 (fun K hK=>?_)
                (go_simp;try go_wp2_with fail)
                have hN:=Own.new W22 59 #[.slice va vn vc];have hbX:=bA1 W22 (.cells #[.slice va vn vc] 59);replace hA:=hA.keep hbX hA.lt;replace hS:=hS.keep hbX hS.lt;replace hT:=hT.keep hbX hT.lt;replace hR:=hR.keep hbX hR.lt;replace hI:=row_keep hI hbX;replace hW:=Lib.hid (hW.out.keep hbX);replace hb:=bT' hb hbX hb.size;replace hO:=hO.keep hbX hO.lt;generalize W22.alloc (.cells #[.slice va vn vc] 59)=W23 at *;generalize hhNg:W22.heap.size=ghN at *;clear hbX hhNg;refine hK.out _ _ ?_ (fun _=>?_)
                · ((try dsimp only);(exact ⟨hA.cell 0,hA.cell 1,hS.cell 0,hS.cell 1,hT.cell 0,hT.cell 1,(World.cell?_of_block (a:=⟨b1,o1+p,none⟩) (hb.block b1 hl1)).trans HC1.out,(World.cell?_of_block (a:=⟨b2,o2+p,none⟩) (hb.block b2 hl2)).trans HC2.out⟩))
                clear hK K
                (try simp only [Act.put,pA,pB,pC])
                refine hdC 25 (fun K hK=>?_);have HNW:Hid (∀j u,([Value.slice va vn vc]:List Value)[j]? = some u→W23.cell? ((⟨ghN,0,none⟩:Addr).add j)=some u):=Lib.hid (fun j u hu=>by rw [Addr.add_mid];exact hN.range j u hu);have HRW:=Lib.hid hI;have hszW:g0≤W23.heap.size:=(by have:=hA.lt;omega);rw [if_pos (by rfl)];refine wp_append_own_wide _ (.tmp 35) (.tmp 58) 30 rfl g0 59 ti tz 1 24 Tryz.underlying30 HI.out HZ.out HSz.out HBt.out HZs.out (by omega) (.slice va0 p vc0) p _ rfl HRW.out ⟨ghN,0,none⟩ 1 1 [Value.slice va vn vc] rfl rfl HNW.out HON.out (by simp only [maxLen];omega) (by omega) hszW (fun v' W24 h2 h3 h4=>?_);obtain ⟨xa9,xc9,rfl⟩:=row_slice h2;replace hA:=hA.grown h3 (own_ne_row hA HRW.out (by decide));replace hS:=hS.grown h3 (own_ne_row hS HRW.out (by decide));replace hT:=hT.grown h3 (own_ne_row hT HRW.out (by decide));replace hR:=hR.grown h3 (own_ne_row hR HRW.out (by decide));replace hW:=Lib.hid (hW.out.grown h3 (fun q e=>row_own HRW.out e));replace hb:=grown_below hb h3 (fun j e=>by have:=(HRW.out.lt j e).1;omega) hb.size;replace hO:=hO.grown h3 (own_ne_row hO HRW.out (by decide));have H2:=Lib.hid h2;clear h2 h4 hI hN;clear HNW HRW hszW h3;refine hK.out _ _ ?_ (fun _=>?_)
                · ((try dsimp only);(exact ⟨hA.cell 0,hA.cell 1,hS.cell 0,hS.cell 1,hT.cell 0,hT.cell 1,(World.cell?_of_block (a:=⟨b1,o1+p,none⟩) (hb.block b1 hl1)).trans HC1.out,(World.cell?_of_block (a:=⟨b2,o2+p,none⟩) (hb.block b2 hl2)).trans HC2.out⟩))
                clear hK K
                (try simp only [Act.put,pA,pB,pC])
                refine hdT 26 ?_;refine hdC 27 (fun K hK=>?_);have cO2:=hO.cell 1;have fO2:=hO.frozen 1
                (go_simp;go_wp2_with fail)
                replace hA:=hA.far (p:=⟨gX,1,none⟩) (by dsimp only;omega) (.slice xa9 (p+1) xc9);replace hS:=hS.far (p:=⟨gX,1,none⟩) (by dsimp only;omega) (.slice xa9 (p+1) xc9);replace hT:=hT.far (p:=⟨gX,1,none⟩) (by dsimp only;omega) (.slice xa9 (p+1) xc9);replace hR:=hR.far (p:=⟨gX,1,none⟩) (by dsimp only;omega) (.slice xa9 (p+1) xc9);have H5:=Lib.hid (row_far9 (p:=⟨gX,1,none⟩) H2.out hO (by decide) (.slice xa9 (p+1) xc9));replace hW:=Lib.hid (vals_far9 (p:=⟨gX,1,none⟩) hW.out hO (by decide) (.slice xa9 (p+1) xc9));replace hb:=hb.setCell (p:=⟨gX,1,none⟩) (by dsimp only;omega) (.slice xa9 (p+1) xc9);replace hO:=hO.set 1 (.slice xa9 (p+1) xc9);generalize W24.setCell ⟨gX,1,none⟩ (.slice xa9 (p+1) xc9)=W25 at *;refine hK.out _ _ ?_ (fun _=>?_)
                · ((try dsimp only);(exact ⟨hA.cell 0,hA.cell 1,hS.cell 0,hS.cell 1,hT.cell 0,hT.cell 1,(World.cell?_of_block (a:=⟨b1,o1+p,none⟩) (hb.block b1 hl1)).trans HC1.out,(World.cell?_of_block (a:=⟨b2,o2+p,none⟩) (hb.block b2 hl2)).trans HC2.out⟩))
                clear hK K
                (try simp only [Act.put,pA,pB,pC])
                refine wpAnyH_done (by kernel_rfl) ?_ _;go_wp2_with fail
                go_roundw
                case rel=>exact ⟨p+1,xa9,xc9,vs++[.slice va vn vc],by omega,by go_num,by rw [←HG.out];exact hb,hA,hS,hT,hR,hO,H5.out,by rw [brs_succ,HSM.out];exact hW⟩
                case measure=>simp [intOf] <;> omega
              · skip
                have HLT:=Lib.hid hW.out.lt;have hbs:g0≤_:=Nat.le_of_lt hA.lt;have HYL:Hid (y1n+y2n≤4000000):=Lib.hid (by have:=(OwnR.read hY1 HY1T.out).len;have:=(OwnR.read hY2 HY2T.out).len;have:=HY1L.out;have:=HY2L.out;omega)
                (go_simp;(go_at_call 30;refine (l01Add_c q1 q2 (sg9 k k2) (sg9_rg k k2).1 (sg9_rg k k2).2 (OwnR.read hY1 HY1T.out) (OwnR.read hY2 HY2T.out) HYL.out HY1B.out HY2B.out).mono ?_;rintro e W26 ⟨v,rfl,hV0,hbX⟩);go_wp2_with fail)
                replace hA:=hA.keep hbX hA.lt;replace hS:=hS.keep hbX hS.lt;replace hT:=hT.keep hbX hT.lt;replace hR:=hR.keep hbX hR.lt;replace hI:=row_keep hI hbX;replace hW:=Lib.hid (hW.out.keep hbX);replace hb:=bT' hb hbX hb.size;replace hO:=hO.keep hbX hO.lt;replace hY1:=hY1.keep hbX;replace hY2:=hY2.keep hbX;have hV:=hV0.r;clear hV0 hY1 hY2 HYL;obtain ⟨va,vn,vc,rfl⟩:=hV.isSlice;replace hW:=Lib.hid (hW.out.snoc HLT.out hbs hV);have HON:Hid (∀u∈([Value.slice va vn vc]:List Value),u.oneCell'=true):=Lib.hid (by simp [Value.oneCell']);clear HLT hbs hV;clear hbX;refine hK.out _ _ ?_ (fun _=>?_)
                · ((try dsimp only);(exact ⟨hA.cell 0,hA.cell 1,hS.cell 0,hS.cell 1,hT.cell 0,hT.cell 1,(World.cell?_of_block (a:=⟨b1,o1+p,none⟩) (hb.block b1 hl1)).trans HC1.out,(World.cell?_of_block (a:=⟨b2,o2+p,none⟩) (hb.block b2 hl2)).trans HC2.out⟩))
                clear hK K
                (try simp only [Act.put,pA,pB,pC])
                refine wpAnyH_ready (rs:=[1,24]) (by kernel_rfl) (by simp) ?_;refine AllReadyH.cons (hdAt (i:=1) rfl) (fun K hK=>?_) (AllReadyH.cons (hdAt (i:=24) rfl) (fun K hK=>?_) AllReadyH.nil)
                · skip
                  have cO1:=hO.cell 1
                  (go_simp;try go_wp2_with fail)
                  refine hK.out _ _ ?_ (fun _=>?_)
                  · ((try dsimp only);(exact ⟨hA.cell 0,hA.cell 1,hS.cell 0,hS.cell 1,hT.cell 0,hT.cell 1,(World.cell?_of_block (a:=⟨b1,o1+p,none⟩) (hb.block b1 hl1)).trans HC1.out,(World.cell?_of_block (a:=⟨b2,o2+p,none⟩) (hb.block b2 hl2)).trans HC2.out⟩))
                  clear hK K
                  (try simp only [Act.put,pA,pB,pC])
                  refine hdC 24 (fun K hK=>?_)
                  (go_simp;try go_wp2_with fail)
                  have hN:=Own.new W26 59 #[.slice va vn vc];have hbX:=bA1 W26 (.cells #[.slice va vn vc] 59);replace hA:=hA.keep hbX hA.lt;replace hS:=hS.keep hbX hS.lt;replace hT:=hT.keep hbX hT.lt;replace hR:=hR.keep hbX hR.lt;replace hI:=row_keep hI hbX;replace hW:=Lib.hid (hW.out.keep hbX);replace hb:=bT' hb hbX hb.size;replace hO:=hO.keep hbX hO.lt;generalize W26.alloc (.cells #[.slice va vn vc] 59)=W27 at *;generalize hhNg:W26.heap.size=ghN at *;clear hbX hhNg;refine hK.out _ _ ?_ (fun _=>?_)
                  · ((try dsimp only);(exact ⟨hA.cell 0,hA.cell 1,hS.cell 0,hS.cell 1,hT.cell 0,hT.cell 1,(World.cell?_of_block (a:=⟨b1,o1+p,none⟩) (hb.block b1 hl1)).trans HC1.out,(World.cell?_of_block (a:=⟨b2,o2+p,none⟩) (hb.block b2 hl2)).trans HC2.out⟩))
                  clear hK K
                  (try simp only [Act.put,pA,pB,pC])
                  refine hdC 25 (fun K hK=>?_);have HNW:Hid (∀j u,([Value.slice va vn vc]:List Value)[j]? = some u→W27.cell? ((⟨ghN,0,none⟩:Addr).add j)=some u):=Lib.hid (fun j u hu=>by rw [Addr.add_mid];exact hN.range j u hu);have HRW:=Lib.hid hI;have hszW:g0≤W27.heap.size:=(by have:=hA.lt;omega);rw [if_pos (by rfl)];refine wp_append_own_wide _ (.tmp 35) (.tmp 58) 30 rfl g0 59 ti tz 1 24 Tryz.underlying30 HI.out HZ.out HSz.out HBt.out HZs.out (by omega) (.slice va0 p vc0) p _ rfl HRW.out ⟨ghN,0,none⟩ 1 1 [Value.slice va vn vc] rfl rfl HNW.out HON.out (by simp only [maxLen];omega) (by omega) hszW (fun v' W28 h2 h3 h4=>?_);obtain ⟨xa9,xc9,rfl⟩:=row_slice h2;replace hA:=hA.grown h3 (own_ne_row hA HRW.out (by decide));replace hS:=hS.grown h3 (own_ne_row hS HRW.out (by decide));replace hT:=hT.grown h3 (own_ne_row hT HRW.out (by decide));replace hR:=hR.grown h3 (own_ne_row hR HRW.out (by decide));replace hW:=Lib.hid (hW.out.grown h3 (fun q e=>row_own HRW.out e));replace hb:=grown_below hb h3 (fun j e=>by have:=(HRW.out.lt j e).1;omega) hb.size;replace hO:=hO.grown h3 (own_ne_row hO HRW.out (by decide));have H2:=Lib.hid h2;clear h2 h4 hI hN;clear HNW HRW hszW h3;refine hK.out _ _ ?_ (fun _=>?_)
                  · ((try dsimp only);(exact ⟨hA.cell 0,hA.cell 1,hS.cell 0,hS.cell 1,hT.cell 0,hT.cell 1,(World.cell?_of_block (a:=⟨b1,o1+p,none⟩) (hb.block b1 hl1)).trans HC1.out,(World.cell?_of_block (a:=⟨b2,o2+p,none⟩) (hb.block b2 hl2)).trans HC2.out⟩))
                  clear hK K
                  (try simp only [Act.put,pA,pB,pC])
                  refine hdT 26 ?_;refine hdC 27 (fun K hK=>?_);have cO2:=hO.cell 1;have fO2:=hO.frozen 1
                  (go_simp;go_wp2_with fail)
                  replace hA:=hA.far (p:=⟨gX,1,none⟩) (by dsimp only;omega) (.slice xa9 (p+1) xc9);replace hS:=hS.far (p:=⟨gX,1,none⟩) (by dsimp only;omega) (.slice xa9 (p+1) xc9);replace hT:=hT.far (p:=⟨gX,1,none⟩) (by dsimp only;omega) (.slice xa9 (p+1) xc9);replace hR:=hR.far (p:=⟨gX,1,none⟩) (by dsimp only;omega) (.slice xa9 (p+1) xc9);have H5:=Lib.hid (row_far9 (p:=⟨gX,1,none⟩) H2.out hO (by decide) (.slice xa9 (p+1) xc9));replace hW:=Lib.hid (vals_far9 (p:=⟨gX,1,none⟩) hW.out hO (by decide) (.slice xa9 (p+1) xc9));replace hb:=hb.setCell (p:=⟨gX,1,none⟩) (by dsimp only;omega) (.slice xa9 (p+1) xc9);replace hO:=hO.set 1 (.slice xa9 (p+1) xc9);generalize W28.setCell ⟨gX,1,none⟩ (.slice xa9 (p+1) xc9)=W29 at *;refine hK.out _ _ ?_ (fun _=>?_)
                  · ((try dsimp only);(exact ⟨hA.cell 0,hA.cell 1,hS.cell 0,hS.cell 1,hT.cell 0,hT.cell 1,(World.cell?_of_block (a:=⟨b1,o1+p,none⟩) (hb.block b1 hl1)).trans HC1.out,(World.cell?_of_block (a:=⟨b2,o2+p,none⟩) (hb.block b2 hl2)).trans HC2.out⟩))
                  clear hK K
                  (try simp only [Act.put,pA,pB,pC])
                  refine wpAnyH_done (by kernel_rfl) ?_ _;go_wp2_with fail
                  go_roundw
                  case rel=>exact ⟨p+1,xa9,xc9,vs++[.slice va vn vc],by omega,by go_num,by rw [←HG.out];exact hb,hA,hS,hT,hR,hO,H5.out,by rw [brs_succ,HSM.out];exact hW⟩
                  case measure=>simp [intOf] <;> omega
                · skip
                  (go_simp;try go_wp2_with fail)
                  have hN:=Own.new W26 59 #[.slice va vn vc];have hbX:=bA1 W26 (.cells #[.slice va vn vc] 59);replace hA:=hA.keep hbX hA.lt;replace hS:=hS.keep hbX hS.lt;replace hT:=hT.keep hbX hT.lt;replace hR:=hR.keep hbX hR.lt;replace hI:=row_keep hI hbX;replace hW:=Lib.hid (hW.out.keep hbX);replace hb:=bT' hb hbX hb.size;replace hO:=hO.keep hbX hO.lt;generalize W26.alloc (.cells #[.slice va vn vc] 59)=W30 at *;generalize hhNg:W26.heap.size=ghN at *;clear hbX hhNg;refine hK.out _ _ ?_ (fun _=>?_)
                  · ((try dsimp only);(exact ⟨hA.cell 0,hA.cell 1,hS.cell 0,hS.cell 1,hT.cell 0,hT.cell 1,(World.cell?_of_block (a:=⟨b1,o1+p,none⟩) (hb.block b1 hl1)).trans HC1.out,(World.cell?_of_block (a:=⟨b2,o2+p,none⟩) (hb.block b2 hl2)).trans HC2.out⟩))
                  clear hK K
                  (try simp only [Act.put,pA,pB,pC])
                  refine hdC 1 (fun K hK=>?_);have cO1:=hO.cell 1
                  (go_simp;try go_wp2_with fail)
                  refine hK.out _ _ ?_ (fun _=>?_)
                  · ((try dsimp only);(exact ⟨hA.cell 0,hA.cell 1,hS.cell 0,hS.cell 1,hT.cell 0,hT.cell 1,(World.cell?_of_block (a:=⟨b1,o1+p,none⟩) (hb.block b1 hl1)).trans HC1.out,(World.cell?_of_block (a:=⟨b2,o2+p,none⟩) (hb.block b2 hl2)).trans HC2.out⟩))
                  clear hK K
                  (try simp only [Act.put,pA,pB,pC])
                  refine hdC 25 (fun K hK=>?_);have HNW:Hid (∀j u,([Value.slice va vn vc]:List Value)[j]? = some u→W30.cell? ((⟨ghN,0,none⟩:Addr).add j)=some u):=Lib.hid (fun j u hu=>by rw [Addr.add_mid];exact hN.range j u hu);have HRW:=Lib.hid hI;have hszW:g0≤W30.heap.size:=(by have:=hA.lt;omega);rw [if_pos (by rfl)];refine wp_append_own_wide _ (.tmp 35) (.tmp 58) 30 rfl g0 59 ti tz 1 24 Tryz.underlying30 HI.out HZ.out HSz.out HBt.out HZs.out (by omega) (.slice va0 p vc0) p _ rfl HRW.out ⟨ghN,0,none⟩ 1 1 [Value.slice va vn vc] rfl rfl HNW.out HON.out (by simp only [maxLen];omega) (by omega) hszW (fun v' W31 h2 h3 h4=>?_);obtain ⟨xa9,xc9,rfl⟩:=row_slice h2;replace hA:=hA.grown h3 (own_ne_row hA HRW.out (by decide));replace hS:=hS.grown h3 (own_ne_row hS HRW.out (by decide));replace hT:=hT.grown h3 (own_ne_row hT HRW.out (by decide));replace hR:=hR.grown h3 (own_ne_row hR HRW.out (by decide));replace hW:=Lib.hid (hW.out.grown h3 (fun q e=>row_own HRW.out e));replace hb:=grown_below hb h3 (fun j e=>by have:=(HRW.out.lt j e).1;omega) hb.size;replace hO:=hO.grown h3 (own_ne_row hO HRW.out (by decide));have H2:=Lib.hid h2;clear h2 h4 hI hN;clear HNW HRW hszW h3;refine hK.out _ _ ?_ (fun _=>?_)
                  · ((try dsimp only);(exact ⟨hA.cell 0,hA.cell 1,hS.cell 0,hS.cell 1,hT.cell 0,hT.cell 1,(World.cell?_of_block (a:=⟨b1,o1+p,none⟩) (hb.block b1 hl1)).trans HC1.out,(World.cell?_of_block (a:=⟨b2,o2+p,none⟩) (hb.block b2 hl2)).trans HC2.out⟩))
                  clear hK K
                  (try simp only [Act.put,pA,pB,pC])
                  refine hdT 26 ?_;refine hdC 27 (fun K hK=>?_);have cO2:=hO.cell 1;have fO2:=hO.frozen 1
                  (go_simp;go_wp2_with fail)
                  replace hA:=hA.far (p:=⟨gX,1,none⟩) (by dsimp only;omega) (.slice xa9 (p+1) xc9);replace hS:=hS.far (p:=⟨gX,1,none⟩) (by dsimp only;omega) (.slice xa9 (p+1) xc9);replace hT:=hT.far (p:=⟨gX,1,none⟩) (by dsimp only;omega) (.slice xa9 (p+1) xc9);replace hR:=hR.far (p:=⟨gX,1,none⟩) (by dsimp only;omega) (.slice xa9 (p+1) xc9);have H5:=Lib.hid (row_far9 (p:=⟨gX,1,none⟩) H2.out hO (by decide) (.slice xa9 (p+1) xc9));replace hW:=Lib.hid (vals_far9 (p:=⟨gX,1,none⟩) hW.out hO (by decide) (.slice xa9 (p+1) xc9));replace hb:=hb.setCell (p:=⟨gX,1,none⟩) (by dsimp only;omega) (.slice xa9 (p+1) xc9);replace hO:=hO.set 1 (.slice xa9 (p+1) xc9);generalize W31.setCell ⟨gX,1,none⟩ (.slice xa9 (p+1) xc9)=W32 at *;refine hK.out _ _ ?_ (fun _=>?_)
                  · ((try dsimp only);(exact ⟨hA.cell 0,hA.cell 1,hS.cell 0,hS.cell 1,hT.cell 0,hT.cell 1,(World.cell?_of_block (a:=⟨b1,o1+p,none⟩) (hb.block b1 hl1)).trans HC1.out,(World.cell?_of_block (a:=⟨b2,o2+p,none⟩) (hb.block b2 hl2)).trans HC2.out⟩))
                  clear hK K
                  (try simp only [Act.put,pA,pB,pC])
                  refine wpAnyH_done (by kernel_rfl) ?_ _;go_wp2_with fail
                  go_roundw
                  case rel=>exact ⟨p+1,xa9,xc9,vs++[.slice va vn vc],by omega,by go_num,by rw [←HG.out];exact hb,hA,hS,hT,hR,hO,H5.out,by rw [brs_succ,HSM.out];exact hW⟩
                  case measure=>simp [intOf] <;> omega
      · have he:p=dn:=(by omega);subst he;have c0:=hA.cell 0;have c1':=hA.cell 1;have k0:=hO.cell 0;have k1:=hO.cell 1;have hB9:=fun i=>brAt9 (k:=k) (m:=k2) HAO1.out HAO2.out i;have hTM:=Lib.hid (brs_tm (fun i=>(hB9 i).1.tm) p);obtain ⟨ia,ic,hie,hIF⟩:=hW.out.ownF_row (brs_len _ p) HIR.out hTM.out;simp only [Value.slice.injEq] at hie;obtain ⟨rfl,-,rfl⟩:=hie;have HIF:=Lib.hid hIF
        have hLV:=Lib.hid (fun ts (hts:ts∈brs (brAt zs k gss k2 hss) p)=>(by
         obtain ⟨i,hi,rfl⟩:=List.mem_map.1 hts;have:=(hB9 i).1.len
         omega:(List.length ts:Int)≤4000000))
        have hall:=brs_all (zs:=zs) (B:=brAt zs k gss k2 hss) (n:=p);have hbw:Below w.heap.size w wr:=(by rw [HG.out];exact hb);clear hIF HIR hB9;by_cases hbig:12<D
        · have HE:=Lib.hid (br9_3 H1.out H2.out (by rw [HDE.out];exact hbig));clear hall;go_wp2_with fail
          refine (l09Told_bigB dc c D vc0 (HD.out.keep hbw) hdn (HIF.out.frmsB hLV.out) (by omega) hLV.out hbig).mono ?_;rintro e wz ⟨rfl,hbX⟩;clear c0 c1' k0 k1 s1;replace hb:=bT' hb hbX (by have:=hA.lt;omega);replace hA:=hA.keep hbX hA.lt;replace hS:=hS.keep hbX hS.lt;replace hT:=hT.keep hbX hT.lt;replace hR:=hR.keep hbX hR.lt;clear hbX;have r0:=hR.cell 0;have r1:=hR.cell 1;have f0:=hR.frozen 0;have f1:=hR.frozen 1;go_wp2_with fail
          have q:=(hR.set 0 (.int .i64 0)).set 1 (.slice none 0 0);have qb:=(hb.setCell (p:=⟨g3,0,none⟩) (by dsimp only;omega) (.int .i64 0)).setCell (p:=⟨g3,1,none⟩) (by dsimp only;omega) (.slice none 0 0);exact bodyPost_ret (results_row2 rfl _ _ g3 32 #[.int .i64 0,.slice none 0 0] (0,0) _ rfl q Tryz.underlying32 rfl Tryz.info_der) rfl ⟨none,0,0,by rw [HE.out.1,HE.out.2.1];rfl,by rw [HE.out.2.2];exact OwnF.none_,by rw [HG.out];exact qb⟩
        · cases hq:okBr zs (brAt zs k gss k2 hss) p
          · have HE:=Lib.hid (br9_0 H1.out H2.out (by rw [HDE.out];exact hbig));have HN:=Lib.hid (brE_no hq);rw [hq] at hall;have HAL:=Lib.hid hall;clear hall hq;go_wp2_with fail
            refine (l09Told_noB dc c D vc0 (HD.out.keep hbw) hdn (HIF.out.frmsB hLV.out) (by omega) hLV.out (by omega) HAL.out).mono ?_;rintro e wz ⟨rfl,hbX⟩;clear c0 c1' k0 k1 s1;replace hb:=bT' hb hbX (by have:=hA.lt;omega);replace hA:=hA.keep hbX hA.lt;replace hS:=hS.keep hbX hS.lt;replace hT:=hT.keep hbX hT.lt;replace hR:=hR.keep hbX hR.lt;clear hbX;have r0:=hR.cell 0;have r1:=hR.cell 1;have f0:=hR.frozen 0;have f1:=hR.frozen 1;go_wp2_with fail
            have q:=(hR.set 0 (.int .i64 0)).set 1 (.slice none 0 0);have qb:=(hb.setCell (p:=⟨g3,0,none⟩) (by dsimp only;omega) (.int .i64 0)).setCell (p:=⟨g3,1,none⟩) (by dsimp only;omega) (.slice none 0 0);exact bodyPost_ret (results_row2 rfl _ _ g3 32 #[.int .i64 0,.slice none 0 0] (0,0) _ rfl q Tryz.underlying32 rfl Tryz.info_der) rfl ⟨none,0,0,by rw [HE.out.1,HE.out.2.1,HDL.out,HN.out.1,HN.out.2.1];rfl,by rw [HE.out.2.2,HDL.out,HN.out.2.2];exact OwnF.none_,by rw [HG.out];exact qb⟩
          · have HE:=Lib.hid (br9_0 H1.out H2.out (by rw [HDE.out];exact hbig));have HN:=Lib.hid (brE_yes hq);rw [hq] at hall;have HAL:=Lib.hid (fun (i:Nat) ts (hi:(brs (brAt zs k gss k2 hss) p)[i]? = some ts)=>List.all_eq_true.1 hall ts (List.mem_of_getElem? hi));clear hall hq;go_wp2_with fail
            refine (l09Told_yesB dc c D vc0 (HD.out.keep hbw) hdn (HIF.out.frmsB hLV.out) (by omega) hLV.out (by omega) HAL.out).mono ?_;rintro e wz ⟨rfl,hbX⟩;clear c0 c1' k0 k1 s1 hbw;have hIF2:=(HIF.out.keep hbX).weaken (Nat.le_refl _) hbX.size;replace hb:=bT' hb hbX (by have:=hA.lt;omega);replace hA:=hA.keep hbX hA.lt;replace hS:=hS.keep hbX hS.lt;replace hT:=hT.keep hbX hT.lt;replace hR:=hR.keep hbX hR.lt;clear hbX;have r0:=hR.cell 0;have r1:=hR.cell 1;have f0:=hR.frozen 0;have f1:=hR.frozen 1;have HIF2:=Lib.hid hIF2;clear hIF2;go_wp2_with fail
            have q:=(hR.set 0 (.int .i64 D)).set 1 (.slice va0 p vc0);have qb:=(hb.setCell (p:=⟨g3,0,none⟩) (by dsimp only;omega) (.int .i64 D)).setCell (p:=⟨g3,1,none⟩) (by dsimp only;omega) (.slice va0 p vc0);have qF:=ownF_far9 (p:=⟨g3,1,none⟩) (ownF_far9 (p:=⟨g3,0,none⟩) HIF2.out hR (.int .i64 D)) (hR.set 0 _) (.slice va0 p vc0);exact bodyPost_ret (results_row2 rfl _ _ g3 32 #[.int .i64 D,.slice va0 p vc0] (0,0) _ rfl q Tryz.underlying32 rfl Tryz.info_der) rfl ⟨va0,p,vc0,by rw [HE.out.1,HE.out.2.1,HDL.out,HN.out.1,HN.out.2.1,HDE.out];rfl,by rw [HE.out.2.2,HDL.out,HN.out.2.2,HG.out];exact qF.weaken (Nat.le_refl _) (by simp),by rw [HG.out];exact qb⟩
end Go.Proofs.YtdppjlndcacfnaaGreat
