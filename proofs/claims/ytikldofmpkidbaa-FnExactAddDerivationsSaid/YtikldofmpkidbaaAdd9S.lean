
import Derived.Test.YtikldofmpkidbaaAdd9M
namespace Go.Proofs.Ytikldofmpkidbaa
set_option maxRecDepth 100000
open Go.RowKit Go.Deep
theorem row_far9 {w:World} {B sz n:Nat} {t t':TypeId} {v:Value} {xs:List Value} {p:Addr} {os:Array Value} (h:w.ownsRow B t sz v n xs) (ho:Own w p.block t' os) (ht:t'≠t) (u:Value):(w.setCell p u).ownsRow B t sz v n xs:=
 ownsRow_setCell_other h (fun e=>own_ne_row ho h ht e.symm) u
theorem vals_far9 {w:World} {B:Nat} {vs:List Value} {V:List (List Tm)} {t':TypeId} {p:Addr} {os:Array Value} (h:Vals w B vs V) (ho:Own w p.block t' os) (ht:t'≠88) (u:Value):Vals (w.setCell p u) B vs V:=
 ⟨h.len,fun i v ts h1 h2=>(h.each i v ts h1 h2).far (fun e=>own_ne_row ho (h.each i v ts h1 h2) ht e.symm) u,h.apart⟩
theorem ownF_far9 {w:World} {lo hi n:Nat} {a:Option Addr} {V:List (List Tm)} {p:Addr} {os:Array Value} (h:OwnF w lo hi a n V) (ho:Own w p.block 36 os) (u:Value):OwnF (w.setCell p u) lo hi a n V:=h.farT ho (by decide) (by decide) u
set_option maxHeartbeats 8000000 in
theorem AddDerivations_s {w : World} {da : Option Addr} {dn : Nat} {zs : List Int} {a : Option Addr} {n : Nat} {ims : List (List Tm)} {a1 : Option Addr} {n1 : Nat} {gss : List (List Tm)} {a2 : Option Addr} {n2 : Nat} {hss : List (List Tm)} (dc c : Nat) (k : Int) (c1 : Nat) (k2 : Int) (c2 : Nat) (hd : Ints w da dn zs) (hdn : dn ≤ 1048576) (hF : Frms w a n ims) (hn : n ≤ 1048576) (hL : ∀ im ∈ ims, (im.length : Int) ≤ 1048576) (hF1 : Frms w a1 n1 gss) (hn1 : n1 ≤ 1048576) (hL1 : ∀ im ∈ gss, (im.length : Int) ≤ 1048576) (hF2 : Frms w a2 n2 hss) (hn2 : n2 ≤ 1048576) (hL2 : ∀ im ∈ hss, (im.length : Int) ≤ 1048576) (hT1 : ∀ ts ∈ gss, ∀ t ∈ ts, IsTm t) (hT2 : ∀ ts ∈ hss, ∀ t ∈ ts, IsTm t) :
    Calls Try.prog 29 #[.agg #[.slice da dn dc,.slice a n c],.agg #[.int .i64 k,.slice a1 n1 c1],.agg #[.int .i64 k2,.slice a2 n2 c2]] w fun e w'=>∃rb bn bc,e=.returned (.tuple #[.agg #[.int .i64 (ad9D zs ims k gss k2 hss),.slice rb bn bc],.int .i64 (ad9E zs ims k gss k2 hss)])∧OwnF w' w.heap.size w'.heap.size rb bn (ad9I zs ims k gss k2 hss)∧Below w.heap.size w w':=by
 obtain ⟨ti,tz,hti,htz,hts,htb,htzs⟩:=Try.info_formA
 have HI:=Lib.hid hti
 have HZ:=Lib.hid htz
 have HSz:=Lib.hid hts
 have HBt:=Lib.hid htb
 have HZs:=Lib.hid htzs
 clear hti htz hts htb htzs
 have HLL:=Lib.hid hL
 have HLL1:=Lib.hid hL1
 have HLL2:=Lib.hid hL2
 have HT1:=Lib.hid hT1
 have HT2:=Lib.hid hT2
 have HDL:=Lib.hid hd.len
 have HD:=Lib.hid hd
 have HF:=Lib.hid hF
 have HF1:=Lib.hid hF1
 have HF2:=Lib.hid hF2
 clear hL hL1 hL2 hT1 hT2
 have hA:=(((Own.new w 33 #[.slice da dn dc,.slice a n c]).alloc (.cells #[.int .i64 k,.slice a1 n1 c1] 36)).alloc (.cells #[.int .i64 k2,.slice a2 n2 c2] 36)).alloc (.cells #[.int .i64 0,.slice none 0 0] 36)
 have hS:=((Own.new (w.alloc (.cells #[.slice da dn dc,.slice a n c] 33)) 36 #[.int .i64 k,.slice a1 n1 c1]).alloc (.cells #[.int .i64 k2,.slice a2 n2 c2] 36)).alloc (.cells #[.int .i64 0,.slice none 0 0] 36)
 have hT:=(Own.new ((w.alloc (.cells #[.slice da dn dc,.slice a n c] 33)).alloc (.cells #[.int .i64 k,.slice a1 n1 c1] 36)) 36 #[.int .i64 k2,.slice a2 n2 c2]).alloc (.cells #[.int .i64 0,.slice none 0 0] 36)
 have hR:=Own.new (((w.alloc (.cells #[.slice da dn dc,.slice a n c] 33)).alloc (.cells #[.int .i64 k,.slice a1 n1 c1] 36)).alloc (.cells #[.int .i64 k2,.slice a2 n2 c2] 36)) 36 #[.int .i64 0,.slice none 0 0]
 simp only [sAl] at hS hT hR
 have hb:=bTn (bTn (bTn (bA1 w (.cells #[.slice da dn dc,.slice a n c] 33)) (bA1 _ (.cells #[.int .i64 k,.slice a1 n1 c1] 36))) (bA1 _ (.cells #[.int .i64 k2,.slice a2 n2 c2] 36))) (bA1 _ (.cells #[.int .i64 0,.slice none 0 0] 36))
 go_enter Try.func29,Try.ntmps29
 go_upto_region 1 with fail
 generalize (((w.alloc (.cells #[.slice da dn dc,.slice a n c] 33)).alloc (.cells #[.int .i64 k,.slice a1 n1 c1] 36)).alloc (.cells #[.int .i64 k2,.slice a2 n2 c2] 36)).alloc (.cells #[.int .i64 0,.slice none 0 0] 36)=w0 at *
 generalize hg3:w.heap.size+1+1+1=g3 at *
 generalize hg2:w.heap.size+1+1=g2 at *
 generalize hg1:w.heap.size+1=g1 at *
 generalize hg0:w.heap.size=g0 at *
 have HG:=Lib.hid hg0
 have e1:=hg1
 have e2:=hg2
 have e3:=hg3
 clear hg0 hg1 hg2 hg3
 cases hd1:derB zs ims k gss
 · have H1:=Lib.hid hd1;have HE:=Lib.hid (ad9_ne (ad9_1 (k:=k) (k2:=k2) (hss:=hss) (Or.inl hd1)) (by omega));clear hd1;have c0:=hA.cell 0;have c1':=hA.cell 1;have s0:=hS.cell 0;have s1:=hS.cell 1;have t0:=hT.cell 0;have t1:=hT.cell 1;go_wp2_with fail
   refine (l09Is_c dc c k c1 (HD.out.keep (show Below w.heap.size w _ by rw [HG.out];exact hb)) hdn (HF.out.keep (show Below w.heap.size w _ by rw [HG.out];exact hb)) hn HLL.out (HF1.out.keep (show Below w.heap.size w _ by rw [HG.out];exact hb)) hn1 HLL1.out).mono ?_;rintro e wx1 ⟨rfl,hbX⟩;rw [H1.out];clear c0 c1' s0 s1 t0 t1;replace hb:=bT' hb hbX (by have:=hA.lt;omega);replace hA:=hA.keep hbX hA.lt;replace hS:=hS.keep hbX hS.lt;replace hT:=hT.keep hbX hT.lt;replace hR:=hR.keep hbX hR.lt;clear hbX;have r0:=hR.cell 0;have r1:=hR.cell 1;have f0:=hR.frozen 0;have f1:=hR.frozen 1;go_wp2_with fail
   have q:=(hR.set 0 (.int .i64 0)).set 1 (.slice none 0 0);have qb:=(hb.setCell (p:=⟨g3,0,none⟩) (by dsimp only;omega) (.int .i64 0)).setCell (p:=⟨g3,1,none⟩) (by dsimp only;omega) (.slice none 0 0);exact bodyPost_ret (results_row2 rfl _ _ g3 36 #[.int .i64 0,.slice none 0 0] (0,0) _ rfl q Try.underlying36 rfl Try.info_der) rfl ⟨none,0,0,by rw [HE.out.1,HE.out.2.1];rfl,by rw [HE.out.2.2];exact OwnF.none_,by rw [HG.out];exact qb⟩
 · have H1:=Lib.hid hd1;cases hd2:derB zs ims k2 hss
   · have H2:=Lib.hid hd2;have HE:=Lib.hid (ad9_ne (ad9_1 (k:=k) (k2:=k2) (gss:=gss) (Or.inr hd2)) (by omega));clear hd1 hd2;have c0:=hA.cell 0;have c1':=hA.cell 1;have s0:=hS.cell 0;have s1:=hS.cell 1;have t0:=hT.cell 0;have t1:=hT.cell 1;go_wp2_with fail
     refine (l09Is_c dc c k c1 (HD.out.keep (show Below w.heap.size w _ by rw [HG.out];exact hb)) hdn (HF.out.keep (show Below w.heap.size w _ by rw [HG.out];exact hb)) hn HLL.out (HF1.out.keep (show Below w.heap.size w _ by rw [HG.out];exact hb)) hn1 HLL1.out).mono ?_;rintro e wx1 ⟨rfl,hbX⟩;rw [H1.out];clear c0 c1' s0 s1 t0 t1;replace hb:=bT' hb hbX (by have:=hA.lt;omega);replace hA:=hA.keep hbX hA.lt;replace hS:=hS.keep hbX hS.lt;replace hT:=hT.keep hbX hT.lt;replace hR:=hR.keep hbX hR.lt;clear hbX;have c0:=hA.cell 0;have c1':=hA.cell 1;have s0:=hS.cell 0;have s1:=hS.cell 1;have t0:=hT.cell 0;have t1:=hT.cell 1;go_wp2_with fail
     refine (l09Is_c dc c k2 c2 (HD.out.keep (show Below w.heap.size w _ by rw [HG.out];exact hb)) hdn (HF.out.keep (show Below w.heap.size w _ by rw [HG.out];exact hb)) hn HLL.out (HF2.out.keep (show Below w.heap.size w _ by rw [HG.out];exact hb)) hn2 HLL2.out).mono ?_;rintro e wx2 ⟨rfl,hbX⟩;rw [H2.out];clear c0 c1' s0 s1 t0 t1;replace hb:=bT' hb hbX (by have:=hA.lt;omega);replace hA:=hA.keep hbX hA.lt;replace hS:=hS.keep hbX hS.lt;replace hT:=hT.keep hbX hT.lt;replace hR:=hR.keep hbX hR.lt;clear hbX;have r0:=hR.cell 0;have r1:=hR.cell 1;have f0:=hR.frozen 0;have f1:=hR.frozen 1;go_wp2_with fail
     have q:=(hR.set 0 (.int .i64 0)).set 1 (.slice none 0 0);have qb:=(hb.setCell (p:=⟨g3,0,none⟩) (by dsimp only;omega) (.int .i64 0)).setCell (p:=⟨g3,1,none⟩) (by dsimp only;omega) (.slice none 0 0);exact bodyPost_ret (results_row2 rfl _ _ g3 36 #[.int .i64 0,.slice none 0 0] (0,0) _ rfl q Try.underlying36 rfl Try.info_der) rfl ⟨none,0,0,by rw [HE.out.1,HE.out.2.1];rfl,by rw [HE.out.2.2];exact OwnF.none_,by rw [HG.out];exact qb⟩
   · have H2:=Lib.hid hd2;clear hd1 hd2;have c0:=hA.cell 0;have c1':=hA.cell 1;have s0:=hS.cell 0;have s1:=hS.cell 1;have t0:=hT.cell 0;have t1:=hT.cell 1;go_wp2_with fail
     refine (l09Is_c dc c k c1 (HD.out.keep (show Below w.heap.size w _ by rw [HG.out];exact hb)) hdn (HF.out.keep (show Below w.heap.size w _ by rw [HG.out];exact hb)) hn HLL.out (HF1.out.keep (show Below w.heap.size w _ by rw [HG.out];exact hb)) hn1 HLL1.out).mono ?_;rintro e wx1 ⟨rfl,hbX⟩;rw [H1.out];clear c0 c1' s0 s1 t0 t1;replace hb:=bT' hb hbX (by have:=hA.lt;omega);replace hA:=hA.keep hbX hA.lt;replace hS:=hS.keep hbX hS.lt;replace hT:=hT.keep hbX hT.lt;replace hR:=hR.keep hbX hR.lt;clear hbX;have c0:=hA.cell 0;have c1':=hA.cell 1;have s0:=hS.cell 0;have s1:=hS.cell 1;have t0:=hT.cell 0;have t1:=hT.cell 1;go_wp2_with fail
     refine (l09Is_c dc c k2 c2 (HD.out.keep (show Below w.heap.size w _ by rw [HG.out];exact hb)) hdn (HF.out.keep (show Below w.heap.size w _ by rw [HG.out];exact hb)) hn HLL.out (HF2.out.keep (show Below w.heap.size w _ by rw [HG.out];exact hb)) hn2 HLL2.out).mono ?_;rintro e w' ⟨rfl,hbX⟩;rw [H2.out];clear c0 c1' s0 s1 t0 t1;replace hb:=bT' hb hbX (by have:=hA.lt;omega);replace hA:=hA.keep hbX hA.lt;replace hS:=hS.keep hbX hS.lt;replace hT:=hT.keep hbX hT.lt;replace hR:=hR.keep hbX hR.lt;clear hbX;by_cases hkk:k=k2
     rotate_left
     · have HE:=Lib.hid (ad9_ne (ad9_2 H1.out H2.out hkk) (by omega));have hkb:(k != k2)=true:=(by simpa using hkk);have s0:=hS.cell 0;have t0:=hT.cell 0;have r0:=hR.cell 0;have r1:=hR.cell 1;have f0:=hR.frozen 0;have f1:=hR.frozen 1;go_wp2_with fail
       have q:=(hR.set 0 (.int .i64 0)).set 1 (.slice none 0 0);have qb:=(hb.setCell (p:=⟨g3,0,none⟩) (by dsimp only;omega) (.int .i64 0)).setCell (p:=⟨g3,1,none⟩) (by dsimp only;omega) (.slice none 0 0);exact bodyPost_ret (results_row2 rfl _ _ g3 36 #[.int .i64 0,.slice none 0 0] (0,0) _ rfl q Try.underlying36 rfl Try.info_der) rfl ⟨none,0,0,by rw [HE.out.1,HE.out.2.1];rfl,by rw [HE.out.2.2];exact OwnF.none_,by rw [HG.out];exact qb⟩
     · subst hkk;have hkb:(k != k)=false:=(by simp);have hl1:=derB_len H1.out;have hl2:=derB_len H2.out;obtain rfl:dn=n1:=(by have:=HF1.out.len;have:=HDL.out;omega);obtain rfl:dn=n2:=by have:=HF2.out.len;have:=HDL.out;omega
       have h8:dn≤8:=by
        have:=derB_alg H1.out;simp only [isAlg,Bool.and_eq_true] at this;have:=degsOk_len this.1;have:=HDL.out;omega
       have HF400a:=Lib.hid (fun (i:Nat) ts (hi:gss[i]? = some ts)=>derB_form H1.out hi);have HF400b:=Lib.hid (fun (i:Nat) ts (hi:hss[i]? = some ts)=>derB_form H2.out hi);have HLa:=Lib.hid hl1;have HLb:=Lib.hid hl2;clear hl1 hl2;have hO:=Own.new w' 36 #[.int .i64 k,.slice none 0 0];have hbX:=bA1 w' (.cells #[.int .i64 k,.slice none 0 0] 36);have hlR:=hR.lt;have s0:=hS.cell 0;have t0:=hT.cell 0;go_upto_region 6 with fail
       clear s0 t0 hkb;replace hb:=bT' hb hbX (by have:=hA.lt;omega);replace hA:=hA.keep hbX hA.lt;replace hS:=hS.keep hbX hS.lt;replace hT:=hT.keep hbX hT.lt;replace hR:=hR.keep hbX hR.lt;clear hbX;generalize w'.alloc (.cells #[.int .i64 k,.slice none 0 0] 36)=w3 at *;generalize w'.heap.size=gX at *;go_upto_region 7 with fail
       go_loopw [9] (fun y wr=>∃(p:Nat) (va0:Option Addr) (vc0:Nat) (vs:List Value),p≤dn∧y=.int .i64 p∧Below g0 w wr∧Own wr g0 33 #[.slice da dn dc,.slice a n c]∧Own wr g1 36 #[.int .i64 k,.slice a1 dn c1]∧Own wr g2 36 #[.int .i64 k,.slice a2 dn c2]∧Own wr g3 36 #[.int .i64 0,.slice none 0 0]∧Own wr gX 36 #[.int .i64 k,.slice va0 p vc0]∧wr.ownsRow g0 61 1 (.slice va0 p vc0) p vs∧Hid (Vals wr g0 vs (sums gss hss p))) (fun y _=>dn - (intOf y).toNat)
       case atStart=>exact ⟨0,none,0,[],Nat.zero_le _,rfl,hb,hA,hS,hT,hR,hO,World.ownsRow_nil _ _ _ _,Lib.hid (Vals.nil _ _)⟩
       case round=>
        clear hb hA hS hT hR hO;obtain ⟨p,va0,vc0,vs,hp,rfl,hb,hA,hS,hT,hR,hO,hI,hW⟩:=hrel;have HIR:=Lib.hid hI;clear hI;have s1:=hS.cell 1;by_cases hpn:p<dn
        · obtain ⟨b1,o1,fs,x1,m1,d1,rfl,hl1,hc1,hTa,hm1,hx1⟩:=HF1.out.at_ hpn;obtain ⟨b2,o2,gs,x2,m2,d2,rfl,hl2,hc2,hTb,hm2,hx2⟩:=HF2.out.at_ hpn;have hga:w.heap.size≤g0:=Nat.le_of_eq HG.out;have hgb:g0≤w.heap.size:=Nat.le_of_eq HG.out.symm;have fa:=HF400a.out p fs hx1.out;have fb:=HF400b.out p gs hx2.out;have HFa:=Lib.hid (fun t ht=>(by have:=isForm_f fa t ht;omega:0≤Tm.f t∧Tm.f t≤10006));have HFb:=Lib.hid (fun t ht=>(by have:=isForm_f fb t ht;omega:0≤Tm.f t∧Tm.f t≤10006));have hm1':m1≤400:=(by have:=isForm_400 fa;have:=hTa.len;omega);have hm2':m2≤400:=(by have:=isForm_400 fb;have:=hTb.len;omega);have HSM:Hid (sumAt gss hss p=addT 1 fs gs):=Lib.hid (sumAt_of hx1.out hx2.out);have HC1:=Lib.hid hc1;have HC2:=Lib.hid hc2;have HTa:=Lib.hid hTa;have HTb:=Lib.hid hTb;clear hc1 hc2 hTa hTb fa fb;have hp0:(0:Int)≤(p:Int):=(by omega);have hpd:(p:Int)<(dn:Int):=(by omega);go_upto_region 9 with fail
          clear s1;replace hA:Own wr.drew g0 33 #[.slice da dn dc,.slice a n c]:=hA;replace hS:Own wr.drew g1 36 #[.int .i64 k,.slice (some ⟨b1,o1,none⟩) dn c1]:=hS;replace hT:Own wr.drew g2 36 #[.int .i64 k,.slice (some ⟨b2,o2,none⟩) dn c2]:=hT;replace hR:Own wr.drew g3 36 #[.int .i64 0,.slice none 0 0]:=hR;replace hO:Own wr.drew gX 36 #[.int .i64 k,.slice va0 p vc0]:=hO;have hI:wr.drew.ownsRow g0 61 1 (.slice va0 p vc0) p vs:=HIR.out;replace hW:Hid (Vals wr.drew g0 vs (sums gss hss p)):=Lib.hid (hW.out.keep ((Below.refl _ _).drew));replace hb:Below w.heap.size w wr.drew:=(by rw [HG.out];exact hb.drew);clear HIR;refine wp_region_held_drew (S:=(fun w'=>w'.cell? ⟨g1,1,none⟩=some (.slice (some ⟨b1,o1,none⟩) dn c1)∧w'.cell? ⟨g2,1,none⟩=some (.slice (some ⟨b2,o2,none⟩) dn c2)∧w'.cell? ⟨b1,o1+p,none⟩=some (.slice x1 m1 d1)∧w'.cell? ⟨b2,o2+p,none⟩=some (.slice x2 m2 d2))) (by kernel_rfl) ?_ (fun _=>?_)
          · ((try dsimp only);(exact ⟨hS.cell 1,hT.cell 1,(World.cell?_of_block (a:=⟨b1,o1+p,none⟩) (hb.block b1 hl1)).trans HC1.out,(World.cell?_of_block (a:=⟨b2,o2+p,none⟩) (hb.block b2 hl2)).trans HC2.out⟩))
          generalize wr.drew=W0d at *;refine hdT 0 ?_;refine hdT 2 ?_;refine hdT 3 ?_;refine hdT 4 ?_;refine hdT 5 ?_;refine hdT 6 ?_;refine hdT 7 ?_;refine hdT 8 ?_;refine hdT 9 ?_;refine hdT 10 ?_;refine hdT 11 ?_;refine wpAnyH_ready (rs:=[1,12]) (by kernel_rfl) (by simp) ?_;refine AllReadyH.cons (hdAt (i:=1) rfl) (fun K hK=>?_) (AllReadyH.cons (hdAt (i:=12) rfl) (fun K hK=>?_) AllReadyH.nil)
          · skip
            have cO1:=hO.cell 1
            (go_simp;try go_wp2_with fail)
            refine hK.out _ _ ?_ (fun _=>?_)
            · ((try dsimp only);(exact ⟨hS.cell 1,hT.cell 1,(World.cell?_of_block (a:=⟨b1,o1+p,none⟩) (hb.block b1 hl1)).trans HC1.out,(World.cell?_of_block (a:=⟨b2,o2+p,none⟩) (hb.block b2 hl2)).trans HC2.out⟩))
            clear hK K
            (try simp only [Act.put,pA,pB,pC])
            refine hdC 12 (fun K hK=>?_);have HLT:=Lib.hid hW.out.lt;have hbs:g0≤_:=Nat.le_of_lt hA.lt
            (go_simp;(go_at_call 70;refine (l01Add_c d1 d2 1 (by omega) (by omega) (HTa.out.keep hb) (HTb.out.keep hb) (by omega) HFa.out HFb.out).mono ?_;rintro e W1 ⟨v,rfl,hV0,hbX⟩);go_wp2_with fail)
            replace hA:=hA.keep hbX hA.lt;replace hS:=hS.keep hbX hS.lt;replace hT:=hT.keep hbX hT.lt;replace hR:=hR.keep hbX hR.lt;replace hI:=row_keep hI hbX;replace hW:=Lib.hid (hW.out.keep hbX);replace hb:=bT' hb hbX hb.size;replace hO:=hO.keep hbX hO.lt;have hV:=hV0.r;clear hV0;obtain ⟨va,vn,vc,rfl⟩:=hV.isSlice;replace hW:=Lib.hid (hW.out.snoc HLT.out hbs hV);have HON:Hid (∀u∈([Value.slice va vn vc]:List Value),u.oneCell'=true):=Lib.hid (by simp [Value.oneCell']);clear HLT hbs hV;clear hbX;refine hK.out _ _ ?_ (fun _=>?_)
            · ((try dsimp only);(exact ⟨hS.cell 1,hT.cell 1,(World.cell?_of_block (a:=⟨b1,o1+p,none⟩) (hb.block b1 hl1)).trans HC1.out,(World.cell?_of_block (a:=⟨b2,o2+p,none⟩) (hb.block b2 hl2)).trans HC2.out⟩))
            clear hK K
            (try simp only [Act.put,pA,pB,pC])
            refine hdC 13 (fun K hK=>?_)
            (go_simp;try go_wp2_with fail)
            have hN:=Own.new W1 61 #[.slice va vn vc];have hbX:=bA1 W1 (.cells #[.slice va vn vc] 61);replace hA:=hA.keep hbX hA.lt;replace hS:=hS.keep hbX hS.lt;replace hT:=hT.keep hbX hT.lt;replace hR:=hR.keep hbX hR.lt;replace hI:=row_keep hI hbX;replace hW:=Lib.hid (hW.out.keep hbX);replace hb:=bT' hb hbX hb.size;replace hO:=hO.keep hbX hO.lt;generalize W1.alloc (.cells #[.slice va vn vc] 61)=W2 at *;generalize hhNg:W1.heap.size=ghN at *;clear hbX hhNg;refine hK.out _ _ ?_ (fun _=>?_)
            · ((try dsimp only);(exact ⟨hS.cell 1,hT.cell 1,(World.cell?_of_block (a:=⟨b1,o1+p,none⟩) (hb.block b1 hl1)).trans HC1.out,(World.cell?_of_block (a:=⟨b2,o2+p,none⟩) (hb.block b2 hl2)).trans HC2.out⟩))
            clear hK K
            (try simp only [Act.put,pA,pB,pC])
            refine hdC 14 (fun K hK=>?_);have HNW:Hid (∀j u,([Value.slice va vn vc]:List Value)[j]? = some u→W2.cell? ((⟨ghN,0,none⟩:Addr).add j)=some u):=Lib.hid (fun j u hu=>by rw [Addr.add_mid];exact hN.range j u hu);have HRW:=Lib.hid hI;have hszW:g0≤W2.heap.size:=(by have:=hA.lt;omega);rw [if_pos (by rfl)];refine wp_append_own_wide _ (.tmp 40) (.tmp 52) 31 rfl g0 61 ti tz 1 24 Try.underlying31 HI.out HZ.out HSz.out HBt.out HZs.out (by omega) (.slice va0 p vc0) p _ rfl HRW.out ⟨ghN,0,none⟩ 1 1 [Value.slice va vn vc] rfl rfl HNW.out HON.out (by simp only [maxLen];omega) (by omega) hszW (fun v' W3 h2 h3 h4=>?_);obtain ⟨xa9,xc9,rfl⟩:=row_slice h2;replace hA:=hA.grown h3 (own_ne_row hA HRW.out (by decide));replace hS:=hS.grown h3 (own_ne_row hS HRW.out (by decide));replace hT:=hT.grown h3 (own_ne_row hT HRW.out (by decide));replace hR:=hR.grown h3 (own_ne_row hR HRW.out (by decide));replace hW:=Lib.hid (hW.out.grown h3 (fun q e=>row_own HRW.out e));replace hb:=grown_below hb h3 (fun j e=>by have:=(HRW.out.lt j e).1;omega) hb.size;replace hO:=hO.grown h3 (own_ne_row hO HRW.out (by decide));have H2:=Lib.hid h2;clear h2 h4 hI hN;clear HNW HRW hszW h3;refine hK.out _ _ ?_ (fun _=>?_)
            · ((try dsimp only);(exact ⟨hS.cell 1,hT.cell 1,(World.cell?_of_block (a:=⟨b1,o1+p,none⟩) (hb.block b1 hl1)).trans HC1.out,(World.cell?_of_block (a:=⟨b2,o2+p,none⟩) (hb.block b2 hl2)).trans HC2.out⟩))
            clear hK K
            (try simp only [Act.put,pA,pB,pC])
            refine hdT 15 ?_;refine hdC 16 (fun K hK=>?_);have cO2:=hO.cell 1;have fO2:=hO.frozen 1
            (go_simp;go_wp2_with fail)
            replace hA:=hA.far (p:=⟨gX,1,none⟩) (by dsimp only;omega) (.slice xa9 (p+1) xc9);replace hS:=hS.far (p:=⟨gX,1,none⟩) (by dsimp only;omega) (.slice xa9 (p+1) xc9);replace hT:=hT.far (p:=⟨gX,1,none⟩) (by dsimp only;omega) (.slice xa9 (p+1) xc9);replace hR:=hR.far (p:=⟨gX,1,none⟩) (by dsimp only;omega) (.slice xa9 (p+1) xc9);have H5:=Lib.hid (row_far9 (p:=⟨gX,1,none⟩) H2.out hO (by decide) (.slice xa9 (p+1) xc9));replace hW:=Lib.hid (vals_far9 (p:=⟨gX,1,none⟩) hW.out hO (by decide) (.slice xa9 (p+1) xc9));replace hb:=hb.setCell (p:=⟨gX,1,none⟩) (by dsimp only;omega) (.slice xa9 (p+1) xc9);replace hO:=hO.set 1 (.slice xa9 (p+1) xc9);generalize W3.setCell ⟨gX,1,none⟩ (.slice xa9 (p+1) xc9)=W4 at *;refine hK.out _ _ ?_ (fun _=>?_)
            · ((try dsimp only);(exact ⟨hS.cell 1,hT.cell 1,(World.cell?_of_block (a:=⟨b1,o1+p,none⟩) (hb.block b1 hl1)).trans HC1.out,(World.cell?_of_block (a:=⟨b2,o2+p,none⟩) (hb.block b2 hl2)).trans HC2.out⟩))
            clear hK K
            (try simp only [Act.put,pA,pB,pC])
            refine wpAnyH_done (by kernel_rfl) ?_ _;go_wp2_with fail
            go_roundw
            case rel=>exact ⟨p+1,xa9,xc9,vs++[.slice va vn vc],by omega,by go_num,by rw [←HG.out];exact hb,hA,hS,hT,hR,hO,H5.out,by rw [sums_succ,HSM.out];exact hW⟩
            case measure=>simp [intOf] <;> omega
          · skip
            have HLT:=Lib.hid hW.out.lt;have hbs:g0≤_:=Nat.le_of_lt hA.lt
            (go_simp;(go_at_call 70;refine (l01Add_c d1 d2 1 (by omega) (by omega) (HTa.out.keep hb) (HTb.out.keep hb) (by omega) HFa.out HFb.out).mono ?_;rintro e W5 ⟨v,rfl,hV0,hbX⟩);go_wp2_with fail)
            replace hA:=hA.keep hbX hA.lt;replace hS:=hS.keep hbX hS.lt;replace hT:=hT.keep hbX hT.lt;replace hR:=hR.keep hbX hR.lt;replace hI:=row_keep hI hbX;replace hW:=Lib.hid (hW.out.keep hbX);replace hb:=bT' hb hbX hb.size;replace hO:=hO.keep hbX hO.lt;have hV:=hV0.r;clear hV0;obtain ⟨va,vn,vc,rfl⟩:=hV.isSlice;replace hW:=Lib.hid (hW.out.snoc HLT.out hbs hV);have HON:Hid (∀u∈([Value.slice va vn vc]:List Value),u.oneCell'=true):=Lib.hid (by simp [Value.oneCell']);clear HLT hbs hV;clear hbX;refine hK.out _ _ ?_ (fun _=>?_)
            · ((try dsimp only);(exact ⟨hS.cell 1,hT.cell 1,(World.cell?_of_block (a:=⟨b1,o1+p,none⟩) (hb.block b1 hl1)).trans HC1.out,(World.cell?_of_block (a:=⟨b2,o2+p,none⟩) (hb.block b2 hl2)).trans HC2.out⟩))
            clear hK K
            (try simp only [Act.put,pA,pB,pC])
            refine wpAnyH_ready (rs:=[1,13]) (by kernel_rfl) (by simp) ?_;refine AllReadyH.cons (hdAt (i:=1) rfl) (fun K hK=>?_) (AllReadyH.cons (hdAt (i:=13) rfl) (fun K hK=>?_) AllReadyH.nil)
            · skip
              have cO1:=hO.cell 1
              (go_simp;try go_wp2_with fail)
              refine hK.out _ _ ?_ (fun _=>?_)
              · ((try dsimp only);(exact ⟨hS.cell 1,hT.cell 1,(World.cell?_of_block (a:=⟨b1,o1+p,none⟩) (hb.block b1 hl1)).trans HC1.out,(World.cell?_of_block (a:=⟨b2,o2+p,none⟩) (hb.block b2 hl2)).trans HC2.out⟩))
              clear hK K
              (try simp only [Act.put,pA,pB,pC])
              refine hdC 13 (fun K hK=>?_)
              (go_simp;try go_wp2_with fail)
              have hN:=Own.new W5 61 #[.slice va vn vc];have hbX:=bA1 W5 (.cells #[.slice va vn vc] 61);replace hA:=hA.keep hbX hA.lt;replace hS:=hS.keep hbX hS.lt;replace hT:=hT.keep hbX hT.lt;replace hR:=hR.keep hbX hR.lt;replace hI:=row_keep hI hbX;replace hW:=Lib.hid (hW.out.keep hbX);replace hb:=bT' hb hbX hb.size;replace hO:=hO.keep hbX hO.lt;generalize W5.alloc (.cells #[.slice va vn vc] 61)=W6 at *;generalize hhNg:W5.heap.size=ghN at *;clear hbX hhNg;refine hK.out _ _ ?_ (fun _=>?_)
              · ((try dsimp only);(exact ⟨hS.cell 1,hT.cell 1,(World.cell?_of_block (a:=⟨b1,o1+p,none⟩) (hb.block b1 hl1)).trans HC1.out,(World.cell?_of_block (a:=⟨b2,o2+p,none⟩) (hb.block b2 hl2)).trans HC2.out⟩))
              clear hK K
              (try simp only [Act.put,pA,pB,pC])
              refine hdC 14 (fun K hK=>?_);have HNW:Hid (∀j u,([Value.slice va vn vc]:List Value)[j]? = some u→W6.cell? ((⟨ghN,0,none⟩:Addr).add j)=some u):=Lib.hid (fun j u hu=>by rw [Addr.add_mid];exact hN.range j u hu);have HRW:=Lib.hid hI;have hszW:g0≤W6.heap.size:=(by have:=hA.lt;omega);rw [if_pos (by rfl)];refine wp_append_own_wide _ (.tmp 40) (.tmp 52) 31 rfl g0 61 ti tz 1 24 Try.underlying31 HI.out HZ.out HSz.out HBt.out HZs.out (by omega) (.slice va0 p vc0) p _ rfl HRW.out ⟨ghN,0,none⟩ 1 1 [Value.slice va vn vc] rfl rfl HNW.out HON.out (by simp only [maxLen];omega) (by omega) hszW (fun v' W7 h2 h3 h4=>?_);obtain ⟨xa9,xc9,rfl⟩:=row_slice h2;replace hA:=hA.grown h3 (own_ne_row hA HRW.out (by decide));replace hS:=hS.grown h3 (own_ne_row hS HRW.out (by decide));replace hT:=hT.grown h3 (own_ne_row hT HRW.out (by decide));replace hR:=hR.grown h3 (own_ne_row hR HRW.out (by decide));replace hW:=Lib.hid (hW.out.grown h3 (fun q e=>row_own HRW.out e));replace hb:=grown_below hb h3 (fun j e=>by have:=(HRW.out.lt j e).1;omega) hb.size;replace hO:=hO.grown h3 (own_ne_row hO HRW.out (by decide));have H2:=Lib.hid h2;clear h2 h4 hI hN;clear HNW HRW hszW h3;refine hK.out _ _ ?_ (fun _=>?_)
              · ((try dsimp only);(exact ⟨hS.cell 1,hT.cell 1,(World.cell?_of_block (a:=⟨b1,o1+p,none⟩) (hb.block b1 hl1)).trans HC1.out,(World.cell?_of_block (a:=⟨b2,o2+p,none⟩) (hb.block b2 hl2)).trans HC2.out⟩))
              clear hK K
              (try simp only [Act.put,pA,pB,pC])
              refine hdT 15 ?_;refine hdC 16 (fun K hK=>?_);have cO2:=hO.cell 1;have fO2:=hO.frozen 1
              (go_simp;go_wp2_with fail)
              replace hA:=hA.far (p:=⟨gX,1,none⟩) (by dsimp only;omega) (.slice xa9 (p+1) xc9);replace hS:=hS.far (p:=⟨gX,1,none⟩) (by dsimp only;omega) (.slice xa9 (p+1) xc9);replace hT:=hT.far (p:=⟨gX,1,none⟩) (by dsimp only;omega) (.slice xa9 (p+1) xc9);replace hR:=hR.far (p:=⟨gX,1,none⟩) (by dsimp only;omega) (.slice xa9 (p+1) xc9);have H5:=Lib.hid (row_far9 (p:=⟨gX,1,none⟩) H2.out hO (by decide) (.slice xa9 (p+1) xc9));replace hW:=Lib.hid (vals_far9 (p:=⟨gX,1,none⟩) hW.out hO (by decide) (.slice xa9 (p+1) xc9));replace hb:=hb.setCell (p:=⟨gX,1,none⟩) (by dsimp only;omega) (.slice xa9 (p+1) xc9);replace hO:=hO.set 1 (.slice xa9 (p+1) xc9);generalize W7.setCell ⟨gX,1,none⟩ (.slice xa9 (p+1) xc9)=W8 at *;refine hK.out _ _ ?_ (fun _=>?_)
              · ((try dsimp only);(exact ⟨hS.cell 1,hT.cell 1,(World.cell?_of_block (a:=⟨b1,o1+p,none⟩) (hb.block b1 hl1)).trans HC1.out,(World.cell?_of_block (a:=⟨b2,o2+p,none⟩) (hb.block b2 hl2)).trans HC2.out⟩))
              clear hK K
              (try simp only [Act.put,pA,pB,pC])
              refine wpAnyH_done (by kernel_rfl) ?_ _;go_wp2_with fail
              go_roundw
              case rel=>exact ⟨p+1,xa9,xc9,vs++[.slice va vn vc],by omega,by go_num,by rw [←HG.out];exact hb,hA,hS,hT,hR,hO,H5.out,by rw [sums_succ,HSM.out];exact hW⟩
              case measure=>simp [intOf] <;> omega
            · skip
              (go_simp;try go_wp2_with fail)
              have hN:=Own.new W5 61 #[.slice va vn vc];have hbX:=bA1 W5 (.cells #[.slice va vn vc] 61);replace hA:=hA.keep hbX hA.lt;replace hS:=hS.keep hbX hS.lt;replace hT:=hT.keep hbX hT.lt;replace hR:=hR.keep hbX hR.lt;replace hI:=row_keep hI hbX;replace hW:=Lib.hid (hW.out.keep hbX);replace hb:=bT' hb hbX hb.size;replace hO:=hO.keep hbX hO.lt;generalize W5.alloc (.cells #[.slice va vn vc] 61)=W9 at *;generalize hhNg:W5.heap.size=ghN at *;clear hbX hhNg;refine hK.out _ _ ?_ (fun _=>?_)
              · ((try dsimp only);(exact ⟨hS.cell 1,hT.cell 1,(World.cell?_of_block (a:=⟨b1,o1+p,none⟩) (hb.block b1 hl1)).trans HC1.out,(World.cell?_of_block (a:=⟨b2,o2+p,none⟩) (hb.block b2 hl2)).trans HC2.out⟩))
              clear hK K
              (try simp only [Act.put,pA,pB,pC])
              refine hdC 1 (fun K hK=>?_);have cO1:=hO.cell 1
              (go_simp;try go_wp2_with fail)
              refine hK.out _ _ ?_ (fun _=>?_)
              · ((try dsimp only);(exact ⟨hS.cell 1,hT.cell 1,(World.cell?_of_block (a:=⟨b1,o1+p,none⟩) (hb.block b1 hl1)).trans HC1.out,(World.cell?_of_block (a:=⟨b2,o2+p,none⟩) (hb.block b2 hl2)).trans HC2.out⟩))
              clear hK K
              (try simp only [Act.put,pA,pB,pC])
              refine hdC 14 (fun K hK=>?_);have HNW:Hid (∀j u,([Value.slice va vn vc]:List Value)[j]? = some u→W9.cell? ((⟨ghN,0,none⟩:Addr).add j)=some u):=Lib.hid (fun j u hu=>by rw [Addr.add_mid];exact hN.range j u hu);have HRW:=Lib.hid hI;have hszW:g0≤W9.heap.size:=(by have:=hA.lt;omega);rw [if_pos (by rfl)];refine wp_append_own_wide _ (.tmp 40) (.tmp 52) 31 rfl g0 61 ti tz 1 24 Try.underlying31 HI.out HZ.out HSz.out HBt.out HZs.out (by omega) (.slice va0 p vc0) p _ rfl HRW.out ⟨ghN,0,none⟩ 1 1 [Value.slice va vn vc] rfl rfl HNW.out HON.out (by simp only [maxLen];omega) (by omega) hszW (fun v' W10 h2 h3 h4=>?_);obtain ⟨xa9,xc9,rfl⟩:=row_slice h2;replace hA:=hA.grown h3 (own_ne_row hA HRW.out (by decide));replace hS:=hS.grown h3 (own_ne_row hS HRW.out (by decide));replace hT:=hT.grown h3 (own_ne_row hT HRW.out (by decide));replace hR:=hR.grown h3 (own_ne_row hR HRW.out (by decide));replace hW:=Lib.hid (hW.out.grown h3 (fun q e=>row_own HRW.out e));replace hb:=grown_below hb h3 (fun j e=>by have:=(HRW.out.lt j e).1;omega) hb.size;replace hO:=hO.grown h3 (own_ne_row hO HRW.out (by decide));have H2:=Lib.hid h2;clear h2 h4 hI hN;clear HNW HRW hszW h3;refine hK.out _ _ ?_ (fun _=>?_)
              · ((try dsimp only);(exact ⟨hS.cell 1,hT.cell 1,(World.cell?_of_block (a:=⟨b1,o1+p,none⟩) (hb.block b1 hl1)).trans HC1.out,(World.cell?_of_block (a:=⟨b2,o2+p,none⟩) (hb.block b2 hl2)).trans HC2.out⟩))
              clear hK K
              (try simp only [Act.put,pA,pB,pC])
              refine hdT 15 ?_;refine hdC 16 (fun K hK=>?_);have cO2:=hO.cell 1;have fO2:=hO.frozen 1
              (go_simp;go_wp2_with fail)
              replace hA:=hA.far (p:=⟨gX,1,none⟩) (by dsimp only;omega) (.slice xa9 (p+1) xc9);replace hS:=hS.far (p:=⟨gX,1,none⟩) (by dsimp only;omega) (.slice xa9 (p+1) xc9);replace hT:=hT.far (p:=⟨gX,1,none⟩) (by dsimp only;omega) (.slice xa9 (p+1) xc9);replace hR:=hR.far (p:=⟨gX,1,none⟩) (by dsimp only;omega) (.slice xa9 (p+1) xc9);have H5:=Lib.hid (row_far9 (p:=⟨gX,1,none⟩) H2.out hO (by decide) (.slice xa9 (p+1) xc9));replace hW:=Lib.hid (vals_far9 (p:=⟨gX,1,none⟩) hW.out hO (by decide) (.slice xa9 (p+1) xc9));replace hb:=hb.setCell (p:=⟨gX,1,none⟩) (by dsimp only;omega) (.slice xa9 (p+1) xc9);replace hO:=hO.set 1 (.slice xa9 (p+1) xc9);generalize W10.setCell ⟨gX,1,none⟩ (.slice xa9 (p+1) xc9)=W11 at *;refine hK.out _ _ ?_ (fun _=>?_)
              · ((try dsimp only);(exact ⟨hS.cell 1,hT.cell 1,(World.cell?_of_block (a:=⟨b1,o1+p,none⟩) (hb.block b1 hl1)).trans HC1.out,(World.cell?_of_block (a:=⟨b2,o2+p,none⟩) (hb.block b2 hl2)).trans HC2.out⟩))
              clear hK K
              (try simp only [Act.put,pA,pB,pC])
              refine wpAnyH_done (by kernel_rfl) ?_ _;go_wp2_with fail
              go_roundw
              case rel=>exact ⟨p+1,xa9,xc9,vs++[.slice va vn vc],by omega,by go_num,by rw [←HG.out];exact hb,hA,hS,hT,hR,hO,H5.out,by rw [sums_succ,HSM.out];exact hW⟩
              case measure=>simp [intOf] <;> omega
        · have he:p=dn:=(by omega);subst he;have c0:=hA.cell 0;have c1':=hA.cell 1;have k0:=hO.cell 0;have k1:=hO.cell 1;have hTM:=Lib.hid (sums_tm (n:=p) HT1.out HT2.out);obtain ⟨ia,ic,hie,hIF⟩:=hW.out.ownF_row (sums_len p) HIR.out hTM.out;simp only [Value.slice.injEq] at hie;obtain ⟨rfl,-,rfl⟩:=hie;have HIF:=Lib.hid hIF
          have hLV:=Lib.hid (fun ts (hts:ts∈sums gss hss p)=>(by
           obtain ⟨i,hi,rfl⟩:=List.mem_map.1 hts;have h1:=addT_len (k:=1) (gss.getD i []) (hss.getD i []);have hi2:i<p:=by simpa using hi
           have g1:(gss.getD i []).length≤400:=by
            rw [List.getD_eq_getElem?_getD,List.getElem?_eq_getElem (show i<gss.length by have:=HLa.out;have:=HDL.out;omega)];exact isForm_400 (HF400a.out i _ (List.getElem?_eq_getElem _))
           have g2:(hss.getD i []).length≤400:=by
            rw [List.getD_eq_getElem?_getD,List.getElem?_eq_getElem (show i<hss.length by have:=HLb.out;have:=HDL.out;omega)];exact isForm_400 (HF400b.out i _ (List.getElem?_eq_getElem _))
           have h3:(sumAt gss hss i).length≤(gss.getD i []).length+(hss.getD i []).length:=h1
           omega:(List.length ts:Int)≤1048576))
          have hall:=sums_all (zs:=zs) (n:=p) (by rw [HLa.out,HDL.out]) (by rw [HLb.out,HDL.out]) HT1.out HT2.out HF400a.out HF400b.out;have hk12:=derB_k H1.out;have hbw:Below w.heap.size w wr:=(by rw [HG.out];exact hb);clear hIF HIR;cases hq:okSums gss hss p
          · have HE:=Lib.hid (ad9_ne (ad9_3 H1.out H2.out (by rw [HDL.out];exact hq)) (by omega));rw [hq] at hall;have HAL:=Lib.hid hall;clear hall hq;go_wp2_with fail
            refine (l09Told_no dc c k vc0 (HD.out.keep hbw) hdn (HIF.out.frms hLV.out) (by omega) hLV.out hk12.2 HAL.out).mono ?_;rintro e wz ⟨rfl,hbX⟩;clear c0 c1' k0 k1 s1;replace hb:=bT' hb hbX (by have:=hA.lt;omega);replace hA:=hA.keep hbX hA.lt;replace hS:=hS.keep hbX hS.lt;replace hT:=hT.keep hbX hT.lt;replace hR:=hR.keep hbX hR.lt;clear hbX;have r0:=hR.cell 0;have r1:=hR.cell 1;have f0:=hR.frozen 0;have f1:=hR.frozen 1;go_wp2_with fail
            have q:=(hR.set 0 (.int .i64 0)).set 1 (.slice none 0 0);have qb:=(hb.setCell (p:=⟨g3,0,none⟩) (by dsimp only;omega) (.int .i64 0)).setCell (p:=⟨g3,1,none⟩) (by dsimp only;omega) (.slice none 0 0);exact bodyPost_ret (results_row2 rfl _ _ g3 36 #[.int .i64 0,.slice none 0 0] (0,0) _ rfl q Try.underlying36 rfl Try.info_der) rfl ⟨none,0,0,by rw [HE.out.1,HE.out.2.1];rfl,by rw [HE.out.2.2];exact OwnF.none_,by rw [HG.out];exact qb⟩
          · have HE:=Lib.hid (ad9_0 H1.out H2.out (by rw [HDL.out];exact hq));rw [hq] at hall;have HAL:=Lib.hid (fun (i:Nat) ts (hi:(sums gss hss p)[i]? = some ts)=>List.all_eq_true.1 hall ts (List.mem_of_getElem? hi));clear hall hq;go_wp2_with fail
            refine (l09Told_yes dc c k vc0 (HD.out.keep hbw) hdn (HIF.out.frms hLV.out) (by omega) hLV.out hk12.2 HAL.out).mono ?_;rintro e wz ⟨rfl,hbX⟩;clear c0 c1' k0 k1 s1 hbw;have hIF2:=(HIF.out.keep hbX).weaken (Nat.le_refl _) hbX.size;replace hb:=bT' hb hbX (by have:=hA.lt;omega);replace hA:=hA.keep hbX hA.lt;replace hS:=hS.keep hbX hS.lt;replace hT:=hT.keep hbX hT.lt;replace hR:=hR.keep hbX hR.lt;clear hbX;have r0:=hR.cell 0;have r1:=hR.cell 1;have f0:=hR.frozen 0;have f1:=hR.frozen 1;have HIF2:=Lib.hid hIF2;clear hIF2;go_wp2_with fail
            have q:=(hR.set 0 (.int .i64 k)).set 1 (.slice va0 p vc0);have qb:=(hb.setCell (p:=⟨g3,0,none⟩) (by dsimp only;omega) (.int .i64 k)).setCell (p:=⟨g3,1,none⟩) (by dsimp only;omega) (.slice va0 p vc0);have qF:=ownF_far9 (p:=⟨g3,1,none⟩) (ownF_far9 (p:=⟨g3,0,none⟩) HIF2.out hR (.int .i64 k)) (hR.set 0 _) (.slice va0 p vc0);exact bodyPost_ret (results_row2 rfl _ _ g3 36 #[.int .i64 k,.slice va0 p vc0] (0,0) _ rfl q Try.underlying36 rfl Try.info_der) rfl ⟨va0,p,vc0,by rw [HE.out.1,HE.out.2.1];rfl,by rw [HE.out.2.2,HG.out,HDL.out];exact qF.weaken (Nat.le_refl _) (by simp),by rw [HG.out];exact qb⟩
end Go.Proofs.Ytikldofmpkidbaa
