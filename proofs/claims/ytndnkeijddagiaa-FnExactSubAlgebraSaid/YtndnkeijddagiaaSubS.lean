
import Derived.Test.YtndnkeijddagiaaSubC
namespace Go.Proofs.Ytndnkeijddagiaa
set_option maxRecDepth 100000
open Go.RowKit Go.Deep
theorem row_far {w:World} {B sz n:Nat} {t t':TypeId} {v:Value} {xs:List Value} {p:Addr} {os:Array Value} (h:w.ownsRow B t sz v n xs) (ho:Own w p.block t' os) (ht:t'≠t) (u:Value):(w.setCell p u).ownsRow B t sz v n xs:=
 ownsRow_setCell_other h (fun e=>own_ne_row ho h ht e.symm) u
theorem vals_far {w:World} {B:Nat} {vs:List Value} {V:List (List Tm)} {t':TypeId} {p:Addr} {os:Array Value} (h:Vals w B vs V) (ho:Own w p.block t' os) (ht:t'≠76) (u:Value):Vals (w.setCell p u) B vs V:=
 ⟨h.len,fun i v ts h1 h2=>(h.each i v ts h1 h2).far (fun e=>own_ne_row ho (h.each i v ts h1 h2) ht e.symm) u,h.apart⟩
theorem l02Copy0_c {w : World} {a : Option Addr} {n : Nat} {ts : List Tm} (c : Nat) (h : Terms w a n ts) (hn : n ≤ 1048576) :
    Calls Try.prog 94 #[.agg #[.slice a n c],.int .i64 0] w fun e w'=>∃va vc,e=.returned (.agg #[.slice va n vc])∧OwnR w' w.heap.size (.slice va n vc) ts∧Below w.heap.size w w':=by
 have hm:=map_shT_zero h.2.1
 have:=l02Copy_c c 0 h hn (by omega)
 rw [hm] at this
 exact this
theorem take_snocS {α:Type} {l:List α} {k:Nat} {x:α} (h:l[k]? = some x):l.take (k+1)=l.take k++[x]:=by
 rw [List.take_add_one,h]
 rfl
set_option maxHeartbeats 4000000 in
theorem SubAlgebra_s {w : World} {gd od dn gi oi n : Nat} {zs : List Int} {ims : List (List Tm)} (dc c : Nat) (k : Int) (hdc : dn ≤ dc) (hnc : n ≤ c) (hd : Ints w (some ⟨gd, od, none⟩) dn zs) (hdn : dn ≤ 1048576) (hN : FrmsN w (some ⟨gi, oi, none⟩) n ims) (hn : n ≤ 1048576) (hL : ∀ im ∈ ims, (im.length : Int) ≤ 1048576) (hT : ∀ ts ∈ ims, ∀ t ∈ ts, IsTm t) (hS : sumLen ims ≤ 1048576) :
    Calls Try.prog 49 #[.agg #[.slice (some ⟨gd,od,none⟩) dn dc,.slice (some ⟨gi,oi,none⟩) n c],.int .i64 k] w fun e w'=>∃a an ac b bn bc,e=.returned (.tuple #[.agg #[.slice a an ac,.slice b bn bc],.int .i64 (saE zs ims k)])∧OwnV w' w.heap.size w'.heap.size a an (saD zs ims k)∧OwnF w' w.heap.size w'.heap.size b bn (saI zs ims k)∧Below w.heap.size w w':=by
 have HLL:=Lib.hid hL
 have HTT:=Lib.hid hT
 have HSS:=Lib.hid hS
 have HNN:=Lib.hid hN
 have HLn:=Lib.hid hN.1
 have HFF:=Lib.hid (hN.frmsS hL)
 have HDD:=Lib.hid hd
 have HDL:=Lib.hid hd.len
 clear hL hT hS hN hd
 have hA:=(Own.new w 29 #[.slice (some ⟨gd,od,none⟩) dn dc,.slice (some ⟨gi,oi,none⟩) n c]).alloc (.cells #[.slice none 0 0,.slice none 0 0] 29)
 have hR:=Own.new (w.alloc (.cells #[.slice (some ⟨gd,od,none⟩) dn dc,.slice (some ⟨gi,oi,none⟩) n c] 29)) 29 #[.slice none 0 0,.slice none 0 0]
 rw [sAl] at hR
 have hb:=bTn (bA1 w (.cells #[.slice (some ⟨gd,od,none⟩) dn dc,.slice (some ⟨gi,oi,none⟩) n c] 29)) (bA1 _ (.cells #[.slice none 0 0,.slice none 0 0] 29))
 obtain ⟨ti,tz,hti,htz,hts,htb,htzs⟩:=Try.info_formA
 have HI:=Lib.hid hti
 have HZ:=Lib.hid htz
 have HS:=Lib.hid hts
 have HBt:=Lib.hid htb
 have HZs:=Lib.hid htzs
 clear hti htz hts htb htzs
 go_enter Try.func49,Try.ntmps49
 go_upto_region 1 with fail
 generalize (w.alloc (.cells #[.slice (some ⟨gd,od,none⟩) dn dc,.slice (some ⟨gi,oi,none⟩) n c] 29)).alloc (.cells #[.slice none 0 0,.slice none 0 0] 29)=w0 at *
 have hlR:=hR.lt
 have c0:=hA.cell 0
 have c1:=hA.cell 1
 cases hal:isAlg zs ims
 · have HE:=Lib.hid (sa_ne (k:=k) (sa_no hal) (by omega));have HA:=Lib.hid hal;clear hal;go_wp2_with fail
   refine (l02Is_c dc c (HDD.out.keep hb) hdn (HFF.out.keep hb) hn HLL.out).mono ?_;rintro e w1 ⟨rfl,hb1⟩;rw [HA.out];replace hR:=hR.keep hb1 hR.lt;replace hb:=bT' hb hb1 hb.size;clear hb1 c0 c1 hA;have r0:=hR.cell 0;have r1:=hR.cell 1;have f0:=hR.frozen 0;have f1:=hR.frozen 1;go_wp2_with fail
   have q:=(hR.set 0 (.slice none 0 0)).set 1 (.slice none 0 0);exact bodyPost_ret (results_row2 rfl _ _ (w.heap.size+1) 29 #[.slice none 0 0,.slice none 0 0] (0,0) _ rfl q Try.underlying29 rfl Try.info_alg) rfl ⟨none,0,0,none,0,0,by rw [HE.out.1];rfl,by rw [HE.out.2.1];exact OwnV.none_,by rw [HE.out.2.2];exact OwnF.none_,(hb.setCell (p:=⟨w.heap.size+1,0,none⟩) (by dsimp only;omega) _).setCell (p:=⟨w.heap.size+1,1,none⟩) (by dsimp only;omega) _⟩
 · have HA:=Lib.hid hal;obtain rfl:dn=n:=(by have:=isAlg_lenS hal;have:=HLn.out;have:=HDL.out;omega);have h8:dn≤8:=(by have:=degsOk_len (isAlg_degs hal);have:=HDL.out;omega);clear hal;go_wp2_with fail
   refine (l02Is_c dc c (HDD.out.keep hb) hdn (HFF.out.keep hb) hn HLL.out).mono ?_;rintro e w1 ⟨rfl,hb1⟩;rw [HA.out];replace hA:=hA.keep hb1 hA.lt;replace hR:=hR.keep hb1 hR.lt;replace hb:=bT' hb hb1 hb.size;clear hb1 c0 c1 hlR;have hlR:=hR.lt;have c0:=hA.cell 0;go_wp2_with fail
   refine (l01In_c k 0 (dn:Int) w1).mono ?_;rintro e w2 ⟨rfl,hw2⟩;subst hw2;by_cases hkr:k<0∨(dn:Int)<k
   · have HE:=Lib.hid (sa_ne (sa_range HA.out (by rw [HDL.out];exact hkr)) (by omega));have hin:decide (0≤k∧k≤(dn:Int))=false:=(by simp;omega);rw [hin];clear c0 hin;have r0:=hR.cell 0;have r1:=hR.cell 1;have f0:=hR.frozen 0;have f1:=hR.frozen 1;go_wp2_with fail
     have q:=(hR.set 0 (.slice none 0 0)).set 1 (.slice none 0 0);exact bodyPost_ret (results_row2 rfl _ _ (w.heap.size+1) 29 #[.slice none 0 0,.slice none 0 0] (0,0) _ rfl q Try.underlying29 rfl Try.info_alg) rfl ⟨none,0,0,none,0,0,by rw [HE.out.1];rfl,by rw [HE.out.2.1];exact OwnV.none_,by rw [HE.out.2.2];exact OwnF.none_,(hb.setCell (p:=⟨w.heap.size+1,0,none⟩) (by dsimp only;omega) _).setCell (p:=⟨w.heap.size+1,1,none⟩) (by dsimp only;omega) _⟩
   · have hin:decide (0≤k∧k≤(dn:Int))=true:=(by simp;omega);rw [hin];clear hin;obtain ⟨kk,rfl⟩:∃kk:Nat,k=kk:=⟨k.toNat,by omega⟩;have HIN:Hid (¬((kk:Int)<0∨(zs.length:Int)<(kk:Int))):=Lib.hid (by rw [HDL.out];exact hkr);have hkd:kk≤dn:=(by omega);have hkc:kk≤c:=(by omega);have hkdc:kk≤dc:=(by omega);have hslD:=sliceH_run gd od dn dc kk hkdc;clear hkr;go_wp2_with fail
     refine (l01OwnI_c dc ((HDD.out.keep hb).take hkd) (by omega)).mono ?_;rintro e w3 ⟨xa,xc,rfl,hD,hb3⟩;have hbs0:=hb.size;replace hA:=hA.keep hb3 hA.lt;replace hR:=hR.keep hb3 hR.lt;replace hb:=bT' hb hb3 hb.size;have hD':w3.ownsRow w.heap.size 2 1 (.slice xa kk xc) kk ((zs.take kk).map (Value.int .i64)):=row_weaken0 hD hbs0;clear hb3 hD c0 hbs0 hslD hlR;have hO:=Own.new w3 29 #[.slice xa kk xc,.slice none 0 0];have hbX:=bA1 w3 (.cells #[.slice xa kk xc,.slice none 0 0] 29);have HD:=Lib.hid (row_keep hD' hbX);have hlX:w.heap.size+1<w3.heap.size:=hR.lt;replace hA:=hA.keep hbX hA.lt;replace hR:=hR.keep hbX hR.lt;replace hb:=bT' hb hbX hb.size;clear hD' hbX;go_upto_region 6 with fail
     generalize w3.alloc (.cells #[.slice xa kk xc,.slice none 0 0] 29)=w4 at *;generalize w3.heap.size=gX at *;go_upto_region 7 with fail
     go_loopw [7] (fun y wr=>∃(p:Nat) (va:Option Addr) (vc:Nat) (vs:List Value),p≤kk∧y=.int .i64 p∧Below w.heap.size w wr∧Own wr w.heap.size 29 #[.slice (some ⟨gd,od,none⟩) dn dc,.slice (some ⟨gi,oi,none⟩) dn c]∧Own wr (w.heap.size+1) 29 #[.slice none 0 0,.slice none 0 0]∧Own wr gX 29 #[.slice xa kk xc,.slice va p vc]∧wr.ownsRow w.heap.size 2 1 (.slice xa kk xc) kk ((zs.take kk).map (Value.int .i64))∧wr.ownsRow w.heap.size 47 1 (.slice va p vc) p vs∧Hid (Vals wr w.heap.size vs (ims.take p))∧Hid (∀q,q<p→∀ts,ims[q]? = some ts→∀j,kk≤j→j<dn→hasG ts j=false)) (fun y _=>kk - (intOf y).toNat)
     case atStart=>exact ⟨0,none,0,[],Nat.zero_le _,rfl,hb,hA,hR,hO,HD.out,World.ownsRow_nil _ _ _ _,Lib.hid (Vals.nil _ _),Lib.hid (fun q hq=>absurd hq (by omega))⟩
     case round=>
      clear hb hA hR hO HD;obtain ⟨p,va,vc,vs,hp,rfl,hb,hA,hR,hO,hD,hI,hW,HN⟩:=hrel;have HD:=Lib.hid hD;have HI2:=Lib.hid hI;clear hD hI;have hp0:(0:Int)≤(p:Int):=(by omega);by_cases hin:p<kk
      · obtain ⟨b,off,ts,ai,ni,ci,hae,hbl,hc0,hT0,hni,hx⟩:=HFF.out.at_ (show p<dn by omega);obtain ⟨rfl,rfl⟩:gi=b∧oi=off:=(by simpa using hae);have HC0:=Lib.hid hc0;have HTK:=Lib.hid (take_snocS hx.out);have hni2:ni≤1048576:=(by have:=HLL.out ts (List.mem_of_getElem? hx.out);have:=hT0.len;omega);have hpn:(p:Int)<(dn:Int):=(by omega);have hpk:(p:Int)<(kk:Int):=(by omega);clear hc0 hae;go_upto_region 10 with fail
        go_loopw [8] (fun y wq=>∃j:Nat,kk≤j∧j≤dn∧y=.int .i64 j∧Below wr.heap.size wr wq∧Hid (∀i,kk≤i→i<j→hasG ts i=false)) (fun y _=>dn - (intOf y).toNat)
        case atStart=>exact ⟨kk,Nat.le_refl _,hkd,rfl,Below.refl _ _,Lib.hid (fun i h1 h2=>absurd h1 (by omega))⟩
        case round=>
         obtain ⟨j,hj1,hj2,rfl,hbq,HJ⟩:=hrel;replace hA:=hA.keep hbq hA.lt;replace hR:=hR.keep hbq hR.lt;replace hO:=hO.keep hbq hO.lt;have hD:=row_keep HD.out hbq;have hI:=row_keep HI2.out hbq;replace hW:=Lib.hid (hW.out.keep hbq);replace hb:=bT' hb hbq hb.size;clear HD HI2;have HD:=Lib.hid hD;have HI2:=Lib.hid hI;clear hD hI;have hj0:(0:Int)≤(j:Int):=(by omega);have cA:=hA.cell 1;have cA0:=hA.cell 0;by_cases hjn:j<dn
         · have hji:(j:Int)<(dn:Int):=(by omega);have hcc:=(World.cell?_of_block (a:=⟨gi,oi+p,none⟩) (hb.block gi hbl)).trans HC0.out;go_wp2_with fail
           refine (l06Has_c ci (hT0.keep hb) hni2 (i:=j) (by omega)).mono ?_;rintro e w5 ⟨rfl,hb5⟩;clear hcc cA cA0;cases hg:hasG ts j
           · have HG:=Lib.hid hg;clear hg;go_wp2_with fail
             go_roundw
             case rel=>
              refine ⟨j+1,by omega,by omega,by go_num,bT' hbq hb5 hbq.size,Lib.hid (fun i h1 h2=>?_)⟩;by_cases e:i=j
              · rw [e];exact HG.out
              · exact HJ.out i h1 (by omega)
             case measure=>simp [intOf] <;> omega
           · have HE := Lib.hid (sa_ne (sa_state HA.out HIN.out (saB_yes (j := j) (by simp; omega) (by rw [HDL.out]; omega) (by
               rw [anyG]
               exact any_yes (p:=fun ts=>hasG ts j) (k:=p) (x:=ts) (by rw [List.getElem?_take,if_pos (by simp;omega)];exact hx.out) hg))) (by omega))
             clear hg;replace hR:=hR.keep hb5 hR.lt;replace hb:=bT' hb hb5 hb.size;clear hb5 hbq hA hO HD HI2 hW;have r0:=hR.cell 0;have r1:=hR.cell 1;have f0:=hR.frozen 0;have f1:=hR.frozen 1;go_wp2_with fail
             have q:=(hR.set 0 (.slice none 0 0)).set 1 (.slice none 0 0);exact bodyPost_ret (results_row2 rfl _ _ (w.heap.size+1) 29 #[.slice none 0 0,.slice none 0 0] (0,0) _ rfl q Try.underlying29 rfl Try.info_alg) rfl ⟨none,0,0,none,0,0,by rw [HE.out.1];rfl,by rw [HE.out.2.1];exact OwnV.none_,by rw [HE.out.2.2];exact OwnF.none_,(hb.setCell (p:=⟨w.heap.size+1,0,none⟩) (by dsimp only;omega) _).setCell (p:=⟨w.heap.size+1,1,none⟩) (by dsimp only;omega) _⟩
         · have he:j=dn:=(by omega);subst he
           have HN2:Hid (∀q,q<p+1→∀ts,ims[q]? = some ts→∀i,kk≤i→i<j→hasG ts i=false):=Lib.hid (fun q hq us hu i h1 h2=>by
            by_cases e:q=p
            · subst e;rw [hx.out,Option.some.injEq] at hu;subst hu;exact HJ.out i h1 h2
            · exact HN.out q (by omega) us hu i h1 h2)
           go_upto_region 14 with fail
           clear hbq cA0;replace hA:Own wr.drew w.heap.size 29 #[.slice (some ⟨gd,od,none⟩) j dc,.slice (some ⟨gi,oi,none⟩) j c]:=hA;replace hR:Own wr.drew (w.heap.size+1) 29 #[.slice none 0 0,.slice none 0 0]:=hR;replace hO:Own wr.drew gX 29 #[.slice xa kk xc,.slice va p vc]:=hO;have hD:wr.drew.ownsRow w.heap.size 2 1 (.slice xa kk xc) kk ((zs.take kk).map (Value.int .i64)):=HD.out;have hI:wr.drew.ownsRow w.heap.size 47 1 (.slice va p vc) p vs:=HI2.out;replace hW:Hid (Vals wr.drew w.heap.size vs (ims.take p)):=Lib.hid (hW.out.keep ((Below.refl _ _).drew));replace hb:Below w.heap.size w wr.drew:=hb.drew;clear HD HI2 cA;refine wp_region_held_drew (S:=(fun w'=>w'.cell? ⟨w.heap.size,1,none⟩=some (.slice (some ⟨gi,oi,none⟩) j c)∧w'.cell? ⟨gi,oi+p,none⟩=some (.slice ai ni ci))) (by kernel_rfl) ?_ (fun _=>?_)
           · ((try dsimp only);(exact ⟨hA.cell 1,(World.cell?_of_block (a:=⟨gi,oi+p,none⟩) (hb.block gi hbl)).trans HC0.out⟩))
           generalize wr.drew=W0d at *;refine hdT 0 ?_;refine hdT 2 ?_;refine hdT 3 ?_;refine hdT 4 ?_;refine hdT 5 ?_;refine hdT 6 ?_;refine wpAnyH_ready (rs:=[1,7]) (by kernel_rfl) (by simp) ?_;refine AllReadyH.cons (hdAt (i:=1) rfl) (fun K hK=>?_) (AllReadyH.cons (hdAt (i:=7) rfl) (fun K hK=>?_) AllReadyH.nil)
           · skip
             have cO1:=hO.cell 1
             (go_simp;try go_wp2_with fail)
             refine hK.out _ _ ?_ (fun _=>?_)
             · ((try dsimp only);(exact ⟨hA.cell 1,(World.cell?_of_block (a:=⟨gi,oi+p,none⟩) (hb.block gi hbl)).trans HC0.out⟩))
             clear hK K
             (try simp only [Act.put,pA,pB,pC])
             refine hdC 7 (fun K hK=>?_);have HLT:=Lib.hid hW.out.lt;have hbs:=hb.size
             (go_simp;(go_at_call 94;refine (l02Copy0_c ci (hT0.keep hb) hni2).mono ?_;rintro e W1 ⟨va2,vc2,rfl,hV,hbX⟩);go_wp2_with fail)
             replace hA:=hA.keep hbX hA.lt;replace hR:=hR.keep hbX hR.lt;replace hD:=row_keep hD hbX;replace hI:=row_keep hI hbX;replace hW:=Lib.hid (hW.out.keep hbX);replace hb:=bT' hb hbX hb.size;replace hO:=hO.keep hbX hO.lt;replace hW:=Lib.hid (hW.out.snoc HLT.out hbs hV);have HON:Hid (∀u∈([Value.slice va2 ni vc2]:List Value),u.oneCell'=true):=Lib.hid (by simp [Value.oneCell']);clear HLT hbs hV;clear hbX;refine hK.out _ _ ?_ (fun _=>?_)
             · ((try dsimp only);(exact ⟨hA.cell 1,(World.cell?_of_block (a:=⟨gi,oi+p,none⟩) (hb.block gi hbl)).trans HC0.out⟩))
             clear hK K
             (try simp only [Act.put,pA,pB,pC])
             refine hdC 8 (fun K hK=>?_)
             (go_simp;try go_wp2_with fail)
             have hN:=Own.new W1 47 #[.slice va2 ni vc2];have hbX:=bA1 W1 (.cells #[.slice va2 ni vc2] 47);replace hA:=hA.keep hbX hA.lt;replace hR:=hR.keep hbX hR.lt;replace hD:=row_keep hD hbX;replace hI:=row_keep hI hbX;replace hW:=Lib.hid (hW.out.keep hbX);replace hb:=bT' hb hbX hb.size;replace hO:=hO.keep hbX hO.lt;generalize W1.alloc (.cells #[.slice va2 ni vc2] 47)=W2 at *;generalize hhNg:W1.heap.size=ghN at *;clear hbX hhNg;refine hK.out _ _ ?_ (fun _=>?_)
             · ((try dsimp only);(exact ⟨hA.cell 1,(World.cell?_of_block (a:=⟨gi,oi+p,none⟩) (hb.block gi hbl)).trans HC0.out⟩))
             clear hK K
             (try simp only [Act.put,pA,pB,pC])
             refine hdC 9 (fun K hK=>?_);have HNW:Hid (∀j u,([Value.slice va2 ni vc2]:List Value)[j]? = some u→W2.cell? ((⟨ghN,0,none⟩:Addr).add j)=some u):=Lib.hid (fun j u hu=>by rw [Addr.add_mid];exact hN.range j u hu);have HRW:=Lib.hid hI;have hszW:w.heap.size≤W2.heap.size:=hb.size;rw [if_pos (by rfl)];refine wp_append_own_wide _ (.tmp 50) (.tmp 57) 27 rfl w.heap.size 47 ti tz 1 24 Try.underlying27 HI.out HZ.out HS.out HBt.out HZs.out (by omega) (.slice va p vc) p _ rfl HRW.out ⟨ghN,0,none⟩ 1 1 [Value.slice va2 ni vc2] rfl rfl HNW.out HON.out (by simp only [maxLen];omega) (by omega) hszW (fun v' W3 h2 h3 h4=>?_);obtain ⟨xa9,xc9,rfl⟩:=row_slice h2;replace hA:=hA.grown h3 (own_ne_row hA HRW.out (by decide));replace hR:=hR.grown h3 (own_ne_row hR HRW.out (by decide));replace hD:=row_grown hD HRW.out (by decide) h3;replace hW:=Lib.hid (hW.out.grown h3 (fun q e=>row_own HRW.out e));replace hb:=grown_below hb h3 (fun j e=>by have:=(HRW.out.lt j e).1;omega) hb.size;replace hO:=hO.grown h3 (own_ne_row hO HRW.out (by decide));have H2:=Lib.hid h2;clear h2 h4 hI hN;clear HNW HRW hszW h3;refine hK.out _ _ ?_ (fun _=>?_)
             · ((try dsimp only);(exact ⟨hA.cell 1,(World.cell?_of_block (a:=⟨gi,oi+p,none⟩) (hb.block gi hbl)).trans HC0.out⟩))
             clear hK K
             (try simp only [Act.put,pA,pB,pC])
             refine hdT 10 ?_;refine hdC 11 (fun K hK=>?_);have cO2:=hO.cell 1;have fO2:=hO.frozen 1
             (go_simp;go_wp2_with fail)
             replace hA:=hA.far (p:=⟨gX,1,none⟩) (by dsimp only;omega) (.slice xa9 (p+1) xc9);replace hR:=hR.far (p:=⟨gX,1,none⟩) (by dsimp only;omega) (.slice xa9 (p+1) xc9);replace hD:=row_far (p:=⟨gX,1,none⟩) hD hO (by decide) (.slice xa9 (p+1) xc9);have H5:=Lib.hid (row_far (p:=⟨gX,1,none⟩) H2.out hO (by decide) (.slice xa9 (p+1) xc9));replace hW:=Lib.hid (vals_far (p:=⟨gX,1,none⟩) hW.out hO (by decide) (.slice xa9 (p+1) xc9));replace hb:=hb.setCell (p:=⟨gX,1,none⟩) (by dsimp only;omega) (.slice xa9 (p+1) xc9);replace hO:=hO.set 1 (.slice xa9 (p+1) xc9);generalize W3.setCell ⟨gX,1,none⟩ (.slice xa9 (p+1) xc9)=W4 at *;refine hK.out _ _ ?_ (fun _=>?_)
             · ((try dsimp only);(exact ⟨hA.cell 1,(World.cell?_of_block (a:=⟨gi,oi+p,none⟩) (hb.block gi hbl)).trans HC0.out⟩))
             clear hK K
             (try simp only [Act.put,pA,pB,pC])
             refine wpAnyH_done (by kernel_rfl) ?_ _;go_wp2_with fail
             go_roundw
             case rel=>exact ⟨p+1,xa9,xc9,vs++[.slice va2 ni vc2],by omega,by go_num,hb,hA,hR,hO,hD,H5.out,by rw [HTK.out];exact hW,HN2⟩
             case measure=>simp [intOf] <;> omega
           · skip
             have HLT:=Lib.hid hW.out.lt;have hbs:=hb.size
             (go_simp;(go_at_call 94;refine (l02Copy0_c ci (hT0.keep hb) hni2).mono ?_;rintro e W5 ⟨va2,vc2,rfl,hV,hbX⟩);go_wp2_with fail)
             replace hA:=hA.keep hbX hA.lt;replace hR:=hR.keep hbX hR.lt;replace hD:=row_keep hD hbX;replace hI:=row_keep hI hbX;replace hW:=Lib.hid (hW.out.keep hbX);replace hb:=bT' hb hbX hb.size;replace hO:=hO.keep hbX hO.lt;replace hW:=Lib.hid (hW.out.snoc HLT.out hbs hV);have HON:Hid (∀u∈([Value.slice va2 ni vc2]:List Value),u.oneCell'=true):=Lib.hid (by simp [Value.oneCell']);clear HLT hbs hV;clear hbX;refine hK.out _ _ ?_ (fun _=>?_)
             · ((try dsimp only);(exact ⟨hA.cell 1,(World.cell?_of_block (a:=⟨gi,oi+p,none⟩) (hb.block gi hbl)).trans HC0.out⟩))
             clear hK K
             (try simp only [Act.put,pA,pB,pC])
             refine wpAnyH_ready (rs:=[1,8]) (by kernel_rfl) (by simp) ?_;refine AllReadyH.cons (hdAt (i:=1) rfl) (fun K hK=>?_) (AllReadyH.cons (hdAt (i:=8) rfl) (fun K hK=>?_) AllReadyH.nil)
             · skip
               have cO1:=hO.cell 1
               (go_simp;try go_wp2_with fail)
               refine hK.out _ _ ?_ (fun _=>?_)
               · ((try dsimp only);(exact ⟨hA.cell 1,(World.cell?_of_block (a:=⟨gi,oi+p,none⟩) (hb.block gi hbl)).trans HC0.out⟩))
               clear hK K
               (try simp only [Act.put,pA,pB,pC])
               refine hdC 8 (fun K hK=>?_)
               (go_simp;try go_wp2_with fail)
               have hN:=Own.new W5 47 #[.slice va2 ni vc2];have hbX:=bA1 W5 (.cells #[.slice va2 ni vc2] 47);replace hA:=hA.keep hbX hA.lt;replace hR:=hR.keep hbX hR.lt;replace hD:=row_keep hD hbX;replace hI:=row_keep hI hbX;replace hW:=Lib.hid (hW.out.keep hbX);replace hb:=bT' hb hbX hb.size;replace hO:=hO.keep hbX hO.lt;generalize W5.alloc (.cells #[.slice va2 ni vc2] 47)=W6 at *;generalize hhNg:W5.heap.size=ghN at *;clear hbX hhNg;refine hK.out _ _ ?_ (fun _=>?_)
               · ((try dsimp only);(exact ⟨hA.cell 1,(World.cell?_of_block (a:=⟨gi,oi+p,none⟩) (hb.block gi hbl)).trans HC0.out⟩))
               clear hK K
               (try simp only [Act.put,pA,pB,pC])
               refine hdC 9 (fun K hK=>?_);have HNW:Hid (∀j u,([Value.slice va2 ni vc2]:List Value)[j]? = some u→W6.cell? ((⟨ghN,0,none⟩:Addr).add j)=some u):=Lib.hid (fun j u hu=>by rw [Addr.add_mid];exact hN.range j u hu);have HRW:=Lib.hid hI;have hszW:w.heap.size≤W6.heap.size:=hb.size;rw [if_pos (by rfl)];refine wp_append_own_wide _ (.tmp 50) (.tmp 57) 27 rfl w.heap.size 47 ti tz 1 24 Try.underlying27 HI.out HZ.out HS.out HBt.out HZs.out (by omega) (.slice va p vc) p _ rfl HRW.out ⟨ghN,0,none⟩ 1 1 [Value.slice va2 ni vc2] rfl rfl HNW.out HON.out (by simp only [maxLen];omega) (by omega) hszW (fun v' W7 h2 h3 h4=>?_);obtain ⟨xa9,xc9,rfl⟩:=row_slice h2;replace hA:=hA.grown h3 (own_ne_row hA HRW.out (by decide));replace hR:=hR.grown h3 (own_ne_row hR HRW.out (by decide));replace hD:=row_grown hD HRW.out (by decide) h3;replace hW:=Lib.hid (hW.out.grown h3 (fun q e=>row_own HRW.out e));replace hb:=grown_below hb h3 (fun j e=>by have:=(HRW.out.lt j e).1;omega) hb.size;replace hO:=hO.grown h3 (own_ne_row hO HRW.out (by decide));have H2:=Lib.hid h2;clear h2 h4 hI hN;clear HNW HRW hszW h3;refine hK.out _ _ ?_ (fun _=>?_)
               · ((try dsimp only);(exact ⟨hA.cell 1,(World.cell?_of_block (a:=⟨gi,oi+p,none⟩) (hb.block gi hbl)).trans HC0.out⟩))
               clear hK K
               (try simp only [Act.put,pA,pB,pC])
               refine hdT 10 ?_;refine hdC 11 (fun K hK=>?_);have cO2:=hO.cell 1;have fO2:=hO.frozen 1
               (go_simp;go_wp2_with fail)
               replace hA:=hA.far (p:=⟨gX,1,none⟩) (by dsimp only;omega) (.slice xa9 (p+1) xc9);replace hR:=hR.far (p:=⟨gX,1,none⟩) (by dsimp only;omega) (.slice xa9 (p+1) xc9);replace hD:=row_far (p:=⟨gX,1,none⟩) hD hO (by decide) (.slice xa9 (p+1) xc9);have H5:=Lib.hid (row_far (p:=⟨gX,1,none⟩) H2.out hO (by decide) (.slice xa9 (p+1) xc9));replace hW:=Lib.hid (vals_far (p:=⟨gX,1,none⟩) hW.out hO (by decide) (.slice xa9 (p+1) xc9));replace hb:=hb.setCell (p:=⟨gX,1,none⟩) (by dsimp only;omega) (.slice xa9 (p+1) xc9);replace hO:=hO.set 1 (.slice xa9 (p+1) xc9);generalize W7.setCell ⟨gX,1,none⟩ (.slice xa9 (p+1) xc9)=W8 at *;refine hK.out _ _ ?_ (fun _=>?_)
               · ((try dsimp only);(exact ⟨hA.cell 1,(World.cell?_of_block (a:=⟨gi,oi+p,none⟩) (hb.block gi hbl)).trans HC0.out⟩))
               clear hK K
               (try simp only [Act.put,pA,pB,pC])
               refine wpAnyH_done (by kernel_rfl) ?_ _;go_wp2_with fail
               go_roundw
               case rel=>exact ⟨p+1,xa9,xc9,vs++[.slice va2 ni vc2],by omega,by go_num,hb,hA,hR,hO,hD,H5.out,by rw [HTK.out];exact hW,HN2⟩
               case measure=>simp [intOf] <;> omega
             · skip
               (go_simp;try go_wp2_with fail)
               have hN:=Own.new W5 47 #[.slice va2 ni vc2];have hbX:=bA1 W5 (.cells #[.slice va2 ni vc2] 47);replace hA:=hA.keep hbX hA.lt;replace hR:=hR.keep hbX hR.lt;replace hD:=row_keep hD hbX;replace hI:=row_keep hI hbX;replace hW:=Lib.hid (hW.out.keep hbX);replace hb:=bT' hb hbX hb.size;replace hO:=hO.keep hbX hO.lt;generalize W5.alloc (.cells #[.slice va2 ni vc2] 47)=W9 at *;generalize hhNg:W5.heap.size=ghN at *;clear hbX hhNg;refine hK.out _ _ ?_ (fun _=>?_)
               · ((try dsimp only);(exact ⟨hA.cell 1,(World.cell?_of_block (a:=⟨gi,oi+p,none⟩) (hb.block gi hbl)).trans HC0.out⟩))
               clear hK K
               (try simp only [Act.put,pA,pB,pC])
               refine hdC 1 (fun K hK=>?_);have cO1:=hO.cell 1
               (go_simp;try go_wp2_with fail)
               refine hK.out _ _ ?_ (fun _=>?_)
               · ((try dsimp only);(exact ⟨hA.cell 1,(World.cell?_of_block (a:=⟨gi,oi+p,none⟩) (hb.block gi hbl)).trans HC0.out⟩))
               clear hK K
               (try simp only [Act.put,pA,pB,pC])
               refine hdC 9 (fun K hK=>?_);have HNW:Hid (∀j u,([Value.slice va2 ni vc2]:List Value)[j]? = some u→W9.cell? ((⟨ghN,0,none⟩:Addr).add j)=some u):=Lib.hid (fun j u hu=>by rw [Addr.add_mid];exact hN.range j u hu);have HRW:=Lib.hid hI;have hszW:w.heap.size≤W9.heap.size:=hb.size;rw [if_pos (by rfl)];refine wp_append_own_wide _ (.tmp 50) (.tmp 57) 27 rfl w.heap.size 47 ti tz 1 24 Try.underlying27 HI.out HZ.out HS.out HBt.out HZs.out (by omega) (.slice va p vc) p _ rfl HRW.out ⟨ghN,0,none⟩ 1 1 [Value.slice va2 ni vc2] rfl rfl HNW.out HON.out (by simp only [maxLen];omega) (by omega) hszW (fun v' W10 h2 h3 h4=>?_);obtain ⟨xa9,xc9,rfl⟩:=row_slice h2;replace hA:=hA.grown h3 (own_ne_row hA HRW.out (by decide));replace hR:=hR.grown h3 (own_ne_row hR HRW.out (by decide));replace hD:=row_grown hD HRW.out (by decide) h3;replace hW:=Lib.hid (hW.out.grown h3 (fun q e=>row_own HRW.out e));replace hb:=grown_below hb h3 (fun j e=>by have:=(HRW.out.lt j e).1;omega) hb.size;replace hO:=hO.grown h3 (own_ne_row hO HRW.out (by decide));have H2:=Lib.hid h2;clear h2 h4 hI hN;clear HNW HRW hszW h3;refine hK.out _ _ ?_ (fun _=>?_)
               · ((try dsimp only);(exact ⟨hA.cell 1,(World.cell?_of_block (a:=⟨gi,oi+p,none⟩) (hb.block gi hbl)).trans HC0.out⟩))
               clear hK K
               (try simp only [Act.put,pA,pB,pC])
               refine hdT 10 ?_;refine hdC 11 (fun K hK=>?_);have cO2:=hO.cell 1;have fO2:=hO.frozen 1
               (go_simp;go_wp2_with fail)
               replace hA:=hA.far (p:=⟨gX,1,none⟩) (by dsimp only;omega) (.slice xa9 (p+1) xc9);replace hR:=hR.far (p:=⟨gX,1,none⟩) (by dsimp only;omega) (.slice xa9 (p+1) xc9);replace hD:=row_far (p:=⟨gX,1,none⟩) hD hO (by decide) (.slice xa9 (p+1) xc9);have H5:=Lib.hid (row_far (p:=⟨gX,1,none⟩) H2.out hO (by decide) (.slice xa9 (p+1) xc9));replace hW:=Lib.hid (vals_far (p:=⟨gX,1,none⟩) hW.out hO (by decide) (.slice xa9 (p+1) xc9));replace hb:=hb.setCell (p:=⟨gX,1,none⟩) (by dsimp only;omega) (.slice xa9 (p+1) xc9);replace hO:=hO.set 1 (.slice xa9 (p+1) xc9);generalize W10.setCell ⟨gX,1,none⟩ (.slice xa9 (p+1) xc9)=W11 at *;refine hK.out _ _ ?_ (fun _=>?_)
               · ((try dsimp only);(exact ⟨hA.cell 1,(World.cell?_of_block (a:=⟨gi,oi+p,none⟩) (hb.block gi hbl)).trans HC0.out⟩))
               clear hK K
               (try simp only [Act.put,pA,pB,pC])
               refine wpAnyH_done (by kernel_rfl) ?_ _;go_wp2_with fail
               go_roundw
               case rel=>exact ⟨p+1,xa9,xc9,vs++[.slice va2 ni vc2],by omega,by go_num,hb,hA,hR,hO,hD,H5.out,by rw [HTK.out];exact hW,HN2⟩
               case measure=>simp [intOf] <;> omega
      · have he:p=kk:=(by omega);subst he
        have hfine:saE zs ims (p:Int)=0:=sa_fine HA.out HIN.out (saB_no (fun j h1 h2=>by
         rw [HDL.out] at h2;rw [anyG];refine any_no (p:=fun ts=>hasG ts j) (n:=p) (by rw [List.length_take];simp;omega) (fun q hq ts hts=>?_);rw [List.getElem?_take] at hts;split at hts
         · exact HN.out q hq ts hts j (by simpa using h1) h2
         · cases hts))
        have HE:Hid (saE zs ims (p:Int)=0∧saD zs ims (p:Int)=zs.take p∧saI zs ims (p:Int)=ims.take p):=Lib.hid ⟨hfine,by rw [saD,hfine,if_pos rfl];simp,by rw [saI,hfine,if_pos rfl];simp⟩;have HTK:=Lib.hid (fun ts (hts:ts∈ims.take p)=>HTT.out ts (List.mem_of_mem_take hts));clear hfine;have k0:=hO.cell 0;have k1:=hO.cell 1;have r0:=hR.cell 0;have r1:=hR.cell 1;have f0:=hR.frozen 0;have f1:=hR.frozen 1;go_wp2_with fail
        have s2:=((hR.set 0 (.slice xa p xc)).set 1 (.slice va p vc));have q1:=row_far (p:=⟨w.heap.size+1,1,none⟩) (row_far (p:=⟨w.heap.size+1,0,none⟩) HD.out hR (by decide) (.slice xa p xc)) (hR.set 0 _) (by decide) (.slice va p vc);have q2:=row_far (p:=⟨w.heap.size+1,1,none⟩) (row_far (p:=⟨w.heap.size+1,0,none⟩) HI2.out hR (by decide) (.slice xa p xc)) (hR.set 0 _) (by decide) (.slice va p vc);have q3:=vals_far (p:=⟨w.heap.size+1,1,none⟩) (vals_far (p:=⟨w.heap.size+1,0,none⟩) hW.out hR (by decide) (.slice xa p xc)) (hR.set 0 _) (by decide) (.slice va p vc);have q4:=(hb.setCell (p:=⟨w.heap.size+1,0,none⟩) (by dsimp only;omega) (.slice xa p xc)).setCell (p:=⟨w.heap.size+1,1,none⟩) (by dsimp only;omega) (.slice va p vc);obtain ⟨d1,d2,hdd,hDV⟩:=OwnV.of_row q1;simp only [Value.slice.injEq] at hdd;obtain ⟨rfl,-,rfl⟩:=hdd;obtain ⟨i1,i2,hii,hIF⟩:=q3.ownF_row (by rw [List.length_take,HLn.out];omega) q2 HTK.out;simp only [Value.slice.injEq] at hii;obtain ⟨rfl,-,rfl⟩:=hii;exact bodyPost_ret (results_row2 rfl _ _ (w.heap.size+1) 29 #[.slice xa p xc,.slice va p vc] (0,0) _ rfl s2 Try.underlying29 rfl Try.info_alg) rfl ⟨xa,p,xc,va,p,vc,by rw [HE.out.1];rfl,by rw [HE.out.2.1];exact hDV,by rw [HE.out.2.2];exact hIF,q4⟩
end Go.Proofs.Ytndnkeijddagiaa
