
import Derived.Test.YtndnkeijddagiaaNewA
import Derived.Test.YtndnkeijddagiaaClosed
namespace Go.Proofs.Ytndnkeijddagiaa
set_option maxRecDepth 100000
open Go.RowKit Go.Deep
theorem row_far {w:World} {B sz n:Nat} {t t':TypeId} {v:Value} {xs:List Value} {p:Addr} {os:Array Value} (h:w.ownsRow B t sz v n xs) (ho:Own w p.block t' os) (ht:t'≠t) (u:Value):(w.setCell p u).ownsRow B t sz v n xs:=
 ownsRow_setCell_other h (fun e=>own_ne_row ho h ht e.symm) u
theorem vals_far {w:World} {B:Nat} {vs:List Value} {V:List (List Tm)} {t':TypeId} {p:Addr} {os:Array Value} (h:Vals w B vs V) (ho:Own w p.block t' os) (ht:t'≠76) (u:Value):Vals (w.setCell p u) B vs V:=
 ⟨h.len,fun i v ts h1 h2=>(h.each i v ts h1 h2).far (fun e=>own_ne_row ho (h.each i v ts h1 h2) ht e.symm) u,h.apart⟩
theorem vals_grown {w w':World} {B B' sz n:Nat} {vs:List Value} {V:List (List Tm)} {t':TypeId} {v':Value} {xs:List Value} (h:Vals w B vs V) (h':w.ownsRow B' t' sz v' n xs) (ht:t'≠76) (hg:w.grownBy w' v'.ownBlock):Vals w' B vs V:=
 h.grownN hg (fun i u q h1 h2 e=>by
  obtain ⟨ts,-,ho⟩:=h.at_ h1;obtain ⟨os,hq⟩:=row_own h' e
  exact own_ne_row hq ho ht h2.symm)
theorem l02Copy0_c {w : World} {a : Option Addr} {n : Nat} {ts : List Tm} (c : Nat) (h : Terms w a n ts) (hn : n ≤ 1048576) :
    Calls Try.prog 94 #[.agg #[.slice a n c],.int .i64 0] w fun e w'=>∃va vc,e=.returned (.agg #[.slice va n vc])∧OwnR w' w.heap.size (.slice va n vc) ts∧Below w.heap.size w w':=by
 have hm:=map_shT_zero h.2.1
 have:=l02Copy_c c 0 h hn (by omega)
 rw [hm] at this
 exact this
theorem take_snoc {α:Type} {l:List α} {k:Nat} {x:α} (h:l[k]? = some x):l.take (k+1)=l.take k++[x]:=by
 rw [List.take_add_one,h]
 rfl
theorem row_weaken {w:World} {B B' sz n:Nat} {t:TypeId} {v:Value} {xs:List Value} (h:w.ownsRow B t sz v n xs) (hB:B'≤B):w.ownsRow B' t sz v n xs:=by
 obtain ⟨hl,h1⟩:=h
 refine ⟨hl,?_⟩
 rcases h1 with h0 | ⟨g,cap,cur,hv,hb,r⟩
 · exact Or.inl h0
 · exact Or.inr ⟨g,cap,cur,hv,by omega,r⟩
set_option maxHeartbeats 4000000 in
theorem l02Own_c {w : World} {gd od dn : Nat} {zs : List Int} {a : Option Addr} {n : Nat} {ims : List (List Tm)} (dc c : Nat) (hd : Ints w (some ⟨gd, od, none⟩) dn zs) (hdn : dn ≤ 1048576) (hF : Frms w a n ims) (hn : n ≤ 1048576) (hL : ∀ im ∈ ims, (im.length : Int) ≤ 1048576) :
    Calls Try.prog 111 #[.agg #[.slice (some ⟨gd,od,none⟩) dn dc,.slice a n c]] w fun e w'=>∃xa xc va vc vs,e=.returned (.agg #[.slice xa dn xc,.slice va n vc])∧w'.ownsRow w.heap.size 2 1 (.slice xa dn xc) dn (zs.map (Value.int .i64))∧w'.ownsRow w.heap.size 47 1 (.slice va n vc) n vs∧Vals w' w.heap.size vs ims∧Below w.heap.size w w':=by
 have HLL:=Lib.hid hL
 have HFF:=Lib.hid hF
 have HLn:=Lib.hid hF.len
 obtain ⟨ti,tz,hti,htz,hts,htb,htzs⟩:=Try.info_formA
 have HI:=Lib.hid hti
 have HZ:=Lib.hid htz
 have HS:=Lib.hid hts
 have HBt:=Lib.hid htb
 have HZs:=Lib.hid htzs
 clear hti htz hts htb htzs
 clear hL hF
 have hA:=(Own.new w 29 #[.slice (some ⟨gd,od,none⟩) dn dc,.slice a n c]).alloc (.cells #[.slice none 0 0,.slice none 0 0] 29)
 have hR:=Own.new (w.alloc (.cells #[.slice (some ⟨gd,od,none⟩) dn dc,.slice a n c] 29)) 29 #[.slice none 0 0,.slice none 0 0]
 rw [sAl] at hR
 have hb:=bTn (bA1 w (.cells #[.slice (some ⟨gd,od,none⟩) dn dc,.slice a n c] 29)) (bA1 _ (.cells #[.slice none 0 0,.slice none 0 0] 29))
 go_enter Try.func111,Try.ntmps111
 go_upto_region 1 with fail
 generalize (w.alloc (.cells #[.slice (some ⟨gd,od,none⟩) dn dc,.slice a n c] 29)).alloc (.cells #[.slice none 0 0,.slice none 0 0] 29)=w0 at *
 have c0:=hA.cell 0
 go_wp2_with fail
 refine (l01OwnI_c dc (hd.keep hb) hdn).mono ?_
 rintro e w1 ⟨xa,xc,rfl,hD,hb1⟩
 have hbs0:=hb.size
 replace hA:=hA.keep hb1 hA.lt
 replace hR:=hR.keep hb1 hR.lt
 replace hb:=bT' hb hb1 hb.size
 have hD':w1.ownsRow w.heap.size 2 1 (.slice xa dn xc) dn (zs.map (Value.int .i64)):=row_weaken hD hbs0
 clear hb1 hD c0 hbs0
 have hO:=Own.new w1 29 #[.slice xa dn xc,.slice none 0 0]
 have hbX:=bA1 w1 (.cells #[.slice xa dn xc,.slice none 0 0] 29)
 have HD:=Lib.hid (row_keep hD' hbX)
 have hlX:w.heap.size+1<w1.heap.size:=hR.lt
 replace hA:=hA.keep hbX hA.lt
 replace hR:=hR.keep hbX hR.lt
 replace hb:=bT' hb hbX hb.size
 clear hD' hbX
 go_upto_region 2 with fail
 generalize w1.alloc (.cells #[.slice xa dn xc,.slice none 0 0] 29)=w2 at *
 generalize w1.heap.size=gX at *
 go_upto_region 3 with fail
 go_loopw [4] (fun y wr=>∃(k:Nat) (va:Option Addr) (vc:Nat) (vs:List Value),k≤n∧y=.int .i64 k∧Below w.heap.size w wr∧Own wr w.heap.size 29 #[.slice (some ⟨gd,od,none⟩) dn dc,.slice a n c]∧Own wr (w.heap.size+1) 29 #[.slice none 0 0,.slice none 0 0]∧Own wr gX 29 #[.slice xa dn xc,.slice va k vc]∧wr.ownsRow w.heap.size 2 1 (.slice xa dn xc) dn (zs.map (Value.int .i64))∧wr.ownsRow w.heap.size 47 1 (.slice va k vc) k vs∧Hid (Vals wr w.heap.size vs (ims.take k))) (fun y _=>n - (intOf y).toNat)
 case atStart=>exact ⟨0,none,0,[],Nat.zero_le _,rfl,hb,hA,hR,hO,HD.out,World.ownsRow_nil _ _ _ _,Lib.hid (Vals.nil _ _)⟩
 case round=>
  clear hb hA hR hO HD;obtain ⟨k,va,vc,vs,hk,rfl,hb,hA,hR,hO,hD,hI,hW⟩:=hrel;have cA:=hA.cell 1;by_cases hin:k<n
  · obtain ⟨b,off,ts,ai,ni,ci,rfl,hbl,hc0,hT0,hni,hx⟩:=HFF.out.at_ hin;have HC0:=Lib.hid hc0;have HTK:=Lib.hid (take_snoc hx.out);have hni2:ni≤1048576:=(by have:=HLL.out ts (List.mem_of_getElem? hx.out);have:=hT0.len;omega);have hk0:(0:Int)≤(k:Int):=(by omega);have hkn:(k:Int)<(n:Int):=(by omega);clear hc0;have HD:=Lib.hid hD;have HI2:=Lib.hid hI;clear hD hI;go_upto_region 5 with fail
    replace hA:Own wr.drew w.heap.size 29 #[.slice (some ⟨gd,od,none⟩) dn dc,.slice (some ⟨b,off,none⟩) n c]:=hA;replace hR:Own wr.drew (w.heap.size+1) 29 #[.slice none 0 0,.slice none 0 0]:=hR;replace hO:Own wr.drew gX 29 #[.slice xa dn xc,.slice va k vc]:=hO;have hD:wr.drew.ownsRow w.heap.size 2 1 (.slice xa dn xc) dn (zs.map (Value.int .i64)):=HD.out;have hI:wr.drew.ownsRow w.heap.size 47 1 (.slice va k vc) k vs:=HI2.out;replace hW:Hid (Vals wr.drew w.heap.size vs (ims.take k)):=Lib.hid (hW.out.keep ((Below.refl _ _).drew));replace hb:Below w.heap.size w wr.drew:=hb.drew;clear HD HI2 cA;refine wp_region_held_drew (S:=(fun w'=>w'.cell? ⟨w.heap.size,1,none⟩=some (.slice (some ⟨b,off,none⟩) n c)∧w'.cell? ⟨b,off+k,none⟩=some (.slice ai ni ci))) (by kernel_rfl) ?_ (fun _=>?_)
    · ((try dsimp only);(exact ⟨hA.cell 1,(World.cell?_of_block (a:=⟨b,off+k,none⟩) (hb.block b hbl)).trans HC0.out⟩))
    generalize wr.drew=W0d at *;refine hdT 0 ?_;refine hdT 2 ?_;refine hdT 3 ?_;refine hdT 4 ?_;refine hdT 5 ?_;refine hdT 6 ?_;refine wpAnyH_ready (rs:=[1,7]) (by kernel_rfl) (by simp) ?_;refine AllReadyH.cons (hdAt (i:=1) rfl) (fun K hK=>?_) (AllReadyH.cons (hdAt (i:=7) rfl) (fun K hK=>?_) AllReadyH.nil)
    · skip
      have cO1:=hO.cell 1
      (go_simp;try go_wp2_with fail)
      refine hK.out _ _ ?_ (fun _=>?_)
      · ((try dsimp only);(exact ⟨hA.cell 1,(World.cell?_of_block (a:=⟨b,off+k,none⟩) (hb.block b hbl)).trans HC0.out⟩))
      clear hK K
      (try simp only [Act.put,pA,pB,pC])
      refine hdC 7 (fun K hK=>?_);have HLT:=Lib.hid hW.out.lt;have hbs:=hb.size
      (go_simp;(go_at_call 94;refine (l02Copy0_c ci (hT0.keep hb) hni2).mono ?_;rintro e W1 ⟨va2,vc2,rfl,hV,hbX⟩);go_wp2_with fail)
      replace hA:=hA.keep hbX hA.lt;replace hR:=hR.keep hbX hR.lt;replace hD:=row_keep hD hbX;replace hI:=row_keep hI hbX;replace hW:=Lib.hid (hW.out.keep hbX);replace hb:=bT' hb hbX hb.size;replace hO:=hO.keep hbX hO.lt;replace hW:=Lib.hid (hW.out.snoc HLT.out hbs hV);have HON:Hid (∀u∈([Value.slice va2 ni vc2]:List Value),u.oneCell'=true):=Lib.hid (by simp [Value.oneCell']);clear HLT hbs hV;clear hbX;refine hK.out _ _ ?_ (fun _=>?_)
      · ((try dsimp only);(exact ⟨hA.cell 1,(World.cell?_of_block (a:=⟨b,off+k,none⟩) (hb.block b hbl)).trans HC0.out⟩))
      clear hK K
      (try simp only [Act.put,pA,pB,pC])
      refine hdC 8 (fun K hK=>?_)
      (go_simp;try go_wp2_with fail)
      have hN:=Own.new W1 47 #[.slice va2 ni vc2];have hbX:=bA1 W1 (.cells #[.slice va2 ni vc2] 47);replace hA:=hA.keep hbX hA.lt;replace hR:=hR.keep hbX hR.lt;replace hD:=row_keep hD hbX;replace hI:=row_keep hI hbX;replace hW:=Lib.hid (hW.out.keep hbX);replace hb:=bT' hb hbX hb.size;replace hO:=hO.keep hbX hO.lt;generalize W1.alloc (.cells #[.slice va2 ni vc2] 47)=W2 at *;generalize hhNg:W1.heap.size=ghN at *;clear hbX hhNg;refine hK.out _ _ ?_ (fun _=>?_)
      · ((try dsimp only);(exact ⟨hA.cell 1,(World.cell?_of_block (a:=⟨b,off+k,none⟩) (hb.block b hbl)).trans HC0.out⟩))
      clear hK K
      (try simp only [Act.put,pA,pB,pC])
      refine hdC 9 (fun K hK=>?_);have HNW:Hid (∀j u,([Value.slice va2 ni vc2]:List Value)[j]? = some u→W2.cell? ((⟨ghN,0,none⟩:Addr).add j)=some u):=Lib.hid (fun j u hu=>by rw [Addr.add_mid];exact hN.range j u hu);have HRW:=Lib.hid hI;have hszW:w.heap.size≤W2.heap.size:=hb.size;rw [if_pos (by rfl)];refine wp_append_own_wide _ (.tmp 17) (.tmp 24) 27 rfl w.heap.size 47 ti tz 1 24 Try.underlying27 HI.out HZ.out HS.out HBt.out HZs.out (by omega) (.slice va k vc) k _ rfl HRW.out ⟨ghN,0,none⟩ 1 1 [Value.slice va2 ni vc2] rfl rfl HNW.out HON.out (by simp only [maxLen];omega) (by omega) hszW (fun v' W3 h2 h3 h4=>?_);obtain ⟨xa9,xc9,rfl⟩:=row_slice h2;replace hA:=hA.grown h3 (own_ne_row hA HRW.out (by decide));replace hR:=hR.grown h3 (own_ne_row hR HRW.out (by decide));replace hD:=row_grown hD HRW.out (by decide) h3;replace hW:=Lib.hid (hW.out.grown h3 (fun q e=>row_own HRW.out e));replace hb:=grown_below hb h3 (fun j e=>by have:=(HRW.out.lt j e).1;omega) hb.size;replace hO:=hO.grown h3 (own_ne_row hO HRW.out (by decide));have H2:=Lib.hid h2;clear h2 h4 hI hN;clear HNW HRW hszW h3;refine hK.out _ _ ?_ (fun _=>?_)
      · ((try dsimp only);(exact ⟨hA.cell 1,(World.cell?_of_block (a:=⟨b,off+k,none⟩) (hb.block b hbl)).trans HC0.out⟩))
      clear hK K
      (try simp only [Act.put,pA,pB,pC])
      refine hdT 10 ?_;refine hdC 11 (fun K hK=>?_);have cO2:=hO.cell 1;have fO2:=hO.frozen 1
      (go_simp;go_wp2_with fail)
      replace hA:=hA.far (p:=⟨gX,1,none⟩) (by dsimp only;omega) (.slice xa9 (k+1) xc9);replace hR:=hR.far (p:=⟨gX,1,none⟩) (by dsimp only;omega) (.slice xa9 (k+1) xc9);replace hD:=row_far (p:=⟨gX,1,none⟩) hD hO (by decide) (.slice xa9 (k+1) xc9);have H5:=Lib.hid (row_far (p:=⟨gX,1,none⟩) H2.out hO (by decide) (.slice xa9 (k+1) xc9));replace hW:=Lib.hid (vals_far (p:=⟨gX,1,none⟩) hW.out hO (by decide) (.slice xa9 (k+1) xc9));replace hb:=hb.setCell (p:=⟨gX,1,none⟩) (by dsimp only;omega) (.slice xa9 (k+1) xc9);replace hO:=hO.set 1 (.slice xa9 (k+1) xc9);generalize W3.setCell ⟨gX,1,none⟩ (.slice xa9 (k+1) xc9)=W4 at *;refine hK.out _ _ ?_ (fun _=>?_)
      · ((try dsimp only);(exact ⟨hA.cell 1,(World.cell?_of_block (a:=⟨b,off+k,none⟩) (hb.block b hbl)).trans HC0.out⟩))
      clear hK K
      (try simp only [Act.put,pA,pB,pC])
      refine wpAnyH_done (by kernel_rfl) ?_ _;go_wp2_with fail
      go_roundw
      case rel=>exact ⟨k+1,xa9,xc9,vs++[.slice va2 ni vc2],by omega,by go_num,hb,hA,hR,hO,hD,H5.out,by rw [HTK.out];exact hW⟩
      case measure=>simp [intOf] <;> omega
    · skip
      have HLT:=Lib.hid hW.out.lt;have hbs:=hb.size
      (go_simp;(go_at_call 94;refine (l02Copy0_c ci (hT0.keep hb) hni2).mono ?_;rintro e W5 ⟨va2,vc2,rfl,hV,hbX⟩);go_wp2_with fail)
      replace hA:=hA.keep hbX hA.lt;replace hR:=hR.keep hbX hR.lt;replace hD:=row_keep hD hbX;replace hI:=row_keep hI hbX;replace hW:=Lib.hid (hW.out.keep hbX);replace hb:=bT' hb hbX hb.size;replace hO:=hO.keep hbX hO.lt;replace hW:=Lib.hid (hW.out.snoc HLT.out hbs hV);have HON:Hid (∀u∈([Value.slice va2 ni vc2]:List Value),u.oneCell'=true):=Lib.hid (by simp [Value.oneCell']);clear HLT hbs hV;clear hbX;refine hK.out _ _ ?_ (fun _=>?_)
      · ((try dsimp only);(exact ⟨hA.cell 1,(World.cell?_of_block (a:=⟨b,off+k,none⟩) (hb.block b hbl)).trans HC0.out⟩))
      clear hK K
      (try simp only [Act.put,pA,pB,pC])
      refine wpAnyH_ready (rs:=[1,8]) (by kernel_rfl) (by simp) ?_;refine AllReadyH.cons (hdAt (i:=1) rfl) (fun K hK=>?_) (AllReadyH.cons (hdAt (i:=8) rfl) (fun K hK=>?_) AllReadyH.nil)
      · skip
        have cO1:=hO.cell 1
        (go_simp;try go_wp2_with fail)
        refine hK.out _ _ ?_ (fun _=>?_)
        · ((try dsimp only);(exact ⟨hA.cell 1,(World.cell?_of_block (a:=⟨b,off+k,none⟩) (hb.block b hbl)).trans HC0.out⟩))
        clear hK K
        (try simp only [Act.put,pA,pB,pC])
        refine hdC 8 (fun K hK=>?_)
        (go_simp;try go_wp2_with fail)
        have hN:=Own.new W5 47 #[.slice va2 ni vc2];have hbX:=bA1 W5 (.cells #[.slice va2 ni vc2] 47);replace hA:=hA.keep hbX hA.lt;replace hR:=hR.keep hbX hR.lt;replace hD:=row_keep hD hbX;replace hI:=row_keep hI hbX;replace hW:=Lib.hid (hW.out.keep hbX);replace hb:=bT' hb hbX hb.size;replace hO:=hO.keep hbX hO.lt;generalize W5.alloc (.cells #[.slice va2 ni vc2] 47)=W6 at *;generalize hhNg:W5.heap.size=ghN at *;clear hbX hhNg;refine hK.out _ _ ?_ (fun _=>?_)
        · ((try dsimp only);(exact ⟨hA.cell 1,(World.cell?_of_block (a:=⟨b,off+k,none⟩) (hb.block b hbl)).trans HC0.out⟩))
        clear hK K
        (try simp only [Act.put,pA,pB,pC])
        refine hdC 9 (fun K hK=>?_);have HNW:Hid (∀j u,([Value.slice va2 ni vc2]:List Value)[j]? = some u→W6.cell? ((⟨ghN,0,none⟩:Addr).add j)=some u):=Lib.hid (fun j u hu=>by rw [Addr.add_mid];exact hN.range j u hu);have HRW:=Lib.hid hI;have hszW:w.heap.size≤W6.heap.size:=hb.size;rw [if_pos (by rfl)];refine wp_append_own_wide _ (.tmp 17) (.tmp 24) 27 rfl w.heap.size 47 ti tz 1 24 Try.underlying27 HI.out HZ.out HS.out HBt.out HZs.out (by omega) (.slice va k vc) k _ rfl HRW.out ⟨ghN,0,none⟩ 1 1 [Value.slice va2 ni vc2] rfl rfl HNW.out HON.out (by simp only [maxLen];omega) (by omega) hszW (fun v' W7 h2 h3 h4=>?_);obtain ⟨xa9,xc9,rfl⟩:=row_slice h2;replace hA:=hA.grown h3 (own_ne_row hA HRW.out (by decide));replace hR:=hR.grown h3 (own_ne_row hR HRW.out (by decide));replace hD:=row_grown hD HRW.out (by decide) h3;replace hW:=Lib.hid (hW.out.grown h3 (fun q e=>row_own HRW.out e));replace hb:=grown_below hb h3 (fun j e=>by have:=(HRW.out.lt j e).1;omega) hb.size;replace hO:=hO.grown h3 (own_ne_row hO HRW.out (by decide));have H2:=Lib.hid h2;clear h2 h4 hI hN;clear HNW HRW hszW h3;refine hK.out _ _ ?_ (fun _=>?_)
        · ((try dsimp only);(exact ⟨hA.cell 1,(World.cell?_of_block (a:=⟨b,off+k,none⟩) (hb.block b hbl)).trans HC0.out⟩))
        clear hK K
        (try simp only [Act.put,pA,pB,pC])
        refine hdT 10 ?_;refine hdC 11 (fun K hK=>?_);have cO2:=hO.cell 1;have fO2:=hO.frozen 1
        (go_simp;go_wp2_with fail)
        replace hA:=hA.far (p:=⟨gX,1,none⟩) (by dsimp only;omega) (.slice xa9 (k+1) xc9);replace hR:=hR.far (p:=⟨gX,1,none⟩) (by dsimp only;omega) (.slice xa9 (k+1) xc9);replace hD:=row_far (p:=⟨gX,1,none⟩) hD hO (by decide) (.slice xa9 (k+1) xc9);have H5:=Lib.hid (row_far (p:=⟨gX,1,none⟩) H2.out hO (by decide) (.slice xa9 (k+1) xc9));replace hW:=Lib.hid (vals_far (p:=⟨gX,1,none⟩) hW.out hO (by decide) (.slice xa9 (k+1) xc9));replace hb:=hb.setCell (p:=⟨gX,1,none⟩) (by dsimp only;omega) (.slice xa9 (k+1) xc9);replace hO:=hO.set 1 (.slice xa9 (k+1) xc9);generalize W7.setCell ⟨gX,1,none⟩ (.slice xa9 (k+1) xc9)=W8 at *;refine hK.out _ _ ?_ (fun _=>?_)
        · ((try dsimp only);(exact ⟨hA.cell 1,(World.cell?_of_block (a:=⟨b,off+k,none⟩) (hb.block b hbl)).trans HC0.out⟩))
        clear hK K
        (try simp only [Act.put,pA,pB,pC])
        refine wpAnyH_done (by kernel_rfl) ?_ _;go_wp2_with fail
        go_roundw
        case rel=>exact ⟨k+1,xa9,xc9,vs++[.slice va2 ni vc2],by omega,by go_num,hb,hA,hR,hO,hD,H5.out,by rw [HTK.out];exact hW⟩
        case measure=>simp [intOf] <;> omega
      · skip
        (go_simp;try go_wp2_with fail)
        have hN:=Own.new W5 47 #[.slice va2 ni vc2];have hbX:=bA1 W5 (.cells #[.slice va2 ni vc2] 47);replace hA:=hA.keep hbX hA.lt;replace hR:=hR.keep hbX hR.lt;replace hD:=row_keep hD hbX;replace hI:=row_keep hI hbX;replace hW:=Lib.hid (hW.out.keep hbX);replace hb:=bT' hb hbX hb.size;replace hO:=hO.keep hbX hO.lt;generalize W5.alloc (.cells #[.slice va2 ni vc2] 47)=W9 at *;generalize hhNg:W5.heap.size=ghN at *;clear hbX hhNg;refine hK.out _ _ ?_ (fun _=>?_)
        · ((try dsimp only);(exact ⟨hA.cell 1,(World.cell?_of_block (a:=⟨b,off+k,none⟩) (hb.block b hbl)).trans HC0.out⟩))
        clear hK K
        (try simp only [Act.put,pA,pB,pC])
        refine hdC 1 (fun K hK=>?_);have cO1:=hO.cell 1
        (go_simp;try go_wp2_with fail)
        refine hK.out _ _ ?_ (fun _=>?_)
        · ((try dsimp only);(exact ⟨hA.cell 1,(World.cell?_of_block (a:=⟨b,off+k,none⟩) (hb.block b hbl)).trans HC0.out⟩))
        clear hK K
        (try simp only [Act.put,pA,pB,pC])
        refine hdC 9 (fun K hK=>?_);have HNW:Hid (∀j u,([Value.slice va2 ni vc2]:List Value)[j]? = some u→W9.cell? ((⟨ghN,0,none⟩:Addr).add j)=some u):=Lib.hid (fun j u hu=>by rw [Addr.add_mid];exact hN.range j u hu);have HRW:=Lib.hid hI;have hszW:w.heap.size≤W9.heap.size:=hb.size;rw [if_pos (by rfl)];refine wp_append_own_wide _ (.tmp 17) (.tmp 24) 27 rfl w.heap.size 47 ti tz 1 24 Try.underlying27 HI.out HZ.out HS.out HBt.out HZs.out (by omega) (.slice va k vc) k _ rfl HRW.out ⟨ghN,0,none⟩ 1 1 [Value.slice va2 ni vc2] rfl rfl HNW.out HON.out (by simp only [maxLen];omega) (by omega) hszW (fun v' W10 h2 h3 h4=>?_);obtain ⟨xa9,xc9,rfl⟩:=row_slice h2;replace hA:=hA.grown h3 (own_ne_row hA HRW.out (by decide));replace hR:=hR.grown h3 (own_ne_row hR HRW.out (by decide));replace hD:=row_grown hD HRW.out (by decide) h3;replace hW:=Lib.hid (hW.out.grown h3 (fun q e=>row_own HRW.out e));replace hb:=grown_below hb h3 (fun j e=>by have:=(HRW.out.lt j e).1;omega) hb.size;replace hO:=hO.grown h3 (own_ne_row hO HRW.out (by decide));have H2:=Lib.hid h2;clear h2 h4 hI hN;clear HNW HRW hszW h3;refine hK.out _ _ ?_ (fun _=>?_)
        · ((try dsimp only);(exact ⟨hA.cell 1,(World.cell?_of_block (a:=⟨b,off+k,none⟩) (hb.block b hbl)).trans HC0.out⟩))
        clear hK K
        (try simp only [Act.put,pA,pB,pC])
        refine hdT 10 ?_;refine hdC 11 (fun K hK=>?_);have cO2:=hO.cell 1;have fO2:=hO.frozen 1
        (go_simp;go_wp2_with fail)
        replace hA:=hA.far (p:=⟨gX,1,none⟩) (by dsimp only;omega) (.slice xa9 (k+1) xc9);replace hR:=hR.far (p:=⟨gX,1,none⟩) (by dsimp only;omega) (.slice xa9 (k+1) xc9);replace hD:=row_far (p:=⟨gX,1,none⟩) hD hO (by decide) (.slice xa9 (k+1) xc9);have H5:=Lib.hid (row_far (p:=⟨gX,1,none⟩) H2.out hO (by decide) (.slice xa9 (k+1) xc9));replace hW:=Lib.hid (vals_far (p:=⟨gX,1,none⟩) hW.out hO (by decide) (.slice xa9 (k+1) xc9));replace hb:=hb.setCell (p:=⟨gX,1,none⟩) (by dsimp only;omega) (.slice xa9 (k+1) xc9);replace hO:=hO.set 1 (.slice xa9 (k+1) xc9);generalize W10.setCell ⟨gX,1,none⟩ (.slice xa9 (k+1) xc9)=W11 at *;refine hK.out _ _ ?_ (fun _=>?_)
        · ((try dsimp only);(exact ⟨hA.cell 1,(World.cell?_of_block (a:=⟨b,off+k,none⟩) (hb.block b hbl)).trans HC0.out⟩))
        clear hK K
        (try simp only [Act.put,pA,pB,pC])
        refine wpAnyH_done (by kernel_rfl) ?_ _;go_wp2_with fail
        go_roundw
        case rel=>exact ⟨k+1,xa9,xc9,vs++[.slice va2 ni vc2],by omega,by go_num,hb,hA,hR,hO,hD,H5.out,by rw [HTK.out];exact hW⟩
        case measure=>simp [intOf] <;> omega
  · have he:k=n:=(by omega);subst he;rw [List.take_of_length_le (Nat.le_of_eq HLn.out)] at hW;have HD:=Lib.hid hD;have HI2:=Lib.hid hI;clear hD hI;have k0:=hO.cell 0;have k1:=hO.cell 1;have r0:=hR.cell 0;have r1:=hR.cell 1;have f0:=hR.frozen 0;have f1:=hR.frozen 1;go_wp2_with fail
    have s2:=((hR.set 0 (.slice xa dn xc)).set 1 (.slice va k vc));refine bodyPost_ret (results_cell_row rfl _ _ (w.heap.size+1) 29 #[.slice xa dn xc,.slice va k vc] (0,0) _ rfl s2 Try.underlying29 rfl Try.info_alg) rfl ⟨xa,xc,va,vc,vs,rfl,?_,?_,?_,?_⟩
    · exact row_far (p:=⟨w.heap.size+1,1,none⟩) (row_far (p:=⟨w.heap.size+1,0,none⟩) HD.out hR (by decide) _) (hR.set 0 _) (by decide) _
    · exact row_far (p:=⟨w.heap.size+1,1,none⟩) (row_far (p:=⟨w.heap.size+1,0,none⟩) HI2.out hR (by decide) _) (hR.set 0 _) (by decide) _
    · exact vals_far (p:=⟨w.heap.size+1,1,none⟩) (vals_far (p:=⟨w.heap.size+1,0,none⟩) hW.out hR (by decide) _) (hR.set 0 _) (by decide) _
    · exact (hb.setCell (p:=⟨w.heap.size+1,0,none⟩) (by dsimp only;omega) _).setCell (p:=⟨w.heap.size+1,1,none⟩) (by dsimp only;omega) _
theorem FrmsN.frms {w:World} {a:Option Addr} {n:Nat} {fss:List (List Tm)} (h:FrmsN w a n fss) (hL:∀ts∈fss,(ts.length:Int)≤1048576):Frms w a n fss:=
 ⟨h.1,fun hn=>by
  obtain ⟨b,off,ha,hlt,hc⟩:=h.2 hn;refine ⟨b,off,ha,hlt,fun i ts hi=>?_⟩;obtain ⟨ai,ni,ci,h1,h2,-⟩:=hc i ts hi
  exact ⟨ai,ni,ci,h1,h2,by have:=hL ts (List.mem_of_getElem? hi);have:=h2.len;omega⟩⟩
def SlN (w:World) (v:Value) (ts:List Tm):Prop:=∃ai ni ci,v=.slice ai ni ci∧Terms w ai ni ts∧((ai=none∧ni=0∧ci=0)∨∃bi oi,ai=some ⟨bi,oi,none⟩)
theorem FrmsN.cells {w:World} {gi oi n:Nat} {fss:List (List Tm)} (h:FrmsN w (some ⟨gi,oi,none⟩) n fss):∃vs:List Value,vs.length=n∧(∀(j:Nat) v,vs[j]? = some v→w.cell? ⟨gi,oi+j,none⟩=some v)∧(∀(j:Nat) v ts,vs[j]? = some v→fss[j]? = some ts→SlN w v ts):=by
 have hl:=h.1
 have hx:∀j,j<n→∃v,w.cell? ⟨gi,oi+j,none⟩=some v∧∀ts,fss[j]? = some ts→SlN w v ts:=by
  intro j hj;obtain ⟨b,off,e,hb,hc⟩:=h.2 (by omega)
  injection e with e
  injection e with e1 e2
  subst e1 e2;obtain ⟨ai,ni,ci,h1,h2,h3⟩:=hc j _ (List.getElem?_eq_getElem (show j<fss.length by omega))
  exact ⟨_,h1,fun ts hts=>by
   rw [List.getElem?_eq_getElem (show j<fss.length by omega)] at hts
   injection hts with hts
   subst hts
   exact ⟨ai,ni,ci,rfl,h2,h3⟩⟩
 obtain ⟨f,hf⟩:=choose_lt (α:=Value) (n:=n) (p:=fun j v=>w.cell? ⟨gi,oi+j,none⟩=some v∧∀ts,fss[j]? = some ts→SlN w v ts) hx
 refine ⟨(List.range n).map f,by simp,fun j v hv=>?_,fun j v ts hv hts=>?_⟩
 all_goals
  have hj:=(List.getElem?_eq_some_iff.1 hv).1;rw [List.length_map,List.length_range] at hj;rw [List.getElem?_map,List.getElem?_range hj] at hv
  injection hv with hv
  subst hv
 · exact (hf j hj).1
 · exact (hf j hj).2 ts hts
theorem SlN.keep {w w':World} {v:Value} {ts:List Tm} (h:SlN w v ts) (hb:Below w.heap.size w w'):SlN w' v ts:=by
 obtain ⟨ai,ni,ci,h1,h2,h3⟩:=h
 exact ⟨ai,ni,ci,h1,h2.keep hb,h3⟩
theorem SlN.one {w:World} {v:Value} {ts:List Tm} (h:SlN w v ts):v.oneCell'=true:=by
 obtain ⟨ai,ni,ci,rfl,-⟩:=h
 rfl
theorem frmsN_row {w:World} {B n:Nat} {v:Value} {vs:List Value} {fss:List (List Tm)} (h:w.ownsRow B 47 1 v n vs) (hl:fss.length=n) (hs:∀(j:Nat) u ts,vs[j]? = some u→fss[j]? = some ts→SlN w u ts) (hn:0<n):∃g c,v=.slice (some ⟨g,0,none⟩) n c∧FrmsN w (some ⟨g,0,none⟩) n fss:=by
 have hc:=fun g=>World.ownsRow.cells (g:=g) h
 have hvl:vs.length=n:=by have:=h.1;omega
 rcases h.2 with ⟨hv,h0⟩ | ⟨g,cap,cur,hv,hb,hg,hnc,_⟩
 · omega
 · refine ⟨g,cap,hv,hl,fun _=>⟨g,0,rfl,(Array.getElem?_eq_some_iff.1 hg).1,fun i ts hi=>?_⟩⟩;have hii:=(List.getElem?_eq_some_iff.1 hi).1;have hu:vs[i]? = some (vs[i]'(by omega)):=List.getElem?_eq_getElem (by omega);obtain ⟨ai,ni,ci,h1,h2,h3⟩:=hs i _ ts hu hi;have h4:=hc g (by rw [hv];rfl) i _ hu;rw [Addr.add_mid] at h4;exact ⟨ai,ni,ci,by rw [h4,h1],h2,h3⟩
theorem ints_row {w:World} {B n:Nat} {v:Value} {zs:List Int} (h:w.ownsRow B 2 1 v n (zs.map (Value.int .i64))) (hn:0<n):∃g c,v=.slice (some ⟨g,0,none⟩) n c∧Ints w (some ⟨g,0,none⟩) n zs:=by
 obtain ⟨a,c,hv,hO⟩:=OwnV.of_row h
 have hi:=hO.ints
 obtain ⟨g,cs,e,-⟩:=hO.2 hn
 subst e
 exact ⟨g,c,hv,hi⟩
theorem isAlg_lenQ2 {zs:List Int} {ims:List (List Tm)} (h:isAlg zs ims=true):ims.length=zs.length:=by
 simp only [isAlg,Bool.and_eq_true,decide_eq_true_eq] at h
 exact h.2.1
theorem isAlg_400b {zs:List Int} {ims:List (List Tm)} (h:isAlg zs ims=true):∀ts∈ims,ts.length≤400:=by
 intro ts hts
 obtain ⟨k,hk,rfl⟩:=List.mem_iff_getElem.1 hts
 have hl:=isAlg_lenQ2 h
 simp only [isAlg,Bool.and_eq_true] at h
 have h4:=List.all_eq_true.1 h.2.2.1 k (List.mem_range.2 hk)
 have h5:=okIm_of (z:=zs[k]'(by omega)) (List.getElem?_eq_getElem (show k<zs.length by omega)) (List.getElem?_eq_getElem hk) rfl
 rw [h4] at h5
 have h6:=zeroOr_form h5.symm
 simp only [isForm,Bool.and_eq_true,decide_eq_true_eq] at h6
 omega
theorem sumLen_bdB {V:List (List Tm)} {B:Nat} (h:∀ts∈V,ts.length≤B):sumLen V≤V.length * B:=by
 induction V with
 | nil=>simp [sumLen]
 | cons x l ih =>
   have h1:=h x (by simp);have h2:=ih (fun y hy=>h y (by simp [hy]));have h3:sumLen (x::l)=x.length+sumLen l:=(by simp [sumLen]);rw [h3,List.length_cons,Nat.succ_mul];omega
end Go.Proofs.Ytndnkeijddagiaa
