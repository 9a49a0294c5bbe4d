
import Derived.Test.YtndnkeijddagiaaNewA
import Derived.Test.YtndnkeijddagiaaClosed
namespace Go.Proofs.Ytndnkeijddagiaa
set_option maxRecDepth 100000
open Go.RowKit Go.Deep
theorem row_far {w:World} {B sz n:Nat} {t t':TypeId} {v:Value} {xs:List Value} {p:Addr} {os:Array Value} (h:w.ownsRow B t sz v n xs) (ho:Own w p.block t' os) (ht:t'≠t) (u:Value):(w.setCell p u).ownsRow B t sz v n xs:=
 ownsRow_setCell_other h (fun e=>own_ne_row ho h ht e.symm) u
theorem vals_far {w:World} {B:Nat} {vs:List Value} {V:List (List Tm)} {t':TypeId} {p:Addr} {os:Array Value} (h:Vals w B vs V) (ho:Own w p.block t' os) (ht:t'≠76) (u:Value):Vals (w.setCell p u) B vs V:=
 ⟨h.len,fun i v ts h1 h2=>(h.each i v ts h1 h2).far (fun e=>own_ne_row ho (h.each i v ts h1 h2) ht e.symm) u,h.apart⟩
theorem vals_grown {w w':World} {B B' sz n:Nat} {vs:List Value} {V:List (List Tm)} {t':TypeId} {v':Value} {xs:List Value} (h:Vals w B vs V) (h':w.ownsRow B' t' sz v' n xs) (ht:t'≠76) (hg:w.grownBy w' v'.ownBlock):Vals w' B vs V:=
 h.grownN hg (fun i u q h1 h2 e=>by
  obtain ⟨ts,-,ho⟩:=h.at_ h1;obtain ⟨os,hq⟩:=row_own h' e
  exact own_ne_row hq ho ht h2.symm)
theorem l02Copy0_c {w : World} {a : Option Addr} {n : Nat} {ts : List Tm} (c : Nat) (h : Terms w a n ts) (hn : n ≤ 1048576) :
    Calls Try.prog 94 #[.agg #[.slice a n c],.int .i64 0] w fun e w'=>∃va vc,e=.returned (.agg #[.slice va n vc])∧OwnR w' w.heap.size (.slice va n vc) ts∧Below w.heap.size w w':=by
 have hm:=map_shT_zero h.2.1
 have:=l02Copy_c c 0 h hn (by omega)
 rw [hm] at this
 exact this
theorem take_snoc {α:Type} {l:List α} {k:Nat} {x:α} (h:l[k]? = some x):l.take (k+1)=l.take k++[x]:=by
 rw [List.take_add_one,h]
 rfl
theorem row_weaken {w:World} {B B' sz n:Nat} {t:TypeId} {v:Value} {xs:List Value} (h:w.ownsRow B t sz v n xs) (hB:B'≤B):w.ownsRow B' t sz v n xs:=by
 obtain ⟨hl,h1⟩:=h
 refine ⟨hl,?_⟩
 rcases h1 with h0 | ⟨g,cap,cur,hv,hb,r⟩
 · exact Or.inl h0
 · exact Or.inr ⟨g,cap,cur,hv,by omega,r⟩
set_option maxHeartbeats 4000000 in
theorem l02Own_c {w : World} {gd od dn : Nat} {zs : List Int} {a : Option Addr} {n : Nat} {ims : List (List Tm)} (dc c : Nat) (hd : Ints w (some ⟨gd, od, none⟩) dn zs) (hdn : dn ≤ 1048576) (hF : Frms w a n ims) (hn : n ≤ 1048576) (hL : ∀ im ∈ ims, (im.length : Int) ≤ 1048576) :
    Calls Try.prog 111 #[.agg #[.slice (some ⟨gd,od,none⟩) dn dc,.slice a n c]] w fun e w'=>∃xa xc va vc vs,e=.returned (.agg #[.slice xa dn xc,.slice va n vc])∧w'.ownsRow w.heap.size 2 1 (.slice xa dn xc) dn (zs.map (Value.int .i64))∧w'.ownsRow w.heap.size 47 1 (.slice va n vc) n vs∧Vals w' w.heap.size vs ims∧Below w.heap.size w w':=by
 have HLL:=Lib.hid hL
 have HFF:=Lib.hid hF
 have HLn:=Lib.hid hF.len
 obtain ⟨ti,tz,hti,htz,hts,htb,htzs⟩:=Try.info_formA
 have HI:=Lib.hid hti
 have HZ:=Lib.hid htz
 have HS:=Lib.hid hts
 have HBt:=Lib.hid htb
 have HZs:=Lib.hid htzs
 clear hti htz hts htb htzs
 clear hL hF
 have hA:=(Own.new w 29 #[.slice (some ⟨gd,od,none⟩) dn dc,.slice a n c]).alloc (.cells #[.slice none 0 0,.slice none 0 0] 29)
 have hR:=Own.new (w.alloc (.cells #[.slice (some ⟨gd,od,none⟩) dn dc,.slice a n c] 29)) 29 #[.slice none 0 0,.slice none 0 0]
 rw [sAl] at hR
 have hb:=bTn (bA1 w (.cells #[.slice (some ⟨gd,od,none⟩) dn dc,.slice a n c] 29)) (bA1 _ (.cells #[.slice none 0 0,.slice none 0 0] 29))
 go_enter Try.func111,Try.ntmps111
 go_upto_region 1 with fail
 generalize (w.alloc (.cells #[.slice (some ⟨gd,od,none⟩) dn dc,.slice a n c] 29)).alloc (.cells #[.slice none 0 0,.slice none 0 0] 29)=w0 at *
 have c0:=hA.cell 0
 go_wp2_with fail
 refine (l01OwnI_c dc (hd.keep hb) hdn).mono ?_
 rintro e w1 ⟨xa,xc,rfl,hD,hb1⟩
 have hbs0:=hb.size
 replace hA:=hA.keep hb1 hA.lt
 replace hR:=hR.keep hb1 hR.lt
 replace hb:=bT' hb hb1 hb.size
 have hD':w1.ownsRow w.heap.size 2 1 (.slice xa dn xc) dn (zs.map (Value.int .i64)):=row_weaken hD hbs0
 clear hb1 hD c0 hbs0
 have hO:=Own.new w1 29 #[.slice xa dn xc,.slice none 0 0]
 have hbX:=bA1 w1 (.cells #[.slice xa dn xc,.slice none 0 0] 29)
 have HD:=Lib.hid (row_keep hD' hbX)
 have hlX:w.heap.size+1<w1.heap.size:=hR.lt
 replace hA:=hA.keep hbX hA.lt
 replace hR:=hR.keep hbX hR.lt
 replace hb:=bT' hb hbX hb.size
 clear hD' hbX
 go_upto_region 2 with fail
 generalize w1.alloc (.cells #[.slice xa dn xc,.slice none 0 0] 29)=w2 at *
 generalize w1.heap.size=gX at *
 go_upto_region 3 with fail
 go_loopw [4] (fun y wr=>∃(k:Nat) (va:Option Addr) (vc:Nat) (vs:List Value),k≤n∧y=.int .i64 k∧Below w.heap.size w wr∧Own wr w.heap.size 29 #[.slice (some ⟨gd,od,none⟩) dn dc,.slice a n c]∧Own wr (w.heap.size+1) 29 #[.slice none 0 0,.slice none 0 0]∧Own wr gX 29 #[.slice xa dn xc,.slice va k vc]∧wr.ownsRow w.heap.size 2 1 (.slice xa dn xc) dn (zs.map (Value.int .i64))∧wr.ownsRow w.heap.size 47 1 (.slice va k vc) k vs∧Hid (Vals wr w.heap.size vs (ims.take k))) (fun y _=>n - (intOf y).toNat)
 case atStart=>exact ⟨0,none,0,[],Nat.zero_le _,rfl,hb,hA,hR,hO,HD.out,World.ownsRow_nil _ _ _ _,Lib.hid (Vals.nil _ _)⟩
 case round=>
  clear hb hA hR hO HD;obtain ⟨k,va,vc,vs,hk,rfl,hb,hA,hR,hO,hD,hI,hW⟩:=hrel;have cA:=hA.cell 1;by_cases hin:k<n
  · obtain ⟨b,off,ts,ai,ni,ci,rfl,hbl,hc0,hT0,hni,hx⟩:=HFF.out.at_ hin;have HC0:=Lib.hid hc0;have HTK:=Lib.hid (take_snoc hx.out);have hni2:ni≤1048576:=(by have:=HLL.out ts (List.mem_of_getElem? hx.out);have:=hT0.len;omega);have hk0:(0:Int)≤(k:Int):=(by omega);have hkn:(k:Int)<(n:Int):=(by omega);clear hc0;have HD:=Lib.hid hD;have HI2:=Lib.hid hI;clear hD hI;go_upto_region 5 with fail
    replace hA:Own wr.drew w.heap.size 29 #[.slice (some ⟨gd,od,none⟩) dn dc,.slice (some ⟨b,off,none⟩) n c]:=hA;replace hR:Own wr.drew (w.heap.size+1) 29 #[.slice none 0 0,.slice none 0 0]:=hR;replace hO:Own wr.drew gX 29 #[.slice xa dn xc,.slice va k vc]:=hO;have hD:wr.drew.ownsRow w.heap.size 2 1 (.slice xa dn xc) dn (zs.map (Value.int .i64)):=HD.out;have hI:wr.drew.ownsRow w.heap.size 47 1 (.slice va k vc) k vs:=HI2.out;replace hW:Hid (Vals wr.drew w.heap.size vs (ims.take k)):=Lib.hid (hW.out.keep ((Below.refl _ _).drew));replace hb:Below w.heap.size w wr.drew:=hb.drew;clear HD HI2 cA;refine wp_region_held_drew (S:=(fun w'=>w'.cell? ⟨w.heap.size,1,none⟩=some (.slice (some ⟨b,off,none⟩) n c)∧w'.cell? ⟨b,off+k,none⟩=some (.slice ai ni ci))) (by kernel_rfl) ?_ (fun _=>?_)
    · ((try dsimp only);(exact ⟨hA.cell 1,(World.cell?_of_block (a:=⟨b,off+k,none⟩) (hb.block b hbl)).trans HC0.out⟩))
    generalize wr.drew=W0d at *;refine hdT 0 ?_;refine hdT 2 ?_;refine hdT 3 ?_;refine hdT 4 ?_;refine hdT 5 ?_;refine hdT 6 ?_;refine wpAnyH_ready (rs:=[1,7]) (by kernel_rfl) (by simp) ?_;refine AllReadyH.cons (hdAt (i:=1) rfl) (fun K hK=>?_) (AllReadyH.cons (hdAt (i:=7) rfl) (fun K hK=>?_) AllReadyH.nil)
    · skip
      have cO1:=hO.cell 1
      (go_simp;try go_wp2_with fail)
      refine hK.out _ _ ?_ (fun _=>?_)
      · ((try dsimp only);(exact ⟨hA.cell 1,(World.cell?_of_block (a:=⟨b,off+k,none⟩) (hb.block b hbl)).trans HC0.out⟩))
      clear hK K
      (try simp only [Act.put,pA,pB,pC])
      refine hdC 7 (fun K hK=>?_);have HLT:=Lib.hid hW.out.lt;have hbs:=hb.size
      (go_simp;(go_at_call 94;refine (l02Copy0_c ci (hT0.keep hb) hni2).mono ?_;rintro e W1 ⟨va2,vc2,rfl,hV,hbX⟩);go_wp2_with fail)
      replace hA:=hA.keep hbX hA.lt;replace hR:=hR.keep hbX hR.lt;replace hD:=row_keep hD hbX;replace hI:=row_keep hI hbX;replace hW:=Lib.hid (hW.out.keep hbX);replace hb:=bT' hb hbX hb.size;replace hO:=hO.keep hbX hO.lt;replace hW:=Lib.hid (hW.out.snoc HLT.out hbs hV);have HON:Hid (∀u∈([Value.slice va2 ni vc2]:List Value),u.oneCell'=true):=Lib.hid (by simp [Value.oneCell']);clear HLT hbs hV;clear hbX;refine hK.out _ _ ?_ (fun _=>?_)
      · ((try dsimp only);(exact ⟨hA.cell 1,(World.cell?_of_block (a:=⟨b,off+k,none⟩) (hb.block b hbl)).trans HC0.out⟩))
      clear hK K
      (try simp only [Act.put,pA,pB,pC])
      refine hdC 8 (fun K hK=>?_)
      (go_simp;try go_wp2_with fail)
      have hN:=Own.new W1 47 #[.slice va2 ni vc2];have hbX:=bA1 W1 (.cells #[.slice va2 ni vc2] 47);replace hA:=hA.keep hbX hA.lt;replace hR:=hR.keep hbX hR.lt;replace hD:=row_keep hD hbX;replace hI:=row_keep hI hbX;replace hW:=Lib.hid (hW.out.keep hbX);replace hb:=bT' hb hbX hb.size;replace hO:=hO.keep hbX hO.lt;generalize W1.alloc (.cells #[.slice va2 ni vc2] 47)=W2 at *;generalize hhNg:W1.heap.size=ghN at *;clear hbX hhNg;refine hK.out _ _ ?_ (fun _=>?_)
      · ((try dsimp only);(exact ⟨hA.cell 1,(World.cell?_of_block (a:=⟨b,off+k,none⟩) (hb.block b hbl)).trans HC0.out⟩))
      clear hK K
      (try simp only [Act.put,pA,pB,pC])
      refine hdC 9 (fun K hK=>?_);have HNW:Hid (∀j u,([Value.slice va2 ni vc2]:List Value)[j]? = some u→W2.cell? ((⟨ghN,0,none⟩:Addr).add j)=some u):=Lib.hid (fun j u hu=>by rw [Addr.add_mid];exact hN.range j u hu);have HRW:=Lib.hid hI;have hszW:w.heap.size≤W2.heap.size:=hb.size;rw [if_pos (by rfl)];refine wp_append_own_wide _ (.tmp 17) (.tmp 24) 27 rfl w.heap.size 47 ti tz 1 24 Try.underlying27 HI.out HZ.out HS.out HBt.out HZs.out (by omega) (.slice va k vc) k _ rfl HRW.out ⟨ghN,0,none⟩ 1 1 [Value.slice va2 ni vc2] rfl rfl HNW.out HON.out (by simp only [maxLen];omega) (by omega) hszW (fun v' W3 h2 h3 h4=>?_);obtain ⟨xa9,xc9,rfl⟩:=row_slice h2;replace hA:=hA.grown h3 (own_ne_row hA HRW.out (by decide));replace hR:=hR.grown h3 (own_ne_row hR HRW.out (by decide));replace hD:=row_grown hD HRW.out (by decide) h3;replace hW:=Lib.hid (hW.out.grown h3 (fun q e=>row_own HRW.out e));replace hb:=grown_below hb h3 (fun j e=>by have:=(HRW.out.lt j e).1;omega) hb.size;replace hO:=hO.grown h3 (own_ne_row hO HRW.out (by decide));have H2:=Lib.hid h2;clear h2 h4 hI hN;clear HNW HRW hszW h3;refine hK.out _ _ ?_ (fun _=>?_)
      · ((try dsimp only);(exact ⟨hA.cell 1,(World.cell?_of_block (a:=⟨b,off+k,none⟩) (hb.block b hbl)).trans HC0.out⟩))
      clear hK K
      (try simp only [Act.put,pA,pB,pC])
      refine hdT 10 ?_;refine hdC 11 (fun K hK=>?_);have cO2:=hO.cell 1;have fO2:=hO.frozen 1
      (go_simp;go_wp2_with fail)
      replace hA:=hA.far (p:=⟨gX,1,none⟩) (by dsimp only;omega) (.slice xa9 (k+1) xc9);replace hR:=hR.far (p:=⟨gX,1,none⟩) (by dsimp only;omega) (.slice xa9 (k+1) xc9);replace hD:=row_far (p:=⟨gX,1,none⟩) hD hO (by decide) (.slice xa9 (k+1) xc9);have H5:=Lib.hid (row_far (p:=⟨gX,1,none⟩) H2.out hO (by decide) (.slice xa9 (k+1) xc9));replace hW:=Lib.hid (vals_far (p:=⟨gX,1,none⟩) hW.out hO (by decide) (.slice xa9 (k+1) xc9));replace hb:=hb.setCell (p:=⟨gX,1,none⟩) (by dsimp only;omega) (.slice xa9 (k+1) xc9);replace hO:=hO.set 1 (.slice xa9 (k+1) xc9);generalize W3.setCell ⟨gX,1,none⟩ (.slice xa9 (k+1) xc9)=W4 at *;refine hK.out _ _ ?_ (fun _=>?_)
      · ((try dsimp only);(exact ⟨hA.cell 1,(World.cell?_of_block (a:=⟨b,off+k,none⟩) (hb.block b hbl)).trans HC0.out⟩))
      clear hK K
      (try simp only [Act.put,pA,pB,pC])
      refine wpAnyH_done (by kernel_rfl) ?_ _;go_wp2_with fail
      go_roundw
      case rel=>exact ⟨k+1,xa9,xc9,vs++[.slice va2 ni vc2],by omega,by go_num,hb,hA,hR,hO,hD,H5.out,by rw [HTK.out];exact hW⟩
      case measure=>simp [intOf] <;> omega
    · skip
      have HLT:=Lib.hid hW.out.lt;have hbs:=hb.size
      (go_simp;(go_at_call 94;refine (l02Copy0_c ci (hT0.keep hb) hni2).mono ?_;rintro e W5 ⟨va2,vc2,rfl,hV,hbX⟩);go_wp2_with fail)
      replace hA:=hA.keep hbX hA.lt;replace hR:=hR.keep hbX hR.lt;replace hD:=row_keep hD hbX;replace hI:=row_keep hI hbX;replace hW:=Lib.hid (hW.out.keep hbX);replace hb:=bT' hb hbX hb.size;replace hO:=hO.keep hbX hO.lt;replace hW:=Lib.hid (hW.out.snoc HLT.out hbs hV);have HON:Hid (∀u∈([Value.slice va2 ni vc2]:List Value),u.oneCell'=true):=Lib.hid (by simp [Value.oneCell']);clear HLT hbs hV;clear hbX;refine hK.out _ _ ?_ (fun _=>?_)
      · ((try dsimp only);(exact ⟨hA.cell 1,(World.cell?_of_block (a:=⟨b,off+k,none⟩) (hb.block b hbl)).trans HC0.out⟩))
      clear hK K
      (try simp only [Act.put,pA,pB,pC])
      refine wpAnyH_ready (rs:=[1,8]) (by kernel_rfl) (by simp) ?_;refine AllReadyH.cons (hdAt (i:=1) rfl) (fun K hK=>?_) (AllReadyH.cons (hdAt (i:=8) rfl) (fun K hK=>?_) AllReadyH.nil)
      · skip
        have cO1:=hO.cell 1
        (go_simp;try go_wp2_with fail)
        refine hK.out _ _ ?_ (fun _=>?_)
        · ((try dsimp only);(exact ⟨hA.cell 1,(World.cell?_of_block (a:=⟨b,off+k,none⟩) (hb.block b hbl)).trans HC0.out⟩))
        clear hK K
        (try simp only [Act.put,pA,pB,pC])
        refine hdC 8 (fun K hK=>?_)
        (go_simp;try go_wp2_with fail)
        have hN:=Own.new W5 47 #[.slice va2 ni vc2];have hbX:=bA1 W5 (.cells #[.slice va2 ni vc2] 47);replace hA:=hA.keep hbX hA.lt;replace hR:=hR.keep hbX hR.lt;replace hD:=row_keep hD hbX;replace hI:=row_keep hI hbX;replace hW:=Lib.hid (hW.out.keep hbX);replace hb:=bT' hb hbX hb.size;replace hO:=hO.keep hbX hO.lt;generalize W5.alloc (.cells #[.slice va2 ni vc2] 47)=W6 at *;generalize hhNg:W5.heap.size=ghN at *;clear hbX hhNg;refine hK.out _ _ ?_ (fun _=>?_)
        · ((try dsimp only);(exact ⟨hA.cell 1,(World.cell?_of_block (a:=⟨b,off+k,none⟩) (hb.block b hbl)).trans HC0.out⟩))
        clear hK K
        (try simp only [Act.put,pA,pB,pC])
        refine hdC 9 (fun K hK=>?_);have HNW:Hid (∀j u,([Value.slice va2 ni vc2]:List Value)[j]? = some u→W6.cell? ((⟨ghN,0,none⟩:Addr).add j)=some u):=Lib.hid (fun j u hu=>by rw [Addr.add_mid];exact hN.range j u hu);have HRW:=Lib.hid hI;have hszW:w.heap.size≤W6.heap.size:=hb.size;rw [if_pos (by rfl)];refine wp_append_own_wide _ (.tmp 17) (.tmp 24) 27 rfl w.heap.size 47 ti tz 1 24 Try.underlying27 HI.out HZ.out HS.out HBt.out HZs.out (by omega) (.slice va k vc) k _ rfl HRW.out ⟨ghN,0,none⟩ 1 1 [Value.slice va2 ni vc2] rfl rfl HNW.out HON.out (by simp only [maxLen];omega) (by omega) hszW (fun v' W7 h2 h3 h4=>?_);obtain ⟨xa9,xc9,rfl⟩:=row_slice h2;replace hA:=hA.grown h3 (own_ne_row hA HRW.out (by decide));replace hR:=hR.grown h3 (own_ne_row hR HRW.out (by decide));replace hD:=row_grown hD HRW.out (by decide) h3;replace hW:=Lib.hid (hW.out.grown h3 (fun q e=>row_own HRW.out e));replace hb:=grown_below hb h3 (fun j e=>by have:=(HRW.out.lt j e).1;omega) hb.size;replace hO:=hO.grown h3 (own_ne_row hO HRW.out (by decide));have H2:=Lib.hid h2;clear h2 h4 hI hN;clear HNW HRW hszW h3;refine hK.out _ _ ?_ (fun _=>?_)
        · ((try dsimp only);(exact ⟨hA.cell 1,(World.cell?_of_block (a:=⟨b,off+k,none⟩) (hb.block b hbl)).trans HC0.out⟩))
        clear hK K
        (try simp only [Act.put,pA,pB,pC])
        refine hdT 10 ?_;refine hdC 11 (fun K hK=>?_);have cO2:=hO.cell 1;have fO2:=hO.frozen 1
        (go_simp;go_wp2_with fail)
        replace hA:=hA.far (p:=⟨gX,1,none⟩) (by dsimp only;omega) (.slice xa9 (k+1) xc9);replace hR:=hR.far (p:=⟨gX,1,none⟩) (by dsimp only;omega) (.slice xa9 (k+1) xc9);replace hD:=row_far (p:=⟨gX,1,none⟩) hD hO (by decide) (.slice xa9 (k+1) xc9);have H5:=Lib.hid (row_far (p:=⟨gX,1,none⟩) H2.out hO (by decide) (.slice xa9 (k+1) xc9));replace hW:=Lib.hid (vals_far (p:=⟨gX,1,none⟩) hW.out hO (by decide) (.slice xa9 (k+1) xc9));replace hb:=hb.setCell (p:=⟨gX,1,none⟩) (by dsimp only;omega) (.slice xa9 (k+1) xc9);replace hO:=hO.set 1 (.slice xa9 (k+1) xc9);generalize W7.setCell ⟨gX,1,none⟩ (.slice xa9 (k+1) xc9)=W8 at *;refine hK.out _ _ ?_ (fun _=>?_)
        · ((try dsimp only);(exact ⟨hA.cell 1,(World.cell?_of_block (a:=⟨b,off+k,none⟩) (hb.block b hbl)).trans HC0.out⟩))
        clear hK K
        (try simp only [Act.put,pA,pB,pC])
        refine wpAnyH_done (by kernel_rfl) ?_ _;go_wp2_with fail
        go_roundw
        case rel=>exact ⟨k+1,xa9,xc9,vs++[.slice va2 ni vc2],by omega,by go_num,hb,hA,hR,hO,hD,H5.out,by rw [HTK.out];exact hW⟩
        case measure=>simp [intOf] <;> omega
      · skip
        (go_simp;try go_wp2_with fail)
        have hN:=Own.new W5 47 #[.slice va2 ni vc2];have hbX:=bA1 W5 (.cells #[.slice va2 ni vc2] 47);replace hA:=hA.keep hbX hA.lt;replace hR:=hR.keep hbX hR.lt;replace hD:=row_keep hD hbX;replace hI:=row_keep hI hbX;replace hW:=Lib.hid (hW.out.keep hbX);replace hb:=bT' hb hbX hb.size;replace hO:=hO.keep hbX hO.lt;generalize W5.alloc (.cells #[.slice va2 ni vc2] 47)=W9 at *;generalize hhNg:W5.heap.size=ghN at *;clear hbX hhNg;refine hK.out _ _ ?_ (fun _=>?_)
        · ((try dsimp only);(exact ⟨hA.cell 1,(World.cell?_of_block (a:=⟨b,off+k,none⟩) (hb.block b hbl)).trans HC0.out⟩))
        clear hK K
        (try simp only [Act.put,pA,pB,pC])
        refine hdC 1 (fun K hK=>?_);have cO1:=hO.cell 1
        (go_simp;try go_wp2_with fail)
        refine hK.out _ _ ?_ (fun _=>?_)
        · ((try dsimp only);(exact ⟨hA.cell 1,(World.cell?_of_block (a:=⟨b,off+k,none⟩) (hb.block b hbl)).trans HC0.out⟩))
        clear hK K
        (try simp only [Act.put,pA,pB,pC])
        refine hdC 9 (fun K hK=>?_);have HNW:Hid (∀j u,([Value.slice va2 ni vc2]:List Value)[j]? = some u→W9.cell? ((⟨ghN,0,none⟩:Addr).add j)=some u):=Lib.hid (fun j u hu=>by rw [Addr.add_mid];exact hN.range j u hu);have HRW:=Lib.hid hI;have hszW:w.heap.size≤W9.heap.size:=hb.size;rw [if_pos (by rfl)];refine wp_append_own_wide _ (.tmp 17) (.tmp 24) 27 rfl w.heap.size 47 ti tz 1 24 Try.underlying27 HI.out HZ.out HS.out HBt.out HZs.out (by omega) (.slice va k vc) k _ rfl HRW.out ⟨ghN,0,none⟩ 1 1 [Value.slice va2 ni vc2] rfl rfl HNW.out HON.out (by simp only [maxLen];omega) (by omega) hszW (fun v' W10 h2 h3 h4=>?_);obtain ⟨xa9,xc9,rfl⟩:=row_slice h2;replace hA:=hA.grown h3 (own_ne_row hA HRW.out (by decide));replace hR:=hR.grown h3 (own_ne_row hR HRW.out (by decide));replace hD:=row_grown hD HRW.out (by decide) h3;replace hW:=Lib.hid (hW.out.grown h3 (fun q e=>row_own HRW.out e));replace hb:=grown_below hb h3 (fun j e=>by have:=(HRW.out.lt j e).1;omega) hb.size;replace hO:=hO.grown h3 (own_ne_row hO HRW.out (by decide));have H2:=Lib.hid h2;clear h2 h4 hI hN;clear HNW HRW hszW h3;refine hK.out _ _ ?_ (fun _=>?_)
        · ((try dsimp only);(exact ⟨hA.cell 1,(World.cell?_of_block (a:=⟨b,off+k,none⟩) (hb.block b hbl)).trans HC0.out⟩))
        clear hK K
        (try simp only [Act.put,pA,pB,pC])
        refine hdT 10 ?_;refine hdC 11 (fun K hK=>?_);have cO2:=hO.cell 1;have fO2:=hO.frozen 1
        (go_simp;go_wp2_with fail)
        replace hA:=hA.far (p:=⟨gX,1,none⟩) (by dsimp only;omega) (.slice xa9 (k+1) xc9);replace hR:=hR.far (p:=⟨gX,1,none⟩) (by dsimp only;omega) (.slice xa9 (k+1) xc9);replace hD:=row_far (p:=⟨gX,1,none⟩) hD hO (by decide) (.slice xa9 (k+1) xc9);have H5:=Lib.hid (row_far (p:=⟨gX,1,none⟩) H2.out hO (by decide) (.slice xa9 (k+1) xc9));replace hW:=Lib.hid (vals_far (p:=⟨gX,1,none⟩) hW.out hO (by decide) (.slice xa9 (k+1) xc9));replace hb:=hb.setCell (p:=⟨gX,1,none⟩) (by dsimp only;omega) (.slice xa9 (k+1) xc9);replace hO:=hO.set 1 (.slice xa9 (k+1) xc9);generalize W10.setCell ⟨gX,1,none⟩ (.slice xa9 (k+1) xc9)=W11 at *;refine hK.out _ _ ?_ (fun _=>?_)
        · ((try dsimp only);(exact ⟨hA.cell 1,(World.cell?_of_block (a:=⟨b,off+k,none⟩) (hb.block b hbl)).trans HC0.out⟩))
        clear hK K
        (try simp only [Act.put,pA,pB,pC])
        refine wpAnyH_done (by kernel_rfl) ?_ _;go_wp2_with fail
        go_roundw
        case rel=>exact ⟨k+1,xa9,xc9,vs++[.slice va2 ni vc2],by omega,by go_num,hb,hA,hR,hO,hD,H5.out,by rw [HTK.out];exact hW⟩
        case measure=>simp [intOf] <;> omega
  · have he:k=n:=(by omega);subst he;rw [List.take_of_length_le (Nat.le_of_eq HLn.out)] at hW;have HD:=Lib.hid hD;have HI2:=Lib.hid hI;clear hD hI;have k0:=hO.cell 0;have k1:=hO.cell 1;have r0:=hR.cell 0;have r1:=hR.cell 1;have f0:=hR.frozen 0;have f1:=hR.frozen 1;go_wp2_with fail
    have s2:=((hR.set 0 (.slice xa dn xc)).set 1 (.slice va k vc));refine bodyPost_ret (results_cell_row rfl _ _ (w.heap.size+1) 29 #[.slice xa dn xc,.slice va k vc] (0,0) _ rfl s2 Try.underlying29 rfl Try.info_alg) rfl ⟨xa,xc,va,vc,vs,rfl,?_,?_,?_,?_⟩
    · exact row_far (p:=⟨w.heap.size+1,1,none⟩) (row_far (p:=⟨w.heap.size+1,0,none⟩) HD.out hR (by decide) _) (hR.set 0 _) (by decide) _
    · exact row_far (p:=⟨w.heap.size+1,1,none⟩) (row_far (p:=⟨w.heap.size+1,0,none⟩) HI2.out hR (by decide) _) (hR.set 0 _) (by decide) _
    · exact vals_far (p:=⟨w.heap.size+1,1,none⟩) (vals_far (p:=⟨w.heap.size+1,0,none⟩) hW.out hR (by decide) _) (hR.set 0 _) (by decide) _
    · exact (hb.setCell (p:=⟨w.heap.size+1,0,none⟩) (by dsimp only;omega) _).setCell (p:=⟨w.heap.size+1,1,none⟩) (by dsimp only;omega) _
theorem tm_snoc {V:List (List Tm)} {fs:List Tm} (h:∀ts∈V,∀t∈ts,IsTm t) (hf:∀t∈fs,IsTm t):∀ts∈V++[fs],∀t∈ts,IsTm t:=by
 intro ts hts
 rcases List.mem_append.1 hts with h1 | h1
 · exact h ts h1
 · obtain rfl:ts=fs:=(by simpa using h1);exact hf
set_option maxHeartbeats 4000000 in
theorem l02With_c {w : World} {gd od dn : Nat} {zs : List Int} {a : Option Addr} {n : Nat} {ims : List (List Tm)} {fa : Option Addr} {fn : Nat} {fs : List Tm} (dc c fc : Nat) (d : Int) (hd : Ints w (some ⟨gd, od, none⟩) dn zs) (hdn : dn ≤ 1048576) (hF : Frms w a n ims) (hn : n ≤ 1048576) (hL : ∀ im ∈ ims, (im.length : Int) ≤ 1048576) (hT : ∀ ts ∈ ims, ∀ t ∈ ts, IsTm t) (h : Terms w fa fn fs) (hfn : fn ≤ 1048576) :
    Calls Try.prog 73 #[.agg #[.slice (some ⟨gd,od,none⟩) dn dc,.slice a n c],.int .i64 d,.agg #[.slice fa fn fc]] w fun e w'=>∃ya yc ua uc,e=.returned (.agg #[.slice ya (dn+1) yc,.slice ua (n+1) uc])∧OwnV w' w.heap.size w'.heap.size ya (dn+1) (zs++[d])∧OwnF w' w.heap.size w'.heap.size ua (n+1) (ims++[fs])∧Below w.heap.size w w':=by
 have HLL:=Lib.hid hL
 have HTT:=Lib.hid hT
 have HTF:=Lib.hid h.2.1
 have HFF:=Lib.hid hF
 have HLn:=Lib.hid hF.len
 have hT0:=h
 obtain ⟨ti,tz,hti,htz,hts,htb,htzs⟩:=Try.info_formA
 have HI:=Lib.hid hti
 have HZ:=Lib.hid htz
 have HS:=Lib.hid hts
 have HBt:=Lib.hid htb
 have HZs:=Lib.hid htzs
 clear hti htz hts htb htzs
 obtain ⟨ti2,tz2,hti,htz,hts,htb,htzs⟩:=Try.info_intA
 have HI2:=Lib.hid hti
 have HZ2:=Lib.hid htz
 have HS2:=Lib.hid hts
 have HBt2:=Lib.hid htb
 have HZs2:=Lib.hid htzs
 clear hti htz hts htb htzs
 clear hL hT hF h
 obtain ⟨hA,hF,hR,hb⟩:=own3' w 29 47 29 #[.slice (some ⟨gd,od,none⟩) dn dc,.slice a n c] #[.slice fa fn fc] #[.slice none 0 0,.slice none 0 0]
 go_enter Try.func73,Try.ntmps73
 go_upto_region 1 with fail
 have hB0:w.heap.size+2<(((w.alloc (.cells #[.slice (some ⟨gd,od,none⟩) dn dc,.slice a n c] 29)).alloc (.cells #[.slice fa fn fc] 47)).alloc (.cells #[.slice none 0 0,.slice none 0 0] 29)).heap.size:=by rw [sAl,sAl,sAl];omega
 generalize ((w.alloc (.cells #[.slice (some ⟨gd,od,none⟩) dn dc,.slice a n c] 29)).alloc (.cells #[.slice fa fn fc] 47)).alloc (.cells #[.slice none 0 0,.slice none 0 0] 29)=w0 at *
 rw [show w.heap.size+1+1=w.heap.size+2 by omega] at hR
 have c0:=hA.cell 0
 have c1:=hA.cell 1
 go_wp2_with fail
 refine (l02Own_c dc c (hd.keep hb) hdn (HFF.out.keep hb) hn HLL.out).mono ?_
 rintro e w1 ⟨xa,xc,va,vc,vs,rfl,hD,hI,hW0,hb1⟩
 have hBs:=hb1.size
 replace hA:=hA.keep hb1 hA.lt
 replace hF:=hF.keep hb1 hF.lt
 replace hR:=hR.keep hb1 hR.lt
 replace hb:=bT' hb hb1 hb.size
 obtain ⟨B0,hB0e⟩:∃B0,w0.heap.size=B0:=⟨_,rfl⟩
 rw [hB0e] at hB0 hD hI hW0 hBs
 clear hb1 c0 c1 hB0e
 have hlX:B0≤w1.heap.size:=hBs
 have hO:=Own.new w1 29 #[.slice xa dn xc,.slice va n vc]
 have hbX:=bA1 w1 (.cells #[.slice xa dn xc,.slice va n vc] 29)
 have HD:=Lib.hid (row_keep hD hbX)
 have HI2:=Lib.hid (row_keep hI hbX)
 have hW:=Lib.hid (hW0.keep hbX)
 replace hA:=hA.keep hbX hA.lt
 replace hF:=hF.keep hbX hF.lt
 replace hR:=hR.keep hbX hR.lt
 replace hb:=bT' hb hbX hb.size
 replace hBs:=Nat.le_trans hBs hbX.size
 clear hD hI hW0 hbX
 go_upto_region 2 with fail
 generalize w1.alloc (.cells #[.slice xa dn xc,.slice va n vc] 29)=w2 at *
 generalize w1.heap.size=gX at *
 have cO:=hO.cell 0
 have hN:=Own.new w2 2 #[.int .i64 d]
 have hbX:=bA1 w2 (.cells #[.int .i64 d] 2)
 have HD3:=Lib.hid (row_keep HD.out hbX)
 have HI3:=Lib.hid (row_keep HI2.out hbX)
 have HW3:=Lib.hid (hW.out.keep hbX)
 have hA3:=hA.keep hbX hA.lt
 have hF3:=hF.keep hbX hF.lt
 have hR3:=hR.keep hbX hR.lt
 have hO3:=hO.keep hbX hO.lt
 have HB3:=Lib.hid (bT' hb hbX hb.size)
 have HBS3:=Lib.hid (Nat.le_trans hBs hbX.size)
 have HNW:Hid (∀j u,([Value.int .i64 d]:List Value)[j]? = some u→(w2.alloc (.cells #[.int .i64 d] 2)).cell? ((⟨w2.heap.size,0,none⟩:Addr).add j)=some u):=Lib.hid (fun j u hu=>by rw [Addr.add_mid];exact hN.range j u hu)
 have HON:Hid (∀u∈([Value.int .i64 d]:List Value),u.oneCell'=true):=Lib.hid (by simp [Value.oneCell'])
 clear hN hbX hA hF hR hb hBs hO hW HD HI2
 go_upto_region 3 with (refine wpList_append_own_wide _ rfl (.tmp 11) (.tmp 13) 22 rfl B0 2 ti2 tz2 1 8 Try.underlying22 HI2.out HZ2.out HS2.out HBt2.out HZs2.out (by omega) (.slice xa dn xc) dn _ rfl HD3.out ⟨w2.heap.size,0,none⟩ 1 1 [Value.int .i64 d] rfl rfl HNW.out HON.out (by simp only [maxLen];omega) (by omega) HBS3.out (fun v' w' h2 h3 h4=>?_);obtain ⟨ya,yc,rfl⟩:=row_slice h2;have hA4:=hA3.grown h3 (own_ne_row hA3 HD3.out (by decide));have hF4:=hF3.grown h3 (own_ne_row hF3 HD3.out (by decide));have hR4:=hR3.grown h3 (own_ne_row hR3 HD3.out (by decide));have hO4:=hO3.grown h3 (own_ne_row hO3 HD3.out (by decide));have HI4:=Lib.hid (row_grown HI3.out HD3.out (by decide) h3);have HW4:=Lib.hid (vals_grown HW3.out HD3.out (by decide) h3);have HB4:=Lib.hid (grown_below HB3.out h3 (fun j e=>by have:=(HD3.out.lt j e).1;omega) HB3.out.size);have HBS4:=Lib.hid (Nat.le_trans HBS3.out h3.size);have HD4:=Lib.hid h2;clear h2 h3 h4 hA3 hF3 hR3 hO3 HI3 HW3 HB3 HBS3 HD3 HNW HON cO;have cO:=hO4.cell 0;have fO:=hO4.frozen 0)
 have hA:=hA4.far (p:=⟨gX,0,none⟩) (by dsimp only;omega) (.slice ya (dn+1) yc)
 have hF:=hF4.far (p:=⟨gX,0,none⟩) (by dsimp only;omega) (.slice ya (dn+1) yc)
 have hR:=hR4.far (p:=⟨gX,0,none⟩) (by dsimp only;omega) (.slice ya (dn+1) yc)
 have HD:=Lib.hid (row_far (p:=⟨gX,0,none⟩) HD4.out hO4 (by decide) (.slice ya (dn+1) yc))
 have HI2:=Lib.hid (row_far (p:=⟨gX,0,none⟩) HI4.out hO4 (by decide) (.slice ya (dn+1) yc))
 have hW:=Lib.hid (vals_far (p:=⟨gX,0,none⟩) HW4.out hO4 (by decide) (.slice ya (dn+1) yc))
 have hb:=HB4.out.setCell (p:=⟨gX,0,none⟩) (by dsimp only;omega) (.slice ya (dn+1) yc)
 have hBs:B0≤(w'.setCell ⟨gX,0,none⟩ (.slice ya (dn+1) yc)).heap.size:=by simpa using HBS4.out
 have hO:=hO4.set 0 (.slice ya (dn+1) yc)
 generalize w'.setCell ⟨gX,0,none⟩ (.slice ya (dn+1) yc)=w3 at *
 clear hA4 hF4 hR4 HD4 HI4 HW4 HB4 HBS4 hO4 cO fO
 replace hO:Own w3.drew gX 29 #[.slice ya (dn+1) yc,.slice va n vc]:=hO
 replace hA:Own w3.drew w.heap.size 29 #[.slice (some ⟨gd,od,none⟩) dn dc,.slice a n c]:=hA
 replace hF:Own w3.drew (w.heap.size+1) 47 #[.slice fa fn fc]:=hF
 replace hR:Own w3.drew (w.heap.size+2) 29 #[.slice none 0 0,.slice none 0 0]:=hR
 have hD:w3.drew.ownsRow B0 2 1 (.slice ya (dn+1) yc) (dn+1) (zs.map (Value.int .i64)++[.int .i64 d]):=HD.out
 have hI:w3.drew.ownsRow B0 47 1 (.slice va n vc) n vs:=HI2.out
 replace hW:Hid (Vals w3.drew B0 vs ims):=Lib.hid (hW.out.keep ((Below.refl _ _).drew))
 replace hb:Below w.heap.size w w3.drew:=hb.drew
 replace hBs:B0≤w3.drew.heap.size:=hBs
 clear HD HI2
 refine wp_region_held_drew (S:=(fun w'=>w'.cell? ⟨w.heap.size+1,0,none⟩=some (.slice fa fn fc))) (by kernel_rfl) ?_ (fun _=>?_)
 · ((try dsimp only);(exact hF.cell 0))
 generalize w3.drew=W0d at *
 refine hdT 0 ?_
 refine hdT 2 ?_
 refine wpAnyH_ready (rs:=[1,3]) (by kernel_rfl) (by simp) ?_
 refine AllReadyH.cons (hdAt (i:=1) rfl) (fun K hK=>?_) (AllReadyH.cons (hdAt (i:=3) rfl) (fun K hK=>?_) AllReadyH.nil)
 · skip
   have cO1:=hO.cell 1
   (go_simp;try go_wp2_with fail)
   refine hK.out _ _ ?_ (fun _=>?_)
   · ((try dsimp only);(exact hF.cell 0))
   clear hK K
   (try simp only [Act.put,pA,pB,pC])
   refine hdC 3 (fun K hK=>?_);have HLT:=Lib.hid hW.out.lt;have hbs:=hBs
   (go_simp;(go_at_call 94;refine (l02Copy0_c fc (hT0.keep hb) hfn).mono ?_;rintro e W1 ⟨va2,vc2,rfl,hV,hbX⟩);go_wp2_with fail)
   replace hA:=hA.keep hbX hA.lt;replace hF:=hF.keep hbX hF.lt;replace hR:=hR.keep hbX hR.lt;replace hD:=row_keep hD hbX;replace hI:=row_keep hI hbX;replace hW:=Lib.hid (hW.out.keep hbX);replace hb:=bT' hb hbX hb.size;replace hBs:=Nat.le_trans hBs hbX.size;replace hO:=hO.keep hbX hO.lt;replace hW:=Lib.hid (hW.out.snoc HLT.out hbs hV);have HON:Hid (∀u∈([Value.slice va2 fn vc2]:List Value),u.oneCell'=true):=Lib.hid (by simp [Value.oneCell']);clear HLT hbs hV;clear hbX;refine hK.out _ _ ?_ (fun _=>?_)
   · ((try dsimp only);(exact hF.cell 0))
   clear hK K
   (try simp only [Act.put,pA,pB,pC])
   refine hdC 4 (fun K hK=>?_)
   (go_simp;try go_wp2_with fail)
   have hN:=Own.new W1 47 #[.slice va2 fn vc2];have hbX:=bA1 W1 (.cells #[.slice va2 fn vc2] 47);replace hA:=hA.keep hbX hA.lt;replace hF:=hF.keep hbX hF.lt;replace hR:=hR.keep hbX hR.lt;replace hD:=row_keep hD hbX;replace hI:=row_keep hI hbX;replace hW:=Lib.hid (hW.out.keep hbX);replace hb:=bT' hb hbX hb.size;replace hBs:=Nat.le_trans hBs hbX.size;replace hO:=hO.keep hbX hO.lt;generalize W1.alloc (.cells #[.slice va2 fn vc2] 47)=W2 at *;generalize hhNg:W1.heap.size=ghN at *;clear hbX hhNg;refine hK.out _ _ ?_ (fun _=>?_)
   · ((try dsimp only);(exact hF.cell 0))
   clear hK K
   (try simp only [Act.put,pA,pB,pC])
   refine hdC 5 (fun K hK=>?_);have HNW:Hid (∀j u,([Value.slice va2 fn vc2]:List Value)[j]? = some u→W2.cell? ((⟨ghN,0,none⟩:Addr).add j)=some u):=Lib.hid (fun j u hu=>by rw [Addr.add_mid];exact hN.range j u hu);have HRW:=Lib.hid hI;have hszW:B0≤W2.heap.size:=hBs;rw [if_pos (by rfl)];refine wp_append_own_wide _ (.tmp 17) (.tmp 20) 27 rfl B0 47 ti tz 1 24 Try.underlying27 HI.out HZ.out HS.out HBt.out HZs.out (by omega) (.slice va n vc) n _ rfl HRW.out ⟨ghN,0,none⟩ 1 1 [Value.slice va2 fn vc2] rfl rfl HNW.out HON.out (by simp only [maxLen];omega) (by omega) hszW (fun v' W3 h2 h3 h4=>?_);obtain ⟨xa9,xc9,rfl⟩:=row_slice h2;replace hA:=hA.grown h3 (own_ne_row hA HRW.out (by decide));replace hF:=hF.grown h3 (fun e=>by have:=(HRW.out.lt _ e.symm).1;omega);replace hR:=hR.grown h3 (own_ne_row hR HRW.out (by decide));replace hD:=row_grown hD HRW.out (by decide) h3;replace hW:=Lib.hid (hW.out.grown h3 (fun q e=>row_own HRW.out e));replace hb:=grown_below hb h3 (fun j e=>by have:=(HRW.out.lt j e).1;omega) hb.size;replace hBs:=Nat.le_trans hBs h3.size;replace hO:=hO.grown h3 (own_ne_row hO HRW.out (by decide));have H2:=Lib.hid h2;clear h2 h4 hI hN;clear HNW HRW hszW h3;refine hK.out _ _ ?_ (fun _=>?_)
   · ((try dsimp only);(exact hF.cell 0))
   clear hK K
   (try simp only [Act.put,pA,pB,pC])
   refine hdT 6 ?_;refine hdC 7 (fun K hK=>?_);have cO2:=hO.cell 1;have fO2:=hO.frozen 1
   (go_simp;go_wp2_with fail)
   replace hA:=hA.far (p:=⟨gX,1,none⟩) (by dsimp only;omega) (.slice xa9 (n+1) xc9);replace hF:=hF.far (p:=⟨gX,1,none⟩) (by dsimp only;omega) (.slice xa9 (n+1) xc9);replace hR:=hR.far (p:=⟨gX,1,none⟩) (by dsimp only;omega) (.slice xa9 (n+1) xc9);replace hD:=row_far (p:=⟨gX,1,none⟩) hD hO (by decide) (.slice xa9 (n+1) xc9);have H5:=Lib.hid (row_far (p:=⟨gX,1,none⟩) H2.out hO (by decide) (.slice xa9 (n+1) xc9));replace hW:=Lib.hid (vals_far (p:=⟨gX,1,none⟩) hW.out hO (by decide) (.slice xa9 (n+1) xc9));replace hb:=hb.setCell (p:=⟨gX,1,none⟩) (by dsimp only;omega) (.slice xa9 (n+1) xc9);replace hBs:B0≤(W3.setCell ⟨gX,1,none⟩ (.slice xa9 (n+1) xc9)).heap.size:=(by simpa using hBs);replace hO:=hO.set 1 (.slice xa9 (n+1) xc9);generalize W3.setCell ⟨gX,1,none⟩ (.slice xa9 (n+1) xc9)=W4 at *;refine hK.out _ _ ?_ (fun _=>?_)
   · ((try dsimp only);(exact hF.cell 0))
   clear hK K
   (try simp only [Act.put,pA,pB,pC])
   refine wpAnyH_done (by kernel_rfl) ?_ _;have HD2:=Lib.hid hD;have k0:=hO.cell 0;have k1:=hO.cell 1;have r0:=hR.cell 0;have r1:=hR.cell 1;have f0:=hR.frozen 0;have f1:=hR.frozen 1;clear hD;go_wp2_with fail
   have s2:=((hR.set 0 (.slice ya (dn+1) yc)).set 1 (.slice xa9 (n+1) xc9));refine bodyPost_ret (results_cell_row rfl _ _ (w.heap.size+2) 29 #[.slice ya (dn+1) yc,.slice xa9 (n+1) xc9] (0,0) _ rfl s2 Try.underlying29 rfl Try.info_alg) rfl ?_;have q1:=row_far (p:=⟨w.heap.size+2,1,none⟩) (row_far (p:=⟨w.heap.size+2,0,none⟩) HD2.out hR (by decide) (.slice ya (dn+1) yc)) (hR.set 0 _) (by decide) (.slice xa9 (n+1) xc9);have q2:=row_far (p:=⟨w.heap.size+2,1,none⟩) (row_far (p:=⟨w.heap.size+2,0,none⟩) H5.out hR (by decide) (.slice ya (dn+1) yc)) (hR.set 0 _) (by decide) (.slice xa9 (n+1) xc9);have q3:=vals_far (p:=⟨w.heap.size+2,1,none⟩) (vals_far (p:=⟨w.heap.size+2,0,none⟩) hW.out hR (by decide) (.slice ya (dn+1) yc)) (hR.set 0 _) (by decide) (.slice xa9 (n+1) xc9);have q4:=(hb.setCell (p:=⟨w.heap.size+2,0,none⟩) (by dsimp only;omega) (.slice ya (dn+1) yc)).setCell (p:=⟨w.heap.size+2,1,none⟩) (by dsimp only;omega) (.slice xa9 (n+1) xc9);obtain ⟨d1,d2,hdd,hDV⟩:=OwnV.of_row (V:=zs++[d]) (by rw [List.map_append];exact q1);simp only [Value.slice.injEq] at hdd;obtain ⟨rfl,-,rfl⟩:=hdd;obtain ⟨i1,i2,hii,hIF⟩:=q3.ownF_row (by rw [List.length_append,HLn.out];rfl) q2 (tm_snoc HTT.out HTF.out);simp only [Value.slice.injEq] at hii;obtain ⟨rfl,-,rfl⟩:=hii;exact ⟨ya,yc,xa9,xc9,rfl,hDV.weaken (by omega) (Nat.le_refl _),hIF.weaken (by omega) (Nat.le_refl _),q4⟩
 · skip
   have HLT:=Lib.hid hW.out.lt;have hbs:=hBs
   (go_simp;(go_at_call 94;refine (l02Copy0_c fc (hT0.keep hb) hfn).mono ?_;rintro e W5 ⟨va2,vc2,rfl,hV,hbX⟩);go_wp2_with fail)
   replace hA:=hA.keep hbX hA.lt;replace hF:=hF.keep hbX hF.lt;replace hR:=hR.keep hbX hR.lt;replace hD:=row_keep hD hbX;replace hI:=row_keep hI hbX;replace hW:=Lib.hid (hW.out.keep hbX);replace hb:=bT' hb hbX hb.size;replace hBs:=Nat.le_trans hBs hbX.size;replace hO:=hO.keep hbX hO.lt;replace hW:=Lib.hid (hW.out.snoc HLT.out hbs hV);have HON:Hid (∀u∈([Value.slice va2 fn vc2]:List Value),u.oneCell'=true):=Lib.hid (by simp [Value.oneCell']);clear HLT hbs hV;clear hbX;refine hK.out _ _ ?_ (fun _=>?_)
   · ((try dsimp only);(exact hF.cell 0))
   clear hK K
   (try simp only [Act.put,pA,pB,pC])
   refine wpAnyH_ready (rs:=[1,4]) (by kernel_rfl) (by simp) ?_;refine AllReadyH.cons (hdAt (i:=1) rfl) (fun K hK=>?_) (AllReadyH.cons (hdAt (i:=4) rfl) (fun K hK=>?_) AllReadyH.nil)
   · skip
     have cO1:=hO.cell 1
     (go_simp;try go_wp2_with fail)
     refine hK.out _ _ ?_ (fun _=>?_)
     · ((try dsimp only);(exact hF.cell 0))
     clear hK K
     (try simp only [Act.put,pA,pB,pC])
     refine hdC 4 (fun K hK=>?_)
     (go_simp;try go_wp2_with fail)
     have hN:=Own.new W5 47 #[.slice va2 fn vc2];have hbX:=bA1 W5 (.cells #[.slice va2 fn vc2] 47);replace hA:=hA.keep hbX hA.lt;replace hF:=hF.keep hbX hF.lt;replace hR:=hR.keep hbX hR.lt;replace hD:=row_keep hD hbX;replace hI:=row_keep hI hbX;replace hW:=Lib.hid (hW.out.keep hbX);replace hb:=bT' hb hbX hb.size;replace hBs:=Nat.le_trans hBs hbX.size;replace hO:=hO.keep hbX hO.lt;generalize W5.alloc (.cells #[.slice va2 fn vc2] 47)=W6 at *;generalize hhNg:W5.heap.size=ghN at *;clear hbX hhNg;refine hK.out _ _ ?_ (fun _=>?_)
     · ((try dsimp only);(exact hF.cell 0))
     clear hK K
     (try simp only [Act.put,pA,pB,pC])
     refine hdC 5 (fun K hK=>?_);have HNW:Hid (∀j u,([Value.slice va2 fn vc2]:List Value)[j]? = some u→W6.cell? ((⟨ghN,0,none⟩:Addr).add j)=some u):=Lib.hid (fun j u hu=>by rw [Addr.add_mid];exact hN.range j u hu);have HRW:=Lib.hid hI;have hszW:B0≤W6.heap.size:=hBs;rw [if_pos (by rfl)];refine wp_append_own_wide _ (.tmp 17) (.tmp 20) 27 rfl B0 47 ti tz 1 24 Try.underlying27 HI.out HZ.out HS.out HBt.out HZs.out (by omega) (.slice va n vc) n _ rfl HRW.out ⟨ghN,0,none⟩ 1 1 [Value.slice va2 fn vc2] rfl rfl HNW.out HON.out (by simp only [maxLen];omega) (by omega) hszW (fun v' W7 h2 h3 h4=>?_);obtain ⟨xa9,xc9,rfl⟩:=row_slice h2;replace hA:=hA.grown h3 (own_ne_row hA HRW.out (by decide));replace hF:=hF.grown h3 (fun e=>by have:=(HRW.out.lt _ e.symm).1;omega);replace hR:=hR.grown h3 (own_ne_row hR HRW.out (by decide));replace hD:=row_grown hD HRW.out (by decide) h3;replace hW:=Lib.hid (hW.out.grown h3 (fun q e=>row_own HRW.out e));replace hb:=grown_below hb h3 (fun j e=>by have:=(HRW.out.lt j e).1;omega) hb.size;replace hBs:=Nat.le_trans hBs h3.size;replace hO:=hO.grown h3 (own_ne_row hO HRW.out (by decide));have H2:=Lib.hid h2;clear h2 h4 hI hN;clear HNW HRW hszW h3;refine hK.out _ _ ?_ (fun _=>?_)
     · ((try dsimp only);(exact hF.cell 0))
     clear hK K
     (try simp only [Act.put,pA,pB,pC])
     refine hdT 6 ?_;refine hdC 7 (fun K hK=>?_);have cO2:=hO.cell 1;have fO2:=hO.frozen 1
     (go_simp;go_wp2_with fail)
     replace hA:=hA.far (p:=⟨gX,1,none⟩) (by dsimp only;omega) (.slice xa9 (n+1) xc9);replace hF:=hF.far (p:=⟨gX,1,none⟩) (by dsimp only;omega) (.slice xa9 (n+1) xc9);replace hR:=hR.far (p:=⟨gX,1,none⟩) (by dsimp only;omega) (.slice xa9 (n+1) xc9);replace hD:=row_far (p:=⟨gX,1,none⟩) hD hO (by decide) (.slice xa9 (n+1) xc9);have H5:=Lib.hid (row_far (p:=⟨gX,1,none⟩) H2.out hO (by decide) (.slice xa9 (n+1) xc9));replace hW:=Lib.hid (vals_far (p:=⟨gX,1,none⟩) hW.out hO (by decide) (.slice xa9 (n+1) xc9));replace hb:=hb.setCell (p:=⟨gX,1,none⟩) (by dsimp only;omega) (.slice xa9 (n+1) xc9);replace hBs:B0≤(W7.setCell ⟨gX,1,none⟩ (.slice xa9 (n+1) xc9)).heap.size:=(by simpa using hBs);replace hO:=hO.set 1 (.slice xa9 (n+1) xc9);generalize W7.setCell ⟨gX,1,none⟩ (.slice xa9 (n+1) xc9)=W8 at *;refine hK.out _ _ ?_ (fun _=>?_)
     · ((try dsimp only);(exact hF.cell 0))
     clear hK K
     (try simp only [Act.put,pA,pB,pC])
     refine wpAnyH_done (by kernel_rfl) ?_ _;have HD2:=Lib.hid hD;have k0:=hO.cell 0;have k1:=hO.cell 1;have r0:=hR.cell 0;have r1:=hR.cell 1;have f0:=hR.frozen 0;have f1:=hR.frozen 1;clear hD;go_wp2_with fail
     have s2:=((hR.set 0 (.slice ya (dn+1) yc)).set 1 (.slice xa9 (n+1) xc9));refine bodyPost_ret (results_cell_row rfl _ _ (w.heap.size+2) 29 #[.slice ya (dn+1) yc,.slice xa9 (n+1) xc9] (0,0) _ rfl s2 Try.underlying29 rfl Try.info_alg) rfl ?_;have q1:=row_far (p:=⟨w.heap.size+2,1,none⟩) (row_far (p:=⟨w.heap.size+2,0,none⟩) HD2.out hR (by decide) (.slice ya (dn+1) yc)) (hR.set 0 _) (by decide) (.slice xa9 (n+1) xc9);have q2:=row_far (p:=⟨w.heap.size+2,1,none⟩) (row_far (p:=⟨w.heap.size+2,0,none⟩) H5.out hR (by decide) (.slice ya (dn+1) yc)) (hR.set 0 _) (by decide) (.slice xa9 (n+1) xc9);have q3:=vals_far (p:=⟨w.heap.size+2,1,none⟩) (vals_far (p:=⟨w.heap.size+2,0,none⟩) hW.out hR (by decide) (.slice ya (dn+1) yc)) (hR.set 0 _) (by decide) (.slice xa9 (n+1) xc9);have q4:=(hb.setCell (p:=⟨w.heap.size+2,0,none⟩) (by dsimp only;omega) (.slice ya (dn+1) yc)).setCell (p:=⟨w.heap.size+2,1,none⟩) (by dsimp only;omega) (.slice xa9 (n+1) xc9);obtain ⟨d1,d2,hdd,hDV⟩:=OwnV.of_row (V:=zs++[d]) (by rw [List.map_append];exact q1);simp only [Value.slice.injEq] at hdd;obtain ⟨rfl,-,rfl⟩:=hdd;obtain ⟨i1,i2,hii,hIF⟩:=q3.ownF_row (by rw [List.length_append,HLn.out];rfl) q2 (tm_snoc HTT.out HTF.out);simp only [Value.slice.injEq] at hii;obtain ⟨rfl,-,rfl⟩:=hii;exact ⟨ya,yc,xa9,xc9,rfl,hDV.weaken (by omega) (Nat.le_refl _),hIF.weaken (by omega) (Nat.le_refl _),q4⟩
   · skip
     (go_simp;try go_wp2_with fail)
     have hN:=Own.new W5 47 #[.slice va2 fn vc2];have hbX:=bA1 W5 (.cells #[.slice va2 fn vc2] 47);replace hA:=hA.keep hbX hA.lt;replace hF:=hF.keep hbX hF.lt;replace hR:=hR.keep hbX hR.lt;replace hD:=row_keep hD hbX;replace hI:=row_keep hI hbX;replace hW:=Lib.hid (hW.out.keep hbX);replace hb:=bT' hb hbX hb.size;replace hBs:=Nat.le_trans hBs hbX.size;replace hO:=hO.keep hbX hO.lt;generalize W5.alloc (.cells #[.slice va2 fn vc2] 47)=W9 at *;generalize hhNg:W5.heap.size=ghN at *;clear hbX hhNg;refine hK.out _ _ ?_ (fun _=>?_)
     · ((try dsimp only);(exact hF.cell 0))
     clear hK K
     (try simp only [Act.put,pA,pB,pC])
     refine hdC 1 (fun K hK=>?_);have cO1:=hO.cell 1
     (go_simp;try go_wp2_with fail)
     refine hK.out _ _ ?_ (fun _=>?_)
     · ((try dsimp only);(exact hF.cell 0))
     clear hK K
     (try simp only [Act.put,pA,pB,pC])
     refine hdC 5 (fun K hK=>?_);have HNW:Hid (∀j u,([Value.slice va2 fn vc2]:List Value)[j]? = some u→W9.cell? ((⟨ghN,0,none⟩:Addr).add j)=some u):=Lib.hid (fun j u hu=>by rw [Addr.add_mid];exact hN.range j u hu);have HRW:=Lib.hid hI;have hszW:B0≤W9.heap.size:=hBs;rw [if_pos (by rfl)];refine wp_append_own_wide _ (.tmp 17) (.tmp 20) 27 rfl B0 47 ti tz 1 24 Try.underlying27 HI.out HZ.out HS.out HBt.out HZs.out (by omega) (.slice va n vc) n _ rfl HRW.out ⟨ghN,0,none⟩ 1 1 [Value.slice va2 fn vc2] rfl rfl HNW.out HON.out (by simp only [maxLen];omega) (by omega) hszW (fun v' W10 h2 h3 h4=>?_);obtain ⟨xa9,xc9,rfl⟩:=row_slice h2;replace hA:=hA.grown h3 (own_ne_row hA HRW.out (by decide));replace hF:=hF.grown h3 (fun e=>by have:=(HRW.out.lt _ e.symm).1;omega);replace hR:=hR.grown h3 (own_ne_row hR HRW.out (by decide));replace hD:=row_grown hD HRW.out (by decide) h3;replace hW:=Lib.hid (hW.out.grown h3 (fun q e=>row_own HRW.out e));replace hb:=grown_below hb h3 (fun j e=>by have:=(HRW.out.lt j e).1;omega) hb.size;replace hBs:=Nat.le_trans hBs h3.size;replace hO:=hO.grown h3 (own_ne_row hO HRW.out (by decide));have H2:=Lib.hid h2;clear h2 h4 hI hN;clear HNW HRW hszW h3;refine hK.out _ _ ?_ (fun _=>?_)
     · ((try dsimp only);(exact hF.cell 0))
     clear hK K
     (try simp only [Act.put,pA,pB,pC])
     refine hdT 6 ?_;refine hdC 7 (fun K hK=>?_);have cO2:=hO.cell 1;have fO2:=hO.frozen 1
     (go_simp;go_wp2_with fail)
     replace hA:=hA.far (p:=⟨gX,1,none⟩) (by dsimp only;omega) (.slice xa9 (n+1) xc9);replace hF:=hF.far (p:=⟨gX,1,none⟩) (by dsimp only;omega) (.slice xa9 (n+1) xc9);replace hR:=hR.far (p:=⟨gX,1,none⟩) (by dsimp only;omega) (.slice xa9 (n+1) xc9);replace hD:=row_far (p:=⟨gX,1,none⟩) hD hO (by decide) (.slice xa9 (n+1) xc9);have H5:=Lib.hid (row_far (p:=⟨gX,1,none⟩) H2.out hO (by decide) (.slice xa9 (n+1) xc9));replace hW:=Lib.hid (vals_far (p:=⟨gX,1,none⟩) hW.out hO (by decide) (.slice xa9 (n+1) xc9));replace hb:=hb.setCell (p:=⟨gX,1,none⟩) (by dsimp only;omega) (.slice xa9 (n+1) xc9);replace hBs:B0≤(W10.setCell ⟨gX,1,none⟩ (.slice xa9 (n+1) xc9)).heap.size:=(by simpa using hBs);replace hO:=hO.set 1 (.slice xa9 (n+1) xc9);generalize W10.setCell ⟨gX,1,none⟩ (.slice xa9 (n+1) xc9)=W11 at *;refine hK.out _ _ ?_ (fun _=>?_)
     · ((try dsimp only);(exact hF.cell 0))
     clear hK K
     (try simp only [Act.put,pA,pB,pC])
     refine wpAnyH_done (by kernel_rfl) ?_ _;have HD2:=Lib.hid hD;have k0:=hO.cell 0;have k1:=hO.cell 1;have r0:=hR.cell 0;have r1:=hR.cell 1;have f0:=hR.frozen 0;have f1:=hR.frozen 1;clear hD;go_wp2_with fail
     have s2:=((hR.set 0 (.slice ya (dn+1) yc)).set 1 (.slice xa9 (n+1) xc9));refine bodyPost_ret (results_cell_row rfl _ _ (w.heap.size+2) 29 #[.slice ya (dn+1) yc,.slice xa9 (n+1) xc9] (0,0) _ rfl s2 Try.underlying29 rfl Try.info_alg) rfl ?_;have q1:=row_far (p:=⟨w.heap.size+2,1,none⟩) (row_far (p:=⟨w.heap.size+2,0,none⟩) HD2.out hR (by decide) (.slice ya (dn+1) yc)) (hR.set 0 _) (by decide) (.slice xa9 (n+1) xc9);have q2:=row_far (p:=⟨w.heap.size+2,1,none⟩) (row_far (p:=⟨w.heap.size+2,0,none⟩) H5.out hR (by decide) (.slice ya (dn+1) yc)) (hR.set 0 _) (by decide) (.slice xa9 (n+1) xc9);have q3:=vals_far (p:=⟨w.heap.size+2,1,none⟩) (vals_far (p:=⟨w.heap.size+2,0,none⟩) hW.out hR (by decide) (.slice ya (dn+1) yc)) (hR.set 0 _) (by decide) (.slice xa9 (n+1) xc9);have q4:=(hb.setCell (p:=⟨w.heap.size+2,0,none⟩) (by dsimp only;omega) (.slice ya (dn+1) yc)).setCell (p:=⟨w.heap.size+2,1,none⟩) (by dsimp only;omega) (.slice xa9 (n+1) xc9);obtain ⟨d1,d2,hdd,hDV⟩:=OwnV.of_row (V:=zs++[d]) (by rw [List.map_append];exact q1);simp only [Value.slice.injEq] at hdd;obtain ⟨rfl,-,rfl⟩:=hdd;obtain ⟨i1,i2,hii,hIF⟩:=q3.ownF_row (by rw [List.length_append,HLn.out];rfl) q2 (tm_snoc HTT.out HTF.out);simp only [Value.slice.injEq] at hii;obtain ⟨rfl,-,rfl⟩:=hii;exact ⟨ya,yc,xa9,xc9,rfl,hDV.weaken (by omega) (Nat.le_refl _),hIF.weaken (by omega) (Nat.le_refl _),q4⟩
def wgE (zs:List Int) (ims:List (List Tm)) (fs:List Tm) (d:Int):Int:=
 if algF zs ims fs=false then 1 else if ¬(1≤d∧d≤12) then 2 else if (zeroOr zs fs (d+1) && closedB zs ims fs)=false then 5 else if zs.length=8 then 3 else 0
def wgD (zs:List Int) (ims:List (List Tm)) (fs:List Tm) (d:Int):List Int:=if wgE zs ims fs d=0 then zs++[d] else []
def wgI (zs:List Int) (ims:List (List Tm)) (fs:List Tm) (d:Int):List (List Tm):=if wgE zs ims fs d=0 then ims++[fs] else []
theorem wg_err {zs:List Int} {ims:List (List Tm)} {fs:List Tm} {d e:Int} (h:wgE zs ims fs d=e) (h0:¬e=0):wgE zs ims fs d=e∧wgD zs ims fs d=[]∧wgI zs ims fs d=[]:=by
 refine ⟨h,?_,?_⟩
 · rw [wgD,if_neg (by rw [h];exact h0)]
 · rw [wgI,if_neg (by rw [h];exact h0)]
theorem wg_1 {zs:List Int} {ims:List (List Tm)} {fs:List Tm} {d:Int} (h:algF zs ims fs=false):wgE zs ims fs d=1:=by simp [wgE,h]
theorem wg_2 {zs:List Int} {ims:List (List Tm)} {fs:List Tm} {d:Int} (h:algF zs ims fs=true) (h2:¬(1≤d∧d≤12)):wgE zs ims fs d=2:=by rw [wgE,if_neg (by simp [h]),if_pos h2]
theorem wg_5 {zs:List Int} {ims:List (List Tm)} {fs:List Tm} {d:Int} (h:algF zs ims fs=true) (h2:1≤d∧d≤12) (h3:zeroOr zs fs (d+1)=false∨closedB zs ims fs=false):wgE zs ims fs d=5:=by
 rw [wgE,if_neg (by simp [h]),if_neg (by simpa using h2),if_pos (by rcases h3 with h3 | h3 <;> simp [h3])]
theorem wg_3 {zs:List Int} {ims:List (List Tm)} {fs:List Tm} {d:Int} (h:algF zs ims fs=true) (h2:1≤d∧d≤12) (h3:zeroOr zs fs (d+1)=true) (h4:closedB zs ims fs=true) (h5:zs.length=8):wgE zs ims fs d=3:=by
 rw [wgE,if_neg (by simp [h]),if_neg (by simpa using h2),if_neg (by simp [h3,h4]),if_pos h5]
theorem wg_0 {zs:List Int} {ims:List (List Tm)} {fs:List Tm} {d:Int} (h:algF zs ims fs=true) (h2:1≤d∧d≤12) (h3:zeroOr zs fs (d+1)=true) (h4:closedB zs ims fs=true) (h5:¬zs.length=8):wgE zs ims fs d=0∧wgD zs ims fs d=zs++[d]∧wgI zs ims fs d=ims++[fs]:=by
 have e:wgE zs ims fs d=0:=by rw [wgE,if_neg (by simp [h]),if_neg (by simpa using h2),if_neg (by simp [h3,h4]),if_neg h5]
 exact ⟨e,by rw [wgD,if_pos e],by rw [wgI,if_pos e]⟩
theorem FrmsN.frms {w:World} {a:Option Addr} {n:Nat} {fss:List (List Tm)} (h:FrmsN w a n fss) (hL:∀ts∈fss,(ts.length:Int)≤1048576):Frms w a n fss:=
 ⟨h.1,fun hn=>by
  obtain ⟨b,off,ha,hlt,hc⟩:=h.2 hn;refine ⟨b,off,ha,hlt,fun i ts hi=>?_⟩;obtain ⟨ai,ni,ci,h1,h2,-⟩:=hc i ts hi
  exact ⟨ai,ni,ci,h1,h2,by have:=hL ts (List.mem_of_getElem? hi);have:=h2.len;omega⟩⟩
def SlN (w:World) (v:Value) (ts:List Tm):Prop:=∃ai ni ci,v=.slice ai ni ci∧Terms w ai ni ts∧((ai=none∧ni=0∧ci=0)∨∃bi oi,ai=some ⟨bi,oi,none⟩)
theorem FrmsN.cells {w:World} {gi oi n:Nat} {fss:List (List Tm)} (h:FrmsN w (some ⟨gi,oi,none⟩) n fss):∃vs:List Value,vs.length=n∧(∀(j:Nat) v,vs[j]? = some v→w.cell? ⟨gi,oi+j,none⟩=some v)∧(∀(j:Nat) v ts,vs[j]? = some v→fss[j]? = some ts→SlN w v ts):=by
 have hl:=h.1
 have hx:∀j,j<n→∃v,w.cell? ⟨gi,oi+j,none⟩=some v∧∀ts,fss[j]? = some ts→SlN w v ts:=by
  intro j hj;obtain ⟨b,off,e,hb,hc⟩:=h.2 (by omega)
  injection e with e
  injection e with e1 e2
  subst e1 e2;obtain ⟨ai,ni,ci,h1,h2,h3⟩:=hc j _ (List.getElem?_eq_getElem (show j<fss.length by omega))
  exact ⟨_,h1,fun ts hts=>by
   rw [List.getElem?_eq_getElem (show j<fss.length by omega)] at hts
   injection hts with hts
   subst hts
   exact ⟨ai,ni,ci,rfl,h2,h3⟩⟩
 obtain ⟨f,hf⟩:=choose_lt (α:=Value) (n:=n) (p:=fun j v=>w.cell? ⟨gi,oi+j,none⟩=some v∧∀ts,fss[j]? = some ts→SlN w v ts) hx
 refine ⟨(List.range n).map f,by simp,fun j v hv=>?_,fun j v ts hv hts=>?_⟩
 all_goals
  have hj:=(List.getElem?_eq_some_iff.1 hv).1;rw [List.length_map,List.length_range] at hj;rw [List.getElem?_map,List.getElem?_range hj] at hv
  injection hv with hv
  subst hv
 · exact (hf j hj).1
 · exact (hf j hj).2 ts hts
theorem SlN.keep {w w':World} {v:Value} {ts:List Tm} (h:SlN w v ts) (hb:Below w.heap.size w w'):SlN w' v ts:=by
 obtain ⟨ai,ni,ci,h1,h2,h3⟩:=h
 exact ⟨ai,ni,ci,h1,h2.keep hb,h3⟩
theorem SlN.one {w:World} {v:Value} {ts:List Tm} (h:SlN w v ts):v.oneCell'=true:=by
 obtain ⟨ai,ni,ci,rfl,-⟩:=h
 rfl
theorem frmsN_row {w:World} {B n:Nat} {v:Value} {vs:List Value} {fss:List (List Tm)} (h:w.ownsRow B 47 1 v n vs) (hl:fss.length=n) (hs:∀(j:Nat) u ts,vs[j]? = some u→fss[j]? = some ts→SlN w u ts) (hn:0<n):∃g c,v=.slice (some ⟨g,0,none⟩) n c∧FrmsN w (some ⟨g,0,none⟩) n fss:=by
 have hc:=fun g=>World.ownsRow.cells (g:=g) h
 have hvl:vs.length=n:=by have:=h.1;omega
 rcases h.2 with ⟨hv,h0⟩ | ⟨g,cap,cur,hv,hb,hg,hnc,_⟩
 · omega
 · refine ⟨g,cap,hv,hl,fun _=>⟨g,0,rfl,(Array.getElem?_eq_some_iff.1 hg).1,fun i ts hi=>?_⟩⟩;have hii:=(List.getElem?_eq_some_iff.1 hi).1;have hu:vs[i]? = some (vs[i]'(by omega)):=List.getElem?_eq_getElem (by omega);obtain ⟨ai,ni,ci,h1,h2,h3⟩:=hs i _ ts hu hi;have h4:=hc g (by rw [hv];rfl) i _ hu;rw [Addr.add_mid] at h4;exact ⟨ai,ni,ci,by rw [h4,h1],h2,h3⟩
theorem ints_row {w:World} {B n:Nat} {v:Value} {zs:List Int} (h:w.ownsRow B 2 1 v n (zs.map (Value.int .i64))) (hn:0<n):∃g c,v=.slice (some ⟨g,0,none⟩) n c∧Ints w (some ⟨g,0,none⟩) n zs:=by
 obtain ⟨a,c,hv,hO⟩:=OwnV.of_row h
 have hi:=hO.ints
 obtain ⟨g,cs,e,-⟩:=hO.2 hn
 subst e
 exact ⟨g,c,hv,hi⟩
theorem sum_snoc (V:List (List Tm)) (fs:List Tm):sumLen (V++[fs])=sumLen V+fs.length:=by simp [sumLen]
theorem sln_snoc {w : World} {n : Nat} {vs : List Value} {V : List (List Tm)} {v : Value} {fs : List Tm} (hl : vs.length = n) (hV : V.length = n) (h : ∀ (j : Nat) u ts, vs[j]? = some u → V[j]? = some ts → SlN w u ts) (hv : SlN w v fs) :
    ∀(j:Nat) u ts,(vs++[v])[j]? = some u→(V++[fs])[j]? = some ts→SlN w u ts:=by
 intro j u ts h1 h2
 by_cases hj:j<n
 · rw [List.getElem?_append_left (by omega)] at h1 h2;exact h j u ts h1 h2
 · rw [List.getElem?_append_right (by omega)] at h1 h2;have hj1:=(List.getElem?_eq_some_iff.1 h1).1;simp at hj1
   rw [show j - vs.length=0 by omega] at h1;rw [show j - V.length=0 by omega] at h2;simp only [List.getElem?_cons_zero,Option.some.injEq] at h1 h2;subst h1 h2;exact hv
theorem isAlg_lenQ2 {zs:List Int} {ims:List (List Tm)} (h:isAlg zs ims=true):ims.length=zs.length:=by
 simp only [isAlg,Bool.and_eq_true,decide_eq_true_eq] at h
 exact h.2.1
theorem isAlg_400b {zs:List Int} {ims:List (List Tm)} (h:isAlg zs ims=true):∀ts∈ims,ts.length≤400:=by
 intro ts hts
 obtain ⟨k,hk,rfl⟩:=List.mem_iff_getElem.1 hts
 have hl:=isAlg_lenQ2 h
 simp only [isAlg,Bool.and_eq_true] at h
 have h4:=List.all_eq_true.1 h.2.2.1 k (List.mem_range.2 hk)
 have h5:=okIm_of (z:=zs[k]'(by omega)) (List.getElem?_eq_getElem (show k<zs.length by omega)) (List.getElem?_eq_getElem hk) rfl
 rw [h4] at h5
 have h6:=zeroOr_form h5.symm
 simp only [isForm,Bool.and_eq_true,decide_eq_true_eq] at h6
 omega
theorem sumLen_bdB {V:List (List Tm)} {B:Nat} (h:∀ts∈V,ts.length≤B):sumLen V≤V.length * B:=by
 induction V with
 | nil=>simp [sumLen]
 | cons x l ih =>
   have h1:=h x (by simp);have h2:=ih (fun y hy=>h y (by simp [hy]));have h3:sumLen (x::l)=x.length+sumLen l:=(by simp [sumLen]);rw [h3,List.length_cons,Nat.succ_mul];omega
theorem sum_bd {V:List (List Tm)} {n fn:Nat} (hl:V.length=n) (h:∀ts∈V,ts.length≤400) (hn:n≤8) (hf:fn≤400):sumLen V+fn≤1048576:=by
 have:=sumLen_bdB h
 rw [hl] at this
 have:n * 400≤8 * 400:=Nat.mul_le_mul_right 400 hn
 omega
set_option maxHeartbeats 8000000 in
theorem WithGenerator_c {w : World} {gd od dn gi oi n gf of fn : Nat} {zs : List Int} {ims : List (List Tm)} {fs : List Tm} (dc c fc : Nat) (d : Int) (hd : Ints w (some ⟨gd, od, none⟩) dn zs) (hdn : dn ≤ 1048576) (hN : FrmsN w (some ⟨gi, oi, none⟩) n ims) (hn : n ≤ 1048576) (hL : ∀ im ∈ ims, (im.length : Int) ≤ 1048576) (hT : ∀ ts ∈ ims, ∀ t ∈ ts, IsTm t) (hS : sumLen ims ≤ 1048576) (h : Terms w (some ⟨gf, of, none⟩) fn fs) (hfn : fn ≤ 1048576) (hd1 : -9223372036854775808 ≤ d) (hd2 : d ≤ 9223372036854775807) :
    Calls Try.prog 30 #[.agg #[.slice (some ⟨gd,od,none⟩) dn dc,.slice (some ⟨gi,oi,none⟩) n c],.int .i64 d,.agg #[.slice (some ⟨gf,of,none⟩) fn fc]] w fun e w'=>∃a an ac b bn bc,e=.returned (.tuple #[.agg #[.slice a an ac,.slice b bn bc],.int .i64 (wgE zs ims fs d)])∧OwnV w' w.heap.size w'.heap.size a an (wgD zs ims fs d)∧OwnF w' w.heap.size w'.heap.size b bn (wgI zs ims fs d)∧Below w.heap.size w w':=by
 have HLL:=Lib.hid hL
 have HTT:=Lib.hid hT
 have HSS:=Lib.hid hS
 have HNN:=Lib.hid hN
 have hF0:=hN.frms hL
 have HF0:=Lib.hid hF0
 have HLn:=Lib.hid hN.1
 have HDL:=Lib.hid hd.len
 have HFL:=Lib.hid h.len
 have HH:=Lib.hid h
 have HHd:=Lib.hid hd
 obtain ⟨ti,tz,hti,htz,hts,htb,htzs⟩:=Try.info_formA
 have HI:=Lib.hid hti
 have HZ:=Lib.hid htz
 have HS:=Lib.hid hts
 have HBt:=Lib.hid htb
 have HZs:=Lib.hid htzs
 clear hti htz hts htb htzs
 obtain ⟨ti2,tz2,hti,htz,hts,htb,htzs⟩:=Try.info_intA
 have HI2:=Lib.hid hti
 have HZ2:=Lib.hid htz
 have HS2:=Lib.hid hts
 have HBt2:=Lib.hid htb
 have HZs2:=Lib.hid htzs
 clear hti htz hts htb htzs
 clear hL hT hS hN hF0
 obtain ⟨hA,hF,hR,hb⟩:=own3' w 29 47 29 #[.slice (some ⟨gd,od,none⟩) dn dc,.slice (some ⟨gi,oi,none⟩) n c] #[.slice (some ⟨gf,of,none⟩) fn fc] #[.slice none 0 0,.slice none 0 0]
 have hB0:w.heap.size+2<(((w.alloc (.cells #[.slice (some ⟨gd,od,none⟩) dn dc,.slice (some ⟨gi,oi,none⟩) n c] 29)).alloc (.cells #[.slice (some ⟨gf,of,none⟩) fn fc] 47)).alloc (.cells #[.slice none 0 0,.slice none 0 0] 29)).heap.size:=by rw [sAl,sAl,sAl];omega
 cases hal:algF zs ims fs
 all_goals
  have HA:=Lib.hid hal;clear hal;go_enter Try.func30,Try.ntmps30
  go_upto_region 1 with fail
  generalize ((w.alloc (.cells #[.slice (some ⟨gd,od,none⟩) dn dc,.slice (some ⟨gi,oi,none⟩) n c] 29)).alloc (.cells #[.slice (some ⟨gf,of,none⟩) fn fc] 47)).alloc (.cells #[.slice none 0 0,.slice none 0 0] 29)=w0 at *;rw [show w.heap.size+1+1=w.heap.size+2 by omega] at hR;have hBs:w0.heap.size≤w0.heap.size:=Nat.le_refl _;have c0:=hA.cell 0;have c1:=hA.cell 1;have cg:=hF.cell 0;go_wp2_with fail
  refine (isAlgebraWithForm_c dc c fc (HHd.out.keep hb) hdn (HF0.out.keep hb) hn HLL.out (HH.out.keep hb) hfn).mono ?_;rintro e w1 ⟨rfl,hb1⟩;rw [HA.out];clear c0 c1 cg;replace hA:=hA.keep hb1 hA.lt;replace hF:=hF.keep hb1 hF.lt;replace hR:=hR.keep hb1 hR.lt;replace hb:=bT' hb hb1 hb.size;replace hBs:=Nat.le_trans hBs hb1.size;clear hb1;obtain ⟨B0,hB0e⟩:∃B0,w0.heap.size=B0:=⟨_,rfl⟩;rw [hB0e] at hB0 hBs;clear hB0e
 · have HE:=Lib.hid (wg_err (wg_1 (d:=d) HA.out) (by omega));have r0:=hR.cell 0;have r1:=hR.cell 1;have f0:=hR.frozen 0;have f1:=hR.frozen 1;go_wp2_with fail
   have s2:=((hR.set 0 (.slice none 0 0)).set 1 (.slice none 0 0));refine bodyPost_ret (results_row2 rfl _ _ (w.heap.size+2) 29 #[.slice none 0 0,.slice none 0 0] (0,0) _ rfl s2 Try.underlying29 rfl Try.info_alg) rfl ⟨none,0,0,none,0,0,by rw [(HE.out).1];rfl,by rw [(HE.out).2.1];exact OwnV.none_,by rw [(HE.out).2.2];exact OwnF.none_,?_⟩;exact (hb.setCell (p:=⟨w.heap.size+2,0,none⟩) (by dsimp only;omega) _).setCell (p:=⟨w.heap.size+2,1,none⟩) (by dsimp only;omega) _
 by_cases hdr:1≤d∧d≤12
 case neg=>
  have HE:=Lib.hid (wg_err (wg_2 HA.out hdr) (by omega));by_cases hd0:d<1
  · skip
    have r0:=hR.cell 0;have r1:=hR.cell 1;have f0:=hR.frozen 0;have f1:=hR.frozen 1;go_wp2_with fail
    have s2:=((hR.set 0 (.slice none 0 0)).set 1 (.slice none 0 0));refine bodyPost_ret (results_row2 rfl _ _ (w.heap.size+2) 29 #[.slice none 0 0,.slice none 0 0] (0,0) _ rfl s2 Try.underlying29 rfl Try.info_alg) rfl ⟨none,0,0,none,0,0,by rw [(HE.out).1];rfl,by rw [(HE.out).2.1];exact OwnV.none_,by rw [(HE.out).2.2];exact OwnF.none_,?_⟩;exact (hb.setCell (p:=⟨w.heap.size+2,0,none⟩) (by dsimp only;omega) _).setCell (p:=⟨w.heap.size+2,1,none⟩) (by dsimp only;omega) _
  · have hd12:12<d:=(by omega);have r0:=hR.cell 0;have r1:=hR.cell 1;have f0:=hR.frozen 0;have f1:=hR.frozen 1;go_wp2_with fail
    have s2:=((hR.set 0 (.slice none 0 0)).set 1 (.slice none 0 0));refine bodyPost_ret (results_row2 rfl _ _ (w.heap.size+2) 29 #[.slice none 0 0,.slice none 0 0] (0,0) _ rfl s2 Try.underlying29 rfl Try.info_alg) rfl ⟨none,0,0,none,0,0,by rw [(HE.out).1];rfl,by rw [(HE.out).2.1];exact OwnV.none_,by rw [(HE.out).2.2];exact OwnF.none_,?_⟩;exact (hb.setCell (p:=⟨w.heap.size+2,0,none⟩) (by dsimp only;omega) _).setCell (p:=⟨w.heap.size+2,1,none⟩) (by dsimp only;omega) _
 obtain ⟨hdr1,hdr2⟩:=hdr
 have hdn1:¬d<1:=by omega
 have hdn2:¬12<d:=by omega
 have HAO:=Lib.hid (isAlg_ok (algF_alg HA.out).1 HTT.out)
 have hif:=(algF_alg HA.out).2
 have HK:=Lib.hid (isForm_fit hif)
 have HFB:=Lib.hid (isForm_f hif)
 have hn4:fn≤400:=by have:=isForm_400 hif;have:=HFL.out;omega
 have HCL:=Lib.hid (HAO.out.closed HH.out.2.1 HK.out)
 have h8:dn≤8:=by have:=degsOk_len (isAlg_degs (algF_alg HA.out).1);have:=HDL.out;omega
 have hn8:n≤8:=by have:=isAlg_lenQ2 (algF_alg HA.out).1;have:=HLn.out;have:=HDL.out;omega
 clear hif
 have c0:=hA.cell 0
 have cg:=hF.cell 0
 cases hzo:zeroOr zs fs (d+1)
 case false=>
  have HE:=Lib.hid (wg_err (wg_5 HA.out ⟨hdr1,hdr2⟩ (Or.inl hzo)) (by omega));have HZO:=Lib.hid hzo;clear hzo;go_wp2_with fail
  refine (isZeroOrOfDegree_c dc fc (HHd.out.keep hb) hdn (HH.out.keep hb) hfn).mono ?_;rintro e w2 ⟨rfl,hb1⟩;rw [HZO.out];clear c0 cg;replace hA:=hA.keep hb1 hA.lt;replace hF:=hF.keep hb1 hF.lt;replace hR:=hR.keep hb1 hR.lt;replace hb:=bT' hb hb1 hb.size;replace hBs:=Nat.le_trans hBs hb1.size;clear hb1;have r0:=hR.cell 0;have r1:=hR.cell 1;have f0:=hR.frozen 0;have f1:=hR.frozen 1;go_wp2_with fail
  have s2:=((hR.set 0 (.slice none 0 0)).set 1 (.slice none 0 0));refine bodyPost_ret (results_row2 rfl _ _ (w.heap.size+2) 29 #[.slice none 0 0,.slice none 0 0] (0,0) _ rfl s2 Try.underlying29 rfl Try.info_alg) rfl ⟨none,0,0,none,0,0,by rw [(HE.out).1];rfl,by rw [(HE.out).2.1];exact OwnV.none_,by rw [(HE.out).2.2];exact OwnF.none_,?_⟩;exact (hb.setCell (p:=⟨w.heap.size+2,0,none⟩) (by dsimp only;omega) _).setCell (p:=⟨w.heap.size+2,1,none⟩) (by dsimp only;omega) _
 have HZO:=Lib.hid hzo
 clear hzo
 go_wp2_with fail
 refine (isZeroOrOfDegree_c dc fc (HHd.out.keep hb) hdn (HH.out.keep hb) hfn).mono ?_
 rintro e w2 ⟨rfl,hb1⟩
 rw [HZO.out]
 clear c0 cg
 replace hA:=hA.keep hb1 hA.lt
 replace hF:=hF.keep hb1 hF.lt
 replace hR:=hR.keep hb1 hR.lt
 replace hb:=bT' hb hb1 hb.size
 replace hBs:=Nat.le_trans hBs hb1.size
 clear hb1
 have c0:=hA.cell 0
 have c1:=hA.cell 1
 have cg:=hF.cell 0
 go_wp2_with fail
 refine (differentialOf_c dc c fc (HHd.out.keep hb) (HF0.out.keep hb) (HH.out.keep hb) HAO.out HK.out HFB.out hn4).mono ?_
 rintro e w3 ⟨bm,rfl,hbm,hM,hb1⟩
 clear c0 c1 cg
 replace hA:=hA.keep hb1 hA.lt
 replace hF:=hF.keep hb1 hF.lt
 replace hR:=hR.keep hb1 hR.lt
 replace hb:=bT' hb hb1 hb.size
 replace hBs:=Nat.le_trans hBs hb1.size
 clear hb1
 go_wp2_with fail
 refine (isZero_c hM HCL.out).mono ?_
 rintro e w4 ⟨rfl,hb1⟩
 replace hA:=hA.keep hb1 hA.lt
 replace hF:=hF.keep hb1 hF.lt
 replace hR:=hR.keep hb1 hR.lt
 replace hb:=bT' hb hb1 hb.size
 replace hBs:=Nat.le_trans hBs hb1.size
 clear hb1
 clear hM hbm
 cases hcl:closedB zs ims fs
 case false=>
  have HE:=Lib.hid (wg_err (wg_5 HA.out ⟨hdr1,hdr2⟩ (Or.inr hcl)) (by omega));clear hcl;have r0:=hR.cell 0;have r1:=hR.cell 1;have f0:=hR.frozen 0;have f1:=hR.frozen 1;go_wp2_with fail
  have s2:=((hR.set 0 (.slice none 0 0)).set 1 (.slice none 0 0));refine bodyPost_ret (results_row2 rfl _ _ (w.heap.size+2) 29 #[.slice none 0 0,.slice none 0 0] (0,0) _ rfl s2 Try.underlying29 rfl Try.info_alg) rfl ⟨none,0,0,none,0,0,by rw [(HE.out).1];rfl,by rw [(HE.out).2.1];exact OwnV.none_,by rw [(HE.out).2.2];exact OwnF.none_,?_⟩;exact (hb.setCell (p:=⟨w.heap.size+2,0,none⟩) (by dsimp only;omega) _).setCell (p:=⟨w.heap.size+2,1,none⟩) (by dsimp only;omega) _
 have HC:=Lib.hid hcl
 clear hcl
 by_cases he8:dn=8
 · subst he8;have HE:=Lib.hid (wg_err (wg_3 HA.out ⟨hdr1,hdr2⟩ HZO.out HC.out HDL.out) (by omega));have c0:=hA.cell 0;have r0:=hR.cell 0;have r1:=hR.cell 1;have f0:=hR.frozen 0;have f1:=hR.frozen 1;go_wp2_with fail
   have s2:=((hR.set 0 (.slice none 0 0)).set 1 (.slice none 0 0));refine bodyPost_ret (results_row2 rfl _ _ (w.heap.size+2) 29 #[.slice none 0 0,.slice none 0 0] (0,0) _ rfl s2 Try.underlying29 rfl Try.info_alg) rfl ⟨none,0,0,none,0,0,by rw [(HE.out).1];rfl,by rw [(HE.out).2.1];exact OwnV.none_,by rw [(HE.out).2.2];exact OwnF.none_,?_⟩;exact (hb.setCell (p:=⟨w.heap.size+2,0,none⟩) (by dsimp only;omega) _).setCell (p:=⟨w.heap.size+2,1,none⟩) (by dsimp only;omega) _
 have HE:=Lib.hid (wg_0 HA.out ⟨hdr1,hdr2⟩ HZO.out HC.out (by rw [HDL.out];exact he8))
 have he8b:((dn:Int)==8)=false:=by
  have:¬((dn:Int)=8):=(by omega);simpa using this
 obtain ⟨vs,hvl,hvc,hvs⟩:=HNN.out.cells
 have HV:=Lib.hid hvc
 have HVL:=Lib.hid hvl
 have HVS:=Lib.hid hvs
 have HV1:Hid (∀v∈vs,v.oneCell'=true):=Lib.hid (by
  intro v hv;obtain ⟨j,hj,rfl⟩:=List.mem_iff_getElem.1 hv;have hl:=HNN.out.1
  exact (hvs j _ _ (List.getElem?_eq_getElem hj) (List.getElem?_eq_getElem (show j<ims.length by omega))).one)
 clear hvl hvc hvs
 have c0:=hA.cell 0
 go_upto_region 9 with fail
 clear c0
 replace hA:Own w4.drew w.heap.size 29 #[.slice (some ⟨gd,od,none⟩) dn dc,.slice (some ⟨gi,oi,none⟩) n c]:=hA
 replace hF:Own w4.drew (w.heap.size+1) 47 #[.slice (some ⟨gf,of,none⟩) fn fc]:=hF
 replace hR:Own w4.drew (w.heap.size+2) 29 #[.slice none 0 0,.slice none 0 0]:=hR
 replace hb:Below w.heap.size w w4.drew:=hb.drew
 replace hBs:B0≤w4.drew.heap.size:=hBs
 have HOD:Hid (∀u∈([Value.int .i64 d]:List Value),u.oneCell'=true):=Lib.hid (by simp [Value.oneCell'])
 have HOF:Hid (∀u∈([Value.slice (some ⟨gf,of,none⟩) fn fc]:List Value),u.oneCell'=true):=Lib.hid (by simp [Value.oneCell'])
 have HSB:Hid (sumLen ims+fn≤1048576):=Lib.hid (sum_bd HLn.out (isAlg_400b (algF_alg HA.out).1) (by omega) hn4)
 have HFLL:=HFL
 refine wp_region_held_drew (S:=(fun w'=>w'.cell? ⟨w.heap.size,0,none⟩=some (.slice (some ⟨gd,od,none⟩) dn dc)∧w'.cell? ⟨w.heap.size,1,none⟩=some (.slice (some ⟨gi,oi,none⟩) n c)∧w'.cell? ⟨w.heap.size+1,0,none⟩=some (.slice (some ⟨gf,of,none⟩) fn fc))) (by kernel_rfl) ?_ (fun _=>?_)
 · ((try dsimp only);(exact ⟨hA.cell 0,hA.cell 1,hF.cell 0⟩))
 generalize w4.drew=W0d at *
 refine hdT 0 ?_
 refine hdT 1 ?_
 refine hdT 3 ?_
 refine hdT 6 ?_
 refine hdT 7 ?_
 refine hdT 9 ?_
 refine wpAnyH_ready (rs:=[2,4,10]) (by kernel_rfl) (by simp) ?_
 refine AllReadyH.cons (hdAt (i:=2) rfl) (fun K hK=>?_) (AllReadyH.cons (hdAt (i:=4) rfl) (fun K hK=>?_) (AllReadyH.cons (hdAt (i:=10) rfl) (fun K hK=>?_) AllReadyH.nil))
 · skip
   have hBs':=hBs
   (go_simp;(go_at_call 79;refine (cloneI_c dc (HHd.out.keep hb) hdn).mono ?_;rintro e W1 ⟨xa,xc,rfl,hD,hbX⟩);go_wp2_with fail)
   replace hA:=hA.keep hbX hA.lt;replace hF:=hF.keep hbX hF.lt;replace hR:=hR.keep hbX hR.lt;replace hb:=bT' hb hbX hb.size;replace hBs:=Nat.le_trans hBs hbX.size;replace hD:=row_weaken hD hBs';clear hBs';clear hbX;refine hK.out _ _ ?_ (fun _=>?_)
   · ((try dsimp only);(exact ⟨hA.cell 0,hA.cell 1,hF.cell 0⟩))
   clear hK K
   (try simp only [Act.put,pA,pB,pC])
   refine wpAnyH_ready (rs:=[4,10]) (by kernel_rfl) (by simp) ?_;refine AllReadyH.cons (hdAt (i:=4) rfl) (fun K hK=>?_) (AllReadyH.cons (hdAt (i:=10) rfl) (fun K hK=>?_) AllReadyH.nil)
   · skip
     (go_simp;try go_wp2_with fail)
     have hN:=Own.new W1 2 #[.int .i64 d];have hbX:=bA1 W1 (.cells #[.int .i64 d] 2);replace hA:=hA.keep hbX hA.lt;replace hF:=hF.keep hbX hF.lt;replace hR:=hR.keep hbX hR.lt;replace hb:=bT' hb hbX hb.size;replace hBs:=Nat.le_trans hBs hbX.size;replace hD:=row_keep hD hbX;generalize W1.alloc (.cells #[.int .i64 d] 2)=W2 at *;generalize hhNg:W1.heap.size=ghN at *;clear hbX hhNg;refine hK.out _ _ ?_ (fun _=>?_)
     · ((try dsimp only);(exact ⟨hA.cell 0,hA.cell 1,hF.cell 0⟩))
     clear hK K
     (try simp only [Act.put,pA,pB,pC])
     refine wpAnyH_ready (rs:=[5,10]) (by kernel_rfl) (by simp) ?_;refine AllReadyH.cons (hdAt (i:=5) rfl) (fun K hK=>?_) (AllReadyH.cons (hdAt (i:=10) rfl) (fun K hK=>?_) AllReadyH.nil)
     · skip
       have HNW:Hid (∀j u,([Value.int .i64 d]:List Value)[j]? = some u→W2.cell? ((⟨ghN,0,none⟩:Addr).add j)=some u):=Lib.hid (fun j u hu=>by rw [Addr.add_mid];exact hN.range j u hu);have HRW:=Lib.hid hD;have hszW:B0≤W2.heap.size:=hBs;rw [if_pos (by rfl)];refine wp_append_own_wide _ (.tmp 42) (.tmp 44) 22 rfl B0 2 ti2 tz2 1 8 Try.underlying22 HI2.out HZ2.out HS2.out HBt2.out HZs2.out (by omega) (.slice xa dn xc) dn _ rfl HRW.out ⟨ghN,0,none⟩ 1 1 [Value.int .i64 d] rfl rfl HNW.out HOD.out (by simp only [maxLen];omega) (by omega) hszW (fun v' W3 h2 h3 h4=>?_);obtain ⟨xad,xcd,rfl⟩:=row_slice h2;replace hA:=hA.grown h3 (own_ne_row hA HRW.out (by decide));replace hF:=hF.grown h3 (own_ne_row hF HRW.out (by decide));replace hR:=hR.grown h3 (own_ne_row hR HRW.out (by decide));replace hb:=grown_below hb h3 (fun j e=>by have:=(HRW.out.lt j e).1;omega) hb.size;replace hBs:=Nat.le_trans hBs h3.size;clear hD hN;have hD:=h2;clear h2 h4;clear HNW HRW hszW h3;refine hK.out _ _ ?_ (fun _=>?_)
       · ((try dsimp only);(exact ⟨hA.cell 0,hA.cell 1,hF.cell 0⟩))
       clear hK K
       (try simp only [Act.put,pA,pB,pC])
       refine wpAnyH_ready (rs:=[8,10]) (by kernel_rfl) (by simp) ?_;refine AllReadyH.cons (hdAt (i:=8) rfl) (fun K hK=>?_) (AllReadyH.cons (hdAt (i:=10) rfl) (fun K hK=>?_) AllReadyH.nil)
       · skip
         have hBs':=hBs
         (go_simp;(go_at_call 80;refine (cloneF_c c (fun j v hv=>(World.cell?_of_block (a:=⟨gi,oi+j,none⟩) (hb.block gi (World.block_lt_of_cell? w ⟨gi,oi+j,none⟩ (HV.out j v hv)))).trans (HV.out j v hv)) HV1.out HVL.out hn).mono ?_;rintro e W4 ⟨ia,ic,rfl,hI,hbX⟩);go_wp2_with fail)
         replace hA:=hA.keep hbX hA.lt;replace hF:=hF.keep hbX hF.lt;replace hR:=hR.keep hbX hR.lt;replace hb:=bT' hb hbX hb.size;replace hBs:=Nat.le_trans hBs hbX.size;replace hD:=row_keep hD hbX;replace hI:=row_weaken hI hBs';clear hBs';clear hbX;refine hK.out _ _ ?_ (fun _=>?_)
         · ((try dsimp only);(exact ⟨hA.cell 0,hA.cell 1,hF.cell 0⟩))
         clear hK K
         (try simp only [Act.put,pA,pB,pC])
         refine hdC 10 (fun K hK=>?_)
         (go_simp;try go_wp2_with fail)
         have hM:=Own.new W4 47 #[.slice (some ⟨gf,of,none⟩) fn fc];have hbX:=bA1 W4 (.cells #[.slice (some ⟨gf,of,none⟩) fn fc] 47);replace hA:=hA.keep hbX hA.lt;replace hF:=hF.keep hbX hF.lt;replace hR:=hR.keep hbX hR.lt;replace hb:=bT' hb hbX hb.size;replace hBs:=Nat.le_trans hBs hbX.size;replace hD:=row_keep hD hbX;replace hI:=row_keep hI hbX;generalize W4.alloc (.cells #[.slice (some ⟨gf,of,none⟩) fn fc] 47)=W5 at *;generalize hhMg:W4.heap.size=ghM at *;clear hbX hhMg;refine hK.out _ _ ?_ (fun _=>?_)
         · ((try dsimp only);(exact ⟨hA.cell 0,hA.cell 1,hF.cell 0⟩))
         clear hK K
         (try simp only [Act.put,pA,pB,pC])
         refine hdC 11 (fun K hK=>?_);have HNW:Hid (∀j u,([Value.slice (some ⟨gf,of,none⟩) fn fc]:List Value)[j]? = some u→W5.cell? ((⟨ghM,0,none⟩:Addr).add j)=some u):=Lib.hid (fun j u hu=>by rw [Addr.add_mid];exact hM.range j u hu);have HRW:=Lib.hid hI;have hszW:B0≤W5.heap.size:=hBs;rw [if_pos (by rfl)];refine wp_append_own_wide _ (.tmp 48) (.tmp 50) 27 rfl B0 47 ti tz 1 24 Try.underlying27 HI.out HZ.out HS.out HBt.out HZs.out (by omega) (.slice ia n ic) n _ rfl HRW.out ⟨ghM,0,none⟩ 1 1 [Value.slice (some ⟨gf,of,none⟩) fn fc] rfl rfl HNW.out HOF.out (by simp only [maxLen];omega) (by omega) hszW (fun v' W6 h2 h3 h4=>?_);obtain ⟨xai,xci,rfl⟩:=row_slice h2;replace hA:=hA.grown h3 (own_ne_row hA HRW.out (by decide));replace hF:=hF.grown h3 (fun e=>by have:=(HRW.out.lt _ e.symm).1;omega);replace hR:=hR.grown h3 (own_ne_row hR HRW.out (by decide));replace hb:=grown_below hb h3 (fun j e=>by have:=(HRW.out.lt j e).1;omega) hb.size;replace hBs:=Nat.le_trans hBs h3.size;replace hD:=row_grown hD HRW.out (by decide) h3;clear hI hM;have hI:=h2;clear h2 h4;clear HNW HRW hszW h3;refine hK.out _ _ ?_ (fun _=>?_)
         · ((try dsimp only);(exact ⟨hA.cell 0,hA.cell 1,hF.cell 0⟩))
         clear hK K
         (try simp only [Act.put,pA,pB,pC])
         refine hdC 12 (fun K hK=>?_);obtain ⟨gD,cD,heD,hDI⟩:=ints_row (zs:=zs++[d]) (by rw [List.map_append];exact hD) (by omega);simp only [Value.slice.injEq] at heD;obtain ⟨heD,-,-⟩:=heD;subst heD;have HSN:Hid (∀(j:Nat) u ts,(vs++[Value.slice (some ⟨gf,of,none⟩) fn fc])[j]? = some u→(ims++[fs])[j]? = some ts→SlN W6 u ts):=Lib.hid (sln_snoc HVL.out HLn.out (fun j u ts h1 h2=>(HVS.out j u ts h1 h2).keep hb) ⟨_,_,_,rfl,HH.out.keep hb,Or.inr ⟨_,_,rfl⟩⟩);obtain ⟨gI,cI,heI,hIN⟩:=frmsN_row (fss:=ims++[fs]) hI (by rw [List.length_append,HLn.out];rfl) HSN.out (by omega);simp only [Value.slice.injEq] at heI;obtain ⟨heI,-,-⟩:=heI;subst heI;clear hD hI HSN
         (go_simp;(go_at_call 59;refine (newAlgebra_c _ _ hDI (by omega) hIN (by omega) (tm_snoc HTT.out HH.out.2.1) (by rw [sum_snoc,HFLL.out];exact HSB.out)).mono ?_;rintro e W7 ⟨ra,rac,rb,rfl,hV,hVF,hbX⟩);go_wp2_with fail)
         clear hDI hIN;have hBs':=hBs;replace hA:=hA.keep hbX hA.lt;replace hF:=hF.keep hbX hF.lt;replace hR:=hR.keep hbX hR.lt;replace hb:=bT' hb hbX hb.size;replace hBs:=Nat.le_trans hBs hbX.size;replace hV:=hV.weaken (lo':=B0) hBs' (Nat.le_refl _);replace hVF:=hVF.weaken (lo':=B0) hBs' (Nat.le_refl _);clear hbX hBs';refine hK.out _ _ ?_ (fun _=>?_)
         · ((try dsimp only);(exact ⟨hA.cell 0,hA.cell 1,hF.cell 0⟩))
         clear hK K
         (try simp only [Act.put,pA,pB,pC])
         refine hdC 13 (fun K hK=>?_);have r0:=hR.cell 0;have r1:=hR.cell 1;have f0:=hR.frozen 0;have f1:=hR.frozen 1
         (go_simp;go_wp2_with fail)
         have hTo:Touch (fun k=>k=w.heap.size+2) W7 ((W7.setCell ⟨w.heap.size+2,0,none⟩ (.slice ra (dn+1) rac)).setCell ⟨w.heap.size+2,1,none⟩ (.slice rb (n+1) (n+1))):=Touch.of_only (((Only.refl (w.heap.size+2) W7).set 0 _).set 1 _);replace hR:=(hR.set 0 (.slice ra (dn+1) rac)).set 1 (.slice rb (n+1) (n+1));replace hA:=hTo.own hA (by omega);replace hF:=hTo.own hF (by omega);replace hV:=(hV.touch hTo (fun q h1 h2=>by omega)).weaken (Nat.le_refl _) hTo.below.size;replace hVF:=(hVF.touch hTo (fun q h1 h2=>by omega)).weaken (Nat.le_refl _) hTo.below.size;replace hb:=(hb.setCell (p:=⟨w.heap.size+2,0,none⟩) (by dsimp only;omega) (.slice ra (dn+1) rac)).setCell (p:=⟨w.heap.size+2,1,none⟩) (by dsimp only;omega) (.slice rb (n+1) (n+1));clear hTo r0 r1 f0 f1 hBs;generalize (W7.setCell ⟨w.heap.size+2,0,none⟩ (.slice ra (dn+1) rac)).setCell ⟨w.heap.size+2,1,none⟩ (.slice rb (n+1) (n+1))=W8 at *;refine hK.out _ _ ?_ (fun _=>?_)
         · ((try dsimp only);(exact ⟨hA.cell 0,hA.cell 1,hF.cell 0⟩))
         clear hK K
         (try simp only [Act.put,pA,pB,pC])
         refine hdT 14 ?_;refine wpAnyH_done (by kernel_rfl) ?_ _;go_wp2_with fail
         refine bodyPost_ret (results_row2 rfl _ _ (w.heap.size+2) 29 #[.slice ra (dn+1) rac,.slice rb (n+1) (n+1)] (0,0) _ rfl hR Try.underlying29 rfl Try.info_alg) rfl ⟨ra,dn+1,rac,rb,n+1,n+1,by rw [HE.out.1];rfl,?_,?_,hb⟩
         · rw [HE.out.2.1];exact hV.weaken (by omega) (Nat.le_refl _)
         · rw [HE.out.2.2];exact hVF.weaken (by omega) (Nat.le_refl _)
       · skip
         (go_simp;try go_wp2_with fail)
         have hM:=Own.new W3 47 #[.slice (some ⟨gf,of,none⟩) fn fc];have hbX:=bA1 W3 (.cells #[.slice (some ⟨gf,of,none⟩) fn fc] 47);replace hA:=hA.keep hbX hA.lt;replace hF:=hF.keep hbX hF.lt;replace hR:=hR.keep hbX hR.lt;replace hb:=bT' hb hbX hb.size;replace hBs:=Nat.le_trans hBs hbX.size;replace hD:=row_keep hD hbX;generalize W3.alloc (.cells #[.slice (some ⟨gf,of,none⟩) fn fc] 47)=W9 at *;generalize hhMg:W3.heap.size=ghM at *;clear hbX hhMg;refine hK.out _ _ ?_ (fun _=>?_)
         · ((try dsimp only);(exact ⟨hA.cell 0,hA.cell 1,hF.cell 0⟩))
         clear hK K
         (try simp only [Act.put,pA,pB,pC])
         refine hdC 8 (fun K hK=>?_);have hBs':=hBs
         (go_simp;(go_at_call 80;refine (cloneF_c c (fun j v hv=>(World.cell?_of_block (a:=⟨gi,oi+j,none⟩) (hb.block gi (World.block_lt_of_cell? w ⟨gi,oi+j,none⟩ (HV.out j v hv)))).trans (HV.out j v hv)) HV1.out HVL.out hn).mono ?_;rintro e W10 ⟨ia,ic,rfl,hI,hbX⟩);go_wp2_with fail)
         replace hA:=hA.keep hbX hA.lt;replace hF:=hF.keep hbX hF.lt;replace hR:=hR.keep hbX hR.lt;replace hb:=bT' hb hbX hb.size;replace hBs:=Nat.le_trans hBs hbX.size;replace hD:=row_keep hD hbX;replace hM:=hM.keep hbX hM.lt;replace hI:=row_weaken hI hBs';clear hBs';clear hbX;refine hK.out _ _ ?_ (fun _=>?_)
         · ((try dsimp only);(exact ⟨hA.cell 0,hA.cell 1,hF.cell 0⟩))
         clear hK K
         (try simp only [Act.put,pA,pB,pC])
         refine hdC 11 (fun K hK=>?_);have HNW:Hid (∀j u,([Value.slice (some ⟨gf,of,none⟩) fn fc]:List Value)[j]? = some u→W10.cell? ((⟨ghM,0,none⟩:Addr).add j)=some u):=Lib.hid (fun j u hu=>by rw [Addr.add_mid];exact hM.range j u hu);have HRW:=Lib.hid hI;have hszW:B0≤W10.heap.size:=hBs;rw [if_pos (by rfl)];refine wp_append_own_wide _ (.tmp 48) (.tmp 50) 27 rfl B0 47 ti tz 1 24 Try.underlying27 HI.out HZ.out HS.out HBt.out HZs.out (by omega) (.slice ia n ic) n _ rfl HRW.out ⟨ghM,0,none⟩ 1 1 [Value.slice (some ⟨gf,of,none⟩) fn fc] rfl rfl HNW.out HOF.out (by simp only [maxLen];omega) (by omega) hszW (fun v' W11 h2 h3 h4=>?_);obtain ⟨xai,xci,rfl⟩:=row_slice h2;replace hA:=hA.grown h3 (own_ne_row hA HRW.out (by decide));replace hF:=hF.grown h3 (fun e=>by have:=(HRW.out.lt _ e.symm).1;omega);replace hR:=hR.grown h3 (own_ne_row hR HRW.out (by decide));replace hb:=grown_below hb h3 (fun j e=>by have:=(HRW.out.lt j e).1;omega) hb.size;replace hBs:=Nat.le_trans hBs h3.size;replace hD:=row_grown hD HRW.out (by decide) h3;clear hI hM;have hI:=h2;clear h2 h4;clear HNW HRW hszW h3;refine hK.out _ _ ?_ (fun _=>?_)
         · ((try dsimp only);(exact ⟨hA.cell 0,hA.cell 1,hF.cell 0⟩))
         clear hK K
         (try simp only [Act.put,pA,pB,pC])
         refine hdC 12 (fun K hK=>?_);obtain ⟨gD,cD,heD,hDI⟩:=ints_row (zs:=zs++[d]) (by rw [List.map_append];exact hD) (by omega);simp only [Value.slice.injEq] at heD;obtain ⟨heD,-,-⟩:=heD;subst heD;have HSN:Hid (∀(j:Nat) u ts,(vs++[Value.slice (some ⟨gf,of,none⟩) fn fc])[j]? = some u→(ims++[fs])[j]? = some ts→SlN W11 u ts):=Lib.hid (sln_snoc HVL.out HLn.out (fun j u ts h1 h2=>(HVS.out j u ts h1 h2).keep hb) ⟨_,_,_,rfl,HH.out.keep hb,Or.inr ⟨_,_,rfl⟩⟩);obtain ⟨gI,cI,heI,hIN⟩:=frmsN_row (fss:=ims++[fs]) hI (by rw [List.length_append,HLn.out];rfl) HSN.out (by omega);simp only [Value.slice.injEq] at heI;obtain ⟨heI,-,-⟩:=heI;subst heI;clear hD hI HSN
         (go_simp;(go_at_call 59;refine (newAlgebra_c _ _ hDI (by omega) hIN (by omega) (tm_snoc HTT.out HH.out.2.1) (by rw [sum_snoc,HFLL.out];exact HSB.out)).mono ?_;rintro e W12 ⟨ra,rac,rb,rfl,hV,hVF,hbX⟩);go_wp2_with fail)
         clear hDI hIN;have hBs':=hBs;replace hA:=hA.keep hbX hA.lt;replace hF:=hF.keep hbX hF.lt;replace hR:=hR.keep hbX hR.lt;replace hb:=bT' hb hbX hb.size;replace hBs:=Nat.le_trans hBs hbX.size;replace hV:=hV.weaken (lo':=B0) hBs' (Nat.le_refl _);replace hVF:=hVF.weaken (lo':=B0) hBs' (Nat.le_refl _);clear hbX hBs';refine hK.out _ _ ?_ (fun _=>?_)
         · ((try dsimp only);(exact ⟨hA.cell 0,hA.cell 1,hF.cell 0⟩))
         clear hK K
         (try simp only [Act.put,pA,pB,pC])
         refine hdC 13 (fun K hK=>?_);have r0:=hR.cell 0;have r1:=hR.cell 1;have f0:=hR.frozen 0;have f1:=hR.frozen 1
         (go_simp;go_wp2_with fail)
         have hTo:Touch (fun k=>k=w.heap.size+2) W12 ((W12.setCell ⟨w.heap.size+2,0,none⟩ (.slice ra (dn+1) rac)).setCell ⟨w.heap.size+2,1,none⟩ (.slice rb (n+1) (n+1))):=Touch.of_only (((Only.refl (w.heap.size+2) W12).set 0 _).set 1 _);replace hR:=(hR.set 0 (.slice ra (dn+1) rac)).set 1 (.slice rb (n+1) (n+1));replace hA:=hTo.own hA (by omega);replace hF:=hTo.own hF (by omega);replace hV:=(hV.touch hTo (fun q h1 h2=>by omega)).weaken (Nat.le_refl _) hTo.below.size;replace hVF:=(hVF.touch hTo (fun q h1 h2=>by omega)).weaken (Nat.le_refl _) hTo.below.size;replace hb:=(hb.setCell (p:=⟨w.heap.size+2,0,none⟩) (by dsimp only;omega) (.slice ra (dn+1) rac)).setCell (p:=⟨w.heap.size+2,1,none⟩) (by dsimp only;omega) (.slice rb (n+1) (n+1));clear hTo r0 r1 f0 f1 hBs;generalize (W12.setCell ⟨w.heap.size+2,0,none⟩ (.slice ra (dn+1) rac)).setCell ⟨w.heap.size+2,1,none⟩ (.slice rb (n+1) (n+1))=W13 at *;refine hK.out _ _ ?_ (fun _=>?_)
         · ((try dsimp only);(exact ⟨hA.cell 0,hA.cell 1,hF.cell 0⟩))
         clear hK K
         (try simp only [Act.put,pA,pB,pC])
         refine hdT 14 ?_;refine wpAnyH_done (by kernel_rfl) ?_ _;go_wp2_with fail
         refine bodyPost_ret (results_row2 rfl _ _ (w.heap.size+2) 29 #[.slice ra (dn+1) rac,.slice rb (n+1) (n+1)] (0,0) _ rfl hR Try.underlying29 rfl Try.info_alg) rfl ⟨ra,dn+1,rac,rb,n+1,n+1,by rw [HE.out.1];rfl,?_,?_,hb⟩
         · rw [HE.out.2.1];exact hV.weaken (by omega) (Nat.le_refl _)
         · rw [HE.out.2.2];exact hVF.weaken (by omega) (Nat.le_refl _)
     · skip
       (go_simp;try go_wp2_with fail)
       have hM:=Own.new W2 47 #[.slice (some ⟨gf,of,none⟩) fn fc];have hbX:=bA1 W2 (.cells #[.slice (some ⟨gf,of,none⟩) fn fc] 47);replace hA:=hA.keep hbX hA.lt;replace hF:=hF.keep hbX hF.lt;replace hR:=hR.keep hbX hR.lt;replace hb:=bT' hb hbX hb.size;replace hBs:=Nat.le_trans hBs hbX.size;replace hD:=row_keep hD hbX;replace hN:=hN.keep hbX hN.lt;generalize W2.alloc (.cells #[.slice (some ⟨gf,of,none⟩) fn fc] 47)=W14 at *;generalize hhMg:W2.heap.size=ghM at *;clear hbX hhMg;refine hK.out _ _ ?_ (fun _=>?_)
       · ((try dsimp only);(exact ⟨hA.cell 0,hA.cell 1,hF.cell 0⟩))
       clear hK K
       (try simp only [Act.put,pA,pB,pC])
       refine hdC 5 (fun K hK=>?_);have HNW:Hid (∀j u,([Value.int .i64 d]:List Value)[j]? = some u→W14.cell? ((⟨ghN,0,none⟩:Addr).add j)=some u):=Lib.hid (fun j u hu=>by rw [Addr.add_mid];exact hN.range j u hu);have HRW:=Lib.hid hD;have hszW:B0≤W14.heap.size:=hBs;rw [if_pos (by rfl)];refine wp_append_own_wide _ (.tmp 42) (.tmp 44) 22 rfl B0 2 ti2 tz2 1 8 Try.underlying22 HI2.out HZ2.out HS2.out HBt2.out HZs2.out (by omega) (.slice xa dn xc) dn _ rfl HRW.out ⟨ghN,0,none⟩ 1 1 [Value.int .i64 d] rfl rfl HNW.out HOD.out (by simp only [maxLen];omega) (by omega) hszW (fun v' W15 h2 h3 h4=>?_);obtain ⟨xad,xcd,rfl⟩:=row_slice h2;replace hA:=hA.grown h3 (own_ne_row hA HRW.out (by decide));replace hF:=hF.grown h3 (own_ne_row hF HRW.out (by decide));replace hR:=hR.grown h3 (own_ne_row hR HRW.out (by decide));replace hb:=grown_below hb h3 (fun j e=>by have:=(HRW.out.lt j e).1;omega) hb.size;replace hBs:=Nat.le_trans hBs h3.size;replace hM:=hM.grown h3 (own_ne_row hM HRW.out (by decide));clear hD hN;have hD:=h2;clear h2 h4;clear HNW HRW hszW h3;refine hK.out _ _ ?_ (fun _=>?_)
       · ((try dsimp only);(exact ⟨hA.cell 0,hA.cell 1,hF.cell 0⟩))
       clear hK K
       (try simp only [Act.put,pA,pB,pC])
       refine hdC 8 (fun K hK=>?_);have hBs':=hBs
       (go_simp;(go_at_call 80;refine (cloneF_c c (fun j v hv=>(World.cell?_of_block (a:=⟨gi,oi+j,none⟩) (hb.block gi (World.block_lt_of_cell? w ⟨gi,oi+j,none⟩ (HV.out j v hv)))).trans (HV.out j v hv)) HV1.out HVL.out hn).mono ?_;rintro e W16 ⟨ia,ic,rfl,hI,hbX⟩);go_wp2_with fail)
       replace hA:=hA.keep hbX hA.lt;replace hF:=hF.keep hbX hF.lt;replace hR:=hR.keep hbX hR.lt;replace hb:=bT' hb hbX hb.size;replace hBs:=Nat.le_trans hBs hbX.size;replace hD:=row_keep hD hbX;replace hM:=hM.keep hbX hM.lt;replace hI:=row_weaken hI hBs';clear hBs';clear hbX;refine hK.out _ _ ?_ (fun _=>?_)
       · ((try dsimp only);(exact ⟨hA.cell 0,hA.cell 1,hF.cell 0⟩))
       clear hK K
       (try simp only [Act.put,pA,pB,pC])
       refine hdC 11 (fun K hK=>?_);have HNW:Hid (∀j u,([Value.slice (some ⟨gf,of,none⟩) fn fc]:List Value)[j]? = some u→W16.cell? ((⟨ghM,0,none⟩:Addr).add j)=some u):=Lib.hid (fun j u hu=>by rw [Addr.add_mid];exact hM.range j u hu);have HRW:=Lib.hid hI;have hszW:B0≤W16.heap.size:=hBs;rw [if_pos (by rfl)];refine wp_append_own_wide _ (.tmp 48) (.tmp 50) 27 rfl B0 47 ti tz 1 24 Try.underlying27 HI.out HZ.out HS.out HBt.out HZs.out (by omega) (.slice ia n ic) n _ rfl HRW.out ⟨ghM,0,none⟩ 1 1 [Value.slice (some ⟨gf,of,none⟩) fn fc] rfl rfl HNW.out HOF.out (by simp only [maxLen];omega) (by omega) hszW (fun v' W17 h2 h3 h4=>?_);obtain ⟨xai,xci,rfl⟩:=row_slice h2;replace hA:=hA.grown h3 (own_ne_row hA HRW.out (by decide));replace hF:=hF.grown h3 (fun e=>by have:=(HRW.out.lt _ e.symm).1;omega);replace hR:=hR.grown h3 (own_ne_row hR HRW.out (by decide));replace hb:=grown_below hb h3 (fun j e=>by have:=(HRW.out.lt j e).1;omega) hb.size;replace hBs:=Nat.le_trans hBs h3.size;replace hD:=row_grown hD HRW.out (by decide) h3;clear hI hM;have hI:=h2;clear h2 h4;clear HNW HRW hszW h3;refine hK.out _ _ ?_ (fun _=>?_)
       · ((try dsimp only);(exact ⟨hA.cell 0,hA.cell 1,hF.cell 0⟩))
       clear hK K
       (try simp only [Act.put,pA,pB,pC])
       refine hdC 12 (fun K hK=>?_);obtain ⟨gD,cD,heD,hDI⟩:=ints_row (zs:=zs++[d]) (by rw [List.map_append];exact hD) (by omega);simp only [Value.slice.injEq] at heD;obtain ⟨heD,-,-⟩:=heD;subst heD;have HSN:Hid (∀(j:Nat) u ts,(vs++[Value.slice (some ⟨gf,of,none⟩) fn fc])[j]? = some u→(ims++[fs])[j]? = some ts→SlN W17 u ts):=Lib.hid (sln_snoc HVL.out HLn.out (fun j u ts h1 h2=>(HVS.out j u ts h1 h2).keep hb) ⟨_,_,_,rfl,HH.out.keep hb,Or.inr ⟨_,_,rfl⟩⟩);obtain ⟨gI,cI,heI,hIN⟩:=frmsN_row (fss:=ims++[fs]) hI (by rw [List.length_append,HLn.out];rfl) HSN.out (by omega);simp only [Value.slice.injEq] at heI;obtain ⟨heI,-,-⟩:=heI;subst heI;clear hD hI HSN
       (go_simp;(go_at_call 59;refine (newAlgebra_c _ _ hDI (by omega) hIN (by omega) (tm_snoc HTT.out HH.out.2.1) (by rw [sum_snoc,HFLL.out];exact HSB.out)).mono ?_;rintro e W18 ⟨ra,rac,rb,rfl,hV,hVF,hbX⟩);go_wp2_with fail)
       clear hDI hIN;have hBs':=hBs;replace hA:=hA.keep hbX hA.lt;replace hF:=hF.keep hbX hF.lt;replace hR:=hR.keep hbX hR.lt;replace hb:=bT' hb hbX hb.size;replace hBs:=Nat.le_trans hBs hbX.size;replace hV:=hV.weaken (lo':=B0) hBs' (Nat.le_refl _);replace hVF:=hVF.weaken (lo':=B0) hBs' (Nat.le_refl _);clear hbX hBs';refine hK.out _ _ ?_ (fun _=>?_)
       · ((try dsimp only);(exact ⟨hA.cell 0,hA.cell 1,hF.cell 0⟩))
       clear hK K
       (try simp only [Act.put,pA,pB,pC])
       refine hdC 13 (fun K hK=>?_);have r0:=hR.cell 0;have r1:=hR.cell 1;have f0:=hR.frozen 0;have f1:=hR.frozen 1
       (go_simp;go_wp2_with fail)
       have hTo:Touch (fun k=>k=w.heap.size+2) W18 ((W18.setCell ⟨w.heap.size+2,0,none⟩ (.slice ra (dn+1) rac)).setCell ⟨w.heap.size+2,1,none⟩ (.slice rb (n+1) (n+1))):=Touch.of_only (((Only.refl (w.heap.size+2) W18).set 0 _).set 1 _);replace hR:=(hR.set 0 (.slice ra (dn+1) rac)).set 1 (.slice rb (n+1) (n+1));replace hA:=hTo.own hA (by omega);replace hF:=hTo.own hF (by omega);replace hV:=(hV.touch hTo (fun q h1 h2=>by omega)).weaken (Nat.le_refl _) hTo.below.size;replace hVF:=(hVF.touch hTo (fun q h1 h2=>by omega)).weaken (Nat.le_refl _) hTo.below.size;replace hb:=(hb.setCell (p:=⟨w.heap.size+2,0,none⟩) (by dsimp only;omega) (.slice ra (dn+1) rac)).setCell (p:=⟨w.heap.size+2,1,none⟩) (by dsimp only;omega) (.slice rb (n+1) (n+1));clear hTo r0 r1 f0 f1 hBs;generalize (W18.setCell ⟨w.heap.size+2,0,none⟩ (.slice ra (dn+1) rac)).setCell ⟨w.heap.size+2,1,none⟩ (.slice rb (n+1) (n+1))=W19 at *;refine hK.out _ _ ?_ (fun _=>?_)
       · ((try dsimp only);(exact ⟨hA.cell 0,hA.cell 1,hF.cell 0⟩))
       clear hK K
       (try simp only [Act.put,pA,pB,pC])
       refine hdT 14 ?_;refine wpAnyH_done (by kernel_rfl) ?_ _;go_wp2_with fail
       refine bodyPost_ret (results_row2 rfl _ _ (w.heap.size+2) 29 #[.slice ra (dn+1) rac,.slice rb (n+1) (n+1)] (0,0) _ rfl hR Try.underlying29 rfl Try.info_alg) rfl ⟨ra,dn+1,rac,rb,n+1,n+1,by rw [HE.out.1];rfl,?_,?_,hb⟩
       · rw [HE.out.2.1];exact hV.weaken (by omega) (Nat.le_refl _)
       · rw [HE.out.2.2];exact hVF.weaken (by omega) (Nat.le_refl _)
   · skip
     (go_simp;try go_wp2_with fail)
     have hM:=Own.new W1 47 #[.slice (some ⟨gf,of,none⟩) fn fc];have hbX:=bA1 W1 (.cells #[.slice (some ⟨gf,of,none⟩) fn fc] 47);replace hA:=hA.keep hbX hA.lt;replace hF:=hF.keep hbX hF.lt;replace hR:=hR.keep hbX hR.lt;replace hb:=bT' hb hbX hb.size;replace hBs:=Nat.le_trans hBs hbX.size;replace hD:=row_keep hD hbX;generalize W1.alloc (.cells #[.slice (some ⟨gf,of,none⟩) fn fc] 47)=W20 at *;generalize hhMg:W1.heap.size=ghM at *;clear hbX hhMg;refine hK.out _ _ ?_ (fun _=>?_)
     · ((try dsimp only);(exact ⟨hA.cell 0,hA.cell 1,hF.cell 0⟩))
     clear hK K
     (try simp only [Act.put,pA,pB,pC])
     refine hdC 4 (fun K hK=>?_)
     (go_simp;try go_wp2_with fail)
     have hN:=Own.new W20 2 #[.int .i64 d];have hbX:=bA1 W20 (.cells #[.int .i64 d] 2);replace hA:=hA.keep hbX hA.lt;replace hF:=hF.keep hbX hF.lt;replace hR:=hR.keep hbX hR.lt;replace hb:=bT' hb hbX hb.size;replace hBs:=Nat.le_trans hBs hbX.size;replace hD:=row_keep hD hbX;replace hM:=hM.keep hbX hM.lt;generalize W20.alloc (.cells #[.int .i64 d] 2)=W21 at *;generalize hhNg:W20.heap.size=ghN at *;clear hbX hhNg;refine hK.out _ _ ?_ (fun _=>?_)
     · ((try dsimp only);(exact ⟨hA.cell 0,hA.cell 1,hF.cell 0⟩))
     clear hK K
     (try simp only [Act.put,pA,pB,pC])
     refine hdC 5 (fun K hK=>?_);have HNW:Hid (∀j u,([Value.int .i64 d]:List Value)[j]? = some u→W21.cell? ((⟨ghN,0,none⟩:Addr).add j)=some u):=Lib.hid (fun j u hu=>by rw [Addr.add_mid];exact hN.range j u hu);have HRW:=Lib.hid hD;have hszW:B0≤W21.heap.size:=hBs;rw [if_pos (by rfl)];refine wp_append_own_wide _ (.tmp 42) (.tmp 44) 22 rfl B0 2 ti2 tz2 1 8 Try.underlying22 HI2.out HZ2.out HS2.out HBt2.out HZs2.out (by omega) (.slice xa dn xc) dn _ rfl HRW.out ⟨ghN,0,none⟩ 1 1 [Value.int .i64 d] rfl rfl HNW.out HOD.out (by simp only [maxLen];omega) (by omega) hszW (fun v' W22 h2 h3 h4=>?_);obtain ⟨xad,xcd,rfl⟩:=row_slice h2;replace hA:=hA.grown h3 (own_ne_row hA HRW.out (by decide));replace hF:=hF.grown h3 (own_ne_row hF HRW.out (by decide));replace hR:=hR.grown h3 (own_ne_row hR HRW.out (by decide));replace hb:=grown_below hb h3 (fun j e=>by have:=(HRW.out.lt j e).1;omega) hb.size;replace hBs:=Nat.le_trans hBs h3.size;replace hM:=hM.grown h3 (own_ne_row hM HRW.out (by decide));clear hD hN;have hD:=h2;clear h2 h4;clear HNW HRW hszW h3;refine hK.out _ _ ?_ (fun _=>?_)
     · ((try dsimp only);(exact ⟨hA.cell 0,hA.cell 1,hF.cell 0⟩))
     clear hK K
     (try simp only [Act.put,pA,pB,pC])
     refine hdC 8 (fun K hK=>?_);have hBs':=hBs
     (go_simp;(go_at_call 80;refine (cloneF_c c (fun j v hv=>(World.cell?_of_block (a:=⟨gi,oi+j,none⟩) (hb.block gi (World.block_lt_of_cell? w ⟨gi,oi+j,none⟩ (HV.out j v hv)))).trans (HV.out j v hv)) HV1.out HVL.out hn).mono ?_;rintro e W23 ⟨ia,ic,rfl,hI,hbX⟩);go_wp2_with fail)
     replace hA:=hA.keep hbX hA.lt;replace hF:=hF.keep hbX hF.lt;replace hR:=hR.keep hbX hR.lt;replace hb:=bT' hb hbX hb.size;replace hBs:=Nat.le_trans hBs hbX.size;replace hD:=row_keep hD hbX;replace hM:=hM.keep hbX hM.lt;replace hI:=row_weaken hI hBs';clear hBs';clear hbX;refine hK.out _ _ ?_ (fun _=>?_)
     · ((try dsimp only);(exact ⟨hA.cell 0,hA.cell 1,hF.cell 0⟩))
     clear hK K
     (try simp only [Act.put,pA,pB,pC])
     refine hdC 11 (fun K hK=>?_);have HNW:Hid (∀j u,([Value.slice (some ⟨gf,of,none⟩) fn fc]:List Value)[j]? = some u→W23.cell? ((⟨ghM,0,none⟩:Addr).add j)=some u):=Lib.hid (fun j u hu=>by rw [Addr.add_mid];exact hM.range j u hu);have HRW:=Lib.hid hI;have hszW:B0≤W23.heap.size:=hBs;rw [if_pos (by rfl)];refine wp_append_own_wide _ (.tmp 48) (.tmp 50) 27 rfl B0 47 ti tz 1 24 Try.underlying27 HI.out HZ.out HS.out HBt.out HZs.out (by omega) (.slice ia n ic) n _ rfl HRW.out ⟨ghM,0,none⟩ 1 1 [Value.slice (some ⟨gf,of,none⟩) fn fc] rfl rfl HNW.out HOF.out (by simp only [maxLen];omega) (by omega) hszW (fun v' W24 h2 h3 h4=>?_);obtain ⟨xai,xci,rfl⟩:=row_slice h2;replace hA:=hA.grown h3 (own_ne_row hA HRW.out (by decide));replace hF:=hF.grown h3 (fun e=>by have:=(HRW.out.lt _ e.symm).1;omega);replace hR:=hR.grown h3 (own_ne_row hR HRW.out (by decide));replace hb:=grown_below hb h3 (fun j e=>by have:=(HRW.out.lt j e).1;omega) hb.size;replace hBs:=Nat.le_trans hBs h3.size;replace hD:=row_grown hD HRW.out (by decide) h3;clear hI hM;have hI:=h2;clear h2 h4;clear HNW HRW hszW h3;refine hK.out _ _ ?_ (fun _=>?_)
     · ((try dsimp only);(exact ⟨hA.cell 0,hA.cell 1,hF.cell 0⟩))
     clear hK K
     (try simp only [Act.put,pA,pB,pC])
     refine hdC 12 (fun K hK=>?_);obtain ⟨gD,cD,heD,hDI⟩:=ints_row (zs:=zs++[d]) (by rw [List.map_append];exact hD) (by omega);simp only [Value.slice.injEq] at heD;obtain ⟨heD,-,-⟩:=heD;subst heD;have HSN:Hid (∀(j:Nat) u ts,(vs++[Value.slice (some ⟨gf,of,none⟩) fn fc])[j]? = some u→(ims++[fs])[j]? = some ts→SlN W24 u ts):=Lib.hid (sln_snoc HVL.out HLn.out (fun j u ts h1 h2=>(HVS.out j u ts h1 h2).keep hb) ⟨_,_,_,rfl,HH.out.keep hb,Or.inr ⟨_,_,rfl⟩⟩);obtain ⟨gI,cI,heI,hIN⟩:=frmsN_row (fss:=ims++[fs]) hI (by rw [List.length_append,HLn.out];rfl) HSN.out (by omega);simp only [Value.slice.injEq] at heI;obtain ⟨heI,-,-⟩:=heI;subst heI;clear hD hI HSN
     (go_simp;(go_at_call 59;refine (newAlgebra_c _ _ hDI (by omega) hIN (by omega) (tm_snoc HTT.out HH.out.2.1) (by rw [sum_snoc,HFLL.out];exact HSB.out)).mono ?_;rintro e W25 ⟨ra,rac,rb,rfl,hV,hVF,hbX⟩);go_wp2_with fail)
     clear hDI hIN;have hBs':=hBs;replace hA:=hA.keep hbX hA.lt;replace hF:=hF.keep hbX hF.lt;replace hR:=hR.keep hbX hR.lt;replace hb:=bT' hb hbX hb.size;replace hBs:=Nat.le_trans hBs hbX.size;replace hV:=hV.weaken (lo':=B0) hBs' (Nat.le_refl _);replace hVF:=hVF.weaken (lo':=B0) hBs' (Nat.le_refl _);clear hbX hBs';refine hK.out _ _ ?_ (fun _=>?_)
     · ((try dsimp only);(exact ⟨hA.cell 0,hA.cell 1,hF.cell 0⟩))
     clear hK K
     (try simp only [Act.put,pA,pB,pC])
     refine hdC 13 (fun K hK=>?_);have r0:=hR.cell 0;have r1:=hR.cell 1;have f0:=hR.frozen 0;have f1:=hR.frozen 1
     (go_simp;go_wp2_with fail)
     have hTo:Touch (fun k=>k=w.heap.size+2) W25 ((W25.setCell ⟨w.heap.size+2,0,none⟩ (.slice ra (dn+1) rac)).setCell ⟨w.heap.size+2,1,none⟩ (.slice rb (n+1) (n+1))):=Touch.of_only (((Only.refl (w.heap.size+2) W25).set 0 _).set 1 _);replace hR:=(hR.set 0 (.slice ra (dn+1) rac)).set 1 (.slice rb (n+1) (n+1));replace hA:=hTo.own hA (by omega);replace hF:=hTo.own hF (by omega);replace hV:=(hV.touch hTo (fun q h1 h2=>by omega)).weaken (Nat.le_refl _) hTo.below.size;replace hVF:=(hVF.touch hTo (fun q h1 h2=>by omega)).weaken (Nat.le_refl _) hTo.below.size;replace hb:=(hb.setCell (p:=⟨w.heap.size+2,0,none⟩) (by dsimp only;omega) (.slice ra (dn+1) rac)).setCell (p:=⟨w.heap.size+2,1,none⟩) (by dsimp only;omega) (.slice rb (n+1) (n+1));clear hTo r0 r1 f0 f1 hBs;generalize (W25.setCell ⟨w.heap.size+2,0,none⟩ (.slice ra (dn+1) rac)).setCell ⟨w.heap.size+2,1,none⟩ (.slice rb (n+1) (n+1))=W26 at *;refine hK.out _ _ ?_ (fun _=>?_)
     · ((try dsimp only);(exact ⟨hA.cell 0,hA.cell 1,hF.cell 0⟩))
     clear hK K
     (try simp only [Act.put,pA,pB,pC])
     refine hdT 14 ?_;refine wpAnyH_done (by kernel_rfl) ?_ _;go_wp2_with fail
     refine bodyPost_ret (results_row2 rfl _ _ (w.heap.size+2) 29 #[.slice ra (dn+1) rac,.slice rb (n+1) (n+1)] (0,0) _ rfl hR Try.underlying29 rfl Try.info_alg) rfl ⟨ra,dn+1,rac,rb,n+1,n+1,by rw [HE.out.1];rfl,?_,?_,hb⟩
     · rw [HE.out.2.1];exact hV.weaken (by omega) (Nat.le_refl _)
     · rw [HE.out.2.2];exact hVF.weaken (by omega) (Nat.le_refl _)
 · skip
   (go_simp;try go_wp2_with fail)
   have hN:=Own.new W0d 2 #[.int .i64 d];have hbX:=bA1 W0d (.cells #[.int .i64 d] 2);replace hA:=hA.keep hbX hA.lt;replace hF:=hF.keep hbX hF.lt;replace hR:=hR.keep hbX hR.lt;replace hb:=bT' hb hbX hb.size;replace hBs:=Nat.le_trans hBs hbX.size;generalize W0d.alloc (.cells #[.int .i64 d] 2)=W27 at *;generalize hhNg:W0d.heap.size=ghN at *;clear hbX hhNg;refine hK.out _ _ ?_ (fun _=>?_)
   · ((try dsimp only);(exact ⟨hA.cell 0,hA.cell 1,hF.cell 0⟩))
   clear hK K
   (try simp only [Act.put,pA,pB,pC])
   refine wpAnyH_ready (rs:=[2,10]) (by kernel_rfl) (by simp) ?_;refine AllReadyH.cons (hdAt (i:=2) rfl) (fun K hK=>?_) (AllReadyH.cons (hdAt (i:=10) rfl) (fun K hK=>?_) AllReadyH.nil)
   · skip
     have hBs':=hBs
     (go_simp;(go_at_call 79;refine (cloneI_c dc (HHd.out.keep hb) hdn).mono ?_;rintro e W28 ⟨xa,xc,rfl,hD,hbX⟩);go_wp2_with fail)
     replace hA:=hA.keep hbX hA.lt;replace hF:=hF.keep hbX hF.lt;replace hR:=hR.keep hbX hR.lt;replace hb:=bT' hb hbX hb.size;replace hBs:=Nat.le_trans hBs hbX.size;replace hN:=hN.keep hbX hN.lt;replace hD:=row_weaken hD hBs';clear hBs';clear hbX;refine hK.out _ _ ?_ (fun _=>?_)
     · ((try dsimp only);(exact ⟨hA.cell 0,hA.cell 1,hF.cell 0⟩))
     clear hK K
     (try simp only [Act.put,pA,pB,pC])
     refine wpAnyH_ready (rs:=[5,10]) (by kernel_rfl) (by simp) ?_;refine AllReadyH.cons (hdAt (i:=5) rfl) (fun K hK=>?_) (AllReadyH.cons (hdAt (i:=10) rfl) (fun K hK=>?_) AllReadyH.nil)
     · skip
       have HNW:Hid (∀j u,([Value.int .i64 d]:List Value)[j]? = some u→W28.cell? ((⟨ghN,0,none⟩:Addr).add j)=some u):=Lib.hid (fun j u hu=>by rw [Addr.add_mid];exact hN.range j u hu);have HRW:=Lib.hid hD;have hszW:B0≤W28.heap.size:=hBs;rw [if_pos (by rfl)];refine wp_append_own_wide _ (.tmp 42) (.tmp 44) 22 rfl B0 2 ti2 tz2 1 8 Try.underlying22 HI2.out HZ2.out HS2.out HBt2.out HZs2.out (by omega) (.slice xa dn xc) dn _ rfl HRW.out ⟨ghN,0,none⟩ 1 1 [Value.int .i64 d] rfl rfl HNW.out HOD.out (by simp only [maxLen];omega) (by omega) hszW (fun v' W29 h2 h3 h4=>?_);obtain ⟨xad,xcd,rfl⟩:=row_slice h2;replace hA:=hA.grown h3 (own_ne_row hA HRW.out (by decide));replace hF:=hF.grown h3 (own_ne_row hF HRW.out (by decide));replace hR:=hR.grown h3 (own_ne_row hR HRW.out (by decide));replace hb:=grown_below hb h3 (fun j e=>by have:=(HRW.out.lt j e).1;omega) hb.size;replace hBs:=Nat.le_trans hBs h3.size;clear hD hN;have hD:=h2;clear h2 h4;clear HNW HRW hszW h3;refine hK.out _ _ ?_ (fun _=>?_)
       · ((try dsimp only);(exact ⟨hA.cell 0,hA.cell 1,hF.cell 0⟩))
       clear hK K
       (try simp only [Act.put,pA,pB,pC])
       refine wpAnyH_ready (rs:=[8,10]) (by kernel_rfl) (by simp) ?_;refine AllReadyH.cons (hdAt (i:=8) rfl) (fun K hK=>?_) (AllReadyH.cons (hdAt (i:=10) rfl) (fun K hK=>?_) AllReadyH.nil)
       · skip
         have hBs':=hBs
         (go_simp;(go_at_call 80;refine (cloneF_c c (fun j v hv=>(World.cell?_of_block (a:=⟨gi,oi+j,none⟩) (hb.block gi (World.block_lt_of_cell? w ⟨gi,oi+j,none⟩ (HV.out j v hv)))).trans (HV.out j v hv)) HV1.out HVL.out hn).mono ?_;rintro e W30 ⟨ia,ic,rfl,hI,hbX⟩);go_wp2_with fail)
         replace hA:=hA.keep hbX hA.lt;replace hF:=hF.keep hbX hF.lt;replace hR:=hR.keep hbX hR.lt;replace hb:=bT' hb hbX hb.size;replace hBs:=Nat.le_trans hBs hbX.size;replace hD:=row_keep hD hbX;replace hI:=row_weaken hI hBs';clear hBs';clear hbX;refine hK.out _ _ ?_ (fun _=>?_)
         · ((try dsimp only);(exact ⟨hA.cell 0,hA.cell 1,hF.cell 0⟩))
         clear hK K
         (try simp only [Act.put,pA,pB,pC])
         refine hdC 10 (fun K hK=>?_)
         (go_simp;try go_wp2_with fail)
         have hM:=Own.new W30 47 #[.slice (some ⟨gf,of,none⟩) fn fc];have hbX:=bA1 W30 (.cells #[.slice (some ⟨gf,of,none⟩) fn fc] 47);replace hA:=hA.keep hbX hA.lt;replace hF:=hF.keep hbX hF.lt;replace hR:=hR.keep hbX hR.lt;replace hb:=bT' hb hbX hb.size;replace hBs:=Nat.le_trans hBs hbX.size;replace hD:=row_keep hD hbX;replace hI:=row_keep hI hbX;generalize W30.alloc (.cells #[.slice (some ⟨gf,of,none⟩) fn fc] 47)=W31 at *;generalize hhMg:W30.heap.size=ghM at *;clear hbX hhMg;refine hK.out _ _ ?_ (fun _=>?_)
         · ((try dsimp only);(exact ⟨hA.cell 0,hA.cell 1,hF.cell 0⟩))
         clear hK K
         (try simp only [Act.put,pA,pB,pC])
         refine hdC 11 (fun K hK=>?_);have HNW:Hid (∀j u,([Value.slice (some ⟨gf,of,none⟩) fn fc]:List Value)[j]? = some u→W31.cell? ((⟨ghM,0,none⟩:Addr).add j)=some u):=Lib.hid (fun j u hu=>by rw [Addr.add_mid];exact hM.range j u hu);have HRW:=Lib.hid hI;have hszW:B0≤W31.heap.size:=hBs;rw [if_pos (by rfl)];refine wp_append_own_wide _ (.tmp 48) (.tmp 50) 27 rfl B0 47 ti tz 1 24 Try.underlying27 HI.out HZ.out HS.out HBt.out HZs.out (by omega) (.slice ia n ic) n _ rfl HRW.out ⟨ghM,0,none⟩ 1 1 [Value.slice (some ⟨gf,of,none⟩) fn fc] rfl rfl HNW.out HOF.out (by simp only [maxLen];omega) (by omega) hszW (fun v' W32 h2 h3 h4=>?_);obtain ⟨xai,xci,rfl⟩:=row_slice h2;replace hA:=hA.grown h3 (own_ne_row hA HRW.out (by decide));replace hF:=hF.grown h3 (fun e=>by have:=(HRW.out.lt _ e.symm).1;omega);replace hR:=hR.grown h3 (own_ne_row hR HRW.out (by decide));replace hb:=grown_below hb h3 (fun j e=>by have:=(HRW.out.lt j e).1;omega) hb.size;replace hBs:=Nat.le_trans hBs h3.size;replace hD:=row_grown hD HRW.out (by decide) h3;clear hI hM;have hI:=h2;clear h2 h4;clear HNW HRW hszW h3;refine hK.out _ _ ?_ (fun _=>?_)
         · ((try dsimp only);(exact ⟨hA.cell 0,hA.cell 1,hF.cell 0⟩))
         clear hK K
         (try simp only [Act.put,pA,pB,pC])
         refine hdC 12 (fun K hK=>?_);obtain ⟨gD,cD,heD,hDI⟩:=ints_row (zs:=zs++[d]) (by rw [List.map_append];exact hD) (by omega);simp only [Value.slice.injEq] at heD;obtain ⟨heD,-,-⟩:=heD;subst heD;have HSN:Hid (∀(j:Nat) u ts,(vs++[Value.slice (some ⟨gf,of,none⟩) fn fc])[j]? = some u→(ims++[fs])[j]? = some ts→SlN W32 u ts):=Lib.hid (sln_snoc HVL.out HLn.out (fun j u ts h1 h2=>(HVS.out j u ts h1 h2).keep hb) ⟨_,_,_,rfl,HH.out.keep hb,Or.inr ⟨_,_,rfl⟩⟩);obtain ⟨gI,cI,heI,hIN⟩:=frmsN_row (fss:=ims++[fs]) hI (by rw [List.length_append,HLn.out];rfl) HSN.out (by omega);simp only [Value.slice.injEq] at heI;obtain ⟨heI,-,-⟩:=heI;subst heI;clear hD hI HSN
         (go_simp;(go_at_call 59;refine (newAlgebra_c _ _ hDI (by omega) hIN (by omega) (tm_snoc HTT.out HH.out.2.1) (by rw [sum_snoc,HFLL.out];exact HSB.out)).mono ?_;rintro e W33 ⟨ra,rac,rb,rfl,hV,hVF,hbX⟩);go_wp2_with fail)
         clear hDI hIN;have hBs':=hBs;replace hA:=hA.keep hbX hA.lt;replace hF:=hF.keep hbX hF.lt;replace hR:=hR.keep hbX hR.lt;replace hb:=bT' hb hbX hb.size;replace hBs:=Nat.le_trans hBs hbX.size;replace hV:=hV.weaken (lo':=B0) hBs' (Nat.le_refl _);replace hVF:=hVF.weaken (lo':=B0) hBs' (Nat.le_refl _);clear hbX hBs';refine hK.out _ _ ?_ (fun _=>?_)
         · ((try dsimp only);(exact ⟨hA.cell 0,hA.cell 1,hF.cell 0⟩))
         clear hK K
         (try simp only [Act.put,pA,pB,pC])
         refine hdC 13 (fun K hK=>?_);have r0:=hR.cell 0;have r1:=hR.cell 1;have f0:=hR.frozen 0;have f1:=hR.frozen 1
         (go_simp;go_wp2_with fail)
         have hTo:Touch (fun k=>k=w.heap.size+2) W33 ((W33.setCell ⟨w.heap.size+2,0,none⟩ (.slice ra (dn+1) rac)).setCell ⟨w.heap.size+2,1,none⟩ (.slice rb (n+1) (n+1))):=Touch.of_only (((Only.refl (w.heap.size+2) W33).set 0 _).set 1 _);replace hR:=(hR.set 0 (.slice ra (dn+1) rac)).set 1 (.slice rb (n+1) (n+1));replace hA:=hTo.own hA (by omega);replace hF:=hTo.own hF (by omega);replace hV:=(hV.touch hTo (fun q h1 h2=>by omega)).weaken (Nat.le_refl _) hTo.below.size;replace hVF:=(hVF.touch hTo (fun q h1 h2=>by omega)).weaken (Nat.le_refl _) hTo.below.size;replace hb:=(hb.setCell (p:=⟨w.heap.size+2,0,none⟩) (by dsimp only;omega) (.slice ra (dn+1) rac)).setCell (p:=⟨w.heap.size+2,1,none⟩) (by dsimp only;omega) (.slice rb (n+1) (n+1));clear hTo r0 r1 f0 f1 hBs;generalize (W33.setCell ⟨w.heap.size+2,0,none⟩ (.slice ra (dn+1) rac)).setCell ⟨w.heap.size+2,1,none⟩ (.slice rb (n+1) (n+1))=W34 at *;refine hK.out _ _ ?_ (fun _=>?_)
         · ((try dsimp only);(exact ⟨hA.cell 0,hA.cell 1,hF.cell 0⟩))
         clear hK K
         (try simp only [Act.put,pA,pB,pC])
         refine hdT 14 ?_;refine wpAnyH_done (by kernel_rfl) ?_ _;go_wp2_with fail
         refine bodyPost_ret (results_row2 rfl _ _ (w.heap.size+2) 29 #[.slice ra (dn+1) rac,.slice rb (n+1) (n+1)] (0,0) _ rfl hR Try.underlying29 rfl Try.info_alg) rfl ⟨ra,dn+1,rac,rb,n+1,n+1,by rw [HE.out.1];rfl,?_,?_,hb⟩
         · rw [HE.out.2.1];exact hV.weaken (by omega) (Nat.le_refl _)
         · rw [HE.out.2.2];exact hVF.weaken (by omega) (Nat.le_refl _)
       · skip
         (go_simp;try go_wp2_with fail)
         have hM:=Own.new W29 47 #[.slice (some ⟨gf,of,none⟩) fn fc];have hbX:=bA1 W29 (.cells #[.slice (some ⟨gf,of,none⟩) fn fc] 47);replace hA:=hA.keep hbX hA.lt;replace hF:=hF.keep hbX hF.lt;replace hR:=hR.keep hbX hR.lt;replace hb:=bT' hb hbX hb.size;replace hBs:=Nat.le_trans hBs hbX.size;replace hD:=row_keep hD hbX;generalize W29.alloc (.cells #[.slice (some ⟨gf,of,none⟩) fn fc] 47)=W35 at *;generalize hhMg:W29.heap.size=ghM at *;clear hbX hhMg;refine hK.out _ _ ?_ (fun _=>?_)
         · ((try dsimp only);(exact ⟨hA.cell 0,hA.cell 1,hF.cell 0⟩))
         clear hK K
         (try simp only [Act.put,pA,pB,pC])
         refine hdC 8 (fun K hK=>?_);have hBs':=hBs
         (go_simp;(go_at_call 80;refine (cloneF_c c (fun j v hv=>(World.cell?_of_block (a:=⟨gi,oi+j,none⟩) (hb.block gi (World.block_lt_of_cell? w ⟨gi,oi+j,none⟩ (HV.out j v hv)))).trans (HV.out j v hv)) HV1.out HVL.out hn).mono ?_;rintro e W36 ⟨ia,ic,rfl,hI,hbX⟩);go_wp2_with fail)
         replace hA:=hA.keep hbX hA.lt;replace hF:=hF.keep hbX hF.lt;replace hR:=hR.keep hbX hR.lt;replace hb:=bT' hb hbX hb.size;replace hBs:=Nat.le_trans hBs hbX.size;replace hD:=row_keep hD hbX;replace hM:=hM.keep hbX hM.lt;replace hI:=row_weaken hI hBs';clear hBs';clear hbX;refine hK.out _ _ ?_ (fun _=>?_)
         · ((try dsimp only);(exact ⟨hA.cell 0,hA.cell 1,hF.cell 0⟩))
         clear hK K
         (try simp only [Act.put,pA,pB,pC])
         refine hdC 11 (fun K hK=>?_);have HNW:Hid (∀j u,([Value.slice (some ⟨gf,of,none⟩) fn fc]:List Value)[j]? = some u→W36.cell? ((⟨ghM,0,none⟩:Addr).add j)=some u):=Lib.hid (fun j u hu=>by rw [Addr.add_mid];exact hM.range j u hu);have HRW:=Lib.hid hI;have hszW:B0≤W36.heap.size:=hBs;rw [if_pos (by rfl)];refine wp_append_own_wide _ (.tmp 48) (.tmp 50) 27 rfl B0 47 ti tz 1 24 Try.underlying27 HI.out HZ.out HS.out HBt.out HZs.out (by omega) (.slice ia n ic) n _ rfl HRW.out ⟨ghM,0,none⟩ 1 1 [Value.slice (some ⟨gf,of,none⟩) fn fc] rfl rfl HNW.out HOF.out (by simp only [maxLen];omega) (by omega) hszW (fun v' W37 h2 h3 h4=>?_);obtain ⟨xai,xci,rfl⟩:=row_slice h2;replace hA:=hA.grown h3 (own_ne_row hA HRW.out (by decide));replace hF:=hF.grown h3 (fun e=>by have:=(HRW.out.lt _ e.symm).1;omega);replace hR:=hR.grown h3 (own_ne_row hR HRW.out (by decide));replace hb:=grown_below hb h3 (fun j e=>by have:=(HRW.out.lt j e).1;omega) hb.size;replace hBs:=Nat.le_trans hBs h3.size;replace hD:=row_grown hD HRW.out (by decide) h3;clear hI hM;have hI:=h2;clear h2 h4;clear HNW HRW hszW h3;refine hK.out _ _ ?_ (fun _=>?_)
         · ((try dsimp only);(exact ⟨hA.cell 0,hA.cell 1,hF.cell 0⟩))
         clear hK K
         (try simp only [Act.put,pA,pB,pC])
         refine hdC 12 (fun K hK=>?_);obtain ⟨gD,cD,heD,hDI⟩:=ints_row (zs:=zs++[d]) (by rw [List.map_append];exact hD) (by omega);simp only [Value.slice.injEq] at heD;obtain ⟨heD,-,-⟩:=heD;subst heD;have HSN:Hid (∀(j:Nat) u ts,(vs++[Value.slice (some ⟨gf,of,none⟩) fn fc])[j]? = some u→(ims++[fs])[j]? = some ts→SlN W37 u ts):=Lib.hid (sln_snoc HVL.out HLn.out (fun j u ts h1 h2=>(HVS.out j u ts h1 h2).keep hb) ⟨_,_,_,rfl,HH.out.keep hb,Or.inr ⟨_,_,rfl⟩⟩);obtain ⟨gI,cI,heI,hIN⟩:=frmsN_row (fss:=ims++[fs]) hI (by rw [List.length_append,HLn.out];rfl) HSN.out (by omega);simp only [Value.slice.injEq] at heI;obtain ⟨heI,-,-⟩:=heI;subst heI;clear hD hI HSN
         (go_simp;(go_at_call 59;refine (newAlgebra_c _ _ hDI (by omega) hIN (by omega) (tm_snoc HTT.out HH.out.2.1) (by rw [sum_snoc,HFLL.out];exact HSB.out)).mono ?_;rintro e W38 ⟨ra,rac,rb,rfl,hV,hVF,hbX⟩);go_wp2_with fail)
         clear hDI hIN;have hBs':=hBs;replace hA:=hA.keep hbX hA.lt;replace hF:=hF.keep hbX hF.lt;replace hR:=hR.keep hbX hR.lt;replace hb:=bT' hb hbX hb.size;replace hBs:=Nat.le_trans hBs hbX.size;replace hV:=hV.weaken (lo':=B0) hBs' (Nat.le_refl _);replace hVF:=hVF.weaken (lo':=B0) hBs' (Nat.le_refl _);clear hbX hBs';refine hK.out _ _ ?_ (fun _=>?_)
         · ((try dsimp only);(exact ⟨hA.cell 0,hA.cell 1,hF.cell 0⟩))
         clear hK K
         (try simp only [Act.put,pA,pB,pC])
         refine hdC 13 (fun K hK=>?_);have r0:=hR.cell 0;have r1:=hR.cell 1;have f0:=hR.frozen 0;have f1:=hR.frozen 1
         (go_simp;go_wp2_with fail)
         have hTo:Touch (fun k=>k=w.heap.size+2) W38 ((W38.setCell ⟨w.heap.size+2,0,none⟩ (.slice ra (dn+1) rac)).setCell ⟨w.heap.size+2,1,none⟩ (.slice rb (n+1) (n+1))):=Touch.of_only (((Only.refl (w.heap.size+2) W38).set 0 _).set 1 _);replace hR:=(hR.set 0 (.slice ra (dn+1) rac)).set 1 (.slice rb (n+1) (n+1));replace hA:=hTo.own hA (by omega);replace hF:=hTo.own hF (by omega);replace hV:=(hV.touch hTo (fun q h1 h2=>by omega)).weaken (Nat.le_refl _) hTo.below.size;replace hVF:=(hVF.touch hTo (fun q h1 h2=>by omega)).weaken (Nat.le_refl _) hTo.below.size;replace hb:=(hb.setCell (p:=⟨w.heap.size+2,0,none⟩) (by dsimp only;omega) (.slice ra (dn+1) rac)).setCell (p:=⟨w.heap.size+2,1,none⟩) (by dsimp only;omega) (.slice rb (n+1) (n+1));clear hTo r0 r1 f0 f1 hBs;generalize (W38.setCell ⟨w.heap.size+2,0,none⟩ (.slice ra (dn+1) rac)).setCell ⟨w.heap.size+2,1,none⟩ (.slice rb (n+1) (n+1))=W39 at *;refine hK.out _ _ ?_ (fun _=>?_)
         · ((try dsimp only);(exact ⟨hA.cell 0,hA.cell 1,hF.cell 0⟩))
         clear hK K
         (try simp only [Act.put,pA,pB,pC])
         refine hdT 14 ?_;refine wpAnyH_done (by kernel_rfl) ?_ _;go_wp2_with fail
         refine bodyPost_ret (results_row2 rfl _ _ (w.heap.size+2) 29 #[.slice ra (dn+1) rac,.slice rb (n+1) (n+1)] (0,0) _ rfl hR Try.underlying29 rfl Try.info_alg) rfl ⟨ra,dn+1,rac,rb,n+1,n+1,by rw [HE.out.1];rfl,?_,?_,hb⟩
         · rw [HE.out.2.1];exact hV.weaken (by omega) (Nat.le_refl _)
         · rw [HE.out.2.2];exact hVF.weaken (by omega) (Nat.le_refl _)
     · skip
       (go_simp;try go_wp2_with fail)
       have hM:=Own.new W28 47 #[.slice (some ⟨gf,of,none⟩) fn fc];have hbX:=bA1 W28 (.cells #[.slice (some ⟨gf,of,none⟩) fn fc] 47);replace hA:=hA.keep hbX hA.lt;replace hF:=hF.keep hbX hF.lt;replace hR:=hR.keep hbX hR.lt;replace hb:=bT' hb hbX hb.size;replace hBs:=Nat.le_trans hBs hbX.size;replace hD:=row_keep hD hbX;replace hN:=hN.keep hbX hN.lt;generalize W28.alloc (.cells #[.slice (some ⟨gf,of,none⟩) fn fc] 47)=W40 at *;generalize hhMg:W28.heap.size=ghM at *;clear hbX hhMg;refine hK.out _ _ ?_ (fun _=>?_)
       · ((try dsimp only);(exact ⟨hA.cell 0,hA.cell 1,hF.cell 0⟩))
       clear hK K
       (try simp only [Act.put,pA,pB,pC])
       refine hdC 5 (fun K hK=>?_);have HNW:Hid (∀j u,([Value.int .i64 d]:List Value)[j]? = some u→W40.cell? ((⟨ghN,0,none⟩:Addr).add j)=some u):=Lib.hid (fun j u hu=>by rw [Addr.add_mid];exact hN.range j u hu);have HRW:=Lib.hid hD;have hszW:B0≤W40.heap.size:=hBs;rw [if_pos (by rfl)];refine wp_append_own_wide _ (.tmp 42) (.tmp 44) 22 rfl B0 2 ti2 tz2 1 8 Try.underlying22 HI2.out HZ2.out HS2.out HBt2.out HZs2.out (by omega) (.slice xa dn xc) dn _ rfl HRW.out ⟨ghN,0,none⟩ 1 1 [Value.int .i64 d] rfl rfl HNW.out HOD.out (by simp only [maxLen];omega) (by omega) hszW (fun v' W41 h2 h3 h4=>?_);obtain ⟨xad,xcd,rfl⟩:=row_slice h2;replace hA:=hA.grown h3 (own_ne_row hA HRW.out (by decide));replace hF:=hF.grown h3 (own_ne_row hF HRW.out (by decide));replace hR:=hR.grown h3 (own_ne_row hR HRW.out (by decide));replace hb:=grown_below hb h3 (fun j e=>by have:=(HRW.out.lt j e).1;omega) hb.size;replace hBs:=Nat.le_trans hBs h3.size;replace hM:=hM.grown h3 (own_ne_row hM HRW.out (by decide));clear hD hN;have hD:=h2;clear h2 h4;clear HNW HRW hszW h3;refine hK.out _ _ ?_ (fun _=>?_)
       · ((try dsimp only);(exact ⟨hA.cell 0,hA.cell 1,hF.cell 0⟩))
       clear hK K
       (try simp only [Act.put,pA,pB,pC])
       refine hdC 8 (fun K hK=>?_);have hBs':=hBs
       (go_simp;(go_at_call 80;refine (cloneF_c c (fun j v hv=>(World.cell?_of_block (a:=⟨gi,oi+j,none⟩) (hb.block gi (World.block_lt_of_cell? w ⟨gi,oi+j,none⟩ (HV.out j v hv)))).trans (HV.out j v hv)) HV1.out HVL.out hn).mono ?_;rintro e W42 ⟨ia,ic,rfl,hI,hbX⟩);go_wp2_with fail)
       replace hA:=hA.keep hbX hA.lt;replace hF:=hF.keep hbX hF.lt;replace hR:=hR.keep hbX hR.lt;replace hb:=bT' hb hbX hb.size;replace hBs:=Nat.le_trans hBs hbX.size;replace hD:=row_keep hD hbX;replace hM:=hM.keep hbX hM.lt;replace hI:=row_weaken hI hBs';clear hBs';clear hbX;refine hK.out _ _ ?_ (fun _=>?_)
       · ((try dsimp only);(exact ⟨hA.cell 0,hA.cell 1,hF.cell 0⟩))
       clear hK K
       (try simp only [Act.put,pA,pB,pC])
       refine hdC 11 (fun K hK=>?_);have HNW:Hid (∀j u,([Value.slice (some ⟨gf,of,none⟩) fn fc]:List Value)[j]? = some u→W42.cell? ((⟨ghM,0,none⟩:Addr).add j)=some u):=Lib.hid (fun j u hu=>by rw [Addr.add_mid];exact hM.range j u hu);have HRW:=Lib.hid hI;have hszW:B0≤W42.heap.size:=hBs;rw [if_pos (by rfl)];refine wp_append_own_wide _ (.tmp 48) (.tmp 50) 27 rfl B0 47 ti tz 1 24 Try.underlying27 HI.out HZ.out HS.out HBt.out HZs.out (by omega) (.slice ia n ic) n _ rfl HRW.out ⟨ghM,0,none⟩ 1 1 [Value.slice (some ⟨gf,of,none⟩) fn fc] rfl rfl HNW.out HOF.out (by simp only [maxLen];omega) (by omega) hszW (fun v' W43 h2 h3 h4=>?_);obtain ⟨xai,xci,rfl⟩:=row_slice h2;replace hA:=hA.grown h3 (own_ne_row hA HRW.out (by decide));replace hF:=hF.grown h3 (fun e=>by have:=(HRW.out.lt _ e.symm).1;omega);replace hR:=hR.grown h3 (own_ne_row hR HRW.out (by decide));replace hb:=grown_below hb h3 (fun j e=>by have:=(HRW.out.lt j e).1;omega) hb.size;replace hBs:=Nat.le_trans hBs h3.size;replace hD:=row_grown hD HRW.out (by decide) h3;clear hI hM;have hI:=h2;clear h2 h4;clear HNW HRW hszW h3;refine hK.out _ _ ?_ (fun _=>?_)
       · ((try dsimp only);(exact ⟨hA.cell 0,hA.cell 1,hF.cell 0⟩))
       clear hK K
       (try simp only [Act.put,pA,pB,pC])
       refine hdC 12 (fun K hK=>?_);obtain ⟨gD,cD,heD,hDI⟩:=ints_row (zs:=zs++[d]) (by rw [List.map_append];exact hD) (by omega);simp only [Value.slice.injEq] at heD;obtain ⟨heD,-,-⟩:=heD;subst heD;have HSN:Hid (∀(j:Nat) u ts,(vs++[Value.slice (some ⟨gf,of,none⟩) fn fc])[j]? = some u→(ims++[fs])[j]? = some ts→SlN W43 u ts):=Lib.hid (sln_snoc HVL.out HLn.out (fun j u ts h1 h2=>(HVS.out j u ts h1 h2).keep hb) ⟨_,_,_,rfl,HH.out.keep hb,Or.inr ⟨_,_,rfl⟩⟩);obtain ⟨gI,cI,heI,hIN⟩:=frmsN_row (fss:=ims++[fs]) hI (by rw [List.length_append,HLn.out];rfl) HSN.out (by omega);simp only [Value.slice.injEq] at heI;obtain ⟨heI,-,-⟩:=heI;subst heI;clear hD hI HSN
       (go_simp;(go_at_call 59;refine (newAlgebra_c _ _ hDI (by omega) hIN (by omega) (tm_snoc HTT.out HH.out.2.1) (by rw [sum_snoc,HFLL.out];exact HSB.out)).mono ?_;rintro e W44 ⟨ra,rac,rb,rfl,hV,hVF,hbX⟩);go_wp2_with fail)
       clear hDI hIN;have hBs':=hBs;replace hA:=hA.keep hbX hA.lt;replace hF:=hF.keep hbX hF.lt;replace hR:=hR.keep hbX hR.lt;replace hb:=bT' hb hbX hb.size;replace hBs:=Nat.le_trans hBs hbX.size;replace hV:=hV.weaken (lo':=B0) hBs' (Nat.le_refl _);replace hVF:=hVF.weaken (lo':=B0) hBs' (Nat.le_refl _);clear hbX hBs';refine hK.out _ _ ?_ (fun _=>?_)
       · ((try dsimp only);(exact ⟨hA.cell 0,hA.cell 1,hF.cell 0⟩))
       clear hK K
       (try simp only [Act.put,pA,pB,pC])
       refine hdC 13 (fun K hK=>?_);have r0:=hR.cell 0;have r1:=hR.cell 1;have f0:=hR.frozen 0;have f1:=hR.frozen 1
       (go_simp;go_wp2_with fail)
       have hTo:Touch (fun k=>k=w.heap.size+2) W44 ((W44.setCell ⟨w.heap.size+2,0,none⟩ (.slice ra (dn+1) rac)).setCell ⟨w.heap.size+2,1,none⟩ (.slice rb (n+1) (n+1))):=Touch.of_only (((Only.refl (w.heap.size+2) W44).set 0 _).set 1 _);replace hR:=(hR.set 0 (.slice ra (dn+1) rac)).set 1 (.slice rb (n+1) (n+1));replace hA:=hTo.own hA (by omega);replace hF:=hTo.own hF (by omega);replace hV:=(hV.touch hTo (fun q h1 h2=>by omega)).weaken (Nat.le_refl _) hTo.below.size;replace hVF:=(hVF.touch hTo (fun q h1 h2=>by omega)).weaken (Nat.le_refl _) hTo.below.size;replace hb:=(hb.setCell (p:=⟨w.heap.size+2,0,none⟩) (by dsimp only;omega) (.slice ra (dn+1) rac)).setCell (p:=⟨w.heap.size+2,1,none⟩) (by dsimp only;omega) (.slice rb (n+1) (n+1));clear hTo r0 r1 f0 f1 hBs;generalize (W44.setCell ⟨w.heap.size+2,0,none⟩ (.slice ra (dn+1) rac)).setCell ⟨w.heap.size+2,1,none⟩ (.slice rb (n+1) (n+1))=W45 at *;refine hK.out _ _ ?_ (fun _=>?_)
       · ((try dsimp only);(exact ⟨hA.cell 0,hA.cell 1,hF.cell 0⟩))
       clear hK K
       (try simp only [Act.put,pA,pB,pC])
       refine hdT 14 ?_;refine wpAnyH_done (by kernel_rfl) ?_ _;go_wp2_with fail
       refine bodyPost_ret (results_row2 rfl _ _ (w.heap.size+2) 29 #[.slice ra (dn+1) rac,.slice rb (n+1) (n+1)] (0,0) _ rfl hR Try.underlying29 rfl Try.info_alg) rfl ⟨ra,dn+1,rac,rb,n+1,n+1,by rw [HE.out.1];rfl,?_,?_,hb⟩
       · rw [HE.out.2.1];exact hV.weaken (by omega) (Nat.le_refl _)
       · rw [HE.out.2.2];exact hVF.weaken (by omega) (Nat.le_refl _)
   · skip
     (go_simp;try go_wp2_with fail)
     have hM:=Own.new W27 47 #[.slice (some ⟨gf,of,none⟩) fn fc];have hbX:=bA1 W27 (.cells #[.slice (some ⟨gf,of,none⟩) fn fc] 47);replace hA:=hA.keep hbX hA.lt;replace hF:=hF.keep hbX hF.lt;replace hR:=hR.keep hbX hR.lt;replace hb:=bT' hb hbX hb.size;replace hBs:=Nat.le_trans hBs hbX.size;replace hN:=hN.keep hbX hN.lt;generalize W27.alloc (.cells #[.slice (some ⟨gf,of,none⟩) fn fc] 47)=W46 at *;generalize hhMg:W27.heap.size=ghM at *;clear hbX hhMg;refine hK.out _ _ ?_ (fun _=>?_)
     · ((try dsimp only);(exact ⟨hA.cell 0,hA.cell 1,hF.cell 0⟩))
     clear hK K
     (try simp only [Act.put,pA,pB,pC])
     refine hdC 2 (fun K hK=>?_);have hBs':=hBs
     (go_simp;(go_at_call 79;refine (cloneI_c dc (HHd.out.keep hb) hdn).mono ?_;rintro e W47 ⟨xa,xc,rfl,hD,hbX⟩);go_wp2_with fail)
     replace hA:=hA.keep hbX hA.lt;replace hF:=hF.keep hbX hF.lt;replace hR:=hR.keep hbX hR.lt;replace hb:=bT' hb hbX hb.size;replace hBs:=Nat.le_trans hBs hbX.size;replace hN:=hN.keep hbX hN.lt;replace hM:=hM.keep hbX hM.lt;replace hD:=row_weaken hD hBs';clear hBs';clear hbX;refine hK.out _ _ ?_ (fun _=>?_)
     · ((try dsimp only);(exact ⟨hA.cell 0,hA.cell 1,hF.cell 0⟩))
     clear hK K
     (try simp only [Act.put,pA,pB,pC])
     refine hdC 5 (fun K hK=>?_);have HNW:Hid (∀j u,([Value.int .i64 d]:List Value)[j]? = some u→W47.cell? ((⟨ghN,0,none⟩:Addr).add j)=some u):=Lib.hid (fun j u hu=>by rw [Addr.add_mid];exact hN.range j u hu);have HRW:=Lib.hid hD;have hszW:B0≤W47.heap.size:=hBs;rw [if_pos (by rfl)];refine wp_append_own_wide _ (.tmp 42) (.tmp 44) 22 rfl B0 2 ti2 tz2 1 8 Try.underlying22 HI2.out HZ2.out HS2.out HBt2.out HZs2.out (by omega) (.slice xa dn xc) dn _ rfl HRW.out ⟨ghN,0,none⟩ 1 1 [Value.int .i64 d] rfl rfl HNW.out HOD.out (by simp only [maxLen];omega) (by omega) hszW (fun v' W48 h2 h3 h4=>?_);obtain ⟨xad,xcd,rfl⟩:=row_slice h2;replace hA:=hA.grown h3 (own_ne_row hA HRW.out (by decide));replace hF:=hF.grown h3 (own_ne_row hF HRW.out (by decide));replace hR:=hR.grown h3 (own_ne_row hR HRW.out (by decide));replace hb:=grown_below hb h3 (fun j e=>by have:=(HRW.out.lt j e).1;omega) hb.size;replace hBs:=Nat.le_trans hBs h3.size;replace hM:=hM.grown h3 (own_ne_row hM HRW.out (by decide));clear hD hN;have hD:=h2;clear h2 h4;clear HNW HRW hszW h3;refine hK.out _ _ ?_ (fun _=>?_)
     · ((try dsimp only);(exact ⟨hA.cell 0,hA.cell 1,hF.cell 0⟩))
     clear hK K
     (try simp only [Act.put,pA,pB,pC])
     refine hdC 8 (fun K hK=>?_);have hBs':=hBs
     (go_simp;(go_at_call 80;refine (cloneF_c c (fun j v hv=>(World.cell?_of_block (a:=⟨gi,oi+j,none⟩) (hb.block gi (World.block_lt_of_cell? w ⟨gi,oi+j,none⟩ (HV.out j v hv)))).trans (HV.out j v hv)) HV1.out HVL.out hn).mono ?_;rintro e W49 ⟨ia,ic,rfl,hI,hbX⟩);go_wp2_with fail)
     replace hA:=hA.keep hbX hA.lt;replace hF:=hF.keep hbX hF.lt;replace hR:=hR.keep hbX hR.lt;replace hb:=bT' hb hbX hb.size;replace hBs:=Nat.le_trans hBs hbX.size;replace hD:=row_keep hD hbX;replace hM:=hM.keep hbX hM.lt;replace hI:=row_weaken hI hBs';clear hBs';clear hbX;refine hK.out _ _ ?_ (fun _=>?_)
     · ((try dsimp only);(exact ⟨hA.cell 0,hA.cell 1,hF.cell 0⟩))
     clear hK K
     (try simp only [Act.put,pA,pB,pC])
     refine hdC 11 (fun K hK=>?_);have HNW:Hid (∀j u,([Value.slice (some ⟨gf,of,none⟩) fn fc]:List Value)[j]? = some u→W49.cell? ((⟨ghM,0,none⟩:Addr).add j)=some u):=Lib.hid (fun j u hu=>by rw [Addr.add_mid];exact hM.range j u hu);have HRW:=Lib.hid hI;have hszW:B0≤W49.heap.size:=hBs;rw [if_pos (by rfl)];refine wp_append_own_wide _ (.tmp 48) (.tmp 50) 27 rfl B0 47 ti tz 1 24 Try.underlying27 HI.out HZ.out HS.out HBt.out HZs.out (by omega) (.slice ia n ic) n _ rfl HRW.out ⟨ghM,0,none⟩ 1 1 [Value.slice (some ⟨gf,of,none⟩) fn fc] rfl rfl HNW.out HOF.out (by simp only [maxLen];omega) (by omega) hszW (fun v' W50 h2 h3 h4=>?_);obtain ⟨xai,xci,rfl⟩:=row_slice h2;replace hA:=hA.grown h3 (own_ne_row hA HRW.out (by decide));replace hF:=hF.grown h3 (fun e=>by have:=(HRW.out.lt _ e.symm).1;omega);replace hR:=hR.grown h3 (own_ne_row hR HRW.out (by decide));replace hb:=grown_below hb h3 (fun j e=>by have:=(HRW.out.lt j e).1;omega) hb.size;replace hBs:=Nat.le_trans hBs h3.size;replace hD:=row_grown hD HRW.out (by decide) h3;clear hI hM;have hI:=h2;clear h2 h4;clear HNW HRW hszW h3;refine hK.out _ _ ?_ (fun _=>?_)
     · ((try dsimp only);(exact ⟨hA.cell 0,hA.cell 1,hF.cell 0⟩))
     clear hK K
     (try simp only [Act.put,pA,pB,pC])
     refine hdC 12 (fun K hK=>?_);obtain ⟨gD,cD,heD,hDI⟩:=ints_row (zs:=zs++[d]) (by rw [List.map_append];exact hD) (by omega);simp only [Value.slice.injEq] at heD;obtain ⟨heD,-,-⟩:=heD;subst heD;have HSN:Hid (∀(j:Nat) u ts,(vs++[Value.slice (some ⟨gf,of,none⟩) fn fc])[j]? = some u→(ims++[fs])[j]? = some ts→SlN W50 u ts):=Lib.hid (sln_snoc HVL.out HLn.out (fun j u ts h1 h2=>(HVS.out j u ts h1 h2).keep hb) ⟨_,_,_,rfl,HH.out.keep hb,Or.inr ⟨_,_,rfl⟩⟩);obtain ⟨gI,cI,heI,hIN⟩:=frmsN_row (fss:=ims++[fs]) hI (by rw [List.length_append,HLn.out];rfl) HSN.out (by omega);simp only [Value.slice.injEq] at heI;obtain ⟨heI,-,-⟩:=heI;subst heI;clear hD hI HSN
     (go_simp;(go_at_call 59;refine (newAlgebra_c _ _ hDI (by omega) hIN (by omega) (tm_snoc HTT.out HH.out.2.1) (by rw [sum_snoc,HFLL.out];exact HSB.out)).mono ?_;rintro e W51 ⟨ra,rac,rb,rfl,hV,hVF,hbX⟩);go_wp2_with fail)
     clear hDI hIN;have hBs':=hBs;replace hA:=hA.keep hbX hA.lt;replace hF:=hF.keep hbX hF.lt;replace hR:=hR.keep hbX hR.lt;replace hb:=bT' hb hbX hb.size;replace hBs:=Nat.le_trans hBs hbX.size;replace hV:=hV.weaken (lo':=B0) hBs' (Nat.le_refl _);replace hVF:=hVF.weaken (lo':=B0) hBs' (Nat.le_refl _);clear hbX hBs';refine hK.out _ _ ?_ (fun _=>?_)
     · ((try dsimp only);(exact ⟨hA.cell 0,hA.cell 1,hF.cell 0⟩))
     clear hK K
     (try simp only [Act.put,pA,pB,pC])
     refine hdC 13 (fun K hK=>?_);have r0:=hR.cell 0;have r1:=hR.cell 1;have f0:=hR.frozen 0;have f1:=hR.frozen 1
     (go_simp;go_wp2_with fail)
     have hTo:Touch (fun k=>k=w.heap.size+2) W51 ((W51.setCell ⟨w.heap.size+2,0,none⟩ (.slice ra (dn+1) rac)).setCell ⟨w.heap.size+2,1,none⟩ (.slice rb (n+1) (n+1))):=Touch.of_only (((Only.refl (w.heap.size+2) W51).set 0 _).set 1 _);replace hR:=(hR.set 0 (.slice ra (dn+1) rac)).set 1 (.slice rb (n+1) (n+1));replace hA:=hTo.own hA (by omega);replace hF:=hTo.own hF (by omega);replace hV:=(hV.touch hTo (fun q h1 h2=>by omega)).weaken (Nat.le_refl _) hTo.below.size;replace hVF:=(hVF.touch hTo (fun q h1 h2=>by omega)).weaken (Nat.le_refl _) hTo.below.size;replace hb:=(hb.setCell (p:=⟨w.heap.size+2,0,none⟩) (by dsimp only;omega) (.slice ra (dn+1) rac)).setCell (p:=⟨w.heap.size+2,1,none⟩) (by dsimp only;omega) (.slice rb (n+1) (n+1));clear hTo r0 r1 f0 f1 hBs;generalize (W51.setCell ⟨w.heap.size+2,0,none⟩ (.slice ra (dn+1) rac)).setCell ⟨w.heap.size+2,1,none⟩ (.slice rb (n+1) (n+1))=W52 at *;refine hK.out _ _ ?_ (fun _=>?_)
     · ((try dsimp only);(exact ⟨hA.cell 0,hA.cell 1,hF.cell 0⟩))
     clear hK K
     (try simp only [Act.put,pA,pB,pC])
     refine hdT 14 ?_;refine wpAnyH_done (by kernel_rfl) ?_ _;go_wp2_with fail
     refine bodyPost_ret (results_row2 rfl _ _ (w.heap.size+2) 29 #[.slice ra (dn+1) rac,.slice rb (n+1) (n+1)] (0,0) _ rfl hR Try.underlying29 rfl Try.info_alg) rfl ⟨ra,dn+1,rac,rb,n+1,n+1,by rw [HE.out.1];rfl,?_,?_,hb⟩
     · rw [HE.out.2.1];exact hV.weaken (by omega) (Nat.le_refl _)
     · rw [HE.out.2.2];exact hVF.weaken (by omega) (Nat.le_refl _)
 · skip
   (go_simp;try go_wp2_with fail)
   have hM:=Own.new W0d 47 #[.slice (some ⟨gf,of,none⟩) fn fc];have hbX:=bA1 W0d (.cells #[.slice (some ⟨gf,of,none⟩) fn fc] 47);replace hA:=hA.keep hbX hA.lt;replace hF:=hF.keep hbX hF.lt;replace hR:=hR.keep hbX hR.lt;replace hb:=bT' hb hbX hb.size;replace hBs:=Nat.le_trans hBs hbX.size;generalize W0d.alloc (.cells #[.slice (some ⟨gf,of,none⟩) fn fc] 47)=W53 at *;generalize hhMg:W0d.heap.size=ghM at *;clear hbX hhMg;refine hK.out _ _ ?_ (fun _=>?_)
   · ((try dsimp only);(exact ⟨hA.cell 0,hA.cell 1,hF.cell 0⟩))
   clear hK K
   (try simp only [Act.put,pA,pB,pC])
   refine wpAnyH_ready (rs:=[2,4]) (by kernel_rfl) (by simp) ?_;refine AllReadyH.cons (hdAt (i:=2) rfl) (fun K hK=>?_) (AllReadyH.cons (hdAt (i:=4) rfl) (fun K hK=>?_) AllReadyH.nil)
   · skip
     have hBs':=hBs
     (go_simp;(go_at_call 79;refine (cloneI_c dc (HHd.out.keep hb) hdn).mono ?_;rintro e W54 ⟨xa,xc,rfl,hD,hbX⟩);go_wp2_with fail)
     replace hA:=hA.keep hbX hA.lt;replace hF:=hF.keep hbX hF.lt;replace hR:=hR.keep hbX hR.lt;replace hb:=bT' hb hbX hb.size;replace hBs:=Nat.le_trans hBs hbX.size;replace hM:=hM.keep hbX hM.lt;replace hD:=row_weaken hD hBs';clear hBs';clear hbX;refine hK.out _ _ ?_ (fun _=>?_)
     · ((try dsimp only);(exact ⟨hA.cell 0,hA.cell 1,hF.cell 0⟩))
     clear hK K
     (try simp only [Act.put,pA,pB,pC])
     refine hdC 4 (fun K hK=>?_)
     (go_simp;try go_wp2_with fail)
     have hN:=Own.new W54 2 #[.int .i64 d];have hbX:=bA1 W54 (.cells #[.int .i64 d] 2);replace hA:=hA.keep hbX hA.lt;replace hF:=hF.keep hbX hF.lt;replace hR:=hR.keep hbX hR.lt;replace hb:=bT' hb hbX hb.size;replace hBs:=Nat.le_trans hBs hbX.size;replace hD:=row_keep hD hbX;replace hM:=hM.keep hbX hM.lt;generalize W54.alloc (.cells #[.int .i64 d] 2)=W55 at *;generalize hhNg:W54.heap.size=ghN at *;clear hbX hhNg;refine hK.out _ _ ?_ (fun _=>?_)
     · ((try dsimp only);(exact ⟨hA.cell 0,hA.cell 1,hF.cell 0⟩))
     clear hK K
     (try simp only [Act.put,pA,pB,pC])
     refine hdC 5 (fun K hK=>?_);have HNW:Hid (∀j u,([Value.int .i64 d]:List Value)[j]? = some u→W55.cell? ((⟨ghN,0,none⟩:Addr).add j)=some u):=Lib.hid (fun j u hu=>by rw [Addr.add_mid];exact hN.range j u hu);have HRW:=Lib.hid hD;have hszW:B0≤W55.heap.size:=hBs;rw [if_pos (by rfl)];refine wp_append_own_wide _ (.tmp 42) (.tmp 44) 22 rfl B0 2 ti2 tz2 1 8 Try.underlying22 HI2.out HZ2.out HS2.out HBt2.out HZs2.out (by omega) (.slice xa dn xc) dn _ rfl HRW.out ⟨ghN,0,none⟩ 1 1 [Value.int .i64 d] rfl rfl HNW.out HOD.out (by simp only [maxLen];omega) (by omega) hszW (fun v' W56 h2 h3 h4=>?_);obtain ⟨xad,xcd,rfl⟩:=row_slice h2;replace hA:=hA.grown h3 (own_ne_row hA HRW.out (by decide));replace hF:=hF.grown h3 (own_ne_row hF HRW.out (by decide));replace hR:=hR.grown h3 (own_ne_row hR HRW.out (by decide));replace hb:=grown_below hb h3 (fun j e=>by have:=(HRW.out.lt j e).1;omega) hb.size;replace hBs:=Nat.le_trans hBs h3.size;replace hM:=hM.grown h3 (own_ne_row hM HRW.out (by decide));clear hD hN;have hD:=h2;clear h2 h4;clear HNW HRW hszW h3;refine hK.out _ _ ?_ (fun _=>?_)
     · ((try dsimp only);(exact ⟨hA.cell 0,hA.cell 1,hF.cell 0⟩))
     clear hK K
     (try simp only [Act.put,pA,pB,pC])
     refine hdC 8 (fun K hK=>?_);have hBs':=hBs
     (go_simp;(go_at_call 80;refine (cloneF_c c (fun j v hv=>(World.cell?_of_block (a:=⟨gi,oi+j,none⟩) (hb.block gi (World.block_lt_of_cell? w ⟨gi,oi+j,none⟩ (HV.out j v hv)))).trans (HV.out j v hv)) HV1.out HVL.out hn).mono ?_;rintro e W57 ⟨ia,ic,rfl,hI,hbX⟩);go_wp2_with fail)
     replace hA:=hA.keep hbX hA.lt;replace hF:=hF.keep hbX hF.lt;replace hR:=hR.keep hbX hR.lt;replace hb:=bT' hb hbX hb.size;replace hBs:=Nat.le_trans hBs hbX.size;replace hD:=row_keep hD hbX;replace hM:=hM.keep hbX hM.lt;replace hI:=row_weaken hI hBs';clear hBs';clear hbX;refine hK.out _ _ ?_ (fun _=>?_)
     · ((try dsimp only);(exact ⟨hA.cell 0,hA.cell 1,hF.cell 0⟩))
     clear hK K
     (try simp only [Act.put,pA,pB,pC])
     refine hdC 11 (fun K hK=>?_);have HNW:Hid (∀j u,([Value.slice (some ⟨gf,of,none⟩) fn fc]:List Value)[j]? = some u→W57.cell? ((⟨ghM,0,none⟩:Addr).add j)=some u):=Lib.hid (fun j u hu=>by rw [Addr.add_mid];exact hM.range j u hu);have HRW:=Lib.hid hI;have hszW:B0≤W57.heap.size:=hBs;rw [if_pos (by rfl)];refine wp_append_own_wide _ (.tmp 48) (.tmp 50) 27 rfl B0 47 ti tz 1 24 Try.underlying27 HI.out HZ.out HS.out HBt.out HZs.out (by omega) (.slice ia n ic) n _ rfl HRW.out ⟨ghM,0,none⟩ 1 1 [Value.slice (some ⟨gf,of,none⟩) fn fc] rfl rfl HNW.out HOF.out (by simp only [maxLen];omega) (by omega) hszW (fun v' W58 h2 h3 h4=>?_);obtain ⟨xai,xci,rfl⟩:=row_slice h2;replace hA:=hA.grown h3 (own_ne_row hA HRW.out (by decide));replace hF:=hF.grown h3 (fun e=>by have:=(HRW.out.lt _ e.symm).1;omega);replace hR:=hR.grown h3 (own_ne_row hR HRW.out (by decide));replace hb:=grown_below hb h3 (fun j e=>by have:=(HRW.out.lt j e).1;omega) hb.size;replace hBs:=Nat.le_trans hBs h3.size;replace hD:=row_grown hD HRW.out (by decide) h3;clear hI hM;have hI:=h2;clear h2 h4;clear HNW HRW hszW h3;refine hK.out _ _ ?_ (fun _=>?_)
     · ((try dsimp only);(exact ⟨hA.cell 0,hA.cell 1,hF.cell 0⟩))
     clear hK K
     (try simp only [Act.put,pA,pB,pC])
     refine hdC 12 (fun K hK=>?_);obtain ⟨gD,cD,heD,hDI⟩:=ints_row (zs:=zs++[d]) (by rw [List.map_append];exact hD) (by omega);simp only [Value.slice.injEq] at heD;obtain ⟨heD,-,-⟩:=heD;subst heD;have HSN:Hid (∀(j:Nat) u ts,(vs++[Value.slice (some ⟨gf,of,none⟩) fn fc])[j]? = some u→(ims++[fs])[j]? = some ts→SlN W58 u ts):=Lib.hid (sln_snoc HVL.out HLn.out (fun j u ts h1 h2=>(HVS.out j u ts h1 h2).keep hb) ⟨_,_,_,rfl,HH.out.keep hb,Or.inr ⟨_,_,rfl⟩⟩);obtain ⟨gI,cI,heI,hIN⟩:=frmsN_row (fss:=ims++[fs]) hI (by rw [List.length_append,HLn.out];rfl) HSN.out (by omega);simp only [Value.slice.injEq] at heI;obtain ⟨heI,-,-⟩:=heI;subst heI;clear hD hI HSN
     (go_simp;(go_at_call 59;refine (newAlgebra_c _ _ hDI (by omega) hIN (by omega) (tm_snoc HTT.out HH.out.2.1) (by rw [sum_snoc,HFLL.out];exact HSB.out)).mono ?_;rintro e W59 ⟨ra,rac,rb,rfl,hV,hVF,hbX⟩);go_wp2_with fail)
     clear hDI hIN;have hBs':=hBs;replace hA:=hA.keep hbX hA.lt;replace hF:=hF.keep hbX hF.lt;replace hR:=hR.keep hbX hR.lt;replace hb:=bT' hb hbX hb.size;replace hBs:=Nat.le_trans hBs hbX.size;replace hV:=hV.weaken (lo':=B0) hBs' (Nat.le_refl _);replace hVF:=hVF.weaken (lo':=B0) hBs' (Nat.le_refl _);clear hbX hBs';refine hK.out _ _ ?_ (fun _=>?_)
     · ((try dsimp only);(exact ⟨hA.cell 0,hA.cell 1,hF.cell 0⟩))
     clear hK K
     (try simp only [Act.put,pA,pB,pC])
     refine hdC 13 (fun K hK=>?_);have r0:=hR.cell 0;have r1:=hR.cell 1;have f0:=hR.frozen 0;have f1:=hR.frozen 1
     (go_simp;go_wp2_with fail)
     have hTo:Touch (fun k=>k=w.heap.size+2) W59 ((W59.setCell ⟨w.heap.size+2,0,none⟩ (.slice ra (dn+1) rac)).setCell ⟨w.heap.size+2,1,none⟩ (.slice rb (n+1) (n+1))):=Touch.of_only (((Only.refl (w.heap.size+2) W59).set 0 _).set 1 _);replace hR:=(hR.set 0 (.slice ra (dn+1) rac)).set 1 (.slice rb (n+1) (n+1));replace hA:=hTo.own hA (by omega);replace hF:=hTo.own hF (by omega);replace hV:=(hV.touch hTo (fun q h1 h2=>by omega)).weaken (Nat.le_refl _) hTo.below.size;replace hVF:=(hVF.touch hTo (fun q h1 h2=>by omega)).weaken (Nat.le_refl _) hTo.below.size;replace hb:=(hb.setCell (p:=⟨w.heap.size+2,0,none⟩) (by dsimp only;omega) (.slice ra (dn+1) rac)).setCell (p:=⟨w.heap.size+2,1,none⟩) (by dsimp only;omega) (.slice rb (n+1) (n+1));clear hTo r0 r1 f0 f1 hBs;generalize (W59.setCell ⟨w.heap.size+2,0,none⟩ (.slice ra (dn+1) rac)).setCell ⟨w.heap.size+2,1,none⟩ (.slice rb (n+1) (n+1))=W60 at *;refine hK.out _ _ ?_ (fun _=>?_)
     · ((try dsimp only);(exact ⟨hA.cell 0,hA.cell 1,hF.cell 0⟩))
     clear hK K
     (try simp only [Act.put,pA,pB,pC])
     refine hdT 14 ?_;refine wpAnyH_done (by kernel_rfl) ?_ _;go_wp2_with fail
     refine bodyPost_ret (results_row2 rfl _ _ (w.heap.size+2) 29 #[.slice ra (dn+1) rac,.slice rb (n+1) (n+1)] (0,0) _ rfl hR Try.underlying29 rfl Try.info_alg) rfl ⟨ra,dn+1,rac,rb,n+1,n+1,by rw [HE.out.1];rfl,?_,?_,hb⟩
     · rw [HE.out.2.1];exact hV.weaken (by omega) (Nat.le_refl _)
     · rw [HE.out.2.2];exact hVF.weaken (by omega) (Nat.le_refl _)
   · skip
     (go_simp;try go_wp2_with fail)
     have hN:=Own.new W53 2 #[.int .i64 d];have hbX:=bA1 W53 (.cells #[.int .i64 d] 2);replace hA:=hA.keep hbX hA.lt;replace hF:=hF.keep hbX hF.lt;replace hR:=hR.keep hbX hR.lt;replace hb:=bT' hb hbX hb.size;replace hBs:=Nat.le_trans hBs hbX.size;replace hM:=hM.keep hbX hM.lt;generalize W53.alloc (.cells #[.int .i64 d] 2)=W61 at *;generalize hhNg:W53.heap.size=ghN at *;clear hbX hhNg;refine hK.out _ _ ?_ (fun _=>?_)
     · ((try dsimp only);(exact ⟨hA.cell 0,hA.cell 1,hF.cell 0⟩))
     clear hK K
     (try simp only [Act.put,pA,pB,pC])
     refine hdC 2 (fun K hK=>?_);have hBs':=hBs
     (go_simp;(go_at_call 79;refine (cloneI_c dc (HHd.out.keep hb) hdn).mono ?_;rintro e W62 ⟨xa,xc,rfl,hD,hbX⟩);go_wp2_with fail)
     replace hA:=hA.keep hbX hA.lt;replace hF:=hF.keep hbX hF.lt;replace hR:=hR.keep hbX hR.lt;replace hb:=bT' hb hbX hb.size;replace hBs:=Nat.le_trans hBs hbX.size;replace hN:=hN.keep hbX hN.lt;replace hM:=hM.keep hbX hM.lt;replace hD:=row_weaken hD hBs';clear hBs';clear hbX;refine hK.out _ _ ?_ (fun _=>?_)
     · ((try dsimp only);(exact ⟨hA.cell 0,hA.cell 1,hF.cell 0⟩))
     clear hK K
     (try simp only [Act.put,pA,pB,pC])
     refine hdC 5 (fun K hK=>?_);have HNW:Hid (∀j u,([Value.int .i64 d]:List Value)[j]? = some u→W62.cell? ((⟨ghN,0,none⟩:Addr).add j)=some u):=Lib.hid (fun j u hu=>by rw [Addr.add_mid];exact hN.range j u hu);have HRW:=Lib.hid hD;have hszW:B0≤W62.heap.size:=hBs;rw [if_pos (by rfl)];refine wp_append_own_wide _ (.tmp 42) (.tmp 44) 22 rfl B0 2 ti2 tz2 1 8 Try.underlying22 HI2.out HZ2.out HS2.out HBt2.out HZs2.out (by omega) (.slice xa dn xc) dn _ rfl HRW.out ⟨ghN,0,none⟩ 1 1 [Value.int .i64 d] rfl rfl HNW.out HOD.out (by simp only [maxLen];omega) (by omega) hszW (fun v' W63 h2 h3 h4=>?_);obtain ⟨xad,xcd,rfl⟩:=row_slice h2;replace hA:=hA.grown h3 (own_ne_row hA HRW.out (by decide));replace hF:=hF.grown h3 (own_ne_row hF HRW.out (by decide));replace hR:=hR.grown h3 (own_ne_row hR HRW.out (by decide));replace hb:=grown_below hb h3 (fun j e=>by have:=(HRW.out.lt j e).1;omega) hb.size;replace hBs:=Nat.le_trans hBs h3.size;replace hM:=hM.grown h3 (own_ne_row hM HRW.out (by decide));clear hD hN;have hD:=h2;clear h2 h4;clear HNW HRW hszW h3;refine hK.out _ _ ?_ (fun _=>?_)
     · ((try dsimp only);(exact ⟨hA.cell 0,hA.cell 1,hF.cell 0⟩))
     clear hK K
     (try simp only [Act.put,pA,pB,pC])
     refine hdC 8 (fun K hK=>?_);have hBs':=hBs
     (go_simp;(go_at_call 80;refine (cloneF_c c (fun j v hv=>(World.cell?_of_block (a:=⟨gi,oi+j,none⟩) (hb.block gi (World.block_lt_of_cell? w ⟨gi,oi+j,none⟩ (HV.out j v hv)))).trans (HV.out j v hv)) HV1.out HVL.out hn).mono ?_;rintro e W64 ⟨ia,ic,rfl,hI,hbX⟩);go_wp2_with fail)
     replace hA:=hA.keep hbX hA.lt;replace hF:=hF.keep hbX hF.lt;replace hR:=hR.keep hbX hR.lt;replace hb:=bT' hb hbX hb.size;replace hBs:=Nat.le_trans hBs hbX.size;replace hD:=row_keep hD hbX;replace hM:=hM.keep hbX hM.lt;replace hI:=row_weaken hI hBs';clear hBs';clear hbX;refine hK.out _ _ ?_ (fun _=>?_)
     · ((try dsimp only);(exact ⟨hA.cell 0,hA.cell 1,hF.cell 0⟩))
     clear hK K
     (try simp only [Act.put,pA,pB,pC])
     refine hdC 11 (fun K hK=>?_);have HNW:Hid (∀j u,([Value.slice (some ⟨gf,of,none⟩) fn fc]:List Value)[j]? = some u→W64.cell? ((⟨ghM,0,none⟩:Addr).add j)=some u):=Lib.hid (fun j u hu=>by rw [Addr.add_mid];exact hM.range j u hu);have HRW:=Lib.hid hI;have hszW:B0≤W64.heap.size:=hBs;rw [if_pos (by rfl)];refine wp_append_own_wide _ (.tmp 48) (.tmp 50) 27 rfl B0 47 ti tz 1 24 Try.underlying27 HI.out HZ.out HS.out HBt.out HZs.out (by omega) (.slice ia n ic) n _ rfl HRW.out ⟨ghM,0,none⟩ 1 1 [Value.slice (some ⟨gf,of,none⟩) fn fc] rfl rfl HNW.out HOF.out (by simp only [maxLen];omega) (by omega) hszW (fun v' W65 h2 h3 h4=>?_);obtain ⟨xai,xci,rfl⟩:=row_slice h2;replace hA:=hA.grown h3 (own_ne_row hA HRW.out (by decide));replace hF:=hF.grown h3 (fun e=>by have:=(HRW.out.lt _ e.symm).1;omega);replace hR:=hR.grown h3 (own_ne_row hR HRW.out (by decide));replace hb:=grown_below hb h3 (fun j e=>by have:=(HRW.out.lt j e).1;omega) hb.size;replace hBs:=Nat.le_trans hBs h3.size;replace hD:=row_grown hD HRW.out (by decide) h3;clear hI hM;have hI:=h2;clear h2 h4;clear HNW HRW hszW h3;refine hK.out _ _ ?_ (fun _=>?_)
     · ((try dsimp only);(exact ⟨hA.cell 0,hA.cell 1,hF.cell 0⟩))
     clear hK K
     (try simp only [Act.put,pA,pB,pC])
     refine hdC 12 (fun K hK=>?_);obtain ⟨gD,cD,heD,hDI⟩:=ints_row (zs:=zs++[d]) (by rw [List.map_append];exact hD) (by omega);simp only [Value.slice.injEq] at heD;obtain ⟨heD,-,-⟩:=heD;subst heD;have HSN:Hid (∀(j:Nat) u ts,(vs++[Value.slice (some ⟨gf,of,none⟩) fn fc])[j]? = some u→(ims++[fs])[j]? = some ts→SlN W65 u ts):=Lib.hid (sln_snoc HVL.out HLn.out (fun j u ts h1 h2=>(HVS.out j u ts h1 h2).keep hb) ⟨_,_,_,rfl,HH.out.keep hb,Or.inr ⟨_,_,rfl⟩⟩);obtain ⟨gI,cI,heI,hIN⟩:=frmsN_row (fss:=ims++[fs]) hI (by rw [List.length_append,HLn.out];rfl) HSN.out (by omega);simp only [Value.slice.injEq] at heI;obtain ⟨heI,-,-⟩:=heI;subst heI;clear hD hI HSN
     (go_simp;(go_at_call 59;refine (newAlgebra_c _ _ hDI (by omega) hIN (by omega) (tm_snoc HTT.out HH.out.2.1) (by rw [sum_snoc,HFLL.out];exact HSB.out)).mono ?_;rintro e W66 ⟨ra,rac,rb,rfl,hV,hVF,hbX⟩);go_wp2_with fail)
     clear hDI hIN;have hBs':=hBs;replace hA:=hA.keep hbX hA.lt;replace hF:=hF.keep hbX hF.lt;replace hR:=hR.keep hbX hR.lt;replace hb:=bT' hb hbX hb.size;replace hBs:=Nat.le_trans hBs hbX.size;replace hV:=hV.weaken (lo':=B0) hBs' (Nat.le_refl _);replace hVF:=hVF.weaken (lo':=B0) hBs' (Nat.le_refl _);clear hbX hBs';refine hK.out _ _ ?_ (fun _=>?_)
     · ((try dsimp only);(exact ⟨hA.cell 0,hA.cell 1,hF.cell 0⟩))
     clear hK K
     (try simp only [Act.put,pA,pB,pC])
     refine hdC 13 (fun K hK=>?_);have r0:=hR.cell 0;have r1:=hR.cell 1;have f0:=hR.frozen 0;have f1:=hR.frozen 1
     (go_simp;go_wp2_with fail)
     have hTo:Touch (fun k=>k=w.heap.size+2) W66 ((W66.setCell ⟨w.heap.size+2,0,none⟩ (.slice ra (dn+1) rac)).setCell ⟨w.heap.size+2,1,none⟩ (.slice rb (n+1) (n+1))):=Touch.of_only (((Only.refl (w.heap.size+2) W66).set 0 _).set 1 _);replace hR:=(hR.set 0 (.slice ra (dn+1) rac)).set 1 (.slice rb (n+1) (n+1));replace hA:=hTo.own hA (by omega);replace hF:=hTo.own hF (by omega);replace hV:=(hV.touch hTo (fun q h1 h2=>by omega)).weaken (Nat.le_refl _) hTo.below.size;replace hVF:=(hVF.touch hTo (fun q h1 h2=>by omega)).weaken (Nat.le_refl _) hTo.below.size;replace hb:=(hb.setCell (p:=⟨w.heap.size+2,0,none⟩) (by dsimp only;omega) (.slice ra (dn+1) rac)).setCell (p:=⟨w.heap.size+2,1,none⟩) (by dsimp only;omega) (.slice rb (n+1) (n+1));clear hTo r0 r1 f0 f1 hBs;generalize (W66.setCell ⟨w.heap.size+2,0,none⟩ (.slice ra (dn+1) rac)).setCell ⟨w.heap.size+2,1,none⟩ (.slice rb (n+1) (n+1))=W67 at *;refine hK.out _ _ ?_ (fun _=>?_)
     · ((try dsimp only);(exact ⟨hA.cell 0,hA.cell 1,hF.cell 0⟩))
     clear hK K
     (try simp only [Act.put,pA,pB,pC])
     refine hdT 14 ?_;refine wpAnyH_done (by kernel_rfl) ?_ _;go_wp2_with fail
     refine bodyPost_ret (results_row2 rfl _ _ (w.heap.size+2) 29 #[.slice ra (dn+1) rac,.slice rb (n+1) (n+1)] (0,0) _ rfl hR Try.underlying29 rfl Try.info_alg) rfl ⟨ra,dn+1,rac,rb,n+1,n+1,by rw [HE.out.1];rfl,?_,?_,hb⟩
     · rw [HE.out.2.1];exact hV.weaken (by omega) (Nat.le_refl _)
     · rw [HE.out.2.2];exact hVF.weaken (by omega) (Nat.le_refl _)
theorem isForm_lo {zs:List Int} {ts:List Tm} (h:isForm zs ts=true):(listOk zs ts && decide (ts.length≤400))=true:=by
 simp only [isForm,Bool.and_eq_true] at h ⊢
 first | exact h.2 | exact ⟨h.1.2,h.2⟩ | exact ⟨h.2.1,h.2.2⟩
theorem zo_no {zs:List Int} {ts:List Tm} {x:Int} (hd:degsOk zs=true) (h:allW zs ts=false∨(¬ts.length=0∧¬degA zs ts=x)):zeroOr zs ts x=false:=by
 rw [zeroOr_eq hd]
 rcases h with h | ⟨h1,h2⟩
 · simp [h]
 · have e1:(degA zs ts==x)=false:=(by simpa using h2);have e2:(ts.length==0)=false:=(by simpa using h1);simp [e1,e2]
theorem zo_yes {zs:List Int} {ts:List Tm} {x:Int} (hd:degsOk zs=true) (hf:isForm zs ts=true) (h:allW zs ts=true) (h2:ts.length=0∨degA zs ts=x):zeroOr zs ts x=true:=by
 rw [zeroOr_eq hd,isForm_lo hf,h]
 rcases h2 with h2 | h2 <;> simp [h2]
set_option maxHeartbeats 8000000 in
theorem WithGenerator_s {w : World} {gd od dn gi oi n gf of fn : Nat} {zs : List Int} {ims : List (List Tm)} {fs : List Tm} (dc c fc : Nat) (d : Int) (hd : Ints w (some ⟨gd, od, none⟩) dn zs) (hdn : dn ≤ 1048576) (hN : FrmsN w (some ⟨gi, oi, none⟩) n ims) (hn : n ≤ 1048576) (hL : ∀ im ∈ ims, (im.length : Int) ≤ 1048576) (hT : ∀ ts ∈ ims, ∀ t ∈ ts, IsTm t) (hS : sumLen ims ≤ 1048576) (h : Terms w (some ⟨gf, of, none⟩) fn fs) (hfn : fn ≤ 1048576) (hd1 : -9223372036854775808 ≤ d) (hd2 : d ≤ 9223372036854775807) :
    Calls Try.prog 28 #[.agg #[.slice (some ⟨gd,od,none⟩) dn dc,.slice (some ⟨gi,oi,none⟩) n c],.int .i64 d,.agg #[.slice (some ⟨gf,of,none⟩) fn fc]] w fun e w'=>∃a an ac b bn bc,e=.returned (.tuple #[.agg #[.slice a an ac,.slice b bn bc],.int .i64 (wgE zs ims fs d)])∧OwnV w' w.heap.size w'.heap.size a an (wgD zs ims fs d)∧OwnF w' w.heap.size w'.heap.size b bn (wgI zs ims fs d)∧Below w.heap.size w w':=by
 have HLL:=Lib.hid hL
 have HTT:=Lib.hid hT
 have HSS:=Lib.hid hS
 have HNN:=Lib.hid hN
 have hF0:=hN.frms hL
 have HF0:=Lib.hid hF0
 have HLn:=Lib.hid hN.1
 have HDL:=Lib.hid hd.len
 have HFL:=Lib.hid h.len
 have HH:=Lib.hid h
 have HHd:=Lib.hid hd
 obtain ⟨ti,tz,hti,htz,hts,htb,htzs⟩:=Try.info_formA
 have HI:=Lib.hid hti
 have HZ:=Lib.hid htz
 have HS:=Lib.hid hts
 have HBt:=Lib.hid htb
 have HZs:=Lib.hid htzs
 clear hti htz hts htb htzs
 obtain ⟨ti2,tz2,hti,htz,hts,htb,htzs⟩:=Try.info_intA
 have HI2:=Lib.hid hti
 have HZ2:=Lib.hid htz
 have HS2:=Lib.hid hts
 have HBt2:=Lib.hid htb
 have HZs2:=Lib.hid htzs
 clear hti htz hts htb htzs
 clear hL hT hS hN hF0
 obtain ⟨hA,hF,hR,hb⟩:=own3' w 29 47 29 #[.slice (some ⟨gd,od,none⟩) dn dc,.slice (some ⟨gi,oi,none⟩) n c] #[.slice (some ⟨gf,of,none⟩) fn fc] #[.slice none 0 0,.slice none 0 0]
 have hB0:w.heap.size+2<(((w.alloc (.cells #[.slice (some ⟨gd,od,none⟩) dn dc,.slice (some ⟨gi,oi,none⟩) n c] 29)).alloc (.cells #[.slice (some ⟨gf,of,none⟩) fn fc] 47)).alloc (.cells #[.slice none 0 0,.slice none 0 0] 29)).heap.size:=by rw [sAl,sAl,sAl];omega
 cases hal:algF zs ims fs
 case false=>
  have HE:=Lib.hid (wg_err (wg_1 (d:=d) hal) (by omega));have HAE:=Lib.hid (algE_no hal).1;clear hal;go_enter Try.func28,Try.ntmps28
  go_upto_region 1 with fail
  generalize ((w.alloc (.cells #[.slice (some ⟨gd,od,none⟩) dn dc,.slice (some ⟨gi,oi,none⟩) n c] 29)).alloc (.cells #[.slice (some ⟨gf,of,none⟩) fn fc] 47)).alloc (.cells #[.slice none 0 0,.slice none 0 0] 29)=w0 at *;rw [show w.heap.size+1+1=w.heap.size+2 by omega] at hR;have hBs:w0.heap.size≤w0.heap.size:=Nat.le_refl _;have c0:=hA.cell 0;have c1:=hA.cell 1;have cg:=hF.cell 0;go_wp2_with fail
  refine (l02Both_c dc c fc (HHd.out.keep hb) hdn (HF0.out.keep hb) hn HLL.out (HH.out.keep hb) hfn).mono ?_;rintro e w1 ⟨rfl,hb1⟩;rw [HAE.out];clear c0 c1 cg;replace hA:=hA.keep hb1 hA.lt;replace hF:=hF.keep hb1 hF.lt;replace hR:=hR.keep hb1 hR.lt;replace hb:=bT' hb hb1 hb.size;replace hBs:=Nat.le_trans hBs hb1.size;clear hb1;have r0:=hR.cell 0;have r1:=hR.cell 1;have f0:=hR.frozen 0;have f1:=hR.frozen 1;go_wp2_with fail
  have s2:=((hR.set 0 (.slice none 0 0)).set 1 (.slice none 0 0));refine bodyPost_ret (results_row2 rfl _ _ (w.heap.size+2) 29 #[.slice none 0 0,.slice none 0 0] (0,0) _ rfl s2 Try.underlying29 rfl Try.info_alg) rfl ⟨none,0,0,none,0,0,by rw [(HE.out).1];rfl,by rw [(HE.out).2.1];exact OwnV.none_,by rw [(HE.out).2.2];exact OwnF.none_,?_⟩;exact (hb.setCell (p:=⟨w.heap.size+2,0,none⟩) (by dsimp only;omega) _).setCell (p:=⟨w.heap.size+2,1,none⟩) (by dsimp only;omega) _
 have HA:=Lib.hid hal
 have HAE:=Lib.hid (algE_yes hal).1
 clear hal
 go_enter Try.func28,Try.ntmps28
 go_upto_region 1 with fail
 generalize ((w.alloc (.cells #[.slice (some ⟨gd,od,none⟩) dn dc,.slice (some ⟨gi,oi,none⟩) n c] 29)).alloc (.cells #[.slice (some ⟨gf,of,none⟩) fn fc] 47)).alloc (.cells #[.slice none 0 0,.slice none 0 0] 29)=w0 at *
 rw [show w.heap.size+1+1=w.heap.size+2 by omega] at hR
 have hBs:w0.heap.size≤w0.heap.size:=Nat.le_refl _
 have c0:=hA.cell 0
 have c1:=hA.cell 1
 have cg:=hF.cell 0
 go_wp2_with fail
 refine (l02Both_c dc c fc (HHd.out.keep hb) hdn (HF0.out.keep hb) hn HLL.out (HH.out.keep hb) hfn).mono ?_
 rintro e w1 ⟨rfl,hb1⟩
 rw [HAE.out]
 clear c0 c1 cg
 replace hA:=hA.keep hb1 hA.lt
 replace hF:=hF.keep hb1 hF.lt
 replace hR:=hR.keep hb1 hR.lt
 replace hb:=bT' hb hb1 hb.size
 replace hBs:=Nat.le_trans hBs hb1.size
 clear hb1
 obtain ⟨B0,hB0e⟩:∃B0,w0.heap.size=B0:=⟨_,rfl⟩
 rw [hB0e] at hB0 hBs
 clear hB0e
 obtain ⟨IB,hIB⟩:∃IB,decide (1≤d∧d≤12)=IB:=⟨_,rfl⟩
 have HIB:=Lib.hid hIB
 clear hIB
 go_wp2_with fail
 refine (l01In_c d 1 12 _).mono ?_
 rintro e w2 ⟨rfl,rfl⟩
 rw [HIB.out]
 cases IB
 case false=>
  have HE:=Lib.hid (wg_err (wg_2 HA.out (by have:=HIB.out;simpa using this)) (by omega));have r0:=hR.cell 0;have r1:=hR.cell 1;have f0:=hR.frozen 0;have f1:=hR.frozen 1;go_wp2_with fail
  have s2:=((hR.set 0 (.slice none 0 0)).set 1 (.slice none 0 0));refine bodyPost_ret (results_row2 rfl _ _ (w.heap.size+2) 29 #[.slice none 0 0,.slice none 0 0] (0,0) _ rfl s2 Try.underlying29 rfl Try.info_alg) rfl ⟨none,0,0,none,0,0,by rw [(HE.out).1];rfl,by rw [(HE.out).2.1];exact OwnV.none_,by rw [(HE.out).2.2];exact OwnF.none_,?_⟩;exact (hb.setCell (p:=⟨w.heap.size+2,0,none⟩) (by dsimp only;omega) _).setCell (p:=⟨w.heap.size+2,1,none⟩) (by dsimp only;omega) _
 have HDR:Hid (1≤d∧d≤12):=Lib.hid (by have:=HIB.out;simpa using this)
 have hdr1:=HDR.out.1
 have hdr2:=HDR.out.2
 have HAO:=Lib.hid (isAlg_ok (algF_alg HA.out).1 HTT.out)
 have HDG:=Lib.hid (isAlg_degs (algF_alg HA.out).1)
 have HMI:=Lib.hid (degsOk_mild HDG.out)
 have HIF:=Lib.hid (algF_alg HA.out).2
 have HK:=Lib.hid (isForm_fit HIF.out)
 have HFB:=Lib.hid (isForm_f HIF.out)
 have hn4:fn≤400:=by have:=isForm_400 HIF.out;have:=HFL.out;omega
 have HS:=Lib.hid (HAO.out.diff fs [] 0 HH.out.2.1 HK.out sum9_nil)
 have h8:dn≤8:=by have:=degsOk_len HDG.out;have:=HDL.out;omega
 have hn8:n≤8:=by have:=isAlg_lenQ2 (algF_alg HA.out).1;have:=HLn.out;have:=HDL.out;omega
 have c0:=hA.cell 0
 have cg:=hF.cell 0
 go_wp2_with fail
 refine (l01Degree_c dc fc (HHd.out.keep hb) h8 HMI.out (HH.out.keep hb) hfn).mono ?_
 rintro e w2 ⟨rfl,hb1⟩
 clear c0 cg
 replace hA:=hA.keep hb1 hA.lt
 replace hF:=hF.keep hb1 hF.lt
 replace hR:=hR.keep hb1 hR.lt
 replace hb:=bT' hb hb1 hb.size
 replace hBs:=Nat.le_trans hBs hb1.size
 clear hb1
 obtain ⟨WV,hWV⟩:∃WV,allW zs fs=WV:=⟨_,rfl⟩
 obtain ⟨DV,hDV⟩:∃DV,degA zs fs=DV:=⟨_,rfl⟩
 rw [hWV,hDV]
 have HWV:=Lib.hid hWV
 have HDV:=Lib.hid hDV
 clear hWV hDV
 have cg:=hF.cell 0
 cases WV
 case false=>
  have HE:=Lib.hid (wg_err (wg_5 HA.out HDR.out (Or.inl (zo_no (x:=d+1) HDG.out (Or.inl HWV.out)))) (by omega));have r0:=hR.cell 0;have r1:=hR.cell 1;have f0:=hR.frozen 0;have f1:=hR.frozen 1;go_wp2_with fail
  have s2:=((hR.set 0 (.slice none 0 0)).set 1 (.slice none 0 0));refine bodyPost_ret (results_row2 rfl _ _ (w.heap.size+2) 29 #[.slice none 0 0,.slice none 0 0] (0,0) _ rfl s2 Try.underlying29 rfl Try.info_alg) rfl ⟨none,0,0,none,0,0,by rw [(HE.out).1];rfl,by rw [(HE.out).2.1];exact OwnV.none_,by rw [(HE.out).2.2];exact OwnF.none_,?_⟩;exact (hb.setCell (p:=⟨w.heap.size+2,0,none⟩) (by dsimp only;omega) _).setCell (p:=⟨w.heap.size+2,1,none⟩) (by dsimp only;omega) _
 have hfld:=field_form
 have HZC:Hid (zeroOr zs fs (d+1)=false∨(zeroOr zs fs (d+1)=true∧((fn=0)∨(0<fn∧DV=d+1)))):=Lib.hid (by
  by_cases h0:fn=0
  · exact Or.inr ⟨zo_yes HDG.out HIF.out HWV.out (Or.inl (by rw [HFL.out];exact h0)),Or.inl h0⟩
  · by_cases h1:DV=d+1
    · exact Or.inr ⟨zo_yes HDG.out HIF.out HWV.out (Or.inr (by rw [HDV.out];exact h1)),Or.inr ⟨by omega,h1⟩⟩
    · exact Or.inl (zo_no HDG.out (Or.inr ⟨by rw [HFL.out];exact h0,by rw [HDV.out];exact h1⟩)))
 by_cases hbad:0<fn∧¬DV=d+1
 case pos=>
  have HE:=Lib.hid (wg_err (wg_5 HA.out HDR.out (Or.inl (zo_no (x:=d+1) HDG.out (Or.inr ⟨by rw [HFL.out];omega,by rw [HDV.out];exact hbad.2⟩)))) (by omega));have hfp:(0:Int)<(fn:Int):=(by omega);have hne:(DV != d+1)=true:=(by simpa using hbad.2);have hnd:¬DV=d+1:=hbad.2;have r0:=hR.cell 0;have r1:=hR.cell 1;have f0:=hR.frozen 0;have f1:=hR.frozen 1;go_wp2_with fail
  have s2:=((hR.set 0 (.slice none 0 0)).set 1 (.slice none 0 0));refine bodyPost_ret (results_row2 rfl _ _ (w.heap.size+2) 29 #[.slice none 0 0,.slice none 0 0] (0,0) _ rfl s2 Try.underlying29 rfl Try.info_alg) rfl ⟨none,0,0,none,0,0,by rw [(HE.out).1];rfl,by rw [(HE.out).2.1];exact OwnV.none_,by rw [(HE.out).2.2];exact OwnF.none_,?_⟩;exact (hb.setCell (p:=⟨w.heap.size+2,0,none⟩) (by dsimp only;omega) _).setCell (p:=⟨w.heap.size+2,1,none⟩) (by dsimp only;omega) _
 obtain ⟨N,hN⟩:∃N,(diffT zs ims [] fs).length=N:=⟨_,rfl⟩
 have HN:=Lib.hid hN
 have HCL:=Lib.hid (show closedB zs ims fs=(N==0) by rw [closedB,hN])
 clear hN
 have HZO:Hid (zeroOr zs fs (d+1)=true):=Lib.hid (by
  rcases HZC.out with h | h
  · exfalso
    by_cases h0:fn=0
    · rw [zo_yes HDG.out HIF.out HWV.out (Or.inl (by rw [HFL.out];exact h0))] at h;cases h
    · have h1 : DV = d + 1 := by
        by_cases h1:DV=d+1
        · exact h1
        · exact absurd ⟨by omega,h1⟩ hbad
      rw [zo_yes HDG.out HIF.out HWV.out (Or.inr (by rw [HDV.out];exact h1))] at h;cases h
  · exact h.1)
 have hcase:fn=0∨(0<fn∧DV=d+1):=by
  by_cases h0:fn=0
  · exact Or.inl h0
  · refine Or.inr ⟨by omega,?_⟩;by_cases h1:DV=d+1
    · exact h1
    · exact absurd ⟨by omega,h1⟩ hbad
 have HCS:=Lib.hid hcase
 clear hcase hbad HZC
 have c0:=hA.cell 0
 have c1:=hA.cell 1
 rcases HCS.out with h0 | ⟨h0,h1⟩
 all_goals
  first
   | subst h0
     have hfp:¬(0:Int)<((0:Nat):Int):=by omega
   | subst h1
     have hfp:(0:Int)<(fn:Int):=(by omega);have hne:(d+1 != d+1)=false:=by simp
  go_wp2_with fail
  refine (l02D_c dc c fc (HHd.out.keep hb) (HF0.out.keep hb) (HH.out.keep hb) HAO.out HMI.out HK.out HFB.out hn4).mono ?_;rintro e w3 ⟨v,rfl,hO,hb1⟩;obtain ⟨va,vc,rfl,-⟩:=hO.r.terms HS.out.tm HN.out;clear c0 c1 cg hO;replace hA:=hA.keep hb1 hA.lt;replace hF:=hF.keep hb1 hF.lt;replace hR:=hR.keep hb1 hR.lt;replace hb:=bT' hb hb1 hb.size;replace hBs:=Nat.le_trans hBs hb1.size;clear hb1;by_cases hN0:N=0
  case neg=>
   have HE:=Lib.hid (wg_err (wg_5 HA.out HDR.out (Or.inr (by rw [HCL.out];simpa using hN0))) (by omega));have hNp:(0:Int)<(N:Int):=(by omega);have r0:=hR.cell 0;have r1:=hR.cell 1;have f0:=hR.frozen 0;have f1:=hR.frozen 1;go_wp2_with fail
   have s2:=((hR.set 0 (.slice none 0 0)).set 1 (.slice none 0 0));refine bodyPost_ret (results_row2 rfl _ _ (w.heap.size+2) 29 #[.slice none 0 0,.slice none 0 0] (0,0) _ rfl s2 Try.underlying29 rfl Try.info_alg) rfl ⟨none,0,0,none,0,0,by rw [(HE.out).1];rfl,by rw [(HE.out).2.1];exact OwnV.none_,by rw [(HE.out).2.2];exact OwnF.none_,?_⟩;exact (hb.setCell (p:=⟨w.heap.size+2,0,none⟩) (by dsimp only;omega) _).setCell (p:=⟨w.heap.size+2,1,none⟩) (by dsimp only;omega) _
  subst hN0;have hNp:¬(0:Int)<((0:Nat):Int):=(by omega);have HC:Hid (closedB zs ims fs=true):=Lib.hid (by rw [HCL.out];rfl);have c0:=hA.cell 0;by_cases he8:dn=8
  case pos=>
   subst he8;have HE:=Lib.hid (wg_err (wg_3 HA.out HDR.out HZO.out HC.out HDL.out) (by omega));have r0:=hR.cell 0;have r1:=hR.cell 1;have f0:=hR.frozen 0;have f1:=hR.frozen 1;go_wp2_with fail
   have s2:=((hR.set 0 (.slice none 0 0)).set 1 (.slice none 0 0));refine bodyPost_ret (results_row2 rfl _ _ (w.heap.size+2) 29 #[.slice none 0 0,.slice none 0 0] (0,0) _ rfl s2 Try.underlying29 rfl Try.info_alg) rfl ⟨none,0,0,none,0,0,by rw [(HE.out).1];rfl,by rw [(HE.out).2.1];exact OwnV.none_,by rw [(HE.out).2.2];exact OwnF.none_,?_⟩;exact (hb.setCell (p:=⟨w.heap.size+2,0,none⟩) (by dsimp only;omega) _).setCell (p:=⟨w.heap.size+2,1,none⟩) (by dsimp only;omega) _
  have HE:=Lib.hid (wg_0 HA.out HDR.out HZO.out HC.out (by rw [HDL.out];exact he8))
  have he8b:((dn:Int)==8)=false:=by
   have:¬((dn:Int)=8):=(by omega);simpa using this
  have c1:=hA.cell 1;have cg:=hF.cell 0;go_wp2_with fail
  refine (l02With_c dc c fc d (HHd.out.keep hb) hdn (HF0.out.keep hb) hn HLL.out HTT.out (HH.out.keep hb) hfn).mono ?_;rintro e w4 ⟨ra,rac,rb,rbc,rfl,hV,hVF,hb1⟩;have hBs':=hBs;clear c0 c1 cg;replace hA:=hA.keep hb1 hA.lt;replace hF:=hF.keep hb1 hF.lt;replace hR:=hR.keep hb1 hR.lt;replace hb:=bT' hb hb1 hb.size;replace hBs:=Nat.le_trans hBs hb1.size;clear hb1;replace hV:=hV.weaken (lo':=B0) hBs' (Nat.le_refl _);replace hVF:=hVF.weaken (lo':=B0) hBs' (Nat.le_refl _);have r0:=hR.cell 0;have r1:=hR.cell 1;have f0:=hR.frozen 0;have f1:=hR.frozen 1;clear hBs';go_wp2_with fail
  have hTo:Touch (fun k=>k=w.heap.size+2) w4 ((w4.setCell ⟨w.heap.size+2,0,none⟩ (.slice ra (dn+1) rac)).setCell ⟨w.heap.size+2,1,none⟩ (.slice rb (n+1) rbc)):=Touch.of_only (((Only.refl (w.heap.size+2) w4).set 0 _).set 1 _);have s2:=(hR.set 0 (.slice ra (dn+1) rac)).set 1 (.slice rb (n+1) rbc);refine bodyPost_ret (results_row2 rfl _ _ (w.heap.size+2) 29 #[.slice ra (dn+1) rac,.slice rb (n+1) rbc] (0,0) _ rfl s2 Try.underlying29 rfl Try.info_alg) rfl ⟨ra,dn+1,rac,rb,n+1,rbc,by rw [HE.out.1];rfl,?_,?_,?_⟩
  · rw [HE.out.2.1];exact (hV.touch hTo (fun q h1 h2=>by omega)).weaken (by omega) hTo.below.size
  · rw [HE.out.2.2];exact (hVF.touch hTo (fun q h1 h2=>by omega)).weaken (by omega) hTo.below.size
  · exact (hb.setCell (p:=⟨w.heap.size+2,0,none⟩) (by dsimp only;omega) _).setCell (p:=⟨w.heap.size+2,1,none⟩) (by dsimp only;omega) _
end Go.Proofs.Ytndnkeijddagiaa
