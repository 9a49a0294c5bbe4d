
import Derived.Test.YtifcfoijcodjbaaGreatBasA
import Derived.Test.YtifcfoijcodjbaaGreatFresh
import Derived.Test.YtifcfoijcodjbaaGreatNewA
import Derived.Test.YtifcfoijcodjbaaGreatRref
import Derived.Test.YtifcfoijcodjbaaGreatIsFormB
import Derived.Test.YtifcfoijcodjbaaGreatDiffT
namespace Go.Proofs.YtifcfoijcodjbaaGreat
set_option maxRecDepth 100000
open Go.RowKit Go.Deep
structure FG2 (w w':World) (u v u' v':Value):Prop where
 b:Below 0 w w'
 k:∀i,i<w.heap.size→u.ownBlock≠some i→v.ownBlock≠some i→w'.heap[i]? = w.heap[i]?
 r1:∀q,u'.ownBlock=some q→u.ownBlock=some q∨w.heap.size≤q
 r2:∀q,v'.ownBlock=some q→v.ownBlock=some q∨w.heap.size≤q
section
variable {w w1 w2:World} {u v u1 v1 x:Value}
theorem FG2.refl (w:World) (u v:Value):FG2 w w u v u v:=⟨Below.refl _ _,fun _ _ _ _=>rfl,fun _ h=>Or.inl h,fun _ h=>Or.inl h⟩
theorem FG2.below (h:FG2 w w1 u v u1 v1) (hb:Below w1.heap.size w1 w2):FG2 w w2 u v u1 v1:=
 ⟨h.b.trans (hb.mono (Nat.zero_le _)),fun i hi h1 h2=>(hb.block i (Nat.lt_of_lt_of_le hi h.b.size)).trans (h.k i hi h1 h2),h.r1,h.r2⟩
theorem FG2.app1 (h:FG2 w w1 u v u1 v1) (hg:w1.grownBy w2 u1.ownBlock) (hf:∀q,x.ownBlock=some q→u1.ownBlock=some q∨w1.heap.size≤q):FG2 w w2 u v x v1:=by
 have hs:=h.b.size
 refine ⟨h.b.trans ⟨hg.os,hg.tape,hg.output,hg.size,fun k hk=>absurd hk (by omega)⟩,fun i hi h1 h2=>?_,fun q hq=>?_,h.r2⟩
 · rw [hg.block i (by omega) (fun e => by
     rcases h.r1 i e.symm with h3 | h3
     · exact h1 h3
     · omega)]
   exact h.k i hi h1 h2
 · rcases hf q hq with h3 | h3
   · exact h.r1 q h3
   · exact Or.inr (by omega)
theorem FG2.app2 (h:FG2 w w1 u v u1 v1) (hg:w1.grownBy w2 v1.ownBlock) (hf:∀q,x.ownBlock=some q→v1.ownBlock=some q∨w1.heap.size≤q):FG2 w w2 u v u1 x:=by
 have hs:=h.b.size
 refine ⟨h.b.trans ⟨hg.os,hg.tape,hg.output,hg.size,fun k hk=>absurd hk (by omega)⟩,fun i hi h1 h2=>?_,h.r1,fun q hq=>?_⟩
 · rw [hg.block i (by omega) (fun e => by
     rcases h.r2 i e.symm with h3 | h3
     · exact h2 h3
     · omega)]
   exact h.k i hi h1 h2
 · rcases hf q hq with h3 | h3
   · exact h.r2 q h3
   · exact Or.inr (by omega)
theorem FG2.setNew (h:FG2 w w1 u v u1 v1) {b:Nat} (hb:w.heap.size≤b) (i:Nat) (y:Value):FG2 w (w1.setCell ⟨b,i,none⟩ y) u v u1 v1:=
 ⟨h.b.setCell (p:=⟨b,i,none⟩) (Nat.zero_le _) _,fun k hk h1 h2=>(Below.heap_setCell _ ⟨b,i,none⟩ _ k (by dsimp only;omega)).trans (h.k k hk h1 h2),h.r1,h.r2⟩
theorem FG2.own (h:FG2 w w1 u v u1 v1) {g:Nat} {t:TypeId} {cs:Array Value} (o:Own w g t cs) (h1:u.ownBlock≠some g) (h2:v.ownBlock≠some g):Own w1 g t cs:=(h.k g o.lt h1 h2).trans o
def Apt (x y:Value):Prop:=∀q,x.ownBlock=some q→y.ownBlock≠some q
theorem Apt.symm {x y:Value} (h:Apt x y):Apt y x:=fun q h1 h2=>h q h2 h1
theorem FG2.row (h:FG2 w w1 u v u1 v1) {B sz n:Nat} {t:TypeId} {xs:List Value} (o:w.ownsRow B t sz x n xs) (h1:Apt x u) (h2:Apt x v):w1.ownsRow B t sz x n xs:=by
 obtain ⟨hl,h3⟩:=o
 refine ⟨hl,?_⟩
 rcases h3 with h0 | ⟨g,cap,cur,hv,hb,hg,r⟩
 · exact Or.inl h0
 · have e:x.ownBlock=some g:=(by rw [hv];rfl);exact Or.inr ⟨g,cap,cur,hv,hb,(h.k g (Array.getElem?_eq_some_iff.1 hg).1 (h1 g e) (h2 g e)).trans hg,r⟩
theorem FG2.apt1 (h:FG2 w w1 u v u1 v1) {B sz n:Nat} {t:TypeId} {xs:List Value} (o:w.ownsRow B t sz x n xs) (ha:Apt x u):Apt x u1:=fun q h1 h2=>by
 rcases h.r1 q h2 with h3 | h3
 · exact ha q h1 h3
 · have:=(o.lt q h1).2;omega
theorem FG2.apt2 (h:FG2 w w1 u v u1 v1) {B sz n:Nat} {t:TypeId} {xs:List Value} (o:w.ownsRow B t sz x n xs) (ha:Apt x v):Apt x v1:=fun q h1 h2=>by
 rcases h.r2 q h2 with h3 | h3
 · exact ha q h1 h3
 · have:=(o.lt q h1).2;omega
theorem Apt.types {B B' sz sz' n n':Nat} {t t':TypeId} {y:Value} {xs ys:List Value} (h:w.ownsRow B t sz x n xs) (h':w.ownsRow B' t' sz' y n' ys) (ht:t≠t'):Apt x y:=fun q h1 h2=>by
 obtain ⟨os,ho⟩:=row_own h h1
 exact own_ne_row ho h' ht h2.symm
theorem FG2.touch (h:FG2 w w1 u v u1 v1):∀i,i<w.heap.size→u.ownBlock≠some i→v.ownBlock≠some i→w1.heap[i]? = w.heap[i]? := h.k
end
theorem Tryz.info_rowR:∃i z,Tryz.prog.info? 82=some i∧i.zero=some z∧i.size=1∧i.bytes=24∧z.cells.size=1:=by
 have h:(Tryz.prog.info? 82).map (fun i=>(i.zero,i.size,i.bytes))=some (some (.slice none 0 0),1,24):=by kernel_rfl
 obtain ⟨i,hi,hzz⟩:=Option.map_eq_some_iff.1 h
 simp only [Prod.mk.injEq] at hzz
 obtain ⟨hz,hs,hb⟩:=hzz
 exact ⟨i,_,hi,hz,hs,hb,rfl⟩
set_option maxHeartbeats 8000000 in
theorem with_c {w : World} {B n : Nat} {a1 a2 ra : Option Addr} {c1 c2 rn rc : Nat} {f : Int} {xs ys : List Value} (h1 : w.ownsRow B 82 1 (.slice a1 n c1) n xs) (h2r : w.ownsRow B 3 1 (.slice a2 n c2) n ys) (hn : n ≤ 1000) (hsz : B ≤ w.heap.size) :
    Calls Tryz.prog 208 #[.agg #[.slice a1 n c1,.slice a2 n c2],.slice ra rn rc,.int .i64 f] w fun e w'=>∃xa1 xc1 xa2 xc2,e=.returned (.agg #[.slice xa1 (n+1) xc1,.slice xa2 (n+1) xc2])∧w'.ownsRow B 82 1 (.slice xa1 (n+1) xc1) (n+1) (xs++[.slice ra rn rc])∧w'.ownsRow B 3 1 (.slice xa2 (n+1) xc2) (n+1) (ys++[.int .i64 f])∧FG2 w w' (.slice a1 n c1) (.slice a2 n c2) (.slice xa1 (n+1) xc1) (.slice xa2 (n+1) xc2):=by
 obtain ⟨tiR,tzR,hti,htz,hts,htb,htzs⟩:=Tryz.info_rowR
 have HIR:=Lib.hid hti
 have HZR:=Lib.hid htz
 have HSR:=Lib.hid hts
 have HBtR:=Lib.hid htb
 have HZsR:=Lib.hid htzs
 clear hti htz hts htb htzs
 obtain ⟨tiI,tzI,hti,htz,hts,htb,htzs⟩:=Tryz.info_intB
 have HII:=Lib.hid hti
 have HZI:=Lib.hid htz
 have HSI:=Lib.hid hts
 have HBtI:=Lib.hid htb
 have HZsI:=Lib.hid htzs
 clear hti htz hts htb htzs
 have hB:=(Own.new w 86 #[.slice a1 n c1,.slice a2 n c2]).alloc (.cells #[.slice none 0 0,.slice none 0 0] 86)
 have hQ:=Own.new (w.alloc (.cells #[.slice a1 n c1,.slice a2 n c2] 86)) 86 #[.slice none 0 0,.slice none 0 0]
 rw [sAl] at hQ
 have hba:=bTn (bA1 w (.cells #[.slice a1 n c1,.slice a2 n c2] 86)) (bA1 _ (.cells #[.slice none 0 0,.slice none 0 0] 86))
 have hG:=(FG2.refl w (.slice a1 n c1) (.slice a2 n c2)).below hba
 replace h1:=row_keep h1 hba
 replace h2r:=row_keep h2r hba
 replace hsz:=Nat.le_trans hsz hba.size
 clear hba
 go_enter Tryz.func208,Tryz.ntmps208
 go_upto_region 1 with fail
 generalize (w.alloc (.cells #[.slice a1 n c1,.slice a2 n c2] 86)).alloc (.cells #[.slice none 0 0,.slice none 0 0] 86)=w0 at *
 have hdr:Below w0.heap.size w0 w0.drew:=(Below.refl _ _).drew
 replace hB:=hB.keep hdr hB.lt
 replace hQ:=hQ.keep hdr hQ.lt
 replace hG:=hG.below hdr
 replace h1:=row_keep h1 hdr
 replace h2r:=row_keep h2r hdr
 replace hsz:=Nat.le_trans hsz hdr.size
 clear hdr
 refine wp_region_held_drew (S:=(fun w'=>w'.cell? ⟨w.heap.size,0,none⟩=some (.slice a1 n c1)∧w'.cell? ⟨w.heap.size,1,none⟩=some (.slice a2 n c2))) (by kernel_rfl) ?_ (fun _=>?_)
 · ((try dsimp only);(exact ⟨hB.cell 0,hB.cell 1⟩))
 generalize w0.drew=W0d at *
 refine hdT 0 ?_
 refine hdT 1 ?_
 refine hdT 2 ?_
 refine hdT 5 ?_
 refine hdT 6 ?_
 refine hdT 7 ?_
 refine wpAnyH_ready (rs:=[3,8]) (by kernel_rfl) (by simp) ?_
 refine AllReadyH.cons (hdAt (i:=3) rfl) (fun K hK=>?_) (AllReadyH.cons (hdAt (i:=8) rfl) (fun K hK=>?_) AllReadyH.nil)
 · skip
   (go_simp;try go_wp2_with fail)
   have hN1:=Own.new W0d 82 #[.slice ra rn rc];have hbX:=bA1 W0d (.cells #[.slice ra rn rc] 82);replace hB:=hB.keep hbX hB.lt;replace hQ:=hQ.keep hbX hQ.lt;replace h1:=row_keep h1 hbX;replace h2r:=row_keep h2r hbX;replace hG:=hG.below hbX;replace hsz:=Nat.le_trans hsz hbX.size;generalize W0d.alloc (.cells #[.slice ra rn rc] 82)=W1 at *;generalize hhN1g:W0d.heap.size=ghN1 at *;clear hbX hhN1g;refine hK.out _ _ ?_ (fun _=>?_)
   · ((try dsimp only);(exact ⟨hB.cell 0,hB.cell 1⟩))
   clear hK K
   (try simp only [Act.put,pA,pB,pC])
   refine wpAnyH_ready (rs:=[4,8]) (by kernel_rfl) (by simp) ?_;refine AllReadyH.cons (hdAt (i:=4) rfl) (fun K hK=>?_) (AllReadyH.cons (hdAt (i:=8) rfl) (fun K hK=>?_) AllReadyH.nil)
   · skip
     have HNW:Hid (∀j u,([Value.slice ra rn rc]:List Value)[j]? = some u→W1.cell? ((⟨ghN1,0,none⟩:Addr).add j)=some u):=Lib.hid (fun j u hu=>by rw [Addr.add_mid];exact hN1.range j u hu);have HRW:=Lib.hid h1;have hszW:=hsz;rw [if_pos (by rfl)];refine wp_append_fresh _ (.tmp 8) (.tmp 10) 83 rfl B 82 tiR tzR 1 24 Tryz.underlying83 HIR.out HZR.out HSR.out HBtR.out HZsR.out (by omega) (.slice a1 n c1) n _ rfl HRW.out ⟨ghN1,0,none⟩ 1 1 [Value.slice ra rn rc] rfl rfl HNW.out (by simp [Value.oneCell']) (by simp only [maxLen];omega) (by omega) hszW (fun v' W2 h2 h3 h4=>?_);obtain ⟨xa1,xc1,rfl⟩:=row_slice h2;replace hB:=hB.grown h3 (own_ne_row hB HRW.out (by decide));replace hQ:=hQ.grown h3 (own_ne_row hQ HRW.out (by decide));replace h2r:=row_grown h2r HRW.out (by decide) h3;replace hG:=hG.app1 h3 h4;replace hsz:=Nat.le_trans hsz h3.size;replace h1:=h2;clear HNW HRW hszW h2 h3 h4 hN1;refine hK.out _ _ ?_ (fun _=>?_)
     · ((try dsimp only);(exact ⟨hB.cell 0,hB.cell 1⟩))
     clear hK K
     (try simp only [Act.put,pA,pB,pC])
     refine hdC 8 (fun K hK=>?_)
     (go_simp;try go_wp2_with fail)
     have hN2:=Own.new W2 3 #[.int .i64 f];have hbX:=bA1 W2 (.cells #[.int .i64 f] 3);replace hB:=hB.keep hbX hB.lt;replace hQ:=hQ.keep hbX hQ.lt;replace h1:=row_keep h1 hbX;replace h2r:=row_keep h2r hbX;replace hG:=hG.below hbX;replace hsz:=Nat.le_trans hsz hbX.size;generalize W2.alloc (.cells #[.int .i64 f] 3)=W3 at *;generalize hhN2g:W2.heap.size=ghN2 at *;clear hbX hhN2g;refine hK.out _ _ ?_ (fun _=>?_)
     · ((try dsimp only);(exact ⟨hB.cell 0,hB.cell 1⟩))
     clear hK K
     (try simp only [Act.put,pA,pB,pC])
     refine hdC 9 (fun K hK=>?_);have HNW:Hid (∀j u,([Value.int .i64 f]:List Value)[j]? = some u→W3.cell? ((⟨ghN2,0,none⟩:Addr).add j)=some u):=Lib.hid (fun j u hu=>by rw [Addr.add_mid];exact hN2.range j u hu);have HRW:=Lib.hid h2r;have hszW:=hsz;rw [if_pos (by rfl)];refine wp_append_fresh _ (.tmp 13) (.tmp 15) 84 rfl B 3 tiI tzI 1 8 Tryz.underlying84 HII.out HZI.out HSI.out HBtI.out HZsI.out (by omega) (.slice a2 n c2) n _ rfl HRW.out ⟨ghN2,0,none⟩ 1 1 [Value.int .i64 f] rfl rfl HNW.out (by simp [Value.oneCell']) (by simp only [maxLen];omega) (by omega) hszW (fun v' W4 h2 h3 h4=>?_);obtain ⟨xa2,xc2,rfl⟩:=row_slice h2;replace hB:=hB.grown h3 (own_ne_row hB HRW.out (by decide));replace hQ:=hQ.grown h3 (own_ne_row hQ HRW.out (by decide));replace h1:=row_grown h1 HRW.out (by decide) h3;replace hG:=hG.app2 h3 h4;replace hsz:=Nat.le_trans hsz h3.size;replace h2r:=h2;clear HNW HRW hszW h2 h3 h4 hN2;refine hK.out _ _ ?_ (fun _=>?_)
     · ((try dsimp only);(exact ⟨hB.cell 0,hB.cell 1⟩))
     clear hK K
     (try simp only [Act.put,pA,pB,pC])
     refine hdT 10 ?_;refine hdC 11 (fun K hK=>?_);have cQ0:=hQ.cell 0;have cQ1:=hQ.cell 1;have fQ0:=hQ.frozen 0;have fQ1:=hQ.frozen 1
     (go_simp;go_wp2_with fail)
     clear cQ0 cQ1 fQ0 fQ1;replace h1:=row_farE (p:=⟨w.heap.size+1,0,none⟩) h1 hQ (by decide) (.slice xa1 (n+1) xc1);replace h2r:=row_farE (p:=⟨w.heap.size+1,0,none⟩) h2r hQ (by decide) (.slice xa1 (n+1) xc1);replace hG:=hG.setNew (b:=w.heap.size+1) (by omega) 0 (.slice xa1 (n+1) xc1);replace hB:=hB.far (p:=⟨w.heap.size+1,0,none⟩) (by dsimp only;omega) (.slice xa1 (n+1) xc1);replace hQ:=hQ.set 0 (.slice xa1 (n+1) xc1);replace h1:=row_farE (p:=⟨w.heap.size+1,1,none⟩) h1 hQ (by decide) (.slice xa2 (n+1) xc2);replace h2r:=row_farE (p:=⟨w.heap.size+1,1,none⟩) h2r hQ (by decide) (.slice xa2 (n+1) xc2);replace hG:=hG.setNew (b:=w.heap.size+1) (by omega) 1 (.slice xa2 (n+1) xc2);replace hB:=hB.far (p:=⟨w.heap.size+1,1,none⟩) (by dsimp only;omega) (.slice xa2 (n+1) xc2);replace hQ:=hQ.set 1 (.slice xa2 (n+1) xc2);generalize (W4.setCell ⟨w.heap.size+1,0,none⟩ (.slice xa1 (n+1) xc1)).setCell ⟨w.heap.size+1,1,none⟩ (.slice xa2 (n+1) xc2)=W5 at *;refine hK.out _ _ ?_ (fun _=>?_)
     · ((try dsimp only);(exact ⟨hB.cell 0,hB.cell 1⟩))
     clear hK K
     (try simp only [Act.put,pA,pB,pC])
     refine wpAnyH_done (by kernel_rfl) ?_ _;go_wp2_with fail
     exact bodyPost_ret (results_cell_row rfl _ _ (w.heap.size+1) 86 #[(.slice xa1 (n+1) xc1),(.slice xa2 (n+1) xc2)] (0,0) _ rfl hQ Tryz.underlying86 rfl Tryz.info_basis) rfl ⟨xa1,xc1,xa2,xc2,rfl,h1,h2r,hG⟩
   · skip
     (go_simp;try go_wp2_with fail)
     have hN2:=Own.new W1 3 #[.int .i64 f];have hbX:=bA1 W1 (.cells #[.int .i64 f] 3);replace hB:=hB.keep hbX hB.lt;replace hQ:=hQ.keep hbX hQ.lt;replace h1:=row_keep h1 hbX;replace h2r:=row_keep h2r hbX;replace hG:=hG.below hbX;replace hsz:=Nat.le_trans hsz hbX.size;replace hN1:=hN1.keep hbX hN1.lt;generalize W1.alloc (.cells #[.int .i64 f] 3)=W6 at *;generalize hhN2g:W1.heap.size=ghN2 at *;clear hbX hhN2g;refine hK.out _ _ ?_ (fun _=>?_)
     · ((try dsimp only);(exact ⟨hB.cell 0,hB.cell 1⟩))
     clear hK K
     (try simp only [Act.put,pA,pB,pC])
     refine hdC 4 (fun K hK=>?_);have HNW:Hid (∀j u,([Value.slice ra rn rc]:List Value)[j]? = some u→W6.cell? ((⟨ghN1,0,none⟩:Addr).add j)=some u):=Lib.hid (fun j u hu=>by rw [Addr.add_mid];exact hN1.range j u hu);have HRW:=Lib.hid h1;have hszW:=hsz;rw [if_pos (by rfl)];refine wp_append_fresh _ (.tmp 8) (.tmp 10) 83 rfl B 82 tiR tzR 1 24 Tryz.underlying83 HIR.out HZR.out HSR.out HBtR.out HZsR.out (by omega) (.slice a1 n c1) n _ rfl HRW.out ⟨ghN1,0,none⟩ 1 1 [Value.slice ra rn rc] rfl rfl HNW.out (by simp [Value.oneCell']) (by simp only [maxLen];omega) (by omega) hszW (fun v' W7 h2 h3 h4=>?_);obtain ⟨xa1,xc1,rfl⟩:=row_slice h2;replace hB:=hB.grown h3 (own_ne_row hB HRW.out (by decide));replace hQ:=hQ.grown h3 (own_ne_row hQ HRW.out (by decide));replace h2r:=row_grown h2r HRW.out (by decide) h3;replace hG:=hG.app1 h3 h4;replace hsz:=Nat.le_trans hsz h3.size;replace hN2:=hN2.grown h3 (own_ne_row hN2 HRW.out (by decide));replace h1:=h2;clear HNW HRW hszW h2 h3 h4 hN1;refine hK.out _ _ ?_ (fun _=>?_)
     · ((try dsimp only);(exact ⟨hB.cell 0,hB.cell 1⟩))
     clear hK K
     (try simp only [Act.put,pA,pB,pC])
     refine hdC 9 (fun K hK=>?_);have HNW:Hid (∀j u,([Value.int .i64 f]:List Value)[j]? = some u→W7.cell? ((⟨ghN2,0,none⟩:Addr).add j)=some u):=Lib.hid (fun j u hu=>by rw [Addr.add_mid];exact hN2.range j u hu);have HRW:=Lib.hid h2r;have hszW:=hsz;rw [if_pos (by rfl)];refine wp_append_fresh _ (.tmp 13) (.tmp 15) 84 rfl B 3 tiI tzI 1 8 Tryz.underlying84 HII.out HZI.out HSI.out HBtI.out HZsI.out (by omega) (.slice a2 n c2) n _ rfl HRW.out ⟨ghN2,0,none⟩ 1 1 [Value.int .i64 f] rfl rfl HNW.out (by simp [Value.oneCell']) (by simp only [maxLen];omega) (by omega) hszW (fun v' W8 h2 h3 h4=>?_);obtain ⟨xa2,xc2,rfl⟩:=row_slice h2;replace hB:=hB.grown h3 (own_ne_row hB HRW.out (by decide));replace hQ:=hQ.grown h3 (own_ne_row hQ HRW.out (by decide));replace h1:=row_grown h1 HRW.out (by decide) h3;replace hG:=hG.app2 h3 h4;replace hsz:=Nat.le_trans hsz h3.size;replace h2r:=h2;clear HNW HRW hszW h2 h3 h4 hN2;refine hK.out _ _ ?_ (fun _=>?_)
     · ((try dsimp only);(exact ⟨hB.cell 0,hB.cell 1⟩))
     clear hK K
     (try simp only [Act.put,pA,pB,pC])
     refine hdT 10 ?_;refine hdC 11 (fun K hK=>?_);have cQ0:=hQ.cell 0;have cQ1:=hQ.cell 1;have fQ0:=hQ.frozen 0;have fQ1:=hQ.frozen 1
     (go_simp;go_wp2_with fail)
     clear cQ0 cQ1 fQ0 fQ1;replace h1:=row_farE (p:=⟨w.heap.size+1,0,none⟩) h1 hQ (by decide) (.slice xa1 (n+1) xc1);replace h2r:=row_farE (p:=⟨w.heap.size+1,0,none⟩) h2r hQ (by decide) (.slice xa1 (n+1) xc1);replace hG:=hG.setNew (b:=w.heap.size+1) (by omega) 0 (.slice xa1 (n+1) xc1);replace hB:=hB.far (p:=⟨w.heap.size+1,0,none⟩) (by dsimp only;omega) (.slice xa1 (n+1) xc1);replace hQ:=hQ.set 0 (.slice xa1 (n+1) xc1);replace h1:=row_farE (p:=⟨w.heap.size+1,1,none⟩) h1 hQ (by decide) (.slice xa2 (n+1) xc2);replace h2r:=row_farE (p:=⟨w.heap.size+1,1,none⟩) h2r hQ (by decide) (.slice xa2 (n+1) xc2);replace hG:=hG.setNew (b:=w.heap.size+1) (by omega) 1 (.slice xa2 (n+1) xc2);replace hB:=hB.far (p:=⟨w.heap.size+1,1,none⟩) (by dsimp only;omega) (.slice xa2 (n+1) xc2);replace hQ:=hQ.set 1 (.slice xa2 (n+1) xc2);generalize (W8.setCell ⟨w.heap.size+1,0,none⟩ (.slice xa1 (n+1) xc1)).setCell ⟨w.heap.size+1,1,none⟩ (.slice xa2 (n+1) xc2)=W9 at *;refine hK.out _ _ ?_ (fun _=>?_)
     · ((try dsimp only);(exact ⟨hB.cell 0,hB.cell 1⟩))
     clear hK K
     (try simp only [Act.put,pA,pB,pC])
     refine wpAnyH_done (by kernel_rfl) ?_ _;go_wp2_with fail
     exact bodyPost_ret (results_cell_row rfl _ _ (w.heap.size+1) 86 #[(.slice xa1 (n+1) xc1),(.slice xa2 (n+1) xc2)] (0,0) _ rfl hQ Tryz.underlying86 rfl Tryz.info_basis) rfl ⟨xa1,xc1,xa2,xc2,rfl,h1,h2r,hG⟩
 · skip
   (go_simp;try go_wp2_with fail)
   have hN2:=Own.new W0d 3 #[.int .i64 f];have hbX:=bA1 W0d (.cells #[.int .i64 f] 3);replace hB:=hB.keep hbX hB.lt;replace hQ:=hQ.keep hbX hQ.lt;replace h1:=row_keep h1 hbX;replace h2r:=row_keep h2r hbX;replace hG:=hG.below hbX;replace hsz:=Nat.le_trans hsz hbX.size;generalize W0d.alloc (.cells #[.int .i64 f] 3)=W10 at *;generalize hhN2g:W0d.heap.size=ghN2 at *;clear hbX hhN2g;refine hK.out _ _ ?_ (fun _=>?_)
   · ((try dsimp only);(exact ⟨hB.cell 0,hB.cell 1⟩))
   clear hK K
   (try simp only [Act.put,pA,pB,pC])
   refine hdC 3 (fun K hK=>?_)
   (go_simp;try go_wp2_with fail)
   have hN1:=Own.new W10 82 #[.slice ra rn rc];have hbX:=bA1 W10 (.cells #[.slice ra rn rc] 82);replace hB:=hB.keep hbX hB.lt;replace hQ:=hQ.keep hbX hQ.lt;replace h1:=row_keep h1 hbX;replace h2r:=row_keep h2r hbX;replace hG:=hG.below hbX;replace hsz:=Nat.le_trans hsz hbX.size;replace hN2:=hN2.keep hbX hN2.lt;generalize W10.alloc (.cells #[.slice ra rn rc] 82)=W11 at *;generalize hhN1g:W10.heap.size=ghN1 at *;clear hbX hhN1g;refine hK.out _ _ ?_ (fun _=>?_)
   · ((try dsimp only);(exact ⟨hB.cell 0,hB.cell 1⟩))
   clear hK K
   (try simp only [Act.put,pA,pB,pC])
   refine hdC 4 (fun K hK=>?_);have HNW:Hid (∀j u,([Value.slice ra rn rc]:List Value)[j]? = some u→W11.cell? ((⟨ghN1,0,none⟩:Addr).add j)=some u):=Lib.hid (fun j u hu=>by rw [Addr.add_mid];exact hN1.range j u hu);have HRW:=Lib.hid h1;have hszW:=hsz;rw [if_pos (by rfl)];refine wp_append_fresh _ (.tmp 8) (.tmp 10) 83 rfl B 82 tiR tzR 1 24 Tryz.underlying83 HIR.out HZR.out HSR.out HBtR.out HZsR.out (by omega) (.slice a1 n c1) n _ rfl HRW.out ⟨ghN1,0,none⟩ 1 1 [Value.slice ra rn rc] rfl rfl HNW.out (by simp [Value.oneCell']) (by simp only [maxLen];omega) (by omega) hszW (fun v' W12 h2 h3 h4=>?_);obtain ⟨xa1,xc1,rfl⟩:=row_slice h2;replace hB:=hB.grown h3 (own_ne_row hB HRW.out (by decide));replace hQ:=hQ.grown h3 (own_ne_row hQ HRW.out (by decide));replace h2r:=row_grown h2r HRW.out (by decide) h3;replace hG:=hG.app1 h3 h4;replace hsz:=Nat.le_trans hsz h3.size;replace hN2:=hN2.grown h3 (own_ne_row hN2 HRW.out (by decide));replace h1:=h2;clear HNW HRW hszW h2 h3 h4 hN1;refine hK.out _ _ ?_ (fun _=>?_)
   · ((try dsimp only);(exact ⟨hB.cell 0,hB.cell 1⟩))
   clear hK K
   (try simp only [Act.put,pA,pB,pC])
   refine hdC 9 (fun K hK=>?_);have HNW:Hid (∀j u,([Value.int .i64 f]:List Value)[j]? = some u→W12.cell? ((⟨ghN2,0,none⟩:Addr).add j)=some u):=Lib.hid (fun j u hu=>by rw [Addr.add_mid];exact hN2.range j u hu);have HRW:=Lib.hid h2r;have hszW:=hsz;rw [if_pos (by rfl)];refine wp_append_fresh _ (.tmp 13) (.tmp 15) 84 rfl B 3 tiI tzI 1 8 Tryz.underlying84 HII.out HZI.out HSI.out HBtI.out HZsI.out (by omega) (.slice a2 n c2) n _ rfl HRW.out ⟨ghN2,0,none⟩ 1 1 [Value.int .i64 f] rfl rfl HNW.out (by simp [Value.oneCell']) (by simp only [maxLen];omega) (by omega) hszW (fun v' W13 h2 h3 h4=>?_);obtain ⟨xa2,xc2,rfl⟩:=row_slice h2;replace hB:=hB.grown h3 (own_ne_row hB HRW.out (by decide));replace hQ:=hQ.grown h3 (own_ne_row hQ HRW.out (by decide));replace h1:=row_grown h1 HRW.out (by decide) h3;replace hG:=hG.app2 h3 h4;replace hsz:=Nat.le_trans hsz h3.size;replace h2r:=h2;clear HNW HRW hszW h2 h3 h4 hN2;refine hK.out _ _ ?_ (fun _=>?_)
   · ((try dsimp only);(exact ⟨hB.cell 0,hB.cell 1⟩))
   clear hK K
   (try simp only [Act.put,pA,pB,pC])
   refine hdT 10 ?_;refine hdC 11 (fun K hK=>?_);have cQ0:=hQ.cell 0;have cQ1:=hQ.cell 1;have fQ0:=hQ.frozen 0;have fQ1:=hQ.frozen 1
   (go_simp;go_wp2_with fail)
   clear cQ0 cQ1 fQ0 fQ1;replace h1:=row_farE (p:=⟨w.heap.size+1,0,none⟩) h1 hQ (by decide) (.slice xa1 (n+1) xc1);replace h2r:=row_farE (p:=⟨w.heap.size+1,0,none⟩) h2r hQ (by decide) (.slice xa1 (n+1) xc1);replace hG:=hG.setNew (b:=w.heap.size+1) (by omega) 0 (.slice xa1 (n+1) xc1);replace hB:=hB.far (p:=⟨w.heap.size+1,0,none⟩) (by dsimp only;omega) (.slice xa1 (n+1) xc1);replace hQ:=hQ.set 0 (.slice xa1 (n+1) xc1);replace h1:=row_farE (p:=⟨w.heap.size+1,1,none⟩) h1 hQ (by decide) (.slice xa2 (n+1) xc2);replace h2r:=row_farE (p:=⟨w.heap.size+1,1,none⟩) h2r hQ (by decide) (.slice xa2 (n+1) xc2);replace hG:=hG.setNew (b:=w.heap.size+1) (by omega) 1 (.slice xa2 (n+1) xc2);replace hB:=hB.far (p:=⟨w.heap.size+1,1,none⟩) (by dsimp only;omega) (.slice xa2 (n+1) xc2);replace hQ:=hQ.set 1 (.slice xa2 (n+1) xc2);generalize (W13.setCell ⟨w.heap.size+1,0,none⟩ (.slice xa1 (n+1) xc1)).setCell ⟨w.heap.size+1,1,none⟩ (.slice xa2 (n+1) xc2)=W14 at *;refine hK.out _ _ ?_ (fun _=>?_)
   · ((try dsimp only);(exact ⟨hB.cell 0,hB.cell 1⟩))
   clear hK K
   (try simp only [Act.put,pA,pB,pC])
   refine wpAnyH_done (by kernel_rfl) ?_ _;go_wp2_with fail
   exact bodyPost_ret (results_cell_row rfl _ _ (w.heap.size+1) 86 #[(.slice xa1 (n+1) xc1),(.slice xa2 (n+1) xc2)] (0,0) _ rfl hQ Tryz.underlying86 rfl Tryz.info_basis) rfl ⟨xa1,xc1,xa2,xc2,rfl,h1,h2r,hG⟩
def unitR (n i:Nat):List Int:=(List.replicate n (0:Int)).set i 1
def longR (M:List (List Int)):List (List Int):=M.mapIdx (fun i r=>r++unitR M.length i)
def bndR (W:Nat) (L:List (List Int)):List (List Int):=(L.filter (fun r=>decide (fstN r<W))).map (List.take W)
def cloR (W:Nat) (L:List (List Int)):List (List Int):=(L.filter (fun r=>!decide (fstN r<W))).map (List.drop W)
theorem unitR_len (n i:Nat):(unitR n i).length=n:=by rw [unitR,List.length_set,List.length_replicate]
theorem unitR_ok (n i:Nat):RowOk n (unitR n i):=⟨unitR_len n i,fun x hx=>by
 rcases List.mem_or_eq_of_mem_set hx with h | h
 · rw [(List.mem_replicate.1 h).2];omega
 · omega⟩
theorem longR_len (M:List (List Int)):(longR M).length=M.length:=by rw [longR,List.length_mapIdx]
theorem longR_get {M:List (List Int)} {i:Nat} {r:List Int} (h:M[i]? = some r):(longR M)[i]? = some (r++unitR M.length i):=by
 rw [longR,List.getElem?_mapIdx,h];rfl
theorem longR_mem {M:List (List Int)} {x:List Int} (h:x∈longR M):∃i r,M[i]? = some r∧x=r++unitR M.length i:=by
 obtain ⟨i,hi,rfl⟩:=List.mem_iff_getElem.1 h
 have hi2:i<M.length:=by rw [longR_len] at hi;exact hi
 refine ⟨i,M[i],List.getElem?_eq_getElem hi2,?_⟩
 have:=longR_get (List.getElem?_eq_getElem hi2)
 rw [List.getElem?_eq_getElem hi] at this
 exact Option.some.inj this
theorem RowOk.app {a b:Nat} {r s:List Int} (h:RowOk a r) (h':RowOk b s):RowOk (a+b) (r++s):=⟨by rw [List.length_append,h.len,h'.len],fun x hx=>by
 rw [List.mem_append] at hx
 rcases hx with hx | hx
 · exact h.bd x hx
 · exact h'.bd x hx⟩
theorem longR_ok {W:Nat} {M:List (List Int)} (h:∀r∈M,RowOk W r):∀x∈longR M,RowOk (W+M.length) x:=fun x hx=>by
 obtain ⟨i,r,h1,rfl⟩:=longR_mem hx
 exact (h r (List.mem_of_getElem? h1)).app (unitR_ok _ _)
theorem take_getD {r:List Int} {W c:Nat}:(r.take W).getD c 0=if c<W then r.getD c 0 else 0:=by
 rw [List.getD_eq_getElem?_getD,List.getElem?_take]
 split
 · rw [List.getD_eq_getElem?_getD]
 · rfl
theorem drop_getD {r:List Int} {W c:Nat}:(r.drop W).getD c 0=r.getD (W+c) 0:=by
 rw [List.getD_eq_getElem?_getD,List.getElem?_drop,List.getD_eq_getElem?_getD]
theorem fstN_take {r:List Int} {W:Nat} (hl:fstN r<r.length) (h:fstN r<W):fstN (r.take W)=fstN r:=
 fstN_eq (fun c hc=>by rw [take_getD,if_pos (by omega),fstN_low hc]) (by rw [take_getD,if_pos h];exact fstN_at hl)
theorem fstN_drop {r:List Int} {W:Nat} (hl:fstN r<r.length) (h:W≤fstN r):fstN (r.drop W)=fstN r - W:=
 fstN_eq (fun c hc=>by rw [drop_getD,fstN_low (by omega)]) (by rw [drop_getD,show W+(fstN r - W)=fstN r by omega];exact fstN_at hl)
theorem RowOk.take {W n:Nat} {r:List Int} (h:RowOk (W+n) r):RowOk W (r.take W):=⟨by rw [List.length_take,h.len];omega,fun x hx=>h.bd x (List.mem_of_mem_take hx)⟩
theorem RowOk.drop {W n:Nat} {r:List Int} (h:RowOk (W+n) r):RowOk n (r.drop W):=⟨by rw [List.length_drop,h.len];omega,fun x hx=>h.bd x (List.mem_of_mem_drop hx)⟩
def cutV (W:Nat) (x:Vec):Vec:=fun c=>if c<W then x c else 0
theorem cutV_vec (W:Nat) (r:List Int):cutV W (vec r)=vec (r.take W):=by
 funext c
 rw [cutV,vec,vec,take_getD]
 split
 · rfl
 · rw [toK_zero]
theorem Sp.cut {V:List Vec} {x:Vec} (W:Nat) (h:Sp V x):Sp (V.map (cutV W)) (cutV W x):=by
 induction h with
 | zero =>
   have e:cutV W (fun _=>0)=fun _=>0:=(by funext c;rw [cutV];split <;> rfl);rw [e];exact Sp.zero
 | step k v x hv _ ih =>
   have e:cutV W (fun c=>x c+k * v c)=fun c=>cutV W x c+k * cutV W v c:=by
    funext c
    simp only [cutV];split
    · rfl
    · grind
   rw [e];exact Sp.add ih k (Sp.mem (List.mem_map.2 ⟨v,hv,rfl⟩))
section
variable {W n:Nat} {L:List (List Int)}
theorem bndR_mem {x:List Int}:x∈bndR W L↔∃r∈L,fstN r<W∧x=r.take W:=by
 rw [bndR,List.mem_map]
 constructor
 · rintro ⟨r,hr,rfl⟩;rw [List.mem_filter] at hr;exact ⟨r,hr.1,by simpa using hr.2,rfl⟩
 · rintro ⟨r,hr,h,rfl⟩;exact ⟨r,List.mem_filter.2 ⟨hr,by simpa using h⟩,rfl⟩
theorem cloR_mem {x:List Int}:x∈cloR W L↔∃r∈L,W≤fstN r∧x=r.drop W:=by
 rw [cloR,List.mem_map]
 constructor
 · rintro ⟨r,hr,rfl⟩;rw [List.mem_filter] at hr;exact ⟨r,hr.1,by simpa using hr.2,rfl⟩
 · rintro ⟨r,hr,h,rfl⟩;exact ⟨r,List.mem_filter.2 ⟨hr,by simpa using h⟩,rfl⟩
theorem RedI.inside (h:RedI (W+n) L) {r:List Int} (hr:r∈L):fstN r<r.length:=by rw [(h.ok r hr).len];exact h.fst r hr
theorem bndR_red (h:RedI (W+n) L):RedI W (bndR W L):=by
 refine ⟨fun x hx=>?_,⟨?_,fun e he=>?_,fun e he c hc=>?_,fun e he f hf hne=>?_⟩,fun x hx=>?_⟩
 · obtain ⟨r,hr,-,rfl⟩:=bndR_mem.1 hx;exact (h.ok r hr).take
 · rw [pairs,List.pairwise_map,bndR,List.pairwise_map];have h2:L.Pairwise fun a b=>fstN a<fstN b:=(by have:=h.sorted;rwa [List.pairwise_map] at this);refine List.Pairwise.imp_of_mem (fun {a b} ha hb hab=>?_) (h2.filter _);rw [List.mem_filter] at ha hb;rw [fstN_take (h.inside ha.1) (by simpa using ha.2),fstN_take (h.inside hb.1) (by simpa using hb.2)];exact hab
 · obtain ⟨x,hx,rfl⟩:=List.mem_map.1 he;obtain ⟨r,hr,h1,rfl⟩:=bndR_mem.1 hx;show toK ((r.take W).getD (fstN (r.take W)) 0)=1
   rw [fstN_take (h.inside hr) h1,take_getD,if_pos h1,h.one hr,toK_one]
 · obtain ⟨x,hx,rfl⟩:=List.mem_map.1 he;show toK (x.getD c 0)=0
   rw [fstN_low hc,toK_zero]
 · obtain ⟨x,hx,rfl⟩:=List.mem_map.1 he;obtain ⟨y,hy,rfl⟩:=List.mem_map.1 hf;obtain ⟨r,hr,h1,rfl⟩:=bndR_mem.1 hx;obtain ⟨s,hs,h2,rfl⟩:=bndR_mem.1 hy;show toK ((r.take W).getD (fstN (s.take W)) 0)=0
   dsimp only at hne;rw [fstN_take (h.inside hr) h1,fstN_take (h.inside hs) h2] at hne;rw [fstN_take (h.inside hs) h2,take_getD,if_pos h2,h.off hr hs hne,toK_zero]
 · obtain ⟨r,hr,h1,rfl⟩:=bndR_mem.1 hx;rw [fstN_take (h.inside hr) h1];exact h1
theorem cloR_red (h:RedI (W+n) L):RedI n (cloR W L):=by
 refine ⟨fun x hx=>?_,⟨?_,fun e he=>?_,fun e he c hc=>?_,fun e he f hf hne=>?_⟩,fun x hx=>?_⟩
 · obtain ⟨r,hr,-,rfl⟩:=cloR_mem.1 hx;exact (h.ok r hr).drop
 · rw [pairs,List.pairwise_map,cloR,List.pairwise_map];have h2:L.Pairwise fun a b=>fstN a<fstN b:=(by have:=h.sorted;rwa [List.pairwise_map] at this);refine List.Pairwise.imp_of_mem (fun {a b} ha hb hab=>?_) (h2.filter _);rw [List.mem_filter] at ha hb;have a1:W≤fstN a:=(by simpa using ha.2);have b1:W≤fstN b:=(by simpa using hb.2);rw [fstN_drop (h.inside ha.1) a1,fstN_drop (h.inside hb.1) b1];omega
 · obtain ⟨x,hx,rfl⟩:=List.mem_map.1 he;obtain ⟨r,hr,h1,rfl⟩:=cloR_mem.1 hx;show toK ((r.drop W).getD (fstN (r.drop W)) 0)=1
   rw [fstN_drop (h.inside hr) h1,drop_getD,show W+(fstN r - W)=fstN r by omega,h.one hr,toK_one]
 · obtain ⟨x,hx,rfl⟩:=List.mem_map.1 he;show toK (x.getD c 0)=0
   rw [fstN_low hc,toK_zero]
 · obtain ⟨x,hx,rfl⟩:=List.mem_map.1 he;obtain ⟨y,hy,rfl⟩:=List.mem_map.1 hf;obtain ⟨r,hr,h1,rfl⟩:=cloR_mem.1 hx;obtain ⟨s,hs,h2,rfl⟩:=cloR_mem.1 hy;show toK ((r.drop W).getD (fstN (s.drop W)) 0)=0
   dsimp only at hne;rw [fstN_drop (h.inside hr) h1,fstN_drop (h.inside hs) h2] at hne;rw [fstN_drop (h.inside hs) h2,drop_getD,show W+(fstN s - W)=fstN s by omega,h.off hr hs (by omega),toK_zero]
 · obtain ⟨r,hr,h1,rfl⟩:=cloR_mem.1 hx;have:=h.fst r hr;rw [fstN_drop (h.inside hr) h1];omega
end
theorem bndR_eq {W:Nat} {M:List (List Int)} (h:∀r∈M,RowOk W r):bndR W (redR (longR M))=redR M:=by
 obtain ⟨h1,h2⟩:=redR_redI (longR_ok h)
 refine (redR_uniq h (bndR_red h1) ⟨fun v hv=>?_,fun v hv=>?_⟩).symm
 · obtain ⟨x,hx,rfl⟩:=List.mem_map.1 hv;obtain ⟨r,hr,-,rfl⟩:=bndR_mem.1 hx;rw [←cutV_vec];refine Sp.of_sub (fun w hw=>?_) ((h2.1 _ (List.mem_map.2 ⟨r,hr,rfl⟩)).cut W);obtain ⟨y,hy,rfl⟩:=List.mem_map.1 hw;obtain ⟨z,hz,rfl⟩:=List.mem_map.1 hy;obtain ⟨i,s,hs,rfl⟩:=longR_mem hz;have hm:=List.mem_of_getElem? hs;rw [cutV_vec,List.take_append_of_le_length (by rw [(h s hm).len];omega),List.take_of_length_le (by rw [(h s hm).len];omega)];exact Sp.mem (List.mem_map.2 ⟨s,hm,rfl⟩)
 · obtain ⟨s,hs,rfl⟩:=List.mem_map.1 hv;obtain ⟨i,hi,rfl⟩:=List.mem_iff_getElem.1 hs;have hm:=h _ hs;have hin:M[i]++unitR M.length i∈longR M:=List.mem_of_getElem? (longR_get (List.getElem?_eq_getElem hi));have h3:=(h2.2 _ (List.mem_map.2 ⟨_,hin,rfl⟩)).cut W;rw [cutV_vec,List.take_append_of_le_length (by rw [hm.len];omega),List.take_of_length_le (by rw [hm.len];omega)] at h3;refine Sp.of_sub (fun w hw=>?_) h3;obtain ⟨y,hy,rfl⟩:=List.mem_map.1 hw;obtain ⟨r,hr,rfl⟩:=List.mem_map.1 hy;rw [cutV_vec];by_cases e:fstN r<W
   · exact Sp.mem (List.mem_map.2 ⟨_,bndR_mem.2 ⟨r,hr,e,rfl⟩,rfl⟩)
   · have hz : vec (r.take W) = fun _ => 0 := by
       funext c
       rw [vec,take_getD];split
       · rw [fstN_low (by omega),toK_zero]
       · rw [toK_zero]
     rw [hz];exact Sp.zero
theorem cloR_self {W:Nat} {M:List (List Int)} (h:∀r∈M,RowOk W r):redR (cloR W (redR (longR M)))=cloR W (redR (longR M)):=
 redR_self (cloR_red (redR_redI (longR_ok h)).1)
def wlTo (m:List Int):Nat→Int
 | 0=>0
 | k+1=>wlTo m k+m.getD k 0
def wlen (m:List Int):Int:=wlTo m 8
set_option maxHeartbeats 4000000 in
theorem l01SingleO_c {w : World} {p0 p1 p2 p3 p4 p5 p6 p7 : Int} (hm : IsMono [p0, p1, p2, p3, p4, p5, p6, p7]) :
    Calls Tryz.prog 164 #[.agg #[.int .u8 p0,.int .u8 p1,.int .u8 p2,.int .u8 p3,.int .u8 p4,.int .u8 p5,.int .u8 p6,.int .u8 p7],.int .i64 1] w fun e w'=>∃g,e=.returned (.agg #[.slice (some ⟨g,0,none⟩) 1 1])∧w.heap.size≤g∧Own w' g 158 #[.int .u8 p0,.int .u8 p1,.int .u8 p2,.int .u8 p3,.int .u8 p4,.int .u8 p5,.int .u8 p6,.int .u8 p7,.int .i64 1]∧Below w.heap.size w w':=by
 have HM:=Lib.hid hm
 have hM:=(Own.new w 156 #[.int .u8 p0,.int .u8 p1,.int .u8 p2,.int .u8 p3,.int .u8 p4,.int .u8 p5,.int .u8 p6,.int .u8 p7]).alloc (.cells #[.slice none 0 0] 39)
 have hR:=Own.new (w.alloc (.cells #[.int .u8 p0,.int .u8 p1,.int .u8 p2,.int .u8 p3,.int .u8 p4,.int .u8 p5,.int .u8 p6,.int .u8 p7] 156)) 39 #[.slice none 0 0]
 rw [sAl] at hR
 have hb:=bTn (bA1 w (.cells #[.int .u8 p0,.int .u8 p1,.int .u8 p2,.int .u8 p3,.int .u8 p4,.int .u8 p5,.int .u8 p6,.int .u8 p7] 156)) (bA1 _ (.cells #[.slice none 0 0] 39))
 have n1:num 1=1:=by decide
 have h10:((1:Int)==0)=false:=by decide
 go_enter Tryz.func164,Tryz.ntmps164
 go_upto_region 1 with fail
 generalize (w.alloc (.cells #[.int .u8 p0,.int .u8 p1,.int .u8 p2,.int .u8 p3,.int .u8 p4,.int .u8 p5,.int .u8 p6,.int .u8 p7] 156)).alloc (.cells #[.slice none 0 0] 39)=w0 at *
 go_wp2_with fail
 refine (l01Mod_c 1 _ (by omega) (by omega)).mono ?_
 rintro e wM ⟨rfl,rfl⟩
 rw [n1]
 have hR0:=hR
 go_upto_region 3 with fail
 have N1:=Lib.hid n1
 clear n1
 replace hM:Own w0.drew w.heap.size 156 #[.int .u8 p0,.int .u8 p1,.int .u8 p2,.int .u8 p3,.int .u8 p4,.int .u8 p5,.int .u8 p6,.int .u8 p7]:=hM
 replace hR:Own w0.drew (w.heap.size+1) 39 #[.slice none 0 0]:=hR
 replace hb:Below w.heap.size w w0.drew:=hb.drew
 refine wp_region_held_drew (S:=(fun w'=>w'.cell? ⟨w.heap.size,0,none⟩=some (.int .u8 p0)∧w'.cell? ⟨w.heap.size,1,none⟩=some (.int .u8 p1)∧w'.cell? ⟨w.heap.size,2,none⟩=some (.int .u8 p2)∧w'.cell? ⟨w.heap.size,3,none⟩=some (.int .u8 p3)∧w'.cell? ⟨w.heap.size,4,none⟩=some (.int .u8 p4)∧w'.cell? ⟨w.heap.size,5,none⟩=some (.int .u8 p5)∧w'.cell? ⟨w.heap.size,6,none⟩=some (.int .u8 p6)∧w'.cell? ⟨w.heap.size,7,none⟩=some (.int .u8 p7))) (by kernel_rfl) ?_ (fun hHeld=>?_)
 · ((try dsimp only);(exact ⟨hM.cell 0,hM.cell 1,hM.cell 2,hM.cell 3,hM.cell 4,hM.cell 5,hM.cell 6,hM.cell 7⟩))
 refine hdT 0 ?_
 refine hdT 1 ?_
 refine hdC 2 (fun K hK=>?_)
 (go_simp;(go_at_call 165;refine (l01Mod_c 1 _ (by omega) (by omega)).mono ?_;rintro e wM ⟨rfl,rfl⟩;rw [N1.out]);go_wp2_with fail)
 refine hK.out _ _ ?_ (fun _=>?_)
 · ((try dsimp only);(exact ⟨hM.cell 0,hM.cell 1,hM.cell 2,hM.cell 3,hM.cell 4,hM.cell 5,hM.cell 6,hM.cell 7⟩))
 clear hK K
 (try simp only [Act.put,pA,pB,pC])
 refine hdT 3 ?_
 refine hdC 4 (fun K hK=>?_)
 (go_simp;try go_wp2_with fail)
 have hN:Own (w0.alloc (.cells #[.int .u8 p0,.int .u8 p1,.int .u8 p2,.int .u8 p3,.int .u8 p4,.int .u8 p5,.int .u8 p6,.int .u8 p7,.int .i64 1] 158)).drew w0.heap.size 158 #[.int .u8 p0,.int .u8 p1,.int .u8 p2,.int .u8 p3,.int .u8 p4,.int .u8 p5,.int .u8 p6,.int .u8 p7,.int .i64 1]:=Own.new w0 158 #[.int .u8 p0,.int .u8 p1,.int .u8 p2,.int .u8 p3,.int .u8 p4,.int .u8 p5,.int .u8 p6,.int .u8 p7,.int .i64 1]
 have hlM:=hM.lt
 replace hM:Own (w0.alloc (.cells #[.int .u8 p0,.int .u8 p1,.int .u8 p2,.int .u8 p3,.int .u8 p4,.int .u8 p5,.int .u8 p6,.int .u8 p7,.int .i64 1] 158)).drew w.heap.size 156 #[.int .u8 p0,.int .u8 p1,.int .u8 p2,.int .u8 p3,.int .u8 p4,.int .u8 p5,.int .u8 p6,.int .u8 p7]:=Own.alloc (w:=w0) hM (.cells #[.int .u8 p0,.int .u8 p1,.int .u8 p2,.int .u8 p3,.int .u8 p4,.int .u8 p5,.int .u8 p6,.int .u8 p7,.int .i64 1] 158)
 replace hR:Own (w0.alloc (.cells #[.int .u8 p0,.int .u8 p1,.int .u8 p2,.int .u8 p3,.int .u8 p4,.int .u8 p5,.int .u8 p6,.int .u8 p7,.int .i64 1] 158)).drew (w.heap.size+1) 39 #[.slice none 0 0]:=Own.alloc (w:=w0) hR (.cells #[.int .u8 p0,.int .u8 p1,.int .u8 p2,.int .u8 p3,.int .u8 p4,.int .u8 p5,.int .u8 p6,.int .u8 p7,.int .i64 1] 158)
 have hgN:=hb.size
 replace hb:Below w.heap.size w (w0.alloc (.cells #[.int .u8 p0,.int .u8 p1,.int .u8 p2,.int .u8 p3,.int .u8 p4,.int .u8 p5,.int .u8 p6,.int .u8 p7,.int .i64 1] 158)).drew:=bT' hb (bA1 w0.drew (.cells #[.int .u8 p0,.int .u8 p1,.int .u8 p2,.int .u8 p3,.int .u8 p4,.int .u8 p5,.int .u8 p6,.int .u8 p7,.int .i64 1] 158)) hb.size
 have hlR:=hR.lt
 have cR:=hR.cell 0
 have fR:=hR.frozen 0
 refine hK.out _ _ ?_ (fun _=>?_)
 · ((try dsimp only);(exact ⟨hM.cell 0,hM.cell 1,hM.cell 2,hM.cell 3,hM.cell 4,hM.cell 5,hM.cell 6,hM.cell 7⟩))
 clear hK K
 (try simp only [Act.put,pA,pB,pC])
 refine hdT 5 ?_
 refine hdC 6 (fun K hK=>?_)
 (go_simp;go_wp2_with fail)
 have hgR:w.heap.size+1<w0.heap.size:=hR0.lt
 replace hM:=hM.far (p:=⟨w.heap.size+1,0,none⟩) (by dsimp only;omega) (.slice (some ⟨w0.heap.size,0,none⟩) 1 1)
 replace hN:=hN.far (p:=⟨w.heap.size+1,0,none⟩) (by dsimp only;show w0.heap.size≠_;omega) (.slice (some ⟨w0.heap.size,0,none⟩) 1 1)
 replace hR:=hR.set 0 (.slice (some ⟨w0.heap.size,0,none⟩) 1 1)
 replace hb:=hb.setCell (p:=⟨w.heap.size+1,0,none⟩) (by dsimp only;omega) (.slice (some ⟨w0.heap.size,0,none⟩) 1 1)
 refine hK.out _ _ ?_ (fun _=>?_)
 · ((try dsimp only);(exact ⟨hM.cell 0,hM.cell 1,hM.cell 2,hM.cell 3,hM.cell 4,hM.cell 5,hM.cell 6,hM.cell 7⟩))
 clear hK K
 (try simp only [Act.put,pA,pB,pC])
 refine wpAnyH_done (by kernel_rfl) ?_ _
 go_wp2_with fail
 refine bodyPost_ret (results_cell_row rfl _ _ (w.heap.size+1) 39 #[.slice (some ⟨w0.heap.size,0,none⟩) 1 1] (0,0) _ rfl hR Tryz.underlying39 rfl Tryz.info_form) rfl ⟨w0.heap.size,rfl,by omega,?_,hb⟩
 exact hN
theorem l01Single_c {w : World} {p0 p1 p2 p3 p4 p5 p6 p7 : Int} (hm : IsMono [p0, p1, p2, p3, p4, p5, p6, p7]) :
    Calls Tryz.prog 164 #[.agg #[.int .u8 p0,.int .u8 p1,.int .u8 p2,.int .u8 p3,.int .u8 p4,.int .u8 p5,.int .u8 p6,.int .u8 p7],.int .i64 1] w fun e w'=>∃g,e=.returned (.agg #[.slice (some ⟨g,0,none⟩) 1 1])∧w.heap.size≤g∧Terms w' (some ⟨g,0,none⟩) 1 [⟨[p0,p1,p2,p3,p4,p5,p6,p7],1⟩]∧Below w.heap.size w w':=by
 have HM:=Lib.hid hm
 refine (l01SingleO_c hm).mono ?_
 rintro e w' ⟨g,rfl,hg,hN,hb⟩
 have hT1:∀t∈[(⟨[p0,p1,p2,p3,p4,p5,p6,p7],1⟩:Tm)],IsTm t:=by
  intro t ht;obtain rfl:t=⟨[p0,p1,p2,p3,p4,p5,p6,p7],1⟩:=(by simpa using ht);exact ⟨HM.out,by dsimp only;omega,by dsimp only;omega⟩
 exact ⟨g,rfl,hg,Terms.of_own (ts:=[⟨[p0,p1,p2,p3,p4,p5,p6,p7],1⟩]) (t:=158) hN hT1 rfl,hb⟩
end Go.Proofs.YtifcfoijcodjbaaGreat
