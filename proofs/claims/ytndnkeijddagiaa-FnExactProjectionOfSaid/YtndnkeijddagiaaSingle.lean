
import Derived.Test.YtndnkeijddagiaaTimes
namespace Go.Proofs.Ytndnkeijddagiaa
set_option maxRecDepth 100000
open Go.RowKit Go.Deep
set_option maxHeartbeats 4000000 in
theorem l01SingleO_c {w : World} {p0 p1 p2 p3 p4 p5 p6 p7 : Int} (hm : IsMono [p0, p1, p2, p3, p4, p5, p6, p7]) :
    Calls Try.prog 108 #[.agg #[.int .u8 p0,.int .u8 p1,.int .u8 p2,.int .u8 p3,.int .u8 p4,.int .u8 p5,.int .u8 p6,.int .u8 p7],.int .i64 1] w fun e w'=>∃g,e=.returned (.agg #[.slice (some ⟨g,0,none⟩) 1 1])∧w.heap.size≤g∧Own w' g 76 #[.int .u8 p0,.int .u8 p1,.int .u8 p2,.int .u8 p3,.int .u8 p4,.int .u8 p5,.int .u8 p6,.int .u8 p7,.int .i64 1]∧Below w.heap.size w w':=by
 have HM:=Lib.hid hm
 have hM:=(Own.new w 74 #[.int .u8 p0,.int .u8 p1,.int .u8 p2,.int .u8 p3,.int .u8 p4,.int .u8 p5,.int .u8 p6,.int .u8 p7]).alloc (.cells #[.slice none 0 0] 47)
 have hR:=Own.new (w.alloc (.cells #[.int .u8 p0,.int .u8 p1,.int .u8 p2,.int .u8 p3,.int .u8 p4,.int .u8 p5,.int .u8 p6,.int .u8 p7] 74)) 47 #[.slice none 0 0]
 rw [sAl] at hR
 have hb:=bTn (bA1 w (.cells #[.int .u8 p0,.int .u8 p1,.int .u8 p2,.int .u8 p3,.int .u8 p4,.int .u8 p5,.int .u8 p6,.int .u8 p7] 74)) (bA1 _ (.cells #[.slice none 0 0] 47))
 have n1:num 1=1:=by decide
 have h10:((1:Int)==0)=false:=by decide
 go_enter Try.func108,Try.ntmps108
 go_upto_region 1 with fail
 generalize (w.alloc (.cells #[.int .u8 p0,.int .u8 p1,.int .u8 p2,.int .u8 p3,.int .u8 p4,.int .u8 p5,.int .u8 p6,.int .u8 p7] 74)).alloc (.cells #[.slice none 0 0] 47)=w0 at *
 go_wp2_with fail
 refine (l01Mod_c 1 _ (by omega) (by omega)).mono ?_
 rintro e wM ⟨rfl,rfl⟩
 rw [n1]
 have hR0:=hR
 go_upto_region 3 with fail
 have N1:=Lib.hid n1
 clear n1
 replace hM:Own w0.drew w.heap.size 74 #[.int .u8 p0,.int .u8 p1,.int .u8 p2,.int .u8 p3,.int .u8 p4,.int .u8 p5,.int .u8 p6,.int .u8 p7]:=hM
 replace hR:Own w0.drew (w.heap.size+1) 47 #[.slice none 0 0]:=hR
 replace hb:Below w.heap.size w w0.drew:=hb.drew
 refine wp_region_held_drew (S:=(fun w'=>w'.cell? ⟨w.heap.size,0,none⟩=some (.int .u8 p0)∧w'.cell? ⟨w.heap.size,1,none⟩=some (.int .u8 p1)∧w'.cell? ⟨w.heap.size,2,none⟩=some (.int .u8 p2)∧w'.cell? ⟨w.heap.size,3,none⟩=some (.int .u8 p3)∧w'.cell? ⟨w.heap.size,4,none⟩=some (.int .u8 p4)∧w'.cell? ⟨w.heap.size,5,none⟩=some (.int .u8 p5)∧w'.cell? ⟨w.heap.size,6,none⟩=some (.int .u8 p6)∧w'.cell? ⟨w.heap.size,7,none⟩=some (.int .u8 p7))) (by kernel_rfl) ?_ (fun hHeld=>?_)
 · ((try dsimp only);(exact ⟨hM.cell 0,hM.cell 1,hM.cell 2,hM.cell 3,hM.cell 4,hM.cell 5,hM.cell 6,hM.cell 7⟩))
 refine hdT 0 ?_
 refine hdT 1 ?_
 refine hdC 2 (fun K hK=>?_)
 (go_simp;(go_at_call 110;refine (l01Mod_c 1 _ (by omega) (by omega)).mono ?_;rintro e wM ⟨rfl,rfl⟩;rw [N1.out]);go_wp2_with fail)
 refine hK.out _ _ ?_ (fun _=>?_)
 · ((try dsimp only);(exact ⟨hM.cell 0,hM.cell 1,hM.cell 2,hM.cell 3,hM.cell 4,hM.cell 5,hM.cell 6,hM.cell 7⟩))
 clear hK K
 (try simp only [Act.put,pA,pB,pC])
 refine hdT 3 ?_
 refine hdC 4 (fun K hK=>?_)
 (go_simp;try go_wp2_with fail)
 have hN:Own (w0.alloc (.cells #[.int .u8 p0,.int .u8 p1,.int .u8 p2,.int .u8 p3,.int .u8 p4,.int .u8 p5,.int .u8 p6,.int .u8 p7,.int .i64 1] 76)).drew w0.heap.size 76 #[.int .u8 p0,.int .u8 p1,.int .u8 p2,.int .u8 p3,.int .u8 p4,.int .u8 p5,.int .u8 p6,.int .u8 p7,.int .i64 1]:=Own.new w0 76 #[.int .u8 p0,.int .u8 p1,.int .u8 p2,.int .u8 p3,.int .u8 p4,.int .u8 p5,.int .u8 p6,.int .u8 p7,.int .i64 1]
 have hlM:=hM.lt
 replace hM:Own (w0.alloc (.cells #[.int .u8 p0,.int .u8 p1,.int .u8 p2,.int .u8 p3,.int .u8 p4,.int .u8 p5,.int .u8 p6,.int .u8 p7,.int .i64 1] 76)).drew w.heap.size 74 #[.int .u8 p0,.int .u8 p1,.int .u8 p2,.int .u8 p3,.int .u8 p4,.int .u8 p5,.int .u8 p6,.int .u8 p7]:=Own.alloc (w:=w0) hM (.cells #[.int .u8 p0,.int .u8 p1,.int .u8 p2,.int .u8 p3,.int .u8 p4,.int .u8 p5,.int .u8 p6,.int .u8 p7,.int .i64 1] 76)
 replace hR:Own (w0.alloc (.cells #[.int .u8 p0,.int .u8 p1,.int .u8 p2,.int .u8 p3,.int .u8 p4,.int .u8 p5,.int .u8 p6,.int .u8 p7,.int .i64 1] 76)).drew (w.heap.size+1) 47 #[.slice none 0 0]:=Own.alloc (w:=w0) hR (.cells #[.int .u8 p0,.int .u8 p1,.int .u8 p2,.int .u8 p3,.int .u8 p4,.int .u8 p5,.int .u8 p6,.int .u8 p7,.int .i64 1] 76)
 have hgN:=hb.size
 replace hb:Below w.heap.size w (w0.alloc (.cells #[.int .u8 p0,.int .u8 p1,.int .u8 p2,.int .u8 p3,.int .u8 p4,.int .u8 p5,.int .u8 p6,.int .u8 p7,.int .i64 1] 76)).drew:=bT' hb (bA1 w0.drew (.cells #[.int .u8 p0,.int .u8 p1,.int .u8 p2,.int .u8 p3,.int .u8 p4,.int .u8 p5,.int .u8 p6,.int .u8 p7,.int .i64 1] 76)) hb.size
 have hlR:=hR.lt
 have cR:=hR.cell 0
 have fR:=hR.frozen 0
 refine hK.out _ _ ?_ (fun _=>?_)
 · ((try dsimp only);(exact ⟨hM.cell 0,hM.cell 1,hM.cell 2,hM.cell 3,hM.cell 4,hM.cell 5,hM.cell 6,hM.cell 7⟩))
 clear hK K
 (try simp only [Act.put,pA,pB,pC])
 refine hdT 5 ?_
 refine hdC 6 (fun K hK=>?_)
 (go_simp;go_wp2_with fail)
 have hgR:w.heap.size+1<w0.heap.size:=hR0.lt
 replace hM:=hM.far (p:=⟨w.heap.size+1,0,none⟩) (by dsimp only;omega) (.slice (some ⟨w0.heap.size,0,none⟩) 1 1)
 replace hN:=hN.far (p:=⟨w.heap.size+1,0,none⟩) (by dsimp only;show w0.heap.size≠_;omega) (.slice (some ⟨w0.heap.size,0,none⟩) 1 1)
 replace hR:=hR.set 0 (.slice (some ⟨w0.heap.size,0,none⟩) 1 1)
 replace hb:=hb.setCell (p:=⟨w.heap.size+1,0,none⟩) (by dsimp only;omega) (.slice (some ⟨w0.heap.size,0,none⟩) 1 1)
 refine hK.out _ _ ?_ (fun _=>?_)
 · ((try dsimp only);(exact ⟨hM.cell 0,hM.cell 1,hM.cell 2,hM.cell 3,hM.cell 4,hM.cell 5,hM.cell 6,hM.cell 7⟩))
 clear hK K
 (try simp only [Act.put,pA,pB,pC])
 refine wpAnyH_done (by kernel_rfl) ?_ _
 go_wp2_with fail
 refine bodyPost_ret (results_cell_row rfl _ _ (w.heap.size+1) 47 #[.slice (some ⟨w0.heap.size,0,none⟩) 1 1] (0,0) _ rfl hR Try.underlying47 rfl Try.info_form) rfl ⟨w0.heap.size,rfl,by omega,?_,hb⟩
 exact hN
theorem l01Single_c {w : World} {p0 p1 p2 p3 p4 p5 p6 p7 : Int} (hm : IsMono [p0, p1, p2, p3, p4, p5, p6, p7]) :
    Calls Try.prog 108 #[.agg #[.int .u8 p0,.int .u8 p1,.int .u8 p2,.int .u8 p3,.int .u8 p4,.int .u8 p5,.int .u8 p6,.int .u8 p7],.int .i64 1] w fun e w'=>∃g,e=.returned (.agg #[.slice (some ⟨g,0,none⟩) 1 1])∧w.heap.size≤g∧Terms w' (some ⟨g,0,none⟩) 1 [⟨[p0,p1,p2,p3,p4,p5,p6,p7],1⟩]∧Below w.heap.size w w':=by
 have HM:=Lib.hid hm
 refine (l01SingleO_c hm).mono ?_
 rintro e w' ⟨g,rfl,hg,hN,hb⟩
 have hT1:∀t∈[(⟨[p0,p1,p2,p3,p4,p5,p6,p7],1⟩:Tm)],IsTm t:=by
  intro t ht;obtain rfl:t=⟨[p0,p1,p2,p3,p4,p5,p6,p7],1⟩:=(by simpa using ht);exact ⟨HM.out,by dsimp only;omega,by dsimp only;omega⟩
 exact ⟨g,rfl,hg,Terms.of_own (ts:=[⟨[p0,p1,p2,p3,p4,p5,p6,p7],1⟩]) (t:=76) hN hT1 rfl,hb⟩
end Go.Proofs.Ytndnkeijddagiaa
