
import Derived.Test.YtikldofmpkidbaaWordsS
import Derived.Test.YtikldofmpkidbaaIsAlg
import Derived.Test.YtikldofmpkidbaaTbl
import Derived.Test.YtikldofmpkidbaaMonoB
import Derived.Deep.DeepAppendWide
import Derived.ArgAppend
import Derived.Test.YtikldofmpkidbaaTimes
namespace Go.Proofs.Ytikldofmpkidbaa
set_option maxRecDepth 100000
open Go.RowKit
def bump (m:List Int) (j:Nat):List Int:=m.set j (m.getD j 0+1)
def pairM (j k:Nat):List Int:=bump (bump (List.replicate 8 0) j) k
theorem bump_len (m:List Int) (j:Nat):(bump m j).length=m.length:=by rw [bump,List.length_set]
def conT (i j k:Nat) (ts:List Tm):Nat→List (List Int)
 | 0=>[]
 | t+1=>conT i j k ts t++(match ts[t]? with | some x=>if x.m=pairM j k then [[(i:Int),(j:Int),(k:Int),x.f]] else [] | none=>[])
def conK (i j:Nat) (ts:List Tm):Nat→List (List Int)
 | 0=>[]
 | d+1=>conK i j ts d++conT i j (j+d) ts ts.length
def conJ (n i:Nat) (ts:List Tm):Nat→List (List Int)
 | 0=>[]
 | j+1=>conJ n i ts j++conK i j ts (n - j)
def conI (n:Nat) (ims:List (List Tm)):Nat→List (List Int)
 | 0=>[]
 | i+1=>conI n ims i++conJ n i (wordsOf 2 (ims.getD i [])) n
def conV (zs:List Int) (ims:List (List Tm)):List (List Int):=if isAlg zs ims=true then conI zs.length ims ims.length else []
def conE (zs:List Int) (ims:List (List Tm)):Int:=if isAlg zs ims=true then 0 else 1
theorem conT_yes {i j k t:Nat} {ts:List Tm} {x:Tm} (h:ts[t]? = some x) (hm:x.m=pairM j k):conT i j k ts (t+1)=conT i j k ts t++[[(i:Int),(j:Int),(k:Int),x.f]]:=by rw [conT,h];simp [hm]
theorem conT_no {i j k t:Nat} {ts:List Tm} {x:Tm} (h:ts[t]? = some x) (hm:¬x.m=pairM j k):conT i j k ts (t+1)=conT i j k ts t:=by rw [conT,h];simp [hm]
theorem conT_fours {i j k:Nat} {ts:List Tm}:∀t,(∀r∈conT i j k ts t,r.length=4)∧(conT i j k ts t).length≤t
 | 0=>⟨fun r hr=>(by rw [conT] at hr;cases hr),by rw [conT];exact Nat.le_refl _⟩
 | t + 1 => by
   have ih:=conT_fours (i:=i) (j:=j) (k:=k) (ts:=ts) t
   cases hx:ts[t]? with
   | none=>rw [conT,hx];simp;exact ⟨ih.1,by omega⟩
   | some x =>
     by_cases hm:x.m=pairM j k
     · rw [conT_yes hx hm];refine ⟨fun r hr=>?_,by simp;omega⟩
       rcases List.mem_append.1 hr with h | h
       · exact ih.1 r h
       · rw [List.mem_singleton.1 h];rfl
     · rw [conT_no hx hm];exact ⟨ih.1,by omega⟩
theorem fours_app {A B:List (List Int)} {p q:Nat} (hA:(∀r∈A,r.length=4)∧A.length≤p) (hB:(∀r∈B,r.length=4)∧B.length≤q):(∀r∈A++B,r.length=4)∧(A++B).length≤p+q:=
 ⟨fun r hr=>(List.mem_append.1 hr).elim (hA.1 r) (hB.1 r),by rw [List.length_append];omega⟩
theorem conK_fours {i j:Nat} {ts:List Tm}:∀d,(∀r∈conK i j ts d,r.length=4)∧(conK i j ts d).length≤d * ts.length
 | 0=>⟨fun r hr=>(by rw [conK] at hr;cases hr),by rw [conK];exact Nat.zero_le _⟩
 | d + 1 => by
   have h:=fours_app (conK_fours (i:=i) (j:=j) (ts:=ts) d) (conT_fours (i:=i) (j:=j) (k:=j+d) (ts:=ts) ts.length);rw [conK,Nat.succ_mul];exact h
theorem conJ_fours {n i:Nat} {ts:List Tm}:∀j,(∀r∈conJ n i ts j,r.length=4)∧(conJ n i ts j).length≤j * (n * ts.length)
 | 0=>⟨fun r hr=>(by rw [conJ] at hr;cases hr),by rw [conJ];exact Nat.zero_le _⟩
 | j + 1 => by
   have h:=fours_app (conJ_fours (n:=n) (i:=i) (ts:=ts) j) (conK_fours (i:=i) (j:=j) (ts:=ts) (n - j));rw [conJ,Nat.succ_mul];exact ⟨h.1,Nat.le_trans h.2 (Nat.add_le_add_left (Nat.mul_le_mul_right _ (Nat.sub_le _ _)) _)⟩
theorem conI_fours {n L:Nat} {ims:List (List Tm)} (hL:∀im∈ims,im.length≤L):∀i,(∀r∈conI n ims i,r.length=4)∧(conI n ims i).length≤i * (n * (n * L))
 | 0=>⟨fun r hr=>(by rw [conI] at hr;cases hr),by rw [conI];exact Nat.zero_le _⟩
 | i + 1 => by
   have h1:(ims.getD i []).length≤L:=by
    by_cases hi:i<ims.length
    · rw [List.getD_eq_getElem?_getD,List.getElem?_eq_getElem hi];exact hL _ (List.getElem_mem hi)
    · rw [List.getD_eq_getElem?_getD,List.getElem?_eq_none (Nat.le_of_not_lt hi)];exact Nat.zero_le _
   have h2:=Nat.le_trans (wordsOf_len 2 (ims.getD i [])) h1;have h:=fours_app (conI_fours (n:=n) hL i) (conJ_fours (n:=n) (i:=i) (ts:=wordsOf 2 (ims.getD i [])) n);rw [conI,Nat.succ_mul];exact ⟨h.1,Nat.le_trans h.2 (Nat.add_le_add_left (Nat.mul_le_mul_left _ (Nat.mul_le_mul_left _ h2)) _)⟩
theorem totV_fours:∀{V:List (List Int)},(∀r∈V,r.length=4)→totV V=4 * V.length
 | [],_=>rfl
 | r :: V, h => by
   have ih:=totV_fours (V:=V) (fun x hx=>h x (List.mem_cons_of_mem _ hx));have h4:=h r (by simp);rw [totV] at ih ⊢;simp only [List.map_cons,List.sum_cons,List.length_cons];omega
theorem conV_bd {zs:List Int} {ims:List (List Tm)} (hT:∀im∈ims,∀u∈im,IsTm u):(∀r∈conV zs ims,r.length=4)∧(conV zs ims).length≤204800:=by
 rw [conV]
 cases hA:isAlg zs ims with
 | false=>simp
 | true =>
   rw [if_pos rfl];have hO:=isAlg_ok hA hT;have h:=conI_fours (n:=zs.length) (L:=400) (fun im him=>isForm_400 (hO.fm im him)) ims.length;refine ⟨h.1,Nat.le_trans h.2 ?_⟩;have h1:zs.length * 400≤8 * 400:=Nat.mul_le_mul_right _ hO.h8;have h2:=Nat.mul_le_mul hO.h8 h1;have h3:=Nat.mul_le_mul (show ims.length≤8 from by rw [hO.ln];exact hO.h8) h2;exact h3
theorem conV_tot {zs:List Int} {ims:List (List Tm)} (hT:∀im∈ims,∀u∈im,IsTm u):totV (conV zs ims)≤1048576:=by
 have h:=conV_bd (zs:=zs) hT
 rw [totV_fours h.1]
 omega
theorem bump_mono {m:List Int} {j:Nat} (h:IsMono m) (hj:m.getD j 0≤254):IsMono (bump m j):=by
 refine ⟨by rw [bump_len];exact h.1,fun x hx=>?_⟩
 rcases List.mem_or_eq_of_mem_set hx with h1 | h1
 · exact h.2 x h1
 · have:=(getD_mono h j).1;omega
theorem zeroM_mono:IsMono (List.replicate 8 0):=⟨rfl,fun x hx=>by rw [List.eq_of_mem_replicate hx];omega⟩
theorem zeroM_getD (k:Nat):(List.replicate 8 (0:Int)).getD k 0=0:=by
 rw [List.getD_eq_getElem?_getD]
 by_cases h:k<8
 · rw [List.getElem?_replicate,if_pos h];rfl
 · rw [List.getElem?_replicate,if_neg h];rfl
theorem oneM_mono (j:Nat):IsMono (bump (List.replicate 8 0) j):=bump_mono zeroM_mono (by rw [zeroM_getD];omega)
theorem oneM_getD (j k:Nat):(bump (List.replicate 8 0) j).getD k 0≤1:=by
 rw [bump,zeroM_getD,List.getD_eq_getElem?_getD,List.getElem?_set]
 split
 · split
   · simp
   · simp
 · rw [←List.getD_eq_getElem?_getD,zeroM_getD];omega
theorem pairM_mono (j k:Nat):IsMono (pairM j k):=bump_mono (oneM_mono j) (by have:=oneM_getD j k;omega)
open Go.RowKit Go.Deep
section
variable {P:Program} (w:World)
end
structure FG (w w':World) (v v':Value):Prop where
 b:Below 0 w w'
 k:∀i,i<w.heap.size→v.ownBlock≠some i→w'.heap[i]? = w.heap[i]?
 r:∀q,v'.ownBlock=some q→v.ownBlock=some q∨w.heap.size≤q
theorem FG.refl (w:World) (v:Value):FG w w v v:=⟨Below.refl _ _,fun _ _ _=>rfl,fun _ h=>Or.inl h⟩
theorem FG.trans {a b c:World} {u v x:Value} (h:FG a b u v) (k:FG b c v x):FG a c u x:=by
 have hs:=h.b.size
 refine ⟨h.b.trans k.b,fun i hi hv=>?_,fun q hq=>?_⟩
 · rw [k.k i (by omega) (fun e => by
     rcases h.r i e with h1 | h1
     · exact hv h1
     · omega)]
   exact h.k i hi hv
 · rcases k.r q hq with h1 | h1
   · exact h.r q h1
   · exact Or.inr (by omega)
theorem FG.own {w w':World} {v v':Value} {g:Nat} {t:TypeId} {cs:Array Value} (h:FG w w' v v') (o:Own w g t cs) (hg:v.ownBlock≠some g):Own w' g t cs:=(h.k g o.lt hg).trans o
theorem FG.ne {w w':World} {v v':Value} {g:Nat} (h:FG w w' v v') (hg:v.ownBlock≠some g) (hl:g<w.heap.size):v'.ownBlock≠some g:=fun e=>by
 rcases h.r g e with h1 | h1
 · exact hg h1
 · omega
theorem FG.below {w w':World} {v v':Value} {B:Nat} (h:FG w w' v v') (hv:∀q,v.ownBlock=some q→B≤q) (hB:B≤w.heap.size):Below B w w':=
 ⟨h.b.os,h.b.tape,h.b.output,h.b.size,fun k hk=>h.k k (by omega) (fun e=>by have:=hv k e;omega)⟩
set_option maxHeartbeats 4000000 in
theorem l01SingleO_c {w : World} {p0 p1 p2 p3 p4 p5 p6 p7 : Int} (hm : IsMono [p0, p1, p2, p3, p4, p5, p6, p7]) :
    Calls Try.prog 110 #[.agg #[.int .u8 p0,.int .u8 p1,.int .u8 p2,.int .u8 p3,.int .u8 p4,.int .u8 p5,.int .u8 p6,.int .u8 p7],.int .i64 1] w fun e w'=>∃g,e=.returned (.agg #[.slice (some ⟨g,0,none⟩) 1 1])∧w.heap.size≤g∧Own w' g 88 #[.int .u8 p0,.int .u8 p1,.int .u8 p2,.int .u8 p3,.int .u8 p4,.int .u8 p5,.int .u8 p6,.int .u8 p7,.int .i64 1]∧Below w.heap.size w w':=by
 have HM:=Lib.hid hm
 have hM:=(Own.new w 86 #[.int .u8 p0,.int .u8 p1,.int .u8 p2,.int .u8 p3,.int .u8 p4,.int .u8 p5,.int .u8 p6,.int .u8 p7]).alloc (.cells #[.slice none 0 0] 61)
 have hR:=Own.new (w.alloc (.cells #[.int .u8 p0,.int .u8 p1,.int .u8 p2,.int .u8 p3,.int .u8 p4,.int .u8 p5,.int .u8 p6,.int .u8 p7] 86)) 61 #[.slice none 0 0]
 rw [sAl] at hR
 have hb:=bTn (bA1 w (.cells #[.int .u8 p0,.int .u8 p1,.int .u8 p2,.int .u8 p3,.int .u8 p4,.int .u8 p5,.int .u8 p6,.int .u8 p7] 86)) (bA1 _ (.cells #[.slice none 0 0] 61))
 have n1:num 1=1:=by decide
 have h10:((1:Int)==0)=false:=by decide
 go_enter Try.func110,Try.ntmps110
 go_upto_region 1 with fail
 generalize (w.alloc (.cells #[.int .u8 p0,.int .u8 p1,.int .u8 p2,.int .u8 p3,.int .u8 p4,.int .u8 p5,.int .u8 p6,.int .u8 p7] 86)).alloc (.cells #[.slice none 0 0] 61)=w0 at *
 go_wp2_with fail
 refine (l01Mod_c 1 _ (by omega) (by omega)).mono ?_
 rintro e wM ⟨rfl,rfl⟩
 rw [n1]
 have hR0:=hR
 go_upto_region 3 with fail
 have N1:=Lib.hid n1
 clear n1
 replace hM:Own w0.drew w.heap.size 86 #[.int .u8 p0,.int .u8 p1,.int .u8 p2,.int .u8 p3,.int .u8 p4,.int .u8 p5,.int .u8 p6,.int .u8 p7]:=hM
 replace hR:Own w0.drew (w.heap.size+1) 61 #[.slice none 0 0]:=hR
 replace hb:Below w.heap.size w w0.drew:=hb.drew
 refine wp_region_held_drew (S:=(fun w'=>w'.cell? ⟨w.heap.size,0,none⟩=some (.int .u8 p0)∧w'.cell? ⟨w.heap.size,1,none⟩=some (.int .u8 p1)∧w'.cell? ⟨w.heap.size,2,none⟩=some (.int .u8 p2)∧w'.cell? ⟨w.heap.size,3,none⟩=some (.int .u8 p3)∧w'.cell? ⟨w.heap.size,4,none⟩=some (.int .u8 p4)∧w'.cell? ⟨w.heap.size,5,none⟩=some (.int .u8 p5)∧w'.cell? ⟨w.heap.size,6,none⟩=some (.int .u8 p6)∧w'.cell? ⟨w.heap.size,7,none⟩=some (.int .u8 p7))) (by kernel_rfl) ?_ (fun hHeld=>?_)
 · ((try dsimp only);(exact ⟨hM.cell 0,hM.cell 1,hM.cell 2,hM.cell 3,hM.cell 4,hM.cell 5,hM.cell 6,hM.cell 7⟩))
 refine hdT 0 ?_
 refine hdT 1 ?_
 refine hdC 2 (fun K hK=>?_)
 (go_simp;(go_at_call 103;refine (l01Mod_c 1 _ (by omega) (by omega)).mono ?_;rintro e wM ⟨rfl,rfl⟩;rw [N1.out]);go_wp2_with fail)
 refine hK.out _ _ ?_ (fun _=>?_)
 · ((try dsimp only);(exact ⟨hM.cell 0,hM.cell 1,hM.cell 2,hM.cell 3,hM.cell 4,hM.cell 5,hM.cell 6,hM.cell 7⟩))
 clear hK K
 (try simp only [Act.put,pA,pB,pC])
 refine hdT 3 ?_
 refine hdC 4 (fun K hK=>?_)
 (go_simp;try go_wp2_with fail)
 have hN:Own (w0.alloc (.cells #[.int .u8 p0,.int .u8 p1,.int .u8 p2,.int .u8 p3,.int .u8 p4,.int .u8 p5,.int .u8 p6,.int .u8 p7,.int .i64 1] 88)).drew w0.heap.size 88 #[.int .u8 p0,.int .u8 p1,.int .u8 p2,.int .u8 p3,.int .u8 p4,.int .u8 p5,.int .u8 p6,.int .u8 p7,.int .i64 1]:=Own.new w0 88 #[.int .u8 p0,.int .u8 p1,.int .u8 p2,.int .u8 p3,.int .u8 p4,.int .u8 p5,.int .u8 p6,.int .u8 p7,.int .i64 1]
 have hlM:=hM.lt
 replace hM:Own (w0.alloc (.cells #[.int .u8 p0,.int .u8 p1,.int .u8 p2,.int .u8 p3,.int .u8 p4,.int .u8 p5,.int .u8 p6,.int .u8 p7,.int .i64 1] 88)).drew w.heap.size 86 #[.int .u8 p0,.int .u8 p1,.int .u8 p2,.int .u8 p3,.int .u8 p4,.int .u8 p5,.int .u8 p6,.int .u8 p7]:=Own.alloc (w:=w0) hM (.cells #[.int .u8 p0,.int .u8 p1,.int .u8 p2,.int .u8 p3,.int .u8 p4,.int .u8 p5,.int .u8 p6,.int .u8 p7,.int .i64 1] 88)
 replace hR:Own (w0.alloc (.cells #[.int .u8 p0,.int .u8 p1,.int .u8 p2,.int .u8 p3,.int .u8 p4,.int .u8 p5,.int .u8 p6,.int .u8 p7,.int .i64 1] 88)).drew (w.heap.size+1) 61 #[.slice none 0 0]:=Own.alloc (w:=w0) hR (.cells #[.int .u8 p0,.int .u8 p1,.int .u8 p2,.int .u8 p3,.int .u8 p4,.int .u8 p5,.int .u8 p6,.int .u8 p7,.int .i64 1] 88)
 have hgN:=hb.size
 replace hb:Below w.heap.size w (w0.alloc (.cells #[.int .u8 p0,.int .u8 p1,.int .u8 p2,.int .u8 p3,.int .u8 p4,.int .u8 p5,.int .u8 p6,.int .u8 p7,.int .i64 1] 88)).drew:=bT' hb (bA1 w0.drew (.cells #[.int .u8 p0,.int .u8 p1,.int .u8 p2,.int .u8 p3,.int .u8 p4,.int .u8 p5,.int .u8 p6,.int .u8 p7,.int .i64 1] 88)) hb.size
 have hlR:=hR.lt
 have cR:=hR.cell 0
 have fR:=hR.frozen 0
 refine hK.out _ _ ?_ (fun _=>?_)
 · ((try dsimp only);(exact ⟨hM.cell 0,hM.cell 1,hM.cell 2,hM.cell 3,hM.cell 4,hM.cell 5,hM.cell 6,hM.cell 7⟩))
 clear hK K
 (try simp only [Act.put,pA,pB,pC])
 refine hdT 5 ?_
 refine hdC 6 (fun K hK=>?_)
 (go_simp;go_wp2_with fail)
 have hgR:w.heap.size+1<w0.heap.size:=hR0.lt
 replace hM:=hM.far (p:=⟨w.heap.size+1,0,none⟩) (by dsimp only;omega) (.slice (some ⟨w0.heap.size,0,none⟩) 1 1)
 replace hN:=hN.far (p:=⟨w.heap.size+1,0,none⟩) (by dsimp only;show w0.heap.size≠_;omega) (.slice (some ⟨w0.heap.size,0,none⟩) 1 1)
 replace hR:=hR.set 0 (.slice (some ⟨w0.heap.size,0,none⟩) 1 1)
 replace hb:=hb.setCell (p:=⟨w.heap.size+1,0,none⟩) (by dsimp only;omega) (.slice (some ⟨w0.heap.size,0,none⟩) 1 1)
 refine hK.out _ _ ?_ (fun _=>?_)
 · ((try dsimp only);(exact ⟨hM.cell 0,hM.cell 1,hM.cell 2,hM.cell 3,hM.cell 4,hM.cell 5,hM.cell 6,hM.cell 7⟩))
 clear hK K
 (try simp only [Act.put,pA,pB,pC])
 refine wpAnyH_done (by kernel_rfl) ?_ _
 go_wp2_with fail
 refine bodyPost_ret (results_cell_row rfl _ _ (w.heap.size+1) 61 #[.slice (some ⟨w0.heap.size,0,none⟩) 1 1] (0,0) _ rfl hR Try.underlying61 rfl Try.info_form) rfl ⟨w0.heap.size,rfl,by omega,?_,hb⟩
 exact hN
theorem l01Single_c {w : World} {p0 p1 p2 p3 p4 p5 p6 p7 : Int} (hm : IsMono [p0, p1, p2, p3, p4, p5, p6, p7]) :
    Calls Try.prog 110 #[.agg #[.int .u8 p0,.int .u8 p1,.int .u8 p2,.int .u8 p3,.int .u8 p4,.int .u8 p5,.int .u8 p6,.int .u8 p7],.int .i64 1] w fun e w'=>∃g,e=.returned (.agg #[.slice (some ⟨g,0,none⟩) 1 1])∧w.heap.size≤g∧Terms w' (some ⟨g,0,none⟩) 1 [⟨[p0,p1,p2,p3,p4,p5,p6,p7],1⟩]∧Below w.heap.size w w':=by
 have HM:=Lib.hid hm
 refine (l01SingleO_c hm).mono ?_
 rintro e w' ⟨g,rfl,hg,hN,hb⟩
 have hT1:∀t∈[(⟨[p0,p1,p2,p3,p4,p5,p6,p7],1⟩:Tm)],IsTm t:=by
  intro t ht;obtain rfl:t=⟨[p0,p1,p2,p3,p4,p5,p6,p7],1⟩:=(by simpa using ht);exact ⟨HM.out,by dsimp only;omega,by dsimp only;omega⟩
 exact ⟨g,rfl,hg,Terms.of_own (ts:=[⟨[p0,p1,p2,p3,p4,p5,p6,p7],1⟩]) (t:=88) hN hT1 rfl,hb⟩
end Go.Proofs.Ytikldofmpkidbaa
