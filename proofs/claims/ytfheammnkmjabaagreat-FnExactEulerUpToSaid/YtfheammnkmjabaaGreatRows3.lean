
import Derived.Test.YtfheammnkmjabaaGreatBin
import Derived.Test.YtfheammnkmjabaaGreatCnt
import Derived.Test.YtfheammnkmjabaaGreatDiffN
namespace Go.Proofs.YtfheammnkmjabaaGreat
set_option maxRecDepth 100000
open Go.RowKit Go.Deep
def rowT (V:List (List Int)) (ts:List Tm):List Int:=V.map (coef ts)
theorem rowT_len (V:List (List Int)) (ts:List Tm):(rowT V ts).length=V.length:=by simp [rowT]
theorem coef_snoc {t:Tm} {m:List Int}:∀{L:List Tm},(∀u∈L,¬u.m=t.m)→coef (L++[t]) m=if t.m=m then t.f else coef L m
 | [],_=>by simp [coef]
 | u :: L, h => by
   have ih:=coef_snoc (t:=t) (m:=m) (L:=L) (fun v hv=>h v (by simp [hv]));have hu:=h u (by simp);rw [List.cons_append,coef,ih,coef];by_cases e:u.m=m
   · rw [if_pos e,if_pos e,if_neg (fun e2=>hu (e.trans e2.symm))]
   · rw [if_neg e,if_neg e]
theorem Ord.inj {V:List (List Int)} (h:Ord V) {i j:Nat} {m:List Int} (hi:V[i]? = some m) (hj:V[j]? = some m):i=j:=by
 have h1:=h.cmp hi hj
 rw [cmpM_self] at h1
 split at h1
 · omega
 · split at h1
   · omega
   · omega
theorem srt_apart {ts:List Tm} (h:Srt ts) {k:Nat} {t:Tm} (hk:ts[k]? = some t):∀u∈ts.take k,¬u.m=t.m:=by
 intro u hu e
 obtain ⟨j,hj,rfl⟩:=List.mem_iff_getElem.1 hu
 obtain ⟨hk1,rfl⟩:=List.getElem?_eq_some_iff.1 hk
 have hjk:j<k:=by rw [List.length_take] at hj;omega
 have:=List.pairwise_iff_getElem.1 h j k (by omega) hk1 hjk
 rw [List.getElem_take] at e
 rw [e,before_self] at this
 cases this
theorem rowT_step {V:List (List Int)} {ts:List Tm} {k i:Nat} {t:Tm} (ho:Ord V) (hs:Srt ts) (hk:ts[k]? = some t) (hi:V[i]? = some t.m):rowT V (ts.take (k+1))=(rowT V (ts.take k)).set i t.f:=by
 have hap:=srt_apart hs hk
 apply List.ext_getElem?
 intro j
 rw [List.getElem?_set,rowT_len,List.take_add_one,hk,Option.toList_some,rowT,rowT,List.getElem?_map,List.getElem?_map]
 by_cases e:i=j
 · subst e;rw [if_pos rfl,if_pos (List.getElem?_eq_some_iff.1 hi).1,hi,Option.map_some,coef_snoc hap,if_pos rfl]
 · rw [if_neg e]
   cases hj:V[j]? with
   | none=>rfl
   | some m =>
     have hne:¬t.m=m:=fun h=>e (ho.inj hi (by rw [h];exact hj));rw [Option.map_some,Option.map_some,coef_snoc hap,if_neg hne]
theorem mid_set {A R B:List Int} {i off:Nat} {x:Int} (hA:A.length=off) (hi:i<R.length):(A++R++B).set (off+i) x=A++R.set i x++B:=by
 subst hA
 rw [List.set_append_left _ _ (by rw [List.length_append];omega),List.set_append_right _ _ (by omega),Nat.add_sub_cancel_left]
theorem own9 {w':World} {G:Nat} {t:TypeId} {p0 p1 p2 p3 p4 p5 p6 p7 f:Int} (h:Own w' G t #[.int .u8 p0,.int .u8 p1,.int .u8 p2,.int .u8 p3,.int .u8 p4,.int .u8 p5,.int .u8 p6,.int .u8 p7,.int .i64 f]):w'.cell? ⟨G,0,none⟩=some (.int .u8 p0)∧w'.cell? ⟨G,1,none⟩=some (.int .u8 p1)∧w'.cell? ⟨G,2,none⟩=some (.int .u8 p2)∧w'.cell? ⟨G,3,none⟩=some (.int .u8 p3)∧w'.cell? ⟨G,4,none⟩=some (.int .u8 p4)∧w'.cell? ⟨G,5,none⟩=some (.int .u8 p5)∧w'.cell? ⟨G,6,none⟩=some (.int .u8 p6)∧w'.cell? ⟨G,7,none⟩=some (.int .u8 p7):=
 ⟨h.cell 0,h.cell 1,h.cell 2,h.cell 3,h.cell 4,h.cell 5,h.cell 6,h.cell 7⟩
theorem bsearch8 {w : World} {a : Option Addr} {n i : Nat} {V : List (List Int)} {p0 p1 p2 p3 p4 p5 p6 p7 : Int} (c : Nat) (h : Mos w a n V) (ho : Ord V) (hn : n ≤ 1048576) (hk : IsMono [p0, p1, p2, p3, p4, p5, p6, p7]) (hi : V[i]? = some [p0, p1, p2, p3, p4, p5, p6, p7]) :
    Calls Tryz.prog 58 #[.slice a n c,.agg #[.int .u8 p0,.int .u8 p1,.int .u8 p2,.int .u8 p3,.int .u8 p4,.int .u8 p5,.int .u8 p6,.int .u8 p7],.func (.func 59) #[] #[]] w fun e w'=>e=.returned (.tuple #[.int .i64 i,.bool true])∧Below w.heap.size w w':=by
 have:=bsearch_c c h ho hn hk hi
 exact this
set_option maxHeartbeats 4000000 in
theorem write_c {w : World} {a fa : Option Addr} {n fn g off : Nat} {V : List (List Int)} {ts : List Tm} {A B : List Int} (cc rc fc : Nat) (hM : ∀ w', Touch (fun k => k = g) w w' → Mos w' a n V) (ho : Ord V) (hn : n ≤ 1048576) (hT : ∀ w', Touch (fun k => k = g) w w' → Terms w' fa fn ts) (hfn : fn ≤ 1048576) (hs : Srt ts) (hmem : ∀ t ∈ ts, t.m ∈ V) (hO : Own w g 109 (ofI (A ++ rowT V [] ++ B))) (hA : A.length = off) :
    Calls Tryz.prog 41 #[.slice a n cc,.slice (some ⟨g,off,none⟩) n rc,.agg #[.slice fa fn fc]] w fun e w'=>e=.returned (.tuple #[])∧Own w' g 109 (ofI (A++rowT V ts++B))∧Touch (fun k=>k=g) w w':=by
 have HL:=Lib.hid (hT w (Touch.refl _ _)).len
 have HN:=Lib.hid (hM w (Touch.refl _ _)).1
 have HM:=Lib.hid hM
 have HT:=Lib.hid hT
 have HS:=Lib.hid hs
 have HV:=Lib.hid ho
 have HE:=Lib.hid hmem
 have HA:=Lib.hid hA
 have hF0:=Own.new w 53 #[.slice fa fn fc]
 have ht0:Touch (fun k=>k=g) w (w.alloc (.cells #[.slice fa fn fc] 53)):=Touch.of_below (bA1 w _)
 have hO0:=hO.alloc (.cells #[.slice fa fn fc] 53)
 clear hM hT hs ho hmem hO hA
 go_enter Tryz.func41,Tryz.ntmps41
 go_upto_region 1 with fail
 generalize w.alloc (.cells #[.slice fa fn fc] 53)=w0 at *
 have c0:=hF0.cell 0
 generalize w.heap.size=gF at *
 go_upto_region 2 with fail
 clear c0 hF0
 go_loopw [13] (fun y wr=>∃k:Nat,k≤fn∧y=.int .i64 k∧Touch (fun k=>k=g) w wr∧Own wr g 109 (ofI (A++rowT V (ts.take k)++B))) (fun y _=>fn - (intOf y).toNat)
 case atStart=>exact ⟨0,Nat.zero_le _,rfl,ht0,by rw [List.take_zero];exact hO0⟩
 case round=>
  clear ht0 hO0;obtain ⟨k,hk,rfl,ht,hR⟩:=hrel;by_cases hlt:k<fn
  · obtain ⟨b,fo,t,rfl,hbl,hro,htm,hx⟩:=(HT.out wr ht).at_ hlt;obtain ⟨i,hi⟩:∃i,V[i]? = some t.m:=List.mem_iff_getElem?.1 (HE.out t (List.mem_of_getElem? hx.out));have HST:=Lib.hid (rowT_step HV.out HS.out hx.out hi);have hin:i<n:=(by have:=(List.getElem?_eq_some_iff.1 hi).1;have:=HN.out;omega);obtain ⟨mt,ft⟩:=t;have hmt:IsMono mt:=htm.1;obtain ⟨p0,p1,p2,p3,p4,p5,p6,p7,rfl⟩:=mono8 hmt;have HI:Hid (V[i]? = some [p0,p1,p2,p3,p4,p5,p6,p7]):=Lib.hid hi;obtain ⟨y0,y1,y2,y3,y4,y5,y6,y7,y8⟩:=nine hro;have hTm:=Own.new wr 80 #[.int .u8 p0,.int .u8 p1,.int .u8 p2,.int .u8 p3,.int .u8 p4,.int .u8 p5,.int .u8 p6,.int .u8 p7,.int .i64 ft];have hba:Touch (fun k=>k=g) w (wr.alloc (.cells #[.int .u8 p0,.int .u8 p1,.int .u8 p2,.int .u8 p3,.int .u8 p4,.int .u8 p5,.int .u8 p6,.int .u8 p7,.int .i64 ft] 80)):=ht.trans (Touch.of_below (bA1 wr _));have hR3:=hR.alloc (.cells #[.int .u8 p0,.int .u8 p1,.int .u8 p2,.int .u8 p3,.int .u8 p4,.int .u8 p5,.int .u8 p6,.int .u8 p7,.int .i64 ft] 80);have hRT:g<wr.heap.size:=hR.lt;have hk0:(0:Int)≤(k:Int):=(by omega);have hkn:(k:Int)<(fn:Int):=(by omega);clear hi hx htm;go_upto_region 4 with fail
    generalize wr.alloc (.cells #[.int .u8 p0,.int .u8 p1,.int .u8 p2,.int .u8 p3,.int .u8 p4,.int .u8 p5,.int .u8 p6,.int .u8 p7,.int .i64 ft] 80)=wt at *;generalize wr.heap.size=gT at *;clear ht hR y0 y1 y2 y3 y4 y5 y6 y7 y8 hro;obtain ⟨z0,z1,z2,z3,z4,z5,z6,z7⟩:=own9 hTm;go_wp2_with fail
    clear z0 z1 z2 z3 z4 z5 z6 z7;refine (bsearch8 cc (HM.out wt hba) HV.out hn hmt HI.out).mono ?_;rintro e w5 ⟨rfl,hb5⟩;have z8:=(hTm.keep hb5 hTm.lt).cell 8;have hR5:=hR3.keep hb5 hR3.lt;have ht5:=hba.trans (Touch.of_below (p:=fun k=>k=g) hb5);have hfz:=hR5.frozen (off+i);have hi0:(0:Int)≤(i:Int):=(by omega);have hni:(i:Int)<(n:Int):=(by omega);have hlr:=rowT_len V (ts.take k);obtain ⟨ov,hcv⟩:=hR5.has (i:=off+i) (by rw [ofI,List.size_toArray,List.length_map,List.length_append,List.length_append,HA.out,hlr,HN.out];omega);have HLR:=Lib.hid hlr;clear hTm hR3 hba hb5 hlr;go_wp2_with fail
    go_roundw
    case rel=>
     refine ⟨k+1,by omega,by go_num,ht5.trans (Touch.of_only ((Only.refl g w5).set (off+i) _)),?_⟩;rw [HST.out,←mid_set HA.out (by rw [HLR.out,HN.out];exact hin),←ofI_set];exact hR5.set (off+i) _
    case measure=>simp [intOf] <;> omega
  · obtain rfl:k=fn:=(by omega);go_wp2_with fail
    go_end0
    rw [←HL.out,List.take_length] at hR;exact ⟨rfl,hR,ht⟩
theorem Tryz.info_num3:(Tryz.prog.info? 109).map (fun i=>(i.zero,i.size,i.bytes))=some (some (.int .i64 0),1,8):=by kernel_rfl
theorem Tryz.info_row3:(Tryz.prog.info? 84).map (fun i=>(i.zero,i.size,i.bytes))=some (some (.slice none 0 0),1,24):=by kernel_rfl
theorem make_num3 (n : Nat) (hn : n ≤ 1048576) (w : World) :
    (Instr.makeSlice 84 (.int .i64 (n:Int)) (.int .i64 (n:Int))).run Tryz.prog w=.ok (.slice (some ⟨w.heap.size,0,none⟩) n n) (w.alloc (.cells (Array.replicate n (Value.int .i64 0)) 109)):=by
 have h:=run_make_row' (P:=Tryz.prog) 84 109 (.int .i64 0) 8 Tryz.underlying84 Tryz.info_num3 rfl .i64 .i64 n (by omega) (by omega) w
 rwa [show madeCells #[Value.int .i64 0] n=Array.replicate n (Value.int .i64 0) by (apply Array.ext';rw [toList_madeCells_one];simp)] at h
theorem make_row3 (n : Nat) (hn : n ≤ 1048576) (w : World) :
    (Instr.makeSlice 55 (.int .i64 (n:Int)) (.int .i64 (n:Int))).run Tryz.prog w=.ok (.slice (some ⟨w.heap.size,0,none⟩) n n) (w.alloc (.cells (Array.replicate n (Value.slice none 0 0)) 84)):=by
 have h:=run_make_row' (P:=Tryz.prog) 55 84 (.slice none 0 0) 24 Tryz.underlying55 Tryz.info_row3 rfl .i64 .i64 n (by omega) (by omega) w
 rwa [show madeCells #[Value.slice none 0 0] n=Array.replicate n (Value.slice none 0 0) by (apply Array.ext';rw [toList_madeCells_one];simp)] at h
def rows3 (g W n k:Nat):List Value:=(List.range n).map fun i=>if i<k then Value.slice (some ⟨g,i * W,none⟩) W W else .slice none 0 0
theorem rows3_len (g W n k:Nat):(rows3 g W n k).length=n:=by simp [rows3]
theorem rows3_zero (g W n:Nat):Array.replicate n (Value.slice none 0 0)=(rows3 g W n 0).toArray:=by
 apply Array.ext'
 simp only [Array.toList_replicate,rows3]
 apply List.ext_getElem?
 intro j
 by_cases h:j<n
 · rw [List.getElem?_map,List.getElem?_range h,List.getElem?_replicate,if_pos h];simp
 · rw [List.getElem?_eq_none (by simp;omega),List.getElem?_eq_none (by simp;omega)]
theorem rows3_set {g W n k:Nat}:(rows3 g W n k).toArray.setIfInBounds k (.slice (some ⟨g,k * W,none⟩) W W)=(rows3 g W n (k+1)).toArray:=by
 rw [List.setIfInBounds_toArray]
 congr 1
 apply List.ext_getElem?
 intro j
 rw [List.getElem?_set,rows3_len,rows3,rows3,List.getElem?_map,List.getElem?_map]
 by_cases h:j<n
 · rw [List.getElem?_range h];simp only [Option.map_some];by_cases e:k=j
   · subst e;rw [if_pos rfl,if_pos h,if_pos (by omega)]
   · rw [if_neg e];by_cases h2:j<k
     · rw [if_pos h2,if_pos (by omega)]
     · rw [if_neg h2,if_neg (by omega)]
 · rw [List.getElem?_eq_none (by simp;omega)];simp only [Option.map_none];split
   · rw [if_neg (by omega)]
   · rfl
set_option maxHeartbeats 4000000 in
theorem newRows_c {w : World} {N W : Nat} (hN : N ≤ 1000) (hW : W ≤ 1000) :
    Calls Tryz.prog 38 #[.int .i64 N,.int .i64 W] w fun e w'=>e=.returned (.slice (some ⟨w.heap.size+1,0,none⟩) N N)∧Own w' w.heap.size 109 (ofI (List.replicate (N * W) 0))∧Own w' (w.heap.size+1) 84 (rows3 w.heap.size W N N).toArray∧Below w.heap.size w w':=by
 have hNW:N * W≤1000000:=Nat.mul_le_mul hN hW
 have e0:IntKind.i64.wrap ((N:Int) * (W:Int))=((N * W:Nat):Int):=by rw [←Int.natCast_mul];exact IntWalk.i64_in _ (by omega)
 have m1:=make_num3 (N * W) (by omega) w
 have m2:=make_row3 N (by omega) (w.alloc (.cells (Array.replicate (N * W) (Value.int .i64 0)) 109))
 rw [Int.natCast_mul] at m1
 rw [sAl] at m2
 have hg:Own ((w.alloc (.cells (Array.replicate (N * W) (Value.int .i64 0)) 109)).alloc (.cells (Array.replicate N (Value.slice none 0 0)) 84)) w.heap.size 109 (ofI (List.replicate (N * W) 0)):=by
  rw [←ofI_rep];exact (Own.new w 109 _).alloc _
 have hr:Own ((w.alloc (.cells (Array.replicate (N * W) (Value.int .i64 0)) 109)).alloc (.cells (Array.replicate N (Value.slice none 0 0)) 84)) (w.heap.size+1) 84 (rows3 w.heap.size W N 0).toArray:=by
  have:=Own.new (w.alloc (.cells (Array.replicate (N * W) (Value.int .i64 0)) 109)) 84 (Array.replicate N (Value.slice none 0 0));rw [sAl,rows3_zero w.heap.size W N] at this;rw [rows3_zero w.heap.size W N];exact this
 have hb:=bTn (bA1 w (.cells (Array.replicate (N * W) (Value.int .i64 0)) 109)) (bA1 (w.alloc (.cells (Array.replicate (N * W) (Value.int .i64 0)) 109)) (.cells (Array.replicate N (Value.slice none 0 0)) 84))
 go_enter Tryz.func38,Tryz.ntmps38
 go_upto_region 3 with fail
 clear m1 m2 e0
 generalize (w.alloc (.cells (Array.replicate (N * W) (Value.int .i64 0)) 109)).alloc (.cells (Array.replicate N (Value.slice none 0 0)) 84)=w1 at *
 have hg1:=Lib.hid (show w.heap.size<w.heap.size+1 by omega)
 generalize hgr:w.heap.size+1=gr at *
 have HGR:=Lib.hid hgr
 clear hgr
 generalize hge:w.heap.size=g at *
 have HGE:=Lib.hid hge
 clear hge
 go_wp2_with fail
 go_loopw [18] (fun y wr=>∃k:Nat,k≤N∧y=.int .i64 k∧Below g w wr∧Own wr g 109 (ofI (List.replicate (N * W) 0))∧Own wr gr 84 (rows3 g W N k).toArray) (fun y _=>N - (intOf y).toNat)
 case atStart=>exact ⟨0,Nat.zero_le _,rfl,hb,hg,hr⟩
 case round=>
  clear hb hg hr;obtain ⟨k,hk,rfl,hb,hg,hr⟩:=hrel;by_cases hkn:k<N
  · have hki:(k:Int)<(N:Int):=(by omega);have hkW:k * W≤1000000:=Nat.mul_le_mul (show k≤1000 by omega) hW;have hk1W:(k+1) * W≤N * W:=Nat.mul_le_mul_right W (by omega);have hsW:(k+1) * W=k * W+W:=Nat.succ_mul k W;obtain ⟨p,hp⟩:∃p,k * W=p:=⟨_,rfl⟩;have e1:IntKind.i64.wrap ((k:Int) * (W:Int))=(p:Int):=by rw [←Int.natCast_mul,hp];exact IntWalk.i64_in _ (by omega)
    have e2:IntKind.i64.wrap (((k:Int)+1) * (W:Int))=((p+W:Nat):Int):=by
     have:((k:Int)+1) * (W:Int)=(((k+1) * W:Nat):Int):=(by push_cast;rfl);rw [this,hsW,hp];exact IntWalk.i64_in _ (by omega)
    have hpT:p+W≤N * W:=(by omega);have HP:=Lib.hid hp;have hfz:=hr.frozen k;obtain ⟨ov,hcv⟩:=hr.has (i:=k) (by simp [rows3_len];exact hkn);clear hp hkW hk1W hsW;go_wp2_with fail
    go_roundw
    case rel=>
     have hgr:=hg1.out;refine ⟨k+1,by omega,by go_num,hb.setCell (p:=⟨gr,k,none⟩) (by dsimp only;omega) _,hg.far (p:=⟨gr,k,none⟩) (by dsimp only;omega) _,?_⟩;have:=hr.set k (.slice (some ⟨g,k * W,none⟩) W W);rw [rows3_set,HP.out] at this
     have hif:(if W=0 then some (⟨g,0,none⟩:Addr) else some ⟨g,p,none⟩)=some ⟨g,p,none⟩:=by
      split
      · rename_i h0;rw [←HP.out,h0,Nat.mul_zero]
      · rfl
     rw [hif];exact this
    case measure=>simp [intOf] <;> omega
  · obtain rfl:k=N:=(by omega);go_wp2_with fail
    go_ret
    rw [HGE.out,HGR.out];exact ⟨rfl,hg,hr,hb⟩
end Go.Proofs.YtfheammnkmjabaaGreat
