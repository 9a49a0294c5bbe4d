
import Derived.Test.YtifcfoijcodjbaaGreatRedP
import Derived.Test.YtifcfoijcodjbaaGreatSplP
import Derived.Test.YtifcfoijcodjbaaGreatMatM
import Derived.Test.YtifcfoijcodjbaaGreatSplC
import Derived.Test.YtifcfoijcodjbaaGreatCode3
import Derived.Test.YtifcfoijcodjbaaGreatMap
import Derived.Test.YtifcfoijcodjbaaGreatDiffT
namespace Go.Proofs.YtifcfoijcodjbaaGreat
set_option maxRecDepth 100000
open Go.RowKit Go.Deep
theorem insR_len {r:List Int} {p:Nat}:∀{L:List (List Int)},(insR r p L).length=L.length+1
 | []=>rfl
 | s :: L => by
   have:=insR_len (r:=r) (p:=p) (L:=L);rw [insR];split <;> simp [this]
theorem putR_len {L:List (List Int)} {r:List Int}:(putR L r).length≤L.length+1:=by
 rw [putR]
 split
 · rw [insR_len];exact Nat.le_refl _
 · omega
theorem redR_len:∀{V L:List (List Int)},(V.foldl putR L).length≤L.length+V.length
 | [],L=>by simp
 | r :: V, L => by
   have h1:=redR_len (V:=V) (L:=putR L r);have h2:=putR_len (L:=L) (r:=r);rw [List.foldl_cons,List.length_cons];omega
theorem redR_snoc {V:List (List Int)} {k:Nat} {r:List Int} (h:V[k]? = some r):redR (V.take (k+1))=putR (redR (V.take k)) r:=by
 rw [redR,take_sn h,List.foldl_append]
 rfl
set_option maxHeartbeats 1000000 in
theorem l03Reduce_c {w : World} {b : Option Addr} {m N : Nat} {V : List (List Int)} (c : Nat) (hT : Tab w b N V) (hm : m ≤ 1000) (hN : N ≤ 800) (hV : ∀ r ∈ V, RowOk m r) :
    Calls Tryz.prog 125 #[.slice b N c] w fun e w'=>∃b' N' c',e=.returned (.slice b' N' c')∧TabC w' b' N' (redR V)∧Below w.heap.size w w':=by
 have HT:=Lib.hid hT
 have HLn:=Lib.hid hT.1
 have HV:=Lib.hid hV
 have hb:=bA1 w (.cells #[] 22)
 clear hT hV
 go_enter Tryz.func125,Tryz.ntmps125
 go_upto_region 2 with fail
 generalize w.alloc (.cells #[] 22)=w1 at *
 generalize hge:w.heap.size=gO at *
 have HGE:=Lib.hid hge
 clear hge
 go_upto_region 3 with fail
 go_loopw [4,3] (fun y z wr=>∃(k n:Nat) (oa:Option Addr) (oc:Nat),k≤N∧y=.int .i64 k∧z=.slice oa n oc∧Below gO w wr∧TabC wr oa n (redR (V.take k))) (fun y _ _=>N - (intOf y).toNat)
 case atStart=>exact ⟨0,0,_,0,Nat.zero_le _,rfl,rfl,hb,by rw [List.take_zero];exact TabC.none_ _ _⟩
 case round=>
  clear hb;obtain ⟨k,n,oa,oc,hk,rfl,rfl,hb,hO⟩:=hrel;have hk0:(0:Int)≤(k:Int):=(by omega);by_cases hkn:k<N
  · have hki:(k:Int)<(N:Int):=(by omega);obtain ⟨b1,off,s,ai,mi,ci,rfl,hbl,hcs,hIs,hx⟩:=(HT.out.keep (by rw [HGE.out];exact hb)).at_ hkn;have hs:=HV.out s (List.mem_of_getElem? hx.out);obtain rfl:m=mi:=(by have:=hIs.len;have:=hs.len;omega);have hR:=redR_red (RedI.nil m) (V:=V.take k) (fun r hr=>HV.out r (List.mem_of_mem_take hr));have HRD:=Lib.hid hR.1;have hln:=redR_len (V:=V.take k) (L:=[])
    have hn9:n≤900:=by
     have h1:=hO.1.1;rw [redR] at h1;rw [List.length_take,List.length_nil] at hln;omega
    have HS:=Lib.hid hs;have HX:=Lib.hid hx.out;clear hs hR hln hx;go_wp2_with fail
    refine (l03Put_c ci oc hIs hO hm hn9 HS.out (fun t ht=>⟨HRD.out.ok t ht,HRD.out.fst t ht⟩)).mono ?_;rintro e w2 ⟨b',N',c',rfl,hO2,hb2⟩;have hb3:=hb.trans (hb2.mono (by rw [←HGE.out];exact hb.size));clear hb hb2 hO hIs hcs;go_wp2_with fail
    go_roundw
    case rel=>exact ⟨k+1,N',b',c',by omega,by go_num,rfl,hb3,by rw [redR_snoc HX.out];exact hO2⟩
    case measure=>simp [intOf] <;> omega
  · have he:k=N:=(by omega);subst he;rw [List.take_of_length_le (Nat.le_of_eq HLn.out)] at hO;go_wp2_with fail
    go_ret
    exact ⟨oa,n,oc,rfl,hO,by rw [HGE.out];exact hb⟩
theorem row_ok {zs:List Int} {ims:List (List Tm)} (hA:AlgOk zs ims) (hz:degsOk zs=true) (n:Nat):∀r∈(side zs n).map (dRow zs ims (side zs (n+1))),RowOk (cnt zs (n+1)) r:=fun r hr=>by
 obtain ⟨u,hu,rfl⟩:=List.mem_map.1 hr
 have:=dRow_ok hA (side zs (n+1)) (mons_mono hA.h8 u hu) (ext_ok hA.h8 (degs_one hz) hu).1
 rwa [side_len] at this
theorem SplitV.slices {w:World} {lo W N:Nat} {e:Value} {L:List (List Int)} (h:SplitV w lo e W N L):∃a1 n1 c1 a2 n2 c2 a3 n3 c3 a4 n4 c4 a5 n5 c5,e=.agg #[.slice a1 n1 c1,.slice a2 n2 c2,.slice a3 n3 c3,.slice a4 n4 c4,.slice a5 n5 c5]:=by
 obtain ⟨_,_,_,_,_,rfl,⟨ca,cc,rfl,-⟩,⟨ba,bc,rfl,-⟩,⟨pa,pc,rfl,-⟩,⟨B,n,-,h4⟩,⟨B',n',-,h5⟩⟩:=h
 obtain ⟨ea,ec,rfl⟩:=row_slice h4
 obtain ⟨fa,fc,rfl⟩:=row_slice h5
 exact ⟨_,_,_,_,_,_,_,_,_,_,_,_,_,_,_,rfl⟩
set_option maxHeartbeats 4000000 in
theorem splitByD_g {w : World} {da : Option Addr} {dn dc : Nat} {a : Option Addr} {k c : Nat} {x : Int} {N W : Nat} {Fl : List Int} {M : List (List Int)} (hx : IntKind.i64.wrap (x + 1) = x + 1)
    (hma:∀w',Below w.heap.size w w'→Calls Tryz.prog 172 #[.agg #[.slice da dn dc,.slice a k c],.int .i64 x] w' fun e w''=>∃g,e=.returned (.slice (some ⟨g+1,0,none⟩) N N)∧w'.heap.size≤g∧Own w'' g 173 (ofI Fl)∧Own w'' (g+1) 82 (rows3 g W N N).toArray∧Below w'.heap.size w' w'')
    (hco:∀w',Below w.heap.size w w'→Calls Tryz.prog 61 #[.agg #[.slice da dn dc,.slice a k c],.int .i64 (x+1)] w' fun e w''=>∃ra rc,e=.returned (.slice ra W rc)∧Below w'.heap.size w' w'')
    (hMl:M.length=N) (hM:∀r∈M,RowOk W r) (hFl:∀(i:Nat) r,M[i]? = some r→∀(j:Nat) x,r[j]? = some x→Fl[i * W+j]? = some x) (hNb:N≤120) (hWb:W≤120) :
    Calls Tryz.prog 118 #[.agg #[.slice da dn dc,.slice a k c],.int .i64 x] w fun e w'=>∃v,e=.returned v∧SplitV w' w.heap.size v W N (redR (longR M))∧Below w.heap.size w w':=by
 have HMA:=Lib.hid hma
 have HCO:=Lib.hid hco
 have HML:=Lib.hid hMl
 have HMM:=Lib.hid hM
 have HFL:=Lib.hid hFl
 have hB:=(Own.new w 35 #[.slice da dn dc,.slice a k c]).alloc (.cells #[.slice none 0 0,.slice none 0 0,.slice none 0 0,.slice none 0 0,.slice none 0 0] 101)
 have hQ:=Own.new (w.alloc (.cells #[.slice da dn dc,.slice a k c] 35)) 101 #[.slice none 0 0,.slice none 0 0,.slice none 0 0,.slice none 0 0,.slice none 0 0]
 rw [sAl] at hQ
 have hb:=bTn (bA1 w (.cells #[.slice da dn dc,.slice a k c] 35)) (bA1 _ (.cells #[.slice none 0 0,.slice none 0 0,.slice none 0 0,.slice none 0 0,.slice none 0 0] 101))
 have hsz:w.heap.size+2≤((w.alloc (.cells #[.slice da dn dc,.slice a k c] 35)).alloc (.cells #[.slice none 0 0,.slice none 0 0,.slice none 0 0,.slice none 0 0,.slice none 0 0] 101)).heap.size:=by rw [sAl,sAl];omega
 clear hma hco hMl hM hFl
 go_enter Tryz.func118,Tryz.ntmps118
 go_upto_region 1 with fail
 generalize (w.alloc (.cells #[.slice da dn dc,.slice a k c] 35)).alloc (.cells #[.slice none 0 0,.slice none 0 0,.slice none 0 0,.slice none 0 0,.slice none 0 0] 101)=w0 at *
 have hdr:Below w0.heap.size w0 w0.drew:=(Below.refl _ _).drew
 replace hB:=hB.keep hdr hB.lt
 replace hQ:=hQ.keep hdr hQ.lt
 replace hb:=bT' hb hdr hb.size
 replace hsz:=Nat.le_trans hsz hdr.size
 clear hdr
 refine wp_region_held_drew (S:=(fun w'=>w'.cell? ⟨w.heap.size,0,none⟩=some (.slice da dn dc)∧w'.cell? ⟨w.heap.size,1,none⟩=some (.slice a k c))) (by kernel_rfl) ?_ (fun _=>?_)
 · ((try dsimp only);(exact ⟨hB.cell 0,hB.cell 1⟩))
 generalize w0.drew=W0d at *
 refine hdT 0 ?_
 refine hdT 1 ?_
 refine hdT 3 ?_
 refine hdT 4 ?_
 refine hdT 5 ?_
 refine hdC 2 (fun K hK=>?_)
 have hszP:=hsz
 (go_simp;(go_at_call 172;refine (HMA.out _ hb).mono ?_;rintro e W1 ⟨g,rfl,hg,hN,hR,hbX⟩);go_wp2_with fail)
 replace hB:=hB.keep hbX hB.lt
 replace hQ:=hQ.keep hbX hQ.lt
 replace hsz:=Nat.le_trans hsz hbX.size
 replace hb:=bT' hb hbX hb.size
 replace hg:=Nat.le_trans hszP hg
 clear hszP
 clear hbX
 refine hK.out _ _ ?_ (fun _=>?_)
 · ((try dsimp only);(exact ⟨hB.cell 0,hB.cell 1⟩))
 clear hK K
 (try simp only [Act.put,pA,pB,pC])
 refine hdC 6 (fun K hK=>?_)
 (go_simp;(go_at_call 61;refine (HCO.out _ hb).mono ?_;rintro e W2 ⟨ra,rc,rfl,hbX⟩);go_wp2_with fail)
 replace hB:=hB.keep hbX hB.lt
 replace hQ:=hQ.keep hbX hQ.lt
 replace hsz:=Nat.le_trans hsz hbX.size
 replace hb:=bT' hb hbX hb.size
 replace hN:=hN.keep hbX hN.lt
 replace hR:=hR.keep hbX hR.lt
 clear hbX
 refine hK.out _ _ ?_ (fun _=>?_)
 · ((try dsimp only);(exact ⟨hB.cell 0,hB.cell 1⟩))
 clear hK K
 (try simp only [Act.put,pA,pB,pC])
 refine hdT 7 ?_
 refine hdC 8 (fun K hK=>?_)
 (go_simp;(go_at_call 171;refine (splitRows_c hN hR HML.out HMM.out HFL.out hNb hWb).mono ?_;rintro e W3 ⟨v,rfl,hSV,hTo⟩;obtain ⟨a1,n1,c1,a2,n2,c2,a3,n3,c3,a4,n4,c4,a5,n5,c5,rfl⟩:=hSV.slices);go_wp2_with fail)
 replace hSV:=hSV.weaken (lo':=w.heap.size+2) hsz
 replace hb:=hb.trans (hTo.bel (B:=w.heap.size) (fun k hk=>by omega) (by omega))
 replace hQ:=hTo.own hQ (by omega)
 replace hB:=hTo.own hB (by omega)
 replace hsz:=Nat.le_trans hsz hTo.below.size
 clear hTo hN hR
 refine hK.out _ _ ?_ (fun _=>?_)
 · ((try dsimp only);(exact ⟨hB.cell 0,hB.cell 1⟩))
 clear hK K
 (try simp only [Act.put,pA,pB,pC])
 refine hdC 9 (fun K hK=>?_)
 have cQ0:=hQ.cell 0
 have cQ1:=hQ.cell 1
 have cQ2:=hQ.cell 2
 have cQ3:=hQ.cell 3
 have cQ4:=hQ.cell 4
 have fQ0:=hQ.frozen 0
 have fQ1:=hQ.frozen 1
 have fQ2:=hQ.frozen 2
 have fQ3:=hQ.frozen 3
 have fQ4:=hQ.frozen 4
 (go_simp;go_wp2_with fail)
 clear cQ0 fQ0 cQ1 fQ1 cQ2 fQ2 cQ3 fQ3 cQ4 fQ4
 have hon:=Touch.of_only ((((((Only.refl (w.heap.size+1) W3).set 0 (.slice a1 n1 c1)).set 1 (.slice a2 n2 c2)).set 2 (.slice a3 n3 c3)).set 3 (.slice a4 n4 c4)).set 4 (.slice a5 n5 c5))
 replace hSV:=hSV.touch hon (fun q hq=>by omega)
 replace hb:=hb.setCell (p:=⟨w.heap.size+1,0,none⟩) (by dsimp only;omega) (.slice a1 n1 c1)
 replace hB:=hB.far (p:=⟨w.heap.size+1,0,none⟩) (by dsimp only;omega) (.slice a1 n1 c1)
 replace hQ:=hQ.set 0 (.slice a1 n1 c1)
 replace hb:=hb.setCell (p:=⟨w.heap.size+1,1,none⟩) (by dsimp only;omega) (.slice a2 n2 c2)
 replace hB:=hB.far (p:=⟨w.heap.size+1,1,none⟩) (by dsimp only;omega) (.slice a2 n2 c2)
 replace hQ:=hQ.set 1 (.slice a2 n2 c2)
 replace hb:=hb.setCell (p:=⟨w.heap.size+1,2,none⟩) (by dsimp only;omega) (.slice a3 n3 c3)
 replace hB:=hB.far (p:=⟨w.heap.size+1,2,none⟩) (by dsimp only;omega) (.slice a3 n3 c3)
 replace hQ:=hQ.set 2 (.slice a3 n3 c3)
 replace hb:=hb.setCell (p:=⟨w.heap.size+1,3,none⟩) (by dsimp only;omega) (.slice a4 n4 c4)
 replace hB:=hB.far (p:=⟨w.heap.size+1,3,none⟩) (by dsimp only;omega) (.slice a4 n4 c4)
 replace hQ:=hQ.set 3 (.slice a4 n4 c4)
 replace hb:=hb.setCell (p:=⟨w.heap.size+1,4,none⟩) (by dsimp only;omega) (.slice a5 n5 c5)
 replace hB:=hB.far (p:=⟨w.heap.size+1,4,none⟩) (by dsimp only;omega) (.slice a5 n5 c5)
 replace hQ:=hQ.set 4 (.slice a5 n5 c5)
 clear hon
 generalize (((((W3).setCell ⟨w.heap.size+1,0,none⟩ (.slice a1 n1 c1)).setCell ⟨w.heap.size+1,1,none⟩ (.slice a2 n2 c2)).setCell ⟨w.heap.size+1,2,none⟩ (.slice a3 n3 c3)).setCell ⟨w.heap.size+1,3,none⟩ (.slice a4 n4 c4)).setCell ⟨w.heap.size+1,4,none⟩ (.slice a5 n5 c5)=W4 at *
 refine hK.out _ _ ?_ (fun _=>?_)
 · ((try dsimp only);(exact ⟨hB.cell 0,hB.cell 1⟩))
 clear hK K
 (try simp only [Act.put,pA,pB,pC])
 refine wpAnyH_done (by kernel_rfl) ?_ _
 go_wp2_with fail
 exact bodyPost_ret (results_cell_row rfl _ _ (w.heap.size+1) 101 #[(.slice a1 n1 c1),(.slice a2 n2 c2),(.slice a3 n3 c3),(.slice a4 n4 c4),(.slice a5 n5 c5)] (0,0) _ rfl hQ Tryz.underlying101 rfl Tryz.info_split) rfl ⟨_,rfl,hSV.weaken (by omega),hb⟩
def mrR (zs:List Int) (ims:List (List Tm)) (m:Nat):List (List Int):=(side zs m).map (dRow zs ims (side zs (m+1)))
theorem splitByD_c {w : World} {da : Option Addr} {dn : Nat} {zs : List Int} {a : Option Addr} {k : Nat} {ims : List (List Tm)} {m : Nat} (dc c : Nat) (hd : Ints w da dn zs) (hdn : dn ≤ 1048576) (hF : Frms w a k ims) (HA : AlgOk zs ims) (hA : isAlg zs ims = true) (hz : degsOk zs = true) (hm : m ≤ 20) (hc1 : cnt zs m ≤ 120) (hc2 : cnt zs (m + 1) ≤ 120) :
    Calls Tryz.prog 118 #[.agg #[.slice da dn dc,.slice a k c],.int .i64 m] w fun e w'=>∃v,e=.returned v∧SplitV w' w.heap.size v (cnt zs (m+1)) (cnt zs m) (redR (longR (mrR zs ims m)))∧Below w.heap.size w w':=by
 refine splitByD_g (Fl:=flat3 zs ims (side zs (m+1)) (side zs m)) (IntWalk.i64_in _ (by omega)) (fun w' hb=>?_) (fun w' hb=>?_) (by rw [mrR,List.length_map,side_len]) (row_ok HA hz m) (fun i r hi j y hy=>?_) hc1 hc2
 · exact matrixOf_c dc c (hd.keep hb) hdn (hF.keep hb) HA hA hz (degs_one hz) hm hc1 hc2
 · refine (columnsOf_c dc c (hd.keep hb) hdn).mono ?_;rintro e w'' ⟨ra,rn,rc,rfl,hM,hb2⟩;have e1:moV zs ((m:Int)+1)=side zs (m+1):=moV_side (n:=m+1) hz (by omega) (by omega);rw [e1] at hM;obtain rfl:cnt zs (m+1)=rn:=(by rw [←hM.1,side_len]);exact ⟨ra,rc,rfl,hb2⟩
 · rw [mrR,List.getElem?_map] at hi
   cases hu:(side zs m)[i]? with
   | none=>rw [hu] at hi;simp at hi
   | some u =>
     rw [hu,Option.map_some,Option.some.injEq] at hi;subst hi;have:=flat3_get (zs:=zs) (ims:=ims) (V:=side zs (m+1)) hu j y hy
     rwa [side_len] at this
set_option maxHeartbeats 4000000 in
theorem matrixOfN_c {w : World} {da : Option Addr} {dn dc : Nat} {a : Option Addr} {k c : Nat} {x : Int} {W : Nat} (hx : IntKind.i64.wrap (x + 1) = x + 1) (hW : W ≤ 120)
    (hc1:∀w',Below w.heap.size w w'→Calls Tryz.prog 61 #[.agg #[.slice da dn dc,.slice a k c],.int .i64 x] w' fun e w''=>∃ra rc,e=.returned (.slice ra 0 rc)∧Below w'.heap.size w' w'')
    (hc2:∀w',Below w.heap.size w w'→Calls Tryz.prog 61 #[.agg #[.slice da dn dc,.slice a k c],.int .i64 (x+1)] w' fun e w''=>∃ra rc,e=.returned (.slice ra W rc)∧Below w'.heap.size w' w'') :
    Calls Tryz.prog 172 #[.agg #[.slice da dn dc,.slice a k c],.int .i64 x] w fun e w'=>∃g,e=.returned (.slice (some ⟨g+1,0,none⟩) 0 0)∧w.heap.size≤g∧Own w' g 173 (ofI [])∧Own w' (g+1) 82 (rows3 g W 0 0).toArray∧Below w.heap.size w w':=by
 have HC1:=Lib.hid hc1
 have HC2:=Lib.hid hc2
 have hO:=Own.new w 35 #[.slice da dn dc,.slice a k c]
 have hb:=bA1 w (.cells #[.slice da dn dc,.slice a k c] 35)
 clear hc1 hc2
 go_enter Tryz.func172,Tryz.ntmps172
 go_upto_region 1 with fail
 generalize w.alloc (.cells #[.slice da dn dc,.slice a k c] 35)=w0 at *
 go_cut [5,6] (fun p q wr=>∃ua uc va vc,p=.slice ua 0 uc∧q=.slice va W vc∧Own wr w.heap.size 35 #[.slice da dn dc,.slice a k c]∧Below w.heap.size w wr)
 case first=>
  have hO':Own w0.drew w.heap.size 35 #[.slice da dn dc,.slice a k c]:=hO;have hbb:Below w.heap.size w w0.drew:=hb.drew
  go_region_held3 (fun w'=>w'.cell? ⟨w.heap.size,0,none⟩=some (.slice da dn dc)∧w'.cell? ⟨w.heap.size,1,none⟩=some (.slice a k c)) (exact ⟨hO'.cell 0,hO'.cell 1⟩)
   (first
    | (go_at_call 61;(with_reducible refine (HC1.out _ hbb).mono ?_);rintro e w2 ⟨ua,uc,rfl,hb2⟩;have hO':=hO'.keep hb2 hO'.lt;have hbb:=bT' hbb hb2 hbb.size)
    | (go_at_call 61;(with_reducible refine (HC2.out _ hbb).mono ?_);rintro e w3 ⟨va,vc,rfl,hb3⟩;have hO':=hO'.keep hb3 hO'.lt;have hbb:=bT' hbb hb3 hbb.size))
  all_goals go_wp2_with fail
  all_goals go_meet
  all_goals exact ⟨_,_,_,_,rfl,rfl,hO',hbb⟩
 case rest=>
  obtain ⟨ua,uc,va,vc,rfl,rfl,hO1,hb1⟩:=hcut;have hgA:=hb1.size;clear hb hO;clear w0;go_wp2_with fail
  refine (newRows_c (N:=0) (W:=W) (by omega) (by omega)).mono ?_;rintro e w4 ⟨rfl,hg,hr,hb4⟩;have hb5:=bT' hb1 hb4 hgA;go_upto_region 4 with fail
  go_loopw [26] (fun y wr=>y=.int .i64 0∧wr=w4) (fun y _=>0)
  case atStart=>exact ⟨rfl,rfl⟩
  case round=>
   obtain ⟨rfl,rfl⟩:=hrel;go_wp2_with fail
   go_ret
   exact ⟨_,rfl,hgA,by rw [Nat.zero_mul] at hg;exact hg,hr,hb5⟩
theorem splitByDN_c {w : World} {da : Option Addr} {dn : Nat} {zs : List Int} {a : Option Addr} {k : Nat} {x : Int} (dc c : Nat) (hx : x = -1) (hd : Ints w da dn zs) (hdn : dn ≤ 1048576) (hz : degsOk zs = true) (hc : cnt zs 0 ≤ 120) :
    Calls Tryz.prog 118 #[.agg #[.slice da dn dc,.slice a k c],.int .i64 x] w fun e w'=>∃v,e=.returned v∧SplitV w' w.heap.size v (cnt zs 0) 0 []∧Below w.heap.size w w':=by
 have hwx:IntKind.i64.wrap (x+1)=x+1:=IntWalk.i64_in _ (by omega)
 have h1:∀w',Below w.heap.size w w'→Calls Tryz.prog 61 #[.agg #[.slice da dn dc,.slice a k c],.int .i64 x] w' fun e w''=>∃ra rc,e=.returned (.slice ra 0 rc)∧Below w'.heap.size w' w'':=fun w' hb=>by
  refine (columnsOf_c dc c (hd.keep hb) hdn).mono ?_;rintro e w'' ⟨ra,rn,rc,rfl,hM,hb2⟩;have e0:moV zs x=[]:=(mo_err (mo_2 hz (by omega)) (by omega)).2;rw [e0] at hM;obtain rfl:0=rn:=hM.1;exact ⟨ra,rc,rfl,hb2⟩
 have h2:∀w',Below w.heap.size w w'→Calls Tryz.prog 61 #[.agg #[.slice da dn dc,.slice a k c],.int .i64 (x+1)] w' fun e w''=>∃ra rc,e=.returned (.slice ra (cnt zs 0) rc)∧Below w'.heap.size w' w'':=fun w' hb=>by
  refine (columnsOf_c dc c (hd.keep hb) hdn).mono ?_;rintro e w'' ⟨ra,rn,rc,rfl,hM,hb2⟩;have e1:moV zs (x+1)=side zs 0:=(by rw [show x+1=((0:Nat):Int) by omega];exact moV_side hz (by omega) (by omega));rw [e1] at hM;obtain rfl:cnt zs 0=rn:=(by rw [←hM.1,side_len]);exact ⟨ra,rc,rfl,hb2⟩
 exact splitByD_g (M:=[]) (Fl:=[]) hwx (fun w' hb=>matrixOfN_c hwx hc (fun w'' hb2=>h1 w'' (bT' hb hb2 hb.size)) (fun w'' hb2=>h2 w'' (bT' hb hb2 hb.size))) h2 rfl (by simp) (by simp) (by omega) hc
def lgR (zs:List Int) (ims:List (List Tm)) (n:Nat):List (List Int):=if n=0 then [] else redR (longR (mrR zs ims (n - 1)))
def nbR (zs:List Int) (n:Nat):Nat:=if n=0 then 0 else cnt zs (n - 1)
def bdR (zs:List Int) (ims:List (List Tm)) (n:Nat):List (List Int):=if n=0 then [] else redR (mrR zs ims (n - 1))
def clR (zs:List Int) (ims:List (List Tm)) (n:Nat):List (List Int):=cloR (cnt zs (n+1)) (redR (longR (mrR zs ims n)))
theorem mrR_len (zs:List Int) (ims:List (List Tm)) (n:Nat):(mrR zs ims n).length=cnt zs n:=by rw [mrR,List.length_map,side_len]
section
variable {zs:List Int} {ims:List (List Tm)}
theorem mrR_low (HA:AlgOk zs ims) (hz:degsOk zs=true) {n:Nat} (hn:¬n=0):∀r∈mrR zs ims (n - 1),RowOk (cnt zs n) r:=fun r hr=>by
 have:=row_ok HA hz (n - 1) r hr
 rwa [show n - 1+1=n by omega] at this
theorem bndR_lg (HA:AlgOk zs ims) (hz:degsOk zs=true) (n:Nat):bndR (cnt zs n) (lgR zs ims n)=bdR zs ims n:=by
 rw [lgR,bdR]
 split
 · rfl
 · rename_i h;exact bndR_eq (mrR_low HA hz h)
theorem lgR_red (HA:AlgOk zs ims) (hz:degsOk zs=true) (n:Nat):RedI (cnt zs n+nbR zs n) (lgR zs ims n):=by
 rw [lgR,nbR]
 split
 · exact RedI.nil _
 · rename_i h;have:=(redR_redI (longR_ok (mrR_low HA hz h))).1
   rwa [mrR_len] at this
theorem bdR_red (HA:AlgOk zs ims) (hz:degsOk zs=true) (n:Nat):RedI (cnt zs n) (bdR zs ims n):=by
 rw [bdR]
 split
 · exact RedI.nil _
 · rename_i h;exact (redR_redI (mrR_low HA hz h)).1
theorem lg_red (HA:AlgOk zs ims) (hz:degsOk zs=true) (n:Nat):RedI (cnt zs (n+1)+cnt zs n) (redR (longR (mrR zs ims n))):=by
 have:=(redR_redI (longR_ok (row_ok HA hz n))).1
 rwa [show ((side zs n).map (dRow zs ims (side zs (n+1)))).length=cnt zs n from mrR_len zs ims n] at this
theorem clR_red (HA:AlgOk zs ims) (hz:degsOk zs=true) (n:Nat):RedI (cnt zs n) (clR zs ims n):=cloR_red (lg_red HA hz n)
theorem redR_le (V:List (List Int)):(redR V).length≤V.length:=by
 have:=redR_len (V:=V) (L:=[])
 rw [List.length_nil] at this
 rw [redR]
 omega
theorem cloR_len (W:Nat) (L:List (List Int)):(cloR W L).length≤L.length:=by rw [cloR,List.length_map];exact List.length_filter_le _ _
theorem clR_len (zs:List Int) (ims:List (List Tm)) (n:Nat):(clR zs ims n).length≤cnt zs n:=by
 have h1:=cloR_len (cnt zs (n+1)) (redR (longR (mrR zs ims n)))
 have h2:=redR_le (longR (mrR zs ims n))
 rw [longR_len,mrR_len] at h2
 rw [clR]
 omega
theorem bdR_len (zs:List Int) (ims:List (List Tm)) (n:Nat):(bdR zs ims n).length≤nbR zs n:=by
 rw [bdR,nbR]
 split
 · simp
 · have h2:=redR_le (mrR zs ims (n - 1))
   rwa [mrR_len] at h2
end
def fmV (zs:List Int) (n:Nat) (R:List (List Int)):List (List Tm):=R.map (fmR (side zs n))
theorem fmV_len (zs:List Int) (n:Nat) (R:List (List Int)):(fmV zs n R).length=R.length:=List.length_map ..
theorem fmV_each {zs:List Int} {n:Nat} {R:List (List Int)}:∀ts∈fmV zs n R,ts.length≤cnt zs n:=fun ts h=>by
 obtain ⟨r,-,rfl⟩:=List.mem_map.1 h
 have:=fmR_len (side zs n) r
 rwa [side_len] at this
theorem mtE_zero {zs:List Int} {ims:List (List Tm)} {n:Int} (h:mtE zs ims n=0):isAlg zs ims=true∧0≤n∧n≤20∧cnt zs n.toNat≤120∧cnt zs (n.toNat+1)≤120:=code3_zero h
theorem mtE_low {zs:List Int} {ims:List (List Tm)} {n:Int} (h:mtE zs ims n=0) (_hn:¬n.toNat=0):cnt zs (n.toNat - 1)≤120:=by
 have h0:=(mtE_zero h).2.1
 rw [mtE] at h
 unfold code3 at h
 split at h
 · omega
 · split at h
   · omega
   · split at h
     · omega
     · rename_i h3
       have hg:gmx zs (low1 n) (n.toNat+1 - low1 n)≤120:=by
        by_cases hh:120<gmx zs (low1 n) (n.toNat+1 - low1 n)
        · exact absurd (by rw [many];exact decide_eq_true hh) h3
        · omega
       have q1:=gmx_le.1 hg 0 (by omega);have hl:low1 n=n.toNat - 1:=(by unfold low1;omega);rw [Nat.add_zero,hl] at q1;exact Int.ofNat_le.1 q1
theorem byR_app:∀{L M:List (List Int)} {r:List Int},byR r (L++M)=byR (byR r L) M
 | [],_,_=>rfl
 | s :: L, M, r => by
   rw [List.cons_append,byR,byR];exact byR_app
theorem byR_snoc {L:List (List Int)} {r s:List Int}:byR r (L++[s])=if (byR r L).getD (fstN s) 0=0 then byR r L else lessR (byR r L) s ((byR r L).getD (fstN s) 0):=by
 rw [byR_app,byR,byR]
theorem byR_step {W:Nat} {L:List (List Int)} {r s:List Int} (hr:RowOk W (byR r L)) (hs:RowOk W s):byR r (L++[s])=addR (byR r L) (num (-((byR r L).getD (fstN s) 0))) s:=by
 rw [byR_snoc]
 split
 · rename_i h;rw [h,show num (-0)=0 from rfl,addR_zero hr.len hs.len hr.bd]
 · rw [addR_clr hr.len hs.len]
def facR (r:List Int) (R:List (List Int)):List Int:=R.map (fun s=>r.getD (fstN s) 0)
theorem facR_len (r:List Int) (R:List (List Int)):(facR r R).length=R.length:=List.length_map ..
theorem byR_fac {W:Nat} {R:List (List Int)} {r s:List Int} {k:Nat} (hR:RedI W R) (hr:RowOk W r) (hk:R[k]? = some s):(byR r (R.take k)).getD (fstN s) 0=r.getD (fstN s) 0:=by
 refine byR_keep (m:=W) hr (fun t ht=>hR.ok t (List.mem_of_mem_take ht)) (fun t ht=>?_)
 have hs:=List.mem_of_getElem? hk
 refine hR.off (List.mem_of_mem_take ht) hs (fun e=>?_)
 obtain ⟨j,hjt⟩:=List.mem_iff_getElem?.1 ht
 have hj:=(List.getElem?_eq_some_iff.1 hjt).1
 have hjk:j<k:=by rw [List.length_take] at hj;omega
 rw [List.getElem?_take,if_pos hjk] at hjt
 have hp:=List.pairwise_iff_getElem.1 hR.sorted j k (by rw [List.length_map];exact (List.getElem?_eq_some_iff.1 hjt).1) (by rw [List.length_map];exact (List.getElem?_eq_some_iff.1 hk).1) hjk
 rw [List.getElem_map,List.getElem_map,(List.getElem?_eq_some_iff.1 hjt).2,(List.getElem?_eq_some_iff.1 hk).2] at hp
 omega
theorem facR_ok {W:Nat} {R:List (List Int)} {r:List Int} (hr:RowOk W r):∀x∈facR r R,0≤x∧x≤10006:=fun x hx=>by
 obtain ⟨s,-,rfl⟩:=List.mem_map.1 hx
 exact hr.at_ _
def cbR (zs:List Int) (ims:List (List Tm)) (n:Nat):List (List Int):=(clR zs ims n).map (fun r=>byR r (bdR zs ims n))
def csR (zs:List Int) (ims:List (List Tm)) (n:Nat):List (List Int):=redR (cbR zs ims n)
section
variable {zs:List Int} {ims:List (List Tm)}
theorem cbR_ok (HA:AlgOk zs ims) (hz:degsOk zs=true) (n:Nat):∀r∈cbR zs ims n,RowOk (cnt zs n) r:=fun r hr=>by
 obtain ⟨s,hs,rfl⟩:=List.mem_map.1 hr
 exact byR_ok ((clR_red HA hz n).ok s hs) (bdR_red HA hz n).ok
theorem cbR_len (zs:List Int) (ims:List (List Tm)) (n:Nat):(cbR zs ims n).length=(clR zs ims n).length:=List.length_map ..
theorem csR_red (HA:AlgOk zs ims) (hz:degsOk zs=true) (n:Nat):RedI (cnt zs n) (csR zs ims n):=(redR_redI (cbR_ok HA hz n)).1
theorem csR_len (zs:List Int) (ims:List (List Tm)) (n:Nat):(csR zs ims n).length≤cnt zs n:=by
 have h1:=redR_le (cbR zs ims n)
 have h2:=clR_len zs ims n
 rw [cbR_len] at h1
 rw [csR]
 omega
end
def csV (zs:List Int) (ims:List (List Tm)) (n:Int):List (List Tm):=if mtE zs ims n=0 then fmV zs n.toNat (csR zs ims n.toNat) else []
theorem csV_bd (zs:List Int) (ims:List (List Tm)) (n:Int):(csV zs ims n).length≤120∧∀ts∈csV zs ims n,ts.length≤120:=by
 rw [csV]
 split
 · rename_i h;have q:=mtE_zero h;have h1:=csR_len zs ims n.toNat;refine ⟨by rw [fmV_len];omega,fun ts ht=>?_⟩;have:=fmV_each ts ht;omega
 · simp
def hoC (cl:Bool) (zs:List Int) (ims:List (List Tm)) (ts:List Tm):Int:=
 if (isAlg zs ims && isForm zs ts)=false then 1 else if (allW zs ts && (!cl || closedB zs ims ts))=false then 5 else if 20<headW zs ts then 2 else if many zs (low1 (headW zs ts)) ((headW zs ts+1).toNat - low1 (headW zs ts))=true then 3 else 0
def hoN (cl:Bool) (zs:List Int) (ims:List (List Tm)) (ts:List Tm):Int:=if hoC cl zs ims ts=0 then headW zs ts else 0
section
variable {cl:Bool} {zs:List Int} {ims:List (List Tm)} {ts:List Tm}
theorem hoC_1 (h:(isAlg zs ims && isForm zs ts)=false):hoC cl zs ims ts=1:=by rw [hoC,if_pos h]
theorem hoC_5 (h:(isAlg zs ims && isForm zs ts)=true) (h2:(allW zs ts && (!cl || closedB zs ims ts))=false):hoC cl zs ims ts=5:=by rw [hoC,if_neg (by simp [h]),if_pos h2]
theorem hoC_2 (h:(isAlg zs ims && isForm zs ts)=true) (h2:(allW zs ts && (!cl || closedB zs ims ts))=true) (h3:20<headW zs ts):hoC cl zs ims ts=2:=by rw [hoC,if_neg (by simp [h]),if_neg (by simp [h2]),if_pos h3]
theorem hoC_3 (h:(isAlg zs ims && isForm zs ts)=true) (h2:(allW zs ts && (!cl || closedB zs ims ts))=true) (h3:¬20<headW zs ts) (h4:many zs (low1 (headW zs ts)) ((headW zs ts+1).toNat - low1 (headW zs ts))=true):hoC cl zs ims ts=3:=by rw [hoC,if_neg (by simp [h]),if_neg (by simp [h2]),if_neg h3,if_pos h4]
theorem hoC_0 (h:(isAlg zs ims && isForm zs ts)=true) (h2:(allW zs ts && (!cl || closedB zs ims ts))=true) (h3:¬20<headW zs ts) (h4:many zs (low1 (headW zs ts)) ((headW zs ts+1).toNat - low1 (headW zs ts))=false):hoC cl zs ims ts=0:=by rw [hoC,if_neg (by simp [h]),if_neg (by simp [h2]),if_neg h3,if_neg (by simp [h4])]
theorem hoN_no (h:¬hoC cl zs ims ts=0):hoN cl zs ims ts=0:=by rw [hoN,if_neg h]
theorem hoN_yes (h:hoC cl zs ims ts=0):hoN cl zs ims ts=headW zs ts:=by rw [hoN,if_pos h]
theorem wtTo_nn {m:List Int} (hz:∀z∈zs,1≤z) (hm:IsMono m):∀k,0≤wtTo zs m k
 | 0=>by rw [wtTo];omega
 | k + 1 => by
   have ih:=wtTo_nn hz hm k;have h2:=getD_mono hm k
   have h3:0≤zs.getD k 0:=by
    by_cases hk:k<zs.length
    · have:=hz zs[k] (List.getElem_mem hk);simp [List.getD,hk]
      omega
    · simp [List.getD,List.getElem?_eq_none (Nat.le_of_not_lt hk)]
   have:=Int.mul_nonneg h3 h2.1;rw [wtTo];omega
theorem degs_pos (hz:degsOk zs=true):∀z∈zs,1≤z:=by
 intro z h
 obtain ⟨i,hi,rfl⟩:=List.mem_iff_getElem.1 h
 exact (degs_at hz (List.getElem?_eq_getElem hi)).1
theorem wt_nn {m:List Int} (hz:degsOk zs=true) (hm:IsMono m):0≤wt zs m:=wtTo_nn (degs_pos hz) hm _
theorem headW_lo (hz:degsOk zs=true) (hT:∀t∈ts,IsTm t):-1≤headW zs ts:=by
 rw [headW]
 split
 · rename_i t h;have:=wt_nn hz (hT t (List.mem_of_getElem? h)).1;omega
 · omega
end
set_option maxHeartbeats 4000000 in
theorem askedDegreeOf_c {w : World} {da : Option Addr} {dn : Nat} {zs : List Int} {a : Option Addr} {n : Nat} {ims : List (List Tm)} {a2 : Option Addr} {n2 : Nat} {fs : List Tm} (dc c c2 : Nat) (hd : Ints w da dn zs) (hdn : dn ≤ 1048576) (hF : Frms w a n ims) (hn : n ≤ 1048576) (hL : ∀ im ∈ ims, (im.length : Int) ≤ 1048576) (h : Terms w a2 n2 fs) (hn2 : n2 ≤ 1048576) :
    Calls Tryz.prog 58 #[.agg #[.slice da dn dc,.slice a n c],.agg #[.slice a2 n2 c2]] w fun e w'=>e=.returned (.tuple #[.int .i64 (hoN false zs ims fs),.int .i64 (hoC false zs ims fs)])∧Below w.heap.size w w':=by
 have HLL:=Lib.hid hL
 have HD:=Lib.hid hd
 have HF:=Lib.hid hF
 have HH:=Lib.hid h
 have HTM:=Lib.hid h.2.1
 clear hL
 have hA:=(Own.new w 35 #[.slice da dn dc,.slice a n c]).alloc (.cells #[.slice a2 n2 c2] 39)
 have hG:=Own.new (w.alloc (.cells #[.slice da dn dc,.slice a n c] 35)) 39 #[.slice a2 n2 c2]
 rw [sAl] at hG
 have hb:=bTn (bA1 w (.cells #[.slice da dn dc,.slice a n c] 35)) (bA1 _ (.cells #[.slice a2 n2 c2] 39))
 have c0:=hA.cell 0
 have c1:=hA.cell 1
 have cg:=hG.cell 0
 clear hd hF h
 go_enter Tryz.func58,Tryz.ntmps58
 go_upto_region 1 with fail
 generalize (w.alloc (.cells #[.slice da dn dc,.slice a n c] 35)).alloc (.cells #[.slice a2 n2 c2] 39)=w0 at *
 go_wp2_with fail
 refine (DegreeOfForm_c dc c2 (HD.out.keep hb) hdn (HH.out.keep hb) hn2).mono ?_
 rintro e w1 ⟨rfl,hb1⟩
 have hA1:=hA.keep hb1 hA.lt
 have hb2:=bT' hb hb1 hb.size
 clear hA hG hb hb1 c0 c1 cg
 have c0:=hA1.cell 0
 have c1:=hA1.cell 1
 generalize hv:degF zs fs=v at *
 generalize hcd:codF zs fs=cd at *
 have HV:=Lib.hid hv
 have HCD:=Lib.hid hcd
 clear hv hcd
 go_wp2_with fail
 refine (IsAlgebra_c dc c (HD.out.keep hb2) hdn (HF.out.keep hb2) hn HLL.out).mono ?_
 rintro e w2 ⟨rfl,hb3⟩
 have hA2:=hA1.keep hb3 hA1.lt
 have hb4:=bT' hb2 hb3 hb2.size
 clear hA1 hb2 hb3 c0 c1
 have c0:=hA2.cell 0
 have c1:=hA2.cell 1
 cases hal:isAlg zs ims with
 | false =>
   have HC:=Lib.hid (hoC_1 (cl:=false) (zs:=zs) (ims:=ims) (ts:=fs) (by rw [hal];rfl));clear hal;go_wp2_with fail
   go_ret2
   exact ⟨by rw [hoN_no (by rw [HC.out];omega),HC.out];rfl,hb4⟩
 | true =>
   have HAL:=Lib.hid hal;clear hal;by_cases hc0:cd=0
   · subst hc0
     have hfa:isForm zs fs=true∧allW zs fs=true:=by
      have:=HCD.out;unfold codF at this;split at this
      · rename_i h1;split at this
        · rename_i h2;exact ⟨h1,h2⟩
        · omega
      · omega
     have hvh:headW zs fs=v:=(by have:=HV.out;rw [degF,if_pos hfa] at this;exact this);have H1:Hid ((isAlg zs ims && isForm zs fs)=true):=Lib.hid (by rw [HAL.out,hfa.1];rfl);have H2:Hid ((allW zs fs && (!false || closedB zs ims fs))=true):=Lib.hid (by rw [hfa.2];rfl);have hz:=isAlg_dg HAL.out;have hlo:=headW_lo hz HTM.out;rw [hvh] at hlo;have HVH:=Lib.hid hvh;have HLO:=Lib.hid hlo;have HZ:=Lib.hid hz;clear hfa hvh hlo hz;by_cases hv2:20<v
     · have HC:=Lib.hid (hoC_2 (cl:=false) H1.out H2.out (by rw [HVH.out];exact hv2));go_wp2_with fail
       go_ret2
       exact ⟨by rw [hoN_no (by rw [HC.out];omega),HC.out];rfl,hb4⟩
     · obtain ⟨H,hH⟩:∃H:Nat,(v+1).toNat=H:=⟨_,rfl⟩;have hw1:IntKind.i64.wrap (v+1)=(H:Int):=(by have:=HLO.out;rw [IntWalk.i64_in _ (by omega)];omega);have hw2:IntKind.i64.wrap (v - 1)=v - 1:=by have:=HLO.out;rw [IntWalk.i64_in _ (by omega)]
       have HMF:Hid (Calls Tryz.prog 84 #[.agg #[.slice da dn dc,.slice a n c],.int .i64 (v - 1),.int .i64 H] w2 fun e w'=>e=.returned (.bool (many zs (low1 v) (H - low1 v)))∧Below w2.heap.size w2 w'):=Lib.hid (by
        have h1:=HLO.out;refine hasMany_c dc c (HD.out.keep hb4) HZ.out ?_ (by unfold low1;omega) (by omega);unfold low1;by_cases h3:v - 1<0
        · exact Or.inr ⟨h3,by omega⟩
        · exact Or.inl ⟨h3,by omega⟩)
       have HHH:=Lib.hid hH;clear hH;cases hm:many zs (low1 v) (H - low1 v)
       all_goals
        have HM:=Lib.hid hm;clear hm;go_wp2_with fail
        try rw [hw2]
        refine HMF.out.mono ?_;rintro e w3 ⟨rfl,hb5⟩;rw [HM.out];have hb6:=bT' hb4 hb5 hb4.size;go_wp2_with fail
        go_ret2
       · have HC:=hoC_0 (cl:=false) H1.out H2.out (by rw [HVH.out];omega) (by rw [HVH.out,HHH.out];exact HM.out);exact ⟨by rw [hoN_yes HC,HC,HVH.out];rfl,hb6⟩
       · have HC:=hoC_3 (cl:=false) H1.out H2.out (by rw [HVH.out];omega) (by rw [HVH.out,HHH.out];exact HM.out);exact ⟨by rw [hoN_no (by rw [HC];omega),HC];rfl,hb6⟩
   · have hcb:(cd != 0)=true:=by simpa using hc0
     have HC:Hid (hoC false zs ims fs=cd):=Lib.hid (by
      have:=HCD.out;unfold codF at this;split at this
      · rename_i h1;split at this
        · omega
        · rename_i h2;rw [hoC_5 (by rw [HAL.out,h1];rfl) (by simp [h2]),this]
      · rename_i h1
        rw [hoC_1 (by rw [HAL.out];simpa using h1),this])
     go_wp2_with fail
     go_ret2
     exact ⟨by rw [hoN_no (by rw [HC.out];exact hc0),HC.out];rfl,hb4⟩
end Go.Proofs.YtifcfoijcodjbaaGreat
