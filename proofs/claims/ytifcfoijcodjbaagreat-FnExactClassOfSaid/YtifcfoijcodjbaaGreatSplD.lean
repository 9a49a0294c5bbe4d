
import Derived.Test.YtifcfoijcodjbaaGreatRedP
import Derived.Test.YtifcfoijcodjbaaGreatSplP
import Derived.Test.YtifcfoijcodjbaaGreatMatM
import Derived.Test.YtifcfoijcodjbaaGreatSplC
namespace Go.Proofs.YtifcfoijcodjbaaGreat
set_option maxRecDepth 100000
open Go.RowKit Go.Deep
theorem insR_len {r:List Int} {p:Nat}:∀{L:List (List Int)},(insR r p L).length=L.length+1
 | []=>rfl
 | s :: L => by
   have:=insR_len (r:=r) (p:=p) (L:=L);rw [insR];split <;> simp [this]
theorem putR_len {L:List (List Int)} {r:List Int}:(putR L r).length≤L.length+1:=by
 rw [putR]
 split
 · rw [insR_len];exact Nat.le_refl _
 · omega
theorem redR_len:∀{V L:List (List Int)},(V.foldl putR L).length≤L.length+V.length
 | [],L=>by simp
 | r :: V, L => by
   have h1:=redR_len (V:=V) (L:=putR L r);have h2:=putR_len (L:=L) (r:=r);rw [List.foldl_cons,List.length_cons];omega
theorem redR_snoc {V:List (List Int)} {k:Nat} {r:List Int} (h:V[k]? = some r):redR (V.take (k+1))=putR (redR (V.take k)) r:=by
 rw [redR,take_sn h,List.foldl_append]
 rfl
set_option maxHeartbeats 1000000 in
theorem l03Reduce_c {w : World} {b : Option Addr} {m N : Nat} {V : List (List Int)} (c : Nat) (hT : Tab w b N V) (hm : m ≤ 1000) (hN : N ≤ 800) (hV : ∀ r ∈ V, RowOk m r) :
    Calls Tryz.prog 125 #[.slice b N c] w fun e w'=>∃b' N' c',e=.returned (.slice b' N' c')∧TabC w' b' N' (redR V)∧Below w.heap.size w w':=by
 have HT:=Lib.hid hT
 have HLn:=Lib.hid hT.1
 have HV:=Lib.hid hV
 have hb:=bA1 w (.cells #[] 22)
 clear hT hV
 go_enter Tryz.func125,Tryz.ntmps125
 go_upto_region 2 with fail
 generalize w.alloc (.cells #[] 22)=w1 at *
 generalize hge:w.heap.size=gO at *
 have HGE:=Lib.hid hge
 clear hge
 go_upto_region 3 with fail
 go_loopw [4,3] (fun y z wr=>∃(k n:Nat) (oa:Option Addr) (oc:Nat),k≤N∧y=.int .i64 k∧z=.slice oa n oc∧Below gO w wr∧TabC wr oa n (redR (V.take k))) (fun y _ _=>N - (intOf y).toNat)
 case atStart=>exact ⟨0,0,_,0,Nat.zero_le _,rfl,rfl,hb,by rw [List.take_zero];exact TabC.none_ _ _⟩
 case round=>
  clear hb;obtain ⟨k,n,oa,oc,hk,rfl,rfl,hb,hO⟩:=hrel;have hk0:(0:Int)≤(k:Int):=(by omega);by_cases hkn:k<N
  · have hki:(k:Int)<(N:Int):=(by omega);obtain ⟨b1,off,s,ai,mi,ci,rfl,hbl,hcs,hIs,hx⟩:=(HT.out.keep (by rw [HGE.out];exact hb)).at_ hkn;have hs:=HV.out s (List.mem_of_getElem? hx.out);obtain rfl:m=mi:=(by have:=hIs.len;have:=hs.len;omega);have hR:=redR_red (RedI.nil m) (V:=V.take k) (fun r hr=>HV.out r (List.mem_of_mem_take hr));have HRD:=Lib.hid hR.1;have hln:=redR_len (V:=V.take k) (L:=[])
    have hn9:n≤900:=by
     have h1:=hO.1.1;rw [redR] at h1;rw [List.length_take,List.length_nil] at hln;omega
    have HS:=Lib.hid hs;have HX:=Lib.hid hx.out;clear hs hR hln hx;go_wp2_with fail
    refine (l03Put_c ci oc hIs hO hm hn9 HS.out (fun t ht=>⟨HRD.out.ok t ht,HRD.out.fst t ht⟩)).mono ?_;rintro e w2 ⟨b',N',c',rfl,hO2,hb2⟩;have hb3:=hb.trans (hb2.mono (by rw [←HGE.out];exact hb.size));clear hb hb2 hO hIs hcs;go_wp2_with fail
    go_roundw
    case rel=>exact ⟨k+1,N',b',c',by omega,by go_num,rfl,hb3,by rw [redR_snoc HX.out];exact hO2⟩
    case measure=>simp [intOf] <;> omega
  · have he:k=N:=(by omega);subst he;rw [List.take_of_length_le (Nat.le_of_eq HLn.out)] at hO;go_wp2_with fail
    go_ret
    exact ⟨oa,n,oc,rfl,hO,by rw [HGE.out];exact hb⟩
theorem row_ok {zs:List Int} {ims:List (List Tm)} (hA:AlgOk zs ims) (hz:degsOk zs=true) (n:Nat):∀r∈(side zs n).map (dRow zs ims (side zs (n+1))),RowOk (cnt zs (n+1)) r:=fun r hr=>by
 obtain ⟨u,hu,rfl⟩:=List.mem_map.1 hr
 have:=dRow_ok hA (side zs (n+1)) (mons_mono hA.h8 u hu) (ext_ok hA.h8 (degs_one hz) hu).1
 rwa [side_len] at this
theorem SplitV.slices {w:World} {lo W N:Nat} {e:Value} {L:List (List Int)} (h:SplitV w lo e W N L):∃a1 n1 c1 a2 n2 c2 a3 n3 c3 a4 n4 c4 a5 n5 c5,e=.agg #[.slice a1 n1 c1,.slice a2 n2 c2,.slice a3 n3 c3,.slice a4 n4 c4,.slice a5 n5 c5]:=by
 obtain ⟨_,_,_,_,_,rfl,⟨ca,cc,rfl,-⟩,⟨ba,bc,rfl,-⟩,⟨pa,pc,rfl,-⟩,⟨B,n,-,h4⟩,⟨B',n',-,h5⟩⟩:=h
 obtain ⟨ea,ec,rfl⟩:=row_slice h4
 obtain ⟨fa,fc,rfl⟩:=row_slice h5
 exact ⟨_,_,_,_,_,_,_,_,_,_,_,_,_,_,_,rfl⟩
set_option maxHeartbeats 4000000 in
theorem splitByD_g {w : World} {da : Option Addr} {dn dc : Nat} {a : Option Addr} {k c : Nat} {x : Int} {N W : Nat} {Fl : List Int} {M : List (List Int)} (hx : IntKind.i64.wrap (x + 1) = x + 1)
    (hma:∀w',Below w.heap.size w w'→Calls Tryz.prog 172 #[.agg #[.slice da dn dc,.slice a k c],.int .i64 x] w' fun e w''=>∃g,e=.returned (.slice (some ⟨g+1,0,none⟩) N N)∧w'.heap.size≤g∧Own w'' g 173 (ofI Fl)∧Own w'' (g+1) 82 (rows3 g W N N).toArray∧Below w'.heap.size w' w'')
    (hco:∀w',Below w.heap.size w w'→Calls Tryz.prog 61 #[.agg #[.slice da dn dc,.slice a k c],.int .i64 (x+1)] w' fun e w''=>∃ra rc,e=.returned (.slice ra W rc)∧Below w'.heap.size w' w'')
    (hMl:M.length=N) (hM:∀r∈M,RowOk W r) (hFl:∀(i:Nat) r,M[i]? = some r→∀(j:Nat) x,r[j]? = some x→Fl[i * W+j]? = some x) (hNb:N≤120) (hWb:W≤120) :
    Calls Tryz.prog 118 #[.agg #[.slice da dn dc,.slice a k c],.int .i64 x] w fun e w'=>∃v,e=.returned v∧SplitV w' w.heap.size v W N (redR (longR M))∧Below w.heap.size w w':=by
 have HMA:=Lib.hid hma
 have HCO:=Lib.hid hco
 have HML:=Lib.hid hMl
 have HMM:=Lib.hid hM
 have HFL:=Lib.hid hFl
 have hB:=(Own.new w 35 #[.slice da dn dc,.slice a k c]).alloc (.cells #[.slice none 0 0,.slice none 0 0,.slice none 0 0,.slice none 0 0,.slice none 0 0] 101)
 have hQ:=Own.new (w.alloc (.cells #[.slice da dn dc,.slice a k c] 35)) 101 #[.slice none 0 0,.slice none 0 0,.slice none 0 0,.slice none 0 0,.slice none 0 0]
 rw [sAl] at hQ
 have hb:=bTn (bA1 w (.cells #[.slice da dn dc,.slice a k c] 35)) (bA1 _ (.cells #[.slice none 0 0,.slice none 0 0,.slice none 0 0,.slice none 0 0,.slice none 0 0] 101))
 have hsz:w.heap.size+2≤((w.alloc (.cells #[.slice da dn dc,.slice a k c] 35)).alloc (.cells #[.slice none 0 0,.slice none 0 0,.slice none 0 0,.slice none 0 0,.slice none 0 0] 101)).heap.size:=by rw [sAl,sAl];omega
 clear hma hco hMl hM hFl
 go_enter Tryz.func118,Tryz.ntmps118
 go_upto_region 1 with fail
 generalize (w.alloc (.cells #[.slice da dn dc,.slice a k c] 35)).alloc (.cells #[.slice none 0 0,.slice none 0 0,.slice none 0 0,.slice none 0 0,.slice none 0 0] 101)=w0 at *
 have hdr:Below w0.heap.size w0 w0.drew:=(Below.refl _ _).drew
 replace hB:=hB.keep hdr hB.lt
 replace hQ:=hQ.keep hdr hQ.lt
 replace hb:=bT' hb hdr hb.size
 replace hsz:=Nat.le_trans hsz hdr.size
 clear hdr
 refine wp_region_held_drew (S:=(fun w'=>w'.cell? ⟨w.heap.size,0,none⟩=some (.slice da dn dc)∧w'.cell? ⟨w.heap.size,1,none⟩=some (.slice a k c))) (by kernel_rfl) ?_ (fun _=>?_)
 · ((try dsimp only);(exact ⟨hB.cell 0,hB.cell 1⟩))
 generalize w0.drew=W0d at *
 refine hdT 0 ?_
 refine hdT 1 ?_
 refine hdT 3 ?_
 refine hdT 4 ?_
 refine hdT 5 ?_
 refine hdC 2 (fun K hK=>?_)
 have hszP:=hsz
 (go_simp;(go_at_call 172;refine (HMA.out _ hb).mono ?_;rintro e W1 ⟨g,rfl,hg,hN,hR,hbX⟩);go_wp2_with fail)
 replace hB:=hB.keep hbX hB.lt
 replace hQ:=hQ.keep hbX hQ.lt
 replace hsz:=Nat.le_trans hsz hbX.size
 replace hb:=bT' hb hbX hb.size
 replace hg:=Nat.le_trans hszP hg
 clear hszP
 clear hbX
 refine hK.out _ _ ?_ (fun _=>?_)
 · ((try dsimp only);(exact ⟨hB.cell 0,hB.cell 1⟩))
 clear hK K
 (try simp only [Act.put,pA,pB,pC])
 refine hdC 6 (fun K hK=>?_)
 (go_simp;(go_at_call 61;refine (HCO.out _ hb).mono ?_;rintro e W2 ⟨ra,rc,rfl,hbX⟩);go_wp2_with fail)
 replace hB:=hB.keep hbX hB.lt
 replace hQ:=hQ.keep hbX hQ.lt
 replace hsz:=Nat.le_trans hsz hbX.size
 replace hb:=bT' hb hbX hb.size
 replace hN:=hN.keep hbX hN.lt
 replace hR:=hR.keep hbX hR.lt
 clear hbX
 refine hK.out _ _ ?_ (fun _=>?_)
 · ((try dsimp only);(exact ⟨hB.cell 0,hB.cell 1⟩))
 clear hK K
 (try simp only [Act.put,pA,pB,pC])
 refine hdT 7 ?_
 refine hdC 8 (fun K hK=>?_)
 (go_simp;(go_at_call 171;refine (splitRows_c hN hR HML.out HMM.out HFL.out hNb hWb).mono ?_;rintro e W3 ⟨v,rfl,hSV,hTo⟩;obtain ⟨a1,n1,c1,a2,n2,c2,a3,n3,c3,a4,n4,c4,a5,n5,c5,rfl⟩:=hSV.slices);go_wp2_with fail)
 replace hSV:=hSV.weaken (lo':=w.heap.size+2) hsz
 replace hb:=hb.trans (hTo.bel (B:=w.heap.size) (fun k hk=>by omega) (by omega))
 replace hQ:=hTo.own hQ (by omega)
 replace hB:=hTo.own hB (by omega)
 replace hsz:=Nat.le_trans hsz hTo.below.size
 clear hTo hN hR
 refine hK.out _ _ ?_ (fun _=>?_)
 · ((try dsimp only);(exact ⟨hB.cell 0,hB.cell 1⟩))
 clear hK K
 (try simp only [Act.put,pA,pB,pC])
 refine hdC 9 (fun K hK=>?_)
 have cQ0:=hQ.cell 0
 have cQ1:=hQ.cell 1
 have cQ2:=hQ.cell 2
 have cQ3:=hQ.cell 3
 have cQ4:=hQ.cell 4
 have fQ0:=hQ.frozen 0
 have fQ1:=hQ.frozen 1
 have fQ2:=hQ.frozen 2
 have fQ3:=hQ.frozen 3
 have fQ4:=hQ.frozen 4
 (go_simp;go_wp2_with fail)
 clear cQ0 fQ0 cQ1 fQ1 cQ2 fQ2 cQ3 fQ3 cQ4 fQ4
 have hon:=Touch.of_only ((((((Only.refl (w.heap.size+1) W3).set 0 (.slice a1 n1 c1)).set 1 (.slice a2 n2 c2)).set 2 (.slice a3 n3 c3)).set 3 (.slice a4 n4 c4)).set 4 (.slice a5 n5 c5))
 replace hSV:=hSV.touch hon (fun q hq=>by omega)
 replace hb:=hb.setCell (p:=⟨w.heap.size+1,0,none⟩) (by dsimp only;omega) (.slice a1 n1 c1)
 replace hB:=hB.far (p:=⟨w.heap.size+1,0,none⟩) (by dsimp only;omega) (.slice a1 n1 c1)
 replace hQ:=hQ.set 0 (.slice a1 n1 c1)
 replace hb:=hb.setCell (p:=⟨w.heap.size+1,1,none⟩) (by dsimp only;omega) (.slice a2 n2 c2)
 replace hB:=hB.far (p:=⟨w.heap.size+1,1,none⟩) (by dsimp only;omega) (.slice a2 n2 c2)
 replace hQ:=hQ.set 1 (.slice a2 n2 c2)
 replace hb:=hb.setCell (p:=⟨w.heap.size+1,2,none⟩) (by dsimp only;omega) (.slice a3 n3 c3)
 replace hB:=hB.far (p:=⟨w.heap.size+1,2,none⟩) (by dsimp only;omega) (.slice a3 n3 c3)
 replace hQ:=hQ.set 2 (.slice a3 n3 c3)
 replace hb:=hb.setCell (p:=⟨w.heap.size+1,3,none⟩) (by dsimp only;omega) (.slice a4 n4 c4)
 replace hB:=hB.far (p:=⟨w.heap.size+1,3,none⟩) (by dsimp only;omega) (.slice a4 n4 c4)
 replace hQ:=hQ.set 3 (.slice a4 n4 c4)
 replace hb:=hb.setCell (p:=⟨w.heap.size+1,4,none⟩) (by dsimp only;omega) (.slice a5 n5 c5)
 replace hB:=hB.far (p:=⟨w.heap.size+1,4,none⟩) (by dsimp only;omega) (.slice a5 n5 c5)
 replace hQ:=hQ.set 4 (.slice a5 n5 c5)
 clear hon
 generalize (((((W3).setCell ⟨w.heap.size+1,0,none⟩ (.slice a1 n1 c1)).setCell ⟨w.heap.size+1,1,none⟩ (.slice a2 n2 c2)).setCell ⟨w.heap.size+1,2,none⟩ (.slice a3 n3 c3)).setCell ⟨w.heap.size+1,3,none⟩ (.slice a4 n4 c4)).setCell ⟨w.heap.size+1,4,none⟩ (.slice a5 n5 c5)=W4 at *
 refine hK.out _ _ ?_ (fun _=>?_)
 · ((try dsimp only);(exact ⟨hB.cell 0,hB.cell 1⟩))
 clear hK K
 (try simp only [Act.put,pA,pB,pC])
 refine wpAnyH_done (by kernel_rfl) ?_ _
 go_wp2_with fail
 exact bodyPost_ret (results_cell_row rfl _ _ (w.heap.size+1) 101 #[(.slice a1 n1 c1),(.slice a2 n2 c2),(.slice a3 n3 c3),(.slice a4 n4 c4),(.slice a5 n5 c5)] (0,0) _ rfl hQ Tryz.underlying101 rfl Tryz.info_split) rfl ⟨_,rfl,hSV.weaken (by omega),hb⟩
def mrR (zs:List Int) (ims:List (List Tm)) (m:Nat):List (List Int):=(side zs m).map (dRow zs ims (side zs (m+1)))
theorem splitByD_c {w : World} {da : Option Addr} {dn : Nat} {zs : List Int} {a : Option Addr} {k : Nat} {ims : List (List Tm)} {m : Nat} (dc c : Nat) (hd : Ints w da dn zs) (hdn : dn ≤ 1048576) (hF : Frms w a k ims) (HA : AlgOk zs ims) (hA : isAlg zs ims = true) (hz : degsOk zs = true) (hm : m ≤ 20) (hc1 : cnt zs m ≤ 120) (hc2 : cnt zs (m + 1) ≤ 120) :
    Calls Tryz.prog 118 #[.agg #[.slice da dn dc,.slice a k c],.int .i64 m] w fun e w'=>∃v,e=.returned v∧SplitV w' w.heap.size v (cnt zs (m+1)) (cnt zs m) (redR (longR (mrR zs ims m)))∧Below w.heap.size w w':=by
 refine splitByD_g (Fl:=flat3 zs ims (side zs (m+1)) (side zs m)) (IntWalk.i64_in _ (by omega)) (fun w' hb=>?_) (fun w' hb=>?_) (by rw [mrR,List.length_map,side_len]) (row_ok HA hz m) (fun i r hi j y hy=>?_) hc1 hc2
 · exact matrixOf_c dc c (hd.keep hb) hdn (hF.keep hb) HA hA hz (degs_one hz) hm hc1 hc2
 · refine (columnsOf_c dc c (hd.keep hb) hdn).mono ?_;rintro e w'' ⟨ra,rn,rc,rfl,hM,hb2⟩;have e1:moV zs ((m:Int)+1)=side zs (m+1):=moV_side (n:=m+1) hz (by omega) (by omega);rw [e1] at hM;obtain rfl:cnt zs (m+1)=rn:=(by rw [←hM.1,side_len]);exact ⟨ra,rc,rfl,hb2⟩
 · rw [mrR,List.getElem?_map] at hi
   cases hu:(side zs m)[i]? with
   | none=>rw [hu] at hi;simp at hi
   | some u =>
     rw [hu,Option.map_some,Option.some.injEq] at hi;subst hi;have:=flat3_get (zs:=zs) (ims:=ims) (V:=side zs (m+1)) hu j y hy
     rwa [side_len] at this
end Go.Proofs.YtifcfoijcodjbaaGreat
