
import Derived.Test.YtifcfoijcodjbaaGreatMatP
import Derived.Test.YtifcfoijcodjbaaGreatHeld
import Derived.WalkMore
import Derived.OwnWalk
namespace Go.Proofs.YtifcfoijcodjbaaGreat
set_option maxRecDepth 100000
open Go.RowKit Go.Deep
def side (zs:List Int) (n:Nat):List (List Int):=ext [] (mons zs n)
theorem moV_side {zs:List Int} {n:Nat} (hz:degsOk zs=true) (hn:n≤40) (hc:cnt zs n≤400):moV zs n=side zs n:=(mo_0 hz hn (by omega)).2
theorem side_len (zs:List Int) (n:Nat):(side zs n).length=cnt zs n:=by rw [side,ext_len,cnt]
theorem rows3_get {g W n j:Nat} (hj:j<n):(rows3 g W n n).toArray[j]? = some (.slice (some ⟨g,j * W,none⟩) W W):=by
 rw [List.getElem?_toArray,rows3,List.getElem?_map,List.getElem?_range hj]
 simp [hj]
theorem Touch.bel3 {g B:Nat} {w w':World} (h:Touch (fun k=>k=g) w w') (hg:B≤g) (hs:B≤w.heap.size):Below B w w':=
 ⟨h.below.os,h.below.tape,h.below.output,h.below.size,fun k hk=>h.other k (by omega) (by omega)⟩
theorem OwnR.touch {w w':World} {B g:Nat} {v:Value} {ts:List Tm} (h:OwnR w B v ts) (ht:Touch (fun k=>k=g) w w') (hg:g<B):OwnR w' B v ts:=by
 refine World.ownsRow.kept h (row:=some g) ⟨ht.below.os,ht.below.tape,ht.below.output,ht.below.size,fun k hk hne=>ht.other k hk (by simpa using hne)⟩ ?_
 rcases hv:v.ownBlock with _ | q
 · exact Or.inl rfl
 · right
   have:=(World.ownsRow.lt h q hv).1;simp
   omega
theorem single_terms {w:World} {g:Nat} {p0 p1 p2 p3 p4 p5 p6 p7:Int} (hm:IsMono [p0,p1,p2,p3,p4,p5,p6,p7]) (h:Own w g 158 #[.int .u8 p0,.int .u8 p1,.int .u8 p2,.int .u8 p3,.int .u8 p4,.int .u8 p5,.int .u8 p6,.int .u8 p7,.int .i64 1]):Terms w (some ⟨g,0,none⟩) 1 [⟨[p0,p1,p2,p3,p4,p5,p6,p7],1⟩]:=by
 refine ⟨rfl,fun t ht=>?_,fun _=>⟨g,0,rfl,h.lt,fun j v hv=>?_⟩⟩
 · obtain rfl:t=⟨[p0,p1,p2,p3,p4,p5,p6,p7],1⟩:=(by simpa using ht);exact ⟨hm,by dsimp only;omega,by dsimp only;omega⟩
 · rw [Nat.zero_add,h.cell j,List.getElem?_toArray];simpa [rcells,tcells,mcells] using hv
set_option maxHeartbeats 8000000 in
theorem matrixOf_c {w : World} {da : Option Addr} {dn : Nat} {zs : List Int} {a : Option Addr} {k : Nat} {ims : List (List Tm)} {m : Nat} (dc c : Nat) (hd : Ints w da dn zs) (hdn : dn ≤ 1048576) (hF : Frms w a k ims) (HA : AlgOk zs ims) (hA : isAlg zs ims = true) (hz : degsOk zs = true) (hz1 : ∀ z ∈ zs, 1 ≤ z) (hm : m ≤ 20) (hc1 : cnt zs m ≤ 120) (hc2 : cnt zs (m + 1) ≤ 120) :
    Calls Tryz.prog 172 #[.agg #[.slice da dn dc,.slice a k c],.int .i64 m] w fun e w'=>∃g,e=.returned (.slice (some ⟨g+1,0,none⟩) (cnt zs m) (cnt zs m))∧w.heap.size≤g∧Own w' g 173 (ofI (flat3 zs ims (side zs (m+1)) (side zs m)))∧Own w' (g+1) 82 (rows3 g (cnt zs (m+1)) (cnt zs m) (cnt zs m)).toArray∧Below w.heap.size w w':=by
 have HC1:Hid (∀w',Below w.heap.size w w'→Calls Tryz.prog 61 #[.agg #[.slice da dn dc,.slice a k c],.int .i64 (m:Int)] w' fun e w''=>∃ra rc,e=.returned (.slice ra (cnt zs m) rc)∧OwnM w'' w'.heap.size w''.heap.size ra (cnt zs m) (side zs m)∧Below w'.heap.size w' w''):=Lib.hid (fun w' hb=>by
  refine (columnsOf_c dc c (hd.keep hb) hdn).mono ?_;rintro e w'' ⟨ra,rn,rc,rfl,hM,hb2⟩;rw [moV_side hz (by omega) (by omega)] at hM;obtain rfl:cnt zs m=rn:=by rw [←hM.1,side_len]
  exact ⟨ra,rc,rfl,hM,hb2⟩)
 have HC2:Hid (∀w',Below w.heap.size w w'→Calls Tryz.prog 61 #[.agg #[.slice da dn dc,.slice a k c],.int .i64 ((m:Int)+1)] w' fun e w''=>∃ra rc,e=.returned (.slice ra (cnt zs (m+1)) rc)∧OwnM w'' w'.heap.size w''.heap.size ra (cnt zs (m+1)) (side zs (m+1))∧Below w'.heap.size w' w''):=Lib.hid (fun w' hb=>by
  refine (columnsOf_c dc c (hd.keep hb) hdn).mono ?_;rintro e w'' ⟨ra,rn,rc,rfl,hM,hb2⟩;have e1:moV zs ((m:Int)+1)=side zs (m+1):=moV_side (n:=m+1) hz (by omega) (by omega);rw [e1] at hM;obtain rfl:cnt zs (m+1)=rn:=by rw [←hM.1,side_len]
  exact ⟨ra,rc,rfl,hM,hb2⟩)
 have HD:=Lib.hid hd
 have HF:=Lib.hid hF
 have HAO:=Lib.hid HA
 have HIA:=Lib.hid hA
 have HZ1:=Lib.hid hz1
 have hO:=Own.new w 35 #[.slice da dn dc,.slice a k c]
 have hb:=bA1 w (.cells #[.slice da dn dc,.slice a k c] 35)
 have e1:IntKind.i64.wrap ((m:Int)+1)=(m:Int)+1:=IntWalk.i64_in _ (by omega)
 have HU:Hid ((side zs m).length=cnt zs m):=Lib.hid (side_len _ _)
 have HV:Hid ((side zs (m+1)).length=cnt zs (m+1)):=Lib.hid (side_len _ _)
 have HCC:Hid (cnt zs (m+1)≤400):=Lib.hid (by omega)
 clear hd hF HA hA hz hz1
 go_enter Tryz.func172,Tryz.ntmps172
 go_upto_region 1 with fail
 generalize hw0:w.alloc (.cells #[.slice da dn dc,.slice a k c] 35)=w0 at *
 have hs0:=Lib.hid hb.size
 clear hw0
 generalize hga:w.heap.size=gA at *
 have HGA:=Lib.hid hga
 clear hga
 generalize hUe:side zs m=U at *
 generalize hVe:side zs (m+1)=V at *
 have HUE:=Lib.hid hUe
 have HVE:=Lib.hid hVe
 clear hUe hVe
 generalize hNe:cnt zs m=N at *
 generalize hWe:cnt zs (m+1)=W at *
 have HNE:=Lib.hid hNe
 have HWE:=Lib.hid hWe
 clear hNe hWe
 go_cut [5,6] (fun p q wr=>∃ua uc va vc lo hi,p=.slice ua N uc∧q=.slice va W vc∧gA≤lo∧hi≤wr.heap.size∧OwnM wr lo hi ua N U∧OwnM wr lo hi va W V∧Own wr gA 35 #[.slice da dn dc,.slice a k c]∧Below gA w wr)
 case first=>
  have hO':Own w0.drew gA 35 #[.slice da dn dc,.slice a k c]:=hO;have hbb:Below gA w w0.drew:=hb.drew
  go_region_held3 (fun w'=>w'.cell? ⟨gA,0,none⟩=some (.slice da dn dc)∧w'.cell? ⟨gA,1,none⟩=some (.slice a k c)) (exact ⟨hO'.cell 0,hO'.cell 1⟩)
   (first
    | (go_at_call 61;(with_reducible refine (HC1.out _ hbb).mono ?_);rintro e w2 ⟨ua,uc,rfl,hU,hb2⟩;have hO':=hO'.keep hb2 hO'.lt;have hbb:=bT' hbb hb2 hs0.out)
    | (go_at_call 61;(with_reducible refine (HC2.out _ hbb).mono ?_);rintro e w3 ⟨va,vc,rfl,hV,hb3⟩;have hbb:=bT' hbb hb3 (Nat.le_of_lt hO'.lt);have hU:=hU.keep hb3;have hO':=hO'.keep hb3 hO'.lt))
  all_goals go_wp2_with fail
  all_goals go_meet
  all_goals exact ⟨_,_,_,_,w0.heap.size,w3.heap.size,rfl,rfl,hs0.out,Nat.le_refl _,hU.weaken (Nat.le_refl _) hb3.size,hV.weaken hb2.size (Nat.le_refl _),hO',hbb⟩
 case rest=>
  obtain ⟨ua,uc,va,vc,lo,hi,rfl,rfl,hlo,hhi,hU,hV,hO1,hb1⟩:=hcut;go_wp2_with fail
  refine (newRows_c (by omega) (by omega)).mono ?_;rintro e w4 ⟨rfl,hg,hr,hb4⟩;have hGs:=hO1.lt;have hgA:gA≤wc.heap.size:=Nat.le_of_lt hO1.lt;have hb5:=bT' hb1 hb4 hgA;replace hU:=hU.keep hb4;replace hV:=hV.keep hb4;replace hO1:=hO1.keep hb4 hO1.lt
  have hN0:Own w4 wc.heap.size 173 (ofI (numbers3 zs ims V U 0)):=by
   rw [numbers3,List.take_zero,HU.out,HV.out];exact hg
  clear hg hb1 hb4 hb hO;have hGl:=Lib.hid (show gA<wc.heap.size from hGs);generalize wc.heap.size=g at *;clear hs0;clear w0 wc;have HHI:=Lib.hid hhi;have HLO:=Lib.hid hlo;have HGA2:=Lib.hid hgA;clear hhi hlo hgA hGs;go_wp2_with fail
  go_loopw [26] (fun y wr=>∃j:Nat,j≤N∧y=.int .i64 j∧Below gA w wr∧OwnM wr lo hi ua N U∧OwnM wr lo hi va W V∧Own wr gA 35 #[.slice da dn dc,.slice a k c]∧Own wr (g+1) 82 (rows3 g W N N).toArray∧Own wr g 173 (ofI (numbers3 zs ims V U j))) (fun y _=>N - (intOf y).toNat)
  case atStart=>exact ⟨0,Nat.zero_le _,rfl,hb5,hU,hV,hO1,hr,hN0⟩
  case round=>
   clear hb5 hU hV hO1 hr hN0;obtain ⟨j,hj,rfl,hb,hU,hV,hO,hr,hN⟩:=hrel;by_cases hlt:j<N
   · have hji:(j:Int)<(N:Int):=(by omega);have hj0:(0:Int)≤(j:Int):=(by omega);obtain ⟨b,off,u,rfl,hbl,hro,hmu,hx⟩:=hU.mos.at_ hlt;have HDF:=Lib.hid (diff_facts HIA.out HAO.out HZ1.out (n:=m) (by omega) (by rw [HWE.out];exact HCC.out) (u:=u) (by rw [←side,HUE.out];exact List.mem_of_getElem? hx.out) hmu);have HSP:=Lib.hid (numbers3_split (zs:=zs) (ims:=ims) (V:=V) (U:=U) (k:=j) (by rw [HU.out];exact hlt));have HST:=Lib.hid (numbers3_step (zs:=zs) (ims:=ims) (V:=V) hx.out);obtain ⟨u0,u1,u2,u3,u4,u5,u6,u7,rfl⟩:=mono8 hmu;obtain ⟨y0,y1,y2,y3,y4,y5,y6,y7⟩:=eight hro;have hT:=Own.new wr 156 (mcells [u0,u1,u2,u3,u4,u5,u6,u7]).toArray;have hba:=bA1 wr (.cells (mcells [u0,u1,u2,u3,u4,u5,u6,u7]).toArray 156);have hgA:=Nat.le_of_lt hO.lt;replace hU:=hU.keep hba;replace hV:=hV.keep hba;replace hO:=hO.keep hba hO.lt;replace hr:=hr.keep hba hr.lt;replace hN:=hN.keep hba hN.lt;replace hb:=bT' hb hba hgA;clear hba hgA hx hro;go_upto_region 6 with fail
     clear y0 y1 y2 y3 y4 y5 y6 y7
     change Code.wp _ _ _ _ (wr.alloc (.cells (mcells [u0,u1,u2,u3,u4,u5,u6,u7]).toArray 156))
     generalize wr.alloc (.cells (mcells [u0,u1,u2,u3,u4,u5,u6,u7]).toArray 156)=w6 at *;generalize wr.heap.size=gT at *;clear wr;obtain ⟨x0,x1,x2,x3,x4,x5,x6,x7⟩:=own8 hT;have c0:=hO.cell 0;have c1:=hO.cell 1;go_wp2_with fail
     clear x0 x1 x2 x3 x4 x5 x6 x7 c0 c1 hT;have hS1:=single_terms hmu (Own.new w6 158 #[.int .u8 u0,.int .u8 u1,.int .u8 u2,.int .u8 u3,.int .u8 u4,.int .u8 u5,.int .u8 u6,.int .u8 u7,.int .i64 1]);have hba:=bA1 w6 (.cells #[.int .u8 u0,.int .u8 u1,.int .u8 u2,.int .u8 u3,.int .u8 u4,.int .u8 u5,.int .u8 u6,.int .u8 u7,.int .i64 1] 158);have hgA:=Nat.le_of_lt hO.lt;replace hU:=hU.keep hba;replace hV:=hV.keep hba;replace hO:=hO.keep hba hO.lt;replace hr:=hr.keep hba hr.lt;replace hN:=hN.keep hba hN.lt;replace hb:=bT' hb hba hgA;clear hba hgA;generalize w6.alloc (.cells #[.int .u8 u0,.int .u8 u1,.int .u8 u2,.int .u8 u3,.int .u8 u4,.int .u8 u5,.int .u8 u6,.int .u8 u7,.int .i64 1] 158)=w7 at *;generalize w6.heap.size=gS at *;clear w6;have hbW:Below w.heap.size w w7:=by rw [HGA.out];exact hb
     refine (differentialOf_c dc c 1 (HD.out.keep hbW) (HF.out.keep hbW) hS1 HAO.out (fun t ht=>by
      obtain rfl:t=⟨[u0,u1,u2,u3,u4,u5,u6,u7],1⟩:=by simpa using ht
      exact HDF.out.1) (fun t ht=>by
      obtain rfl:t=⟨[u0,u1,u2,u3,u4,u5,u6,u7],1⟩:=by simpa using ht
      exact ⟨by dsimp only;omega,by dsimp only;omega⟩) (by omega)).mono ?_
     rintro e w8 ⟨bm,rfl,hbm,hMap,hba⟩;have hgA:=Nat.le_of_lt hO.lt;replace hU:=hU.keep hba;replace hV:=hV.keep hba;replace hO:=hO.keep hba hO.lt;have hgl:Hid (g+1<w8.heap.size):=Lib.hid (hr.keep hba hr.lt).lt;replace hr:=hr.keep hba hr.lt;replace hN:=hN.keep hba hN.lt;replace hb:=bT' hb hba hgA;clear hba hgA hbW hS1 hbm;clear w7
     have HSB:Hid (∀q,0≤diffS zs ims zeroL [⟨[u0,u1,u2,u3,u4,u5,u6,u7],1⟩] q∧diffS zs ims zeroL [⟨[u0,u1,u2,u3,u4,u5,u6,u7],1⟩] q≤10006):=Lib.hid (fun q=>by
      rw [HDF.out.2.2.2.2.2.2 q]
      exact coef_bd (fun t ht=>by have:=HDF.out.2.2.1.nz t ht;omega))
     go_wp2_with fail
     refine (form_c hMap (by omega) HSB.out).mono ?_;rintro e w9 ⟨hFO,hba⟩;obtain ⟨v,rfl,hR⟩:=hFO.told3 HDF.out.2.2.1 HDF.out.2.1 HDF.out.2.2.2.2.1 HDF.out.2.2.2.2.2.1 HDF.out.2.2.2.2.2.2;obtain ⟨fa,fn,fc,rfl⟩:=hR.isSlice
     have hfn:fn=(diffT zs ims [] [⟨[u0,u1,u2,u3,u4,u5,u6,u7],1⟩]).length:=by
      obtain ⟨a',c',e',-⟩:=hR.terms HDF.out.2.1 rfl
      injection e'
     have HFN:=Lib.hid hfn;have hgA:=Nat.le_of_lt hO.lt;replace hU:=hU.keep hba;replace hV:=hV.keep hba;replace hO:=hO.keep hba hO.lt;replace hr:=hr.keep hba hr.lt;replace hN:=hN.keep hba hN.lt;replace hb:=bT' hb hba hgA;clear hba hgA hFO hMap hfn;generalize w8.heap.size=gB at *;clear w8;have hgX:=Lib.hid hN.lt;have hX:=Own.new w9 39 #[.slice fa fn fc];have hba:=bA1 w9 (.cells #[.slice fa fn fc] 39);have hgA:=Nat.le_of_lt hO.lt;replace hU:=hU.keep hba;replace hV:=hV.keep hba;replace hO:=hO.keep hba hO.lt;replace hr:=hr.keep hba hr.lt;replace hN:=hN.keep hba hN.lt;replace hR:=hR.keep hba;replace hb:=bT' hb hba hgA;clear hba hgA;go_upto_region 7 with fail
     generalize w9.alloc (.cells #[.slice fa fn fc] 39)=wA at *;generalize w9.heap.size=gX at *;clear w9
     have hW:Calls Tryz.prog 122 #[.slice va W vc,.slice (some ⟨g,j * W,none⟩) W W,.agg #[.slice fa fn fc]] wA.drew fun e w'=>e=.returned (.tuple #[])∧Own w' g 173 (ofI (numbers3 zs ims V U (j+1)))∧Touch (fun k=>k=g) wA.drew w':=by
      have hVd:OwnM wA.drew lo hi va W V:=hV;have hRd:OwnR wA.drew gB (.slice fa fn fc) (diffT zs ims [] [⟨[u0,u1,u2,u3,u4,u5,u6,u7],1⟩]):=hR
      have hNd:Own wA.drew g 173 (ofI (flat3 zs ims V (U.take j)++rowT V []++List.replicate ((U.length - (j+1)) * V.length) 0)):=by
       rw [←HSP.out];exact hN
      have h1:=HHI.out;have h2:=hgl.out;have hfl:=HDF.out.2.2.2.2.2.1;refine (write_c vc W fc (fun w' ht=>(hVd.touch ht (fun q _ hq e=>by omega)).mos) (by rw [←HVE.out];exact ext_ord _ _) (by omega) (fun w' ht=>(hRd.touch ht (by omega)).read HDF.out.2.1) (by rw [HFN.out];omega) HDF.out.2.2.1.srt (fun t ht=>by rw [←HVE.out];exact HDF.out.2.2.2.1 t ht) hNd (by rw [flat3_len,List.length_take,HU.out,HV.out,Nat.min_eq_left (Nat.le_of_lt hlt)])).mono ?_;rintro e w' ⟨rfl,hN2,ht⟩;refine ⟨rfl,?_,ht⟩;have:=HST.out;rw [dRow] at this;rw [←this];exact hN2
     have HW:=Lib.hid hW;have hrd:Own wA.drew (g+1) 82 (rows3 g W N N).toArray:=hr;have hXd:Own wA.drew gX 39 #[.slice fa fn fc]:=hX;clear hW
     go_region_held3 (fun w'=>w'.cell? ⟨g+1,j,none⟩=some (.slice (some ⟨g,j * W,none⟩) W W)∧w'.cell? ⟨gX,0,none⟩=some (.slice fa fn fc)) (exact ⟨(hrd.cell j).trans (rows3_get hlt),hXd.cell 0⟩)
      ((go_at_call 122;(with_reducible refine HW.out.mono ?_);rintro e w2 ⟨rfl,hN2,ht⟩;have hrd:=ht.own hrd (by omega);have hXd:=ht.own hXd (by have:=hgX.out;omega)))
     all_goals go_wp2_with fail
     all_goals go_roundw
     all_goals first
      | (case measure=>simp [intOf] <;> omega)
      | skip
     all_goals
      have q1:=HHI.out;have q2:=hGl.out;exact ⟨j+1,by omega,by go_num,hb.drew.trans (ht.bel3 (by omega) (Nat.le_of_lt (show gA<wA.heap.size from hO.lt))),OwnM.touch (show OwnM wA.drew lo hi _ N U from hU) ht (fun q _ hq e=>by omega),OwnM.touch (show OwnM wA.drew lo hi _ W V from hV) ht (fun q _ hq e=>by omega),ht.own (show Own wA.drew gA 35 #[.slice da dn dc,.slice a k c] from hO) (by omega),hrd,hN2⟩
   · obtain rfl:j=N:=(by omega);go_wp2_with fail
     go_ret
     have he:numbers3 zs ims V U j=flat3 zs ims V U:=(by rw [numbers3,←HU.out,List.take_length,Nat.sub_self,Nat.zero_mul,List.replicate_zero,List.append_nil]);rw [he] at hN;exact ⟨g,by rw [HNE.out];rfl,by rw [HGA.out];exact HGA2.out,by rw [HVE.out,HUE.out];exact hN,by rw [HNE.out,HWE.out];exact hr,by rw [HGA.out];exact hb⟩
theorem times3_c (x y:Int) (w:World) (m1:0≤x * y) (m2:x * y≤100120036):Calls Tryz.prog 181 #[.int .i64 x,.int .i64 y] w fun e w'=>e=.returned (.int .i64 (num (x * y)))∧w=w':=by
 go_enter Tryz.func181,Tryz.ntmps181
 go_wp2
 go_ret
 exact ⟨ret_i (by first | rfl | (rw [num,Int.tmod_eq_emod_of_nonneg m1])),rfl⟩
theorem plus3_c (x y:Int) (w:World) (hx:0≤x∧x≤10006) (hy:0≤y∧y≤10006):Calls Tryz.prog 180 #[.int .i64 x,.int .i64 y] w fun e w'=>e=.returned (.int .i64 (num (x+y)))∧w=w':=by
 have m1:0≤x+y:=by omega
 have m2:x+y≤20012:=by omega
 go_enter Tryz.func180,Tryz.ntmps180
 go_wp2
 go_ret
 exact ⟨ret_i (by first | rfl | (rw [num,Int.tmod_eq_emod_of_nonneg m1])),rfl⟩
theorem opposite3_c (x:Int) (w:World) (hx:0≤x∧x≤10006):Calls Tryz.prog 174 #[.int .i64 x] w fun e w'=>e=.returned (.int .i64 (num (-x)))∧w=w':=by
 have m1:0≤10007 - x:=by omega
 have m2:10007 - x≤10007:=by omega
 have e1:(10007 - x) % 10007=num (-x):=by unfold num;omega
 go_enter Tryz.func174,Tryz.ntmps174
 go_wp2
 go_ret
 exact ⟨ret_i (by first | exact e1 | (rw [Int.tmod_eq_emod_of_nonneg m1];exact e1)),rfl⟩
theorem inverse3_c (x:Int) (w:World) (h1:1≤x) (h2:x≤10006):Calls Tryz.prog 212 #[.int .i64 x] w fun e w'=>e=.returned (.int .i64 (invOf x))∧w=w':=by
 go_enter Tryz.func212,Tryz.ntmps212
 go_wp2_with fail
 refine (power_c x w h1 h2).mono ?_
 rintro e w' ⟨rfl,rfl⟩
 go_wp2_with fail
 go_ret
 exact ⟨ret_i (by rw [invOf,if_pos ⟨h1,h2⟩]),rfl⟩
def mapTo (f:Int→Int) (R:List Int) (k:Nat):List Int:=(R.take k).map f++R.drop k
theorem mapTo_len (f:Int→Int) (R:List Int) (k:Nat):(mapTo f R k).length=R.length:=by simp [mapTo];omega
theorem mapTo_get {f:Int→Int} {R:List Int} {k j:Nat} (h:k≤j):(mapTo f R k)[j]? = R[j]? := by
 rw [mapTo]
 by_cases hk:k≤R.length
 · rw [List.getElem?_append_right (by simp;omega),List.getElem?_drop];congr 1
   simp
   omega
 · rw [List.getElem?_eq_none (by simp;omega),List.getElem?_eq_none (by omega)]
theorem mapTo_step {f:Int→Int} {R:List Int} {k:Nat} {x:Int} (h:R[k]? = some x):(mapTo f R k).set k (f x)=mapTo f R (k+1):=by
 obtain ⟨hk,rfl⟩:=List.getElem?_eq_some_iff.1 h
 have hl:((R.take k).map f).length=k:=by simp;omega
 rw [mapTo,mapTo,List.set_append_right _ _ (by omega),hl,Nat.sub_self,List.drop_eq_getElem_cons hk,List.set_cons_zero,List.take_succ_eq_append_getElem hk,List.map_append,List.append_assoc]
 rfl
theorem mapTo_end (f:Int→Int) (R:List Int):mapTo f R R.length=R.map f:=by simp [mapTo]
def addR (R:List Int) (f:Int) (O:List Int):List Int:=List.zipWith (fun a x=>num (a+x * f)) R O
def addTo (R:List Int) (f:Int) (O:List Int) (k:Nat):List Int:=addR (R.take k) f (O.take k)++R.drop k
theorem addTo_len {R O:List Int} {f:Int} {k W:Nat} (hR:R.length=W) (hO:O.length=W):(addTo R f O k).length=W:=by
 simp only [addTo,addR,List.length_append,List.length_zipWith,List.length_take,List.length_drop]
 omega
theorem addTo_get {R O:List Int} {f a:Int} {k j:Nat} (h:R[j]? = some a) (hk:k≤j) (hOl:R.length=O.length:=by omega):(addTo R f O k)[j]? = some a:=by
 have hj:=(List.getElem?_eq_some_iff.1 h).1
 have hl:(addR (R.take k) f (O.take k)).length=k:=by simp only [addR,List.length_zipWith,List.length_take];omega
 rw [addTo,List.getElem?_append_right (by omega),hl,List.getElem?_drop,show k+(j - k)=j by omega,h]
theorem addTo_step {R O:List Int} {f a x:Int} {k:Nat} (h:R[k]? = some a) (h2:O[k]? = some x) (hOl:R.length=O.length:=by omega):(addTo R f O k).set k (num (a+x * f))=addTo R f O (k+1):=by
 obtain ⟨hk,rfl⟩:=List.getElem?_eq_some_iff.1 h
 obtain ⟨hk2,rfl⟩:=List.getElem?_eq_some_iff.1 h2
 have hl:(addR (R.take k) f (O.take k)).length=k:=by simp only [addR,List.length_zipWith,List.length_take];omega
 rw [addTo,addTo,List.set_append_right _ _ (by omega),hl,Nat.sub_self,List.drop_eq_getElem_cons hk,List.set_cons_zero,List.take_succ_eq_append_getElem hk,List.take_succ_eq_append_getElem hk2,addR,addR,List.zipWith_append (by simp;omega),List.append_assoc]
 rfl
theorem addTo_skip {R O:List Int} {f a:Int} {k:Nat} (h:R[k]? = some a) (h2:O[k]? = some 0) (ha:0≤a∧a≤10006) (hOl:R.length=O.length:=by omega):addTo R f O (k+1)=addTo R f O k:=by
 rw [←addTo_step h h2 hOl,Int.zero_mul,Int.add_zero,num_idK ha]
 apply List.ext_getElem?
 intro j
 by_cases e:k=j
 · subst e;rw [addTo_get h (Nat.le_refl _) hOl,List.getElem?_set_self (by rw [addTo_len rfl hOl.symm];exact (List.getElem?_eq_some_iff.1 h).1)]
 · rw [List.getElem?_set_ne e]
theorem addTo_end {R O:List Int} {f:Int} {W:Nat} (hR:R.length=W) (hO:O.length=W):addTo R f O W=addR R f O:=by
 rw [addTo,List.take_of_length_le (by omega),List.take_of_length_le (by omega),List.drop_of_length_le (by omega),List.append_nil]
theorem addR_zero {R O:List Int} {W:Nat} (hR:R.length=W) (hO:O.length=W) (hb:∀x∈R,0≤x∧x≤10006):addR R 0 O=R:=by
 apply List.ext_getElem
 · simp only [addR,List.length_zipWith];omega
 · intro i h1 h2;simp only [addR,List.getElem_zipWith,Int.mul_zero,Int.add_zero];exact num_idK (hb _ (List.getElem_mem h2))
def RowAt (w:World) (g:Nat) (R:List Int):Prop:=∃cs,Own w g 173 cs∧∀(j:Nat) x,R[j]? = some x→cs[j]? = some (.int .i64 x)
def RdAt (w:World) (g off:Nat) (R:List Int):Prop:=∀(j:Nat) x,R[j]? = some x→w.cell? ⟨g,off+j,none⟩=some (.int .i64 x)
section
variable {w w':World} {g:Nat} {R:List Int}
theorem RowAt.lt (h:RowAt w g R):g<w.heap.size:=by obtain ⟨cs,h1,-⟩:=h;exact h1.lt
theorem RowAt.cell (h:RowAt w g R) {j:Nat} {x:Int} (hx:R[j]? = some x):w.cell? ⟨g,j,none⟩=some (.int .i64 x):=by
 obtain ⟨cs,h1,h2⟩:=h
 rw [h1.cell j,h2 j x hx]
theorem RowAt.has (h:RowAt w g R) {j:Nat} (hj:j<R.length):∃v,w.cell? ⟨g,j,none⟩=some v:=⟨_,h.cell (List.getElem?_eq_getElem hj)⟩
theorem RowAt.frozen (h:RowAt w g R) (j:Nat):w.frozen? ⟨g,j,none⟩=false:=by
 obtain ⟨cs,h1,-⟩:=h
 exact h1.frozen j
theorem RowAt.set (h:RowAt w g R) {j:Nat} {x:Int} (hj:j<R.length):RowAt (w.setCell ⟨g,j,none⟩ (.int .i64 x)) g (R.set j x):=by
 obtain ⟨cs,h1,h2⟩:=h
 refine ⟨_,h1.set j (.int .i64 x),fun i y hy=>?_⟩
 by_cases e:j=i
 · subst e;rw [List.getElem?_set_self hj,Option.some.injEq] at hy;subst hy;have:=h2 j _ (List.getElem?_eq_getElem hj);rw [Array.getElem?_setIfInBounds_self_of_lt (Array.getElem?_eq_some_iff.1 this).1]
 · rw [List.getElem?_set_ne e] at hy;rw [Array.getElem?_setIfInBounds_ne e];exact h2 i y hy
theorem RowAt.keep {B:Nat} (h:RowAt w g R) (hb:Below B w w') (hg:g<B):RowAt w' g R:=by
 obtain ⟨cs,h1,h2⟩:=h
 exact ⟨cs,h1.keep hb hg,h2⟩
theorem RowAt.touch {p:Nat→Prop} (h:RowAt w g R) (ht:Touch p w w') (hp:¬p g):RowAt w' g R:=by
 obtain ⟨cs,h1,h2⟩:=h
 exact ⟨cs,ht.own h1 hp,h2⟩
theorem RowAt.grown {row:Option Nat} (h:RowAt w g R) (hb:w.grownBy w' row) (hg:some g≠row):RowAt w' g R:=by
 obtain ⟨cs,h1,h2⟩:=h
 exact ⟨cs,h1.grown hb hg,h2⟩
theorem RowAt.far (h:RowAt w g R) {p:Addr} (hp:g≠p.block) (u:Value):RowAt (w.setCell p u) g R:=by
 obtain ⟨cs,h1,h2⟩:=h
 exact ⟨cs,h1.far hp u,h2⟩
theorem RowAt.of_own (h:Own w g 173 (ofI R)):RowAt w g R:=⟨_,h,fun _ _ hx=>ofI_get hx⟩
theorem RowAt.rd (h:RowAt w g R) {S:List Int} (off:Nat) (hS:∀(j:Nat) x,S[j]? = some x→R[off+j]? = some x):RdAt w g off S:=fun j x hx=>h.cell (hS j x hx)
theorem RowAt.rd0 (h:RowAt w g R):RdAt w g 0 R:=h.rd 0 (fun j x hx=>by rw [Nat.zero_add];exact hx)
end
set_option maxHeartbeats 1000000 in
theorem scaleA_c {w : World} {g W : Nat} {R : List Int} (c : Nat) (f : Int) (hW : R.length = W) (hn : W ≤ 1000) (hO : RowAt w g (R)) (hb : ∀ x ∈ R, 0 ≤ x ∧ x ≤ 10006) (hf : 0 ≤ f ∧ f ≤ 10006) :
    Calls Tryz.prog 211 #[.slice (some ⟨g,0,none⟩) W c,.int .i64 f] w fun e w'=>e=.returned (.tuple #[])∧RowAt w' g (R.map (fun x=>num (x * f)))∧Touch (fun k=>k=g) w w':=by
 have HW:=Lib.hid hW
 have HB:=Lib.hid hb
 have ho0:RowAt w g (mapTo (fun x=>num (x * f)) R 0):=by rw [show mapTo (fun x=>num (x * f)) R 0=R by simp [mapTo]];exact hO
 clear hW hb hO
 go_enter Tryz.func211,Tryz.ntmps211
 go_upto_region 1 with fail
 go_loopw [8] (fun y wr=>∃k:Nat,k≤W∧y=.int .i64 k∧Touch (fun k=>k=g) w wr∧RowAt wr g (mapTo (fun x=>num (x * f)) R k)) (fun y _=>W - (intOf y).toNat)
 case atStart=>exact ⟨0,Nat.zero_le _,rfl,Touch.refl _ _,ho0⟩
 case round=>
  clear ho0;obtain ⟨k,hk,rfl,ht,hO⟩:=hrel;have hk0:(0:Int)≤(k:Int):=(by omega);by_cases hkn:k<W
  · have hki:(k:Int)<(W:Int):=(by omega);obtain ⟨x,hx⟩:∃x,R[k]? = some x:=⟨_,List.getElem?_eq_getElem (by rw [HW.out];exact hkn)⟩;have hxb:=HB.out x (List.mem_of_getElem? hx);have hxm:=mul_b hxb.1 (by omega) hf.1 (by omega);have hc:=hO.cell (j:=k) (x:=x) (by rw [mapTo_get (Nat.le_refl _)];exact hx);have hfz:=hO.frozen k;have HX:=Lib.hid hx;clear hx;go_wp2_with (go_at_call 181;refine (times3_c x f _ hxm.1 hxm.2).mono ?_;rintro e w2 ⟨rfl,rfl⟩)
    go_roundw
    case rel=>
     refine ⟨k+1,by omega,by go_num,ht.trans (Touch.of_only ((Only.refl g _).set k _)),?_⟩;have q:=hO.set (j:=k) (x:=num (x * f)) (by rw [mapTo_len,HW.out];exact hkn);rw [mapTo_step HX.out] at q;exact q
    case measure=>simp [intOf] <;> omega
  · have he:k=W:=(by omega);subst he;go_wp2_with fail
    go_end0
    refine ⟨rfl,?_,ht⟩;rw [←HW.out,mapTo_end] at hO;exact hO
set_option maxHeartbeats 2000000 in
theorem addA_c {w : World} {g g2 W off : Nat} {R O : List Int} (c c2 : Nat) (f : Int) (hW : R.length = W) (hOl : O.length = W) (hn : W ≤ 1000) (hO : RowAt w g (R)) (hb : ∀ x ∈ R, 0 ≤ x ∧ x ≤ 10006) (hbO : ∀ x ∈ O, 0 ≤ x ∧ x ≤ 10006) (hf : 0 ≤ f ∧ f ≤ 10006)
    (hoth:∀w',Touch (fun k=>k=g) w w'→RdAt w' g2 off O) :
    Calls Tryz.prog 130 #[.slice (some ⟨g,0,none⟩) W c,.int .i64 f,.slice (some ⟨g2,off,none⟩) W c2] w fun e w'=>e=.returned (.tuple #[])∧RowAt w' g (addR R f O)∧Touch (fun k=>k=g) w w':=by
 have HW:=Lib.hid hW
 have HOL:=Lib.hid hOl
 have HB:=Lib.hid hb
 have HBO:=Lib.hid hbO
 have HT:=Lib.hid hoth
 have ho0:RowAt w g (addTo R f O 0):=by rw [show addTo R f O 0=R by simp [addTo,addR]];exact hO
 clear hb hbO hoth
 by_cases hf0:f=0
 · subst hf0;go_enter Tryz.func130,Tryz.ntmps130
   go_wp2_with fail
   (try simp only [Exit.inBlock,Exit.then])
   refine bodyPost_ret (results_none rfl _ _ _) rfl ?_;exact ⟨rfl,by rw [addR_zero HW.out HOL.out HB.out];exact hO,Touch.refl _ _⟩
 · have hfb:(f==0)=false:=(by simpa using hf0);clear hO hW hOl;go_enter Tryz.func130,Tryz.ntmps130
   go_upto_region 2 with fail
   go_loopw [12] (fun y wr=>∃k:Nat,k≤W∧y=.int .i64 k∧Touch (fun k=>k=g) w wr∧RowAt wr g (addTo R f O k)) (fun y _=>W - (intOf y).toNat)
   case atStart=>exact ⟨0,Nat.zero_le _,rfl,Touch.refl _ _,ho0⟩
   case round=>
    clear ho0;obtain ⟨k,hk,rfl,ht,hO⟩:=hrel;have hk0:(0:Int)≤(k:Int):=(by omega);by_cases hkn:k<W
    · have hki:(k:Int)<(W:Int):=(by omega);obtain ⟨a,ha⟩:∃a,R[k]? = some a:=⟨_,List.getElem?_eq_getElem (by rw [HW.out];exact hkn)⟩;obtain ⟨x,hx⟩:∃x,O[k]? = some x:=⟨_,List.getElem?_eq_getElem (by rw [HOL.out];exact hkn)⟩;have hab:=HB.out a (List.mem_of_getElem? ha);have hxb:=HBO.out x (List.mem_of_getElem? hx);have hxm:=mul_b hxb.1 (by omega) hf.1 (by omega);have hOL2:R.length=O.length:=(by rw [HW.out,HOL.out]);have hc:=HT.out _ ht k x hx;have HA:=Lib.hid ha;have HX:=Lib.hid hx;have HNN:Hid (num (a+num (x * f))=num (a+x * f)):=Lib.hid (by unfold num;omega);clear ha hx;by_cases hx0:x=0
      · subst hx0;go_wp2_with fail
        go_roundw
        case rel=>
         rw [←addTo_skip HA.out HX.out hab] at hO;exact ⟨k+1,by omega,by go_num,ht,hO⟩
        case measure=>simp [intOf] <;> omega
      · have hxn:(x != 0)=true:=(by simpa using hx0);go_upto_region 5 with fail
        replace hO:RowAt wr.drew g (addTo R f O k):=hO;replace ht:Touch (fun k=>k=g) w wr.drew:=ht.trans (Touch.of_below ((Below.refl _ _).drew));clear hc;refine wp_region_held_drew (S:=(fun w'=>0≤w'.heap.size)) (by kernel_rfl) ?_ (fun _=>?_)
        · ((try dsimp only);(exact Nat.zero_le _))
        generalize wr.drew=W0d at *;refine hdT 0 ?_;refine hdT 1 ?_;refine hdT 2 ?_;refine hdT 3 ?_;refine hdT 4 ?_;refine hdT 6 ?_;refine hdT 7 ?_;refine wpAnyH_ready (rs:=[5,8]) (by kernel_rfl) (by simp) ?_;refine AllReadyH.cons (hdAt (i:=5) rfl) (fun K hK=>?_) (AllReadyH.cons (hdAt (i:=8) rfl) (fun K hK=>?_) AllReadyH.nil)
        · skip
          have cL:=hO.cell (j:=k) (x:=a) (addTo_get HA.out (Nat.le_refl _))
          (go_simp;try go_wp2_with fail)
          refine hK.out _ _ ?_ (fun _=>?_)
          · ((try dsimp only);(exact Nat.zero_le _))
          clear hK K
          (try simp only [Act.put,pA,pB,pC])
          refine hdC 8 (fun K hK=>?_)
          (go_simp;(go_at_call 181;refine (times3_c x f _ hxm.1 hxm.2).mono ?_;rintro e w2 ⟨rfl,rfl⟩);go_wp2_with fail)
          refine hK.out _ _ ?_ (fun _=>?_)
          · ((try dsimp only);(exact Nat.zero_le _))
          clear hK K
          (try simp only [Act.put,pA,pB,pC])
          refine hdC 9 (fun K hK=>?_)
          (go_simp;(go_at_call 180;refine (plus3_c a (num (x * f)) _ hab ⟨num_lo _,by have:=num_hi (x * f);omega⟩).mono ?_;rintro e w2 ⟨rfl,rfl⟩);go_wp2_with fail)
          refine hK.out _ _ ?_ (fun _=>?_)
          · ((try dsimp only);(exact Nat.zero_le _))
          clear hK K
          (try simp only [Act.put,pA,pB,pC])
          refine hdT 10 ?_;refine hdC 11 (fun K hK=>?_);obtain ⟨ov,hcS⟩:=hO.has (j:=k) (by rw [addTo_len HW.out HOL.out];exact hkn);have hfS:=hO.frozen k
          (go_simp;go_wp2_with fail)
          clear hcS hfS;replace ht:=ht.trans (Touch.of_only ((Only.refl g W0d).set k (.int .i64 (num (a+num (x * f))))));replace hO:=hO.set (j:=k) (x:=num (a+num (x * f))) (by rw [addTo_len HW.out HOL.out];exact hkn);generalize W0d.setCell ⟨g,k,none⟩ (.int .i64 (num (a+num (x * f))))=W1 at *;refine hK.out _ _ ?_ (fun _=>?_)
          · ((try dsimp only);(exact Nat.zero_le _))
          clear hK K
          (try simp only [Act.put,pA,pB,pC])
          refine wpAnyH_done (by kernel_rfl) ?_ _;go_wp2_with fail
          go_roundw
          case rel=>
           rw [HNN.out,addTo_step HA.out HX.out] at hO;exact ⟨k+1,by omega,by go_num,ht,hO⟩
          case measure=>simp [intOf] <;> omega
        · skip
          (go_simp;(go_at_call 181;refine (times3_c x f _ hxm.1 hxm.2).mono ?_;rintro e w2 ⟨rfl,rfl⟩);go_wp2_with fail)
          refine hK.out _ _ ?_ (fun _=>?_)
          · ((try dsimp only);(exact Nat.zero_le _))
          clear hK K
          (try simp only [Act.put,pA,pB,pC])
          refine hdC 5 (fun K hK=>?_);have cL:=hO.cell (j:=k) (x:=a) (addTo_get HA.out (Nat.le_refl _))
          (go_simp;try go_wp2_with fail)
          refine hK.out _ _ ?_ (fun _=>?_)
          · ((try dsimp only);(exact Nat.zero_le _))
          clear hK K
          (try simp only [Act.put,pA,pB,pC])
          refine hdC 9 (fun K hK=>?_)
          (go_simp;(go_at_call 180;refine (plus3_c a (num (x * f)) _ hab ⟨num_lo _,by have:=num_hi (x * f);omega⟩).mono ?_;rintro e w2 ⟨rfl,rfl⟩);go_wp2_with fail)
          refine hK.out _ _ ?_ (fun _=>?_)
          · ((try dsimp only);(exact Nat.zero_le _))
          clear hK K
          (try simp only [Act.put,pA,pB,pC])
          refine hdT 10 ?_;refine hdC 11 (fun K hK=>?_);obtain ⟨ov,hcS⟩:=hO.has (j:=k) (by rw [addTo_len HW.out HOL.out];exact hkn);have hfS:=hO.frozen k
          (go_simp;go_wp2_with fail)
          clear hcS hfS;replace ht:=ht.trans (Touch.of_only ((Only.refl g W0d).set k (.int .i64 (num (a+num (x * f))))));replace hO:=hO.set (j:=k) (x:=num (a+num (x * f))) (by rw [addTo_len HW.out HOL.out];exact hkn);generalize W0d.setCell ⟨g,k,none⟩ (.int .i64 (num (a+num (x * f))))=W2 at *;refine hK.out _ _ ?_ (fun _=>?_)
          · ((try dsimp only);(exact Nat.zero_le _))
          clear hK K
          (try simp only [Act.put,pA,pB,pC])
          refine wpAnyH_done (by kernel_rfl) ?_ _;go_wp2_with fail
          go_roundw
          case rel=>
           rw [HNN.out,addTo_step HA.out HX.out] at hO;exact ⟨k+1,by omega,by go_num,ht,hO⟩
          case measure=>simp [intOf] <;> omega
    · have he:k=W:=(by omega);subst he;go_wp2_with fail
      go_end0
      refine ⟨rfl,?_,ht⟩;rw [addTo_end HW.out HOL.out] at hO;exact hO
def putAt (Fl:List Int) (W i:Nat) (r:List Int):List Int:=Fl.take (i * W)++r++Fl.drop (i * W+W)
structure Mat (Fl:List Int) (W n:Nat) (o:List Nat):Prop where
 len:Fl.length=n * W
 ol:o.length=n
 nd:o.Nodup
 lt:∀i∈o,i<n
 bd:∀x∈Fl,0≤x∧x≤10006
theorem mul_fit {n W i:Nat} (h:i<n):i * W+W≤n * W:=by
 have:(i+1) * W≤n * W:=Nat.mul_le_mul_right W h
 rw [Nat.add_mul,Nat.one_mul] at this
 exact this
section
variable {Fl:List Int} {W n:Nat} {o:List Nat}
theorem take_lenW (hl:Fl.length=n * W) {i:Nat} (h:i<n):(Fl.take (i * W)).length=i * W:=by
 have:=mul_fit (W:=W) h
 rw [List.length_take];omega
theorem putAt_len (hl:Fl.length=n * W) {i:Nat} (h:i<n) {r:List Int} (hr:r.length=W):(putAt Fl W i r).length=n * W:=by
 have:=mul_fit (W:=W) h
 rw [putAt,List.length_append,List.length_append,List.length_drop,take_lenW hl h]
 omega
theorem apart_rows {W i j:Nat} (h:¬i=j) {c:Nat} (hc:c<W):j * W+c<i * W∨i * W+W≤j * W+c:=by
 rcases Nat.lt_or_gt_of_ne h with hl | hg
 · have:=mul_fit (W:=W) hl;omega
 · have:=mul_fit (W:=W) hg;omega
theorem Mat.put (h:Mat Fl W n o) {i:Nat} (hi:i<n) {r:List Int} (hr:RowOk W r):Mat (putAt Fl W i r) W n o:=
 ⟨putAt_len h.len hi hr.len,h.ol,h.nd,h.lt,fun x hx=>by
  rw [putAt,List.mem_append,List.mem_append] at hx
  rcases hx with (hx | hx) | hx
  · exact h.bd x (List.mem_of_mem_take hx)
  · exact hr.bd x hx
  · exact h.bd x (List.mem_of_mem_drop hx)⟩
end
theorem addR_clr {R O:List Int} {W:Nat} (hR:R.length=W) (hO:O.length=W) (k:Int):addR R (num (-k)) O=lessR R O k:=by
 apply List.ext_getElem
 · simp [addR,lessR]
 · intro i h1 h2;simp only [addR,lessR,List.getElem_zipWith];refine toK_inj ⟨num_lo _,by have:=num_hi (R[i]'(by simp [addR] at h1;omega)+O[i]'(by simp [addR] at h1;omega) * num (-k));omega⟩ ⟨num_lo _,by have:=num_hi (R[i]'(by simp [addR] at h1;omega) - k * O[i]'(by simp [addR] at h1;omega));omega⟩ ?_;rw [toK_num,toK_num,toK_add,toK_mul,toK_num,show ∀a b:Int,a - k * b=a+(-k) * b from fun a b=>by rw [Int.neg_mul];omega,toK_add,toK_mul]
   grind
theorem scale_norm {R:List Int} {m c:Nat} (h:RowOk m R) (hf:fstN R=c):R.map (fun x=>num (x * invOf (R.getD c 0)))=normR R:=by
 subst hf
 apply List.ext_getElem
 · rw [(normR_ok h).len,List.length_map,h.len]
 · intro i h1 h2;rw [List.getElem_map];refine toK_inj ⟨num_lo _,by have:=num_hi (R[i]'(by simpa using h1) * invOf (R.getD (fstN R) 0));omega⟩ ((normR_ok h).bd _ (List.getElem_mem h2)) ?_;have e:=congrFun (normR_vec h) i;rw [vec,List.getD_eq_getElem?_getD,List.getElem?_eq_getElem h2] at e;rw [toK_num,toK_mul];simp only [Option.getD_some] at e;rw [e]
   have e3:vec R i=toK (R[i]'(by simpa using h1)):=by
    rw [vec,List.getD_eq_getElem?_getD,List.getElem?_eq_getElem (by simpa using h1)];rfl
   rw [e3]
   grind
theorem pw_bdE:∀(f:Nat) (out sq kk:Int),0≤out∧out≤10006→0≤pw f out sq kk∧pw f out sq kk≤10006
 | 0,out,sq,kk,h=>by rw [pw];exact h
 | f + 1, out, sq, kk, h => by
   rw [pw];split
   · refine pw_bdE f _ _ _ ?_;split
     · exact ⟨num_lo _,by have:=num_hi (out * sq);omega⟩
     · exact h
   · exact h
theorem invOf_bdE (x:Int):0≤invOf x∧invOf x≤10006:=by
 rw [invOf]
 split
 · exact pw_bdE _ _ _ _ (by omega)
 · omega
end Go.Proofs.YtifcfoijcodjbaaGreat
