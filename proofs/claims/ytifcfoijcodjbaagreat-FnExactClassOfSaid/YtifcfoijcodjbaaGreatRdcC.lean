
import Derived.Test.YtifcfoijcodjbaaGreatSplD
import Derived.Test.YtifcfoijcodjbaaGreatCode3
import Derived.Test.YtifcfoijcodjbaaGreatResult
import Derived.Test.YtifcfoijcodjbaaGreatDiffT
import Derived.Test.YtifcfoijcodjbaaGreatTabOf
namespace Go.Proofs.YtifcfoijcodjbaaGreat
set_option maxRecDepth 100000
open Go.RowKit Go.Deep
set_option maxHeartbeats 4000000 in
theorem matrixOfN_c {w : World} {da : Option Addr} {dn dc : Nat} {a : Option Addr} {k c : Nat} {x : Int} {W : Nat} (hx : IntKind.i64.wrap (x + 1) = x + 1) (hW : W ≤ 120)
    (hc1:∀w',Below w.heap.size w w'→Calls Tryz.prog 61 #[.agg #[.slice da dn dc,.slice a k c],.int .i64 x] w' fun e w''=>∃ra rc,e=.returned (.slice ra 0 rc)∧Below w'.heap.size w' w'')
    (hc2:∀w',Below w.heap.size w w'→Calls Tryz.prog 61 #[.agg #[.slice da dn dc,.slice a k c],.int .i64 (x+1)] w' fun e w''=>∃ra rc,e=.returned (.slice ra W rc)∧Below w'.heap.size w' w'') :
    Calls Tryz.prog 172 #[.agg #[.slice da dn dc,.slice a k c],.int .i64 x] w fun e w'=>∃g,e=.returned (.slice (some ⟨g+1,0,none⟩) 0 0)∧w.heap.size≤g∧Own w' g 173 (ofI [])∧Own w' (g+1) 82 (rows3 g W 0 0).toArray∧Below w.heap.size w w':=by
 have HC1:=Lib.hid hc1
 have HC2:=Lib.hid hc2
 have hO:=Own.new w 35 #[.slice da dn dc,.slice a k c]
 have hb:=bA1 w (.cells #[.slice da dn dc,.slice a k c] 35)
 clear hc1 hc2
 go_enter Tryz.func172,Tryz.ntmps172
 go_upto_region 1 with fail
 generalize w.alloc (.cells #[.slice da dn dc,.slice a k c] 35)=w0 at *
 go_cut [5,6] (fun p q wr=>∃ua uc va vc,p=.slice ua 0 uc∧q=.slice va W vc∧Own wr w.heap.size 35 #[.slice da dn dc,.slice a k c]∧Below w.heap.size w wr)
 case first=>
  have hO':Own w0.drew w.heap.size 35 #[.slice da dn dc,.slice a k c]:=hO;have hbb:Below w.heap.size w w0.drew:=hb.drew
  go_region_held3 (fun w'=>w'.cell? ⟨w.heap.size,0,none⟩=some (.slice da dn dc)∧w'.cell? ⟨w.heap.size,1,none⟩=some (.slice a k c)) (exact ⟨hO'.cell 0,hO'.cell 1⟩)
   (first
    | (go_at_call 61;(with_reducible refine (HC1.out _ hbb).mono ?_);rintro e w2 ⟨ua,uc,rfl,hb2⟩;have hO':=hO'.keep hb2 hO'.lt;have hbb:=bT' hbb hb2 hbb.size)
    | (go_at_call 61;(with_reducible refine (HC2.out _ hbb).mono ?_);rintro e w3 ⟨va,vc,rfl,hb3⟩;have hO':=hO'.keep hb3 hO'.lt;have hbb:=bT' hbb hb3 hbb.size))
  all_goals go_wp2_with fail
  all_goals go_meet
  all_goals exact ⟨_,_,_,_,rfl,rfl,hO',hbb⟩
 case rest=>
  obtain ⟨ua,uc,va,vc,rfl,rfl,hO1,hb1⟩:=hcut;have hgA:=hb1.size;clear hb hO;clear w0;go_wp2_with fail
  refine (newRows_c (N:=0) (W:=W) (by omega) (by omega)).mono ?_;rintro e w4 ⟨rfl,hg,hr,hb4⟩;have hb5:=bT' hb1 hb4 hgA;go_upto_region 4 with fail
  go_loopw [26] (fun y wr=>y=.int .i64 0∧wr=w4) (fun y _=>0)
  case atStart=>exact ⟨rfl,rfl⟩
  case round=>
   obtain ⟨rfl,rfl⟩:=hrel;go_wp2_with fail
   go_ret
   exact ⟨_,rfl,hgA,by rw [Nat.zero_mul] at hg;exact hg,hr,hb5⟩
theorem splitByDN_c {w : World} {da : Option Addr} {dn : Nat} {zs : List Int} {a : Option Addr} {k : Nat} {x : Int} (dc c : Nat) (hx : x = -1) (hd : Ints w da dn zs) (hdn : dn ≤ 1048576) (hz : degsOk zs = true) (hc : cnt zs 0 ≤ 120) :
    Calls Tryz.prog 118 #[.agg #[.slice da dn dc,.slice a k c],.int .i64 x] w fun e w'=>∃v,e=.returned v∧SplitV w' w.heap.size v (cnt zs 0) 0 []∧Below w.heap.size w w':=by
 have hwx:IntKind.i64.wrap (x+1)=x+1:=IntWalk.i64_in _ (by omega)
 have h1:∀w',Below w.heap.size w w'→Calls Tryz.prog 61 #[.agg #[.slice da dn dc,.slice a k c],.int .i64 x] w' fun e w''=>∃ra rc,e=.returned (.slice ra 0 rc)∧Below w'.heap.size w' w'':=fun w' hb=>by
  refine (columnsOf_c dc c (hd.keep hb) hdn).mono ?_;rintro e w'' ⟨ra,rn,rc,rfl,hM,hb2⟩;have e0:moV zs x=[]:=(mo_err (mo_2 hz (by omega)) (by omega)).2;rw [e0] at hM;obtain rfl:0=rn:=hM.1;exact ⟨ra,rc,rfl,hb2⟩
 have h2:∀w',Below w.heap.size w w'→Calls Tryz.prog 61 #[.agg #[.slice da dn dc,.slice a k c],.int .i64 (x+1)] w' fun e w''=>∃ra rc,e=.returned (.slice ra (cnt zs 0) rc)∧Below w'.heap.size w' w'':=fun w' hb=>by
  refine (columnsOf_c dc c (hd.keep hb) hdn).mono ?_;rintro e w'' ⟨ra,rn,rc,rfl,hM,hb2⟩;have e1:moV zs (x+1)=side zs 0:=(by rw [show x+1=((0:Nat):Int) by omega];exact moV_side hz (by omega) (by omega));rw [e1] at hM;obtain rfl:cnt zs 0=rn:=(by rw [←hM.1,side_len]);exact ⟨ra,rc,rfl,hb2⟩
 exact splitByD_g (M:=[]) (Fl:=[]) hwx (fun w' hb=>matrixOfN_c hwx hc (fun w'' hb2=>h1 w'' (bT' hb hb2 hb.size)) (fun w'' hb2=>h2 w'' (bT' hb hb2 hb.size))) h2 rfl (by simp) (by simp) (by omega) hc
def lgR (zs:List Int) (ims:List (List Tm)) (n:Nat):List (List Int):=if n=0 then [] else redR (longR (mrR zs ims (n - 1)))
def nbR (zs:List Int) (n:Nat):Nat:=if n=0 then 0 else cnt zs (n - 1)
def bdR (zs:List Int) (ims:List (List Tm)) (n:Nat):List (List Int):=if n=0 then [] else redR (mrR zs ims (n - 1))
def clR (zs:List Int) (ims:List (List Tm)) (n:Nat):List (List Int):=cloR (cnt zs (n+1)) (redR (longR (mrR zs ims n)))
theorem mrR_len (zs:List Int) (ims:List (List Tm)) (n:Nat):(mrR zs ims n).length=cnt zs n:=by rw [mrR,List.length_map,side_len]
section
variable {zs:List Int} {ims:List (List Tm)}
theorem mrR_low (HA:AlgOk zs ims) (hz:degsOk zs=true) {n:Nat} (hn:¬n=0):∀r∈mrR zs ims (n - 1),RowOk (cnt zs n) r:=fun r hr=>by
 have:=row_ok HA hz (n - 1) r hr
 rwa [show n - 1+1=n by omega] at this
theorem bndR_lg (HA:AlgOk zs ims) (hz:degsOk zs=true) (n:Nat):bndR (cnt zs n) (lgR zs ims n)=bdR zs ims n:=by
 rw [lgR,bdR]
 split
 · rfl
 · rename_i h;exact bndR_eq (mrR_low HA hz h)
theorem bdR_red (HA:AlgOk zs ims) (hz:degsOk zs=true) (n:Nat):RedI (cnt zs n) (bdR zs ims n):=by
 rw [bdR]
 split
 · exact RedI.nil _
 · rename_i h;exact (redR_redI (mrR_low HA hz h)).1
theorem lg_red (HA:AlgOk zs ims) (hz:degsOk zs=true) (n:Nat):RedI (cnt zs (n+1)+cnt zs n) (redR (longR (mrR zs ims n))):=by
 have:=(redR_redI (longR_ok (row_ok HA hz n))).1
 rwa [show ((side zs n).map (dRow zs ims (side zs (n+1)))).length=cnt zs n from mrR_len zs ims n] at this
theorem clR_red (HA:AlgOk zs ims) (hz:degsOk zs=true) (n:Nat):RedI (cnt zs n) (clR zs ims n):=cloR_red (lg_red HA hz n)
theorem redR_le (V:List (List Int)):(redR V).length≤V.length:=by
 have:=redR_len (V:=V) (L:=[])
 rw [List.length_nil] at this
 rw [redR]
 omega
theorem cloR_len (W:Nat) (L:List (List Int)):(cloR W L).length≤L.length:=by rw [cloR,List.length_map];exact List.length_filter_le _ _
theorem clR_len (zs:List Int) (ims:List (List Tm)) (n:Nat):(clR zs ims n).length≤cnt zs n:=by
 have h1:=cloR_len (cnt zs (n+1)) (redR (longR (mrR zs ims n)))
 have h2:=redR_le (longR (mrR zs ims n))
 rw [longR_len,mrR_len] at h2
 rw [clR]
 omega
theorem bdR_len (zs:List Int) (ims:List (List Tm)) (n:Nat):(bdR zs ims n).length≤nbR zs n:=by
 rw [bdR,nbR]
 split
 · simp
 · have h2:=redR_le (mrR zs ims (n - 1))
   rwa [mrR_len] at h2
end
theorem byR_app:∀{L M:List (List Int)} {r:List Int},byR r (L++M)=byR (byR r L) M
 | [],_,_=>rfl
 | s :: L, M, r => by
   rw [List.cons_append,byR,byR];exact byR_app
theorem byR_snoc {L:List (List Int)} {r s:List Int}:byR r (L++[s])=if (byR r L).getD (fstN s) 0=0 then byR r L else lessR (byR r L) s ((byR r L).getD (fstN s) 0):=by
 rw [byR_app,byR,byR]
theorem byR_step {W:Nat} {L:List (List Int)} {r s:List Int} (hr:RowOk W (byR r L)) (hs:RowOk W s):byR r (L++[s])=addR (byR r L) (num (-((byR r L).getD (fstN s) 0))) s:=by
 rw [byR_snoc]
 split
 · rename_i h;rw [h,show num (-0)=0 from rfl,addR_zero hr.len hs.len hr.bd]
 · rw [addR_clr hr.len hs.len]
def facR (r:List Int) (R:List (List Int)):List Int:=R.map (fun s=>r.getD (fstN s) 0)
theorem facR_len (r:List Int) (R:List (List Int)):(facR r R).length=R.length:=List.length_map ..
theorem byR_fac {W:Nat} {R:List (List Int)} {r s:List Int} {k:Nat} (hR:RedI W R) (hr:RowOk W r) (hk:R[k]? = some s):(byR r (R.take k)).getD (fstN s) 0=r.getD (fstN s) 0:=by
 refine byR_keep (m:=W) hr (fun t ht=>hR.ok t (List.mem_of_mem_take ht)) (fun t ht=>?_)
 have hs:=List.mem_of_getElem? hk
 refine hR.off (List.mem_of_mem_take ht) hs (fun e=>?_)
 obtain ⟨j,hjt⟩:=List.mem_iff_getElem?.1 ht
 have hj:=(List.getElem?_eq_some_iff.1 hjt).1
 have hjk:j<k:=by rw [List.length_take] at hj;omega
 rw [List.getElem?_take,if_pos hjk] at hjt
 have hp:=List.pairwise_iff_getElem.1 hR.sorted j k (by rw [List.length_map];exact (List.getElem?_eq_some_iff.1 hjt).1) (by rw [List.length_map];exact (List.getElem?_eq_some_iff.1 hk).1) hjk
 rw [List.getElem_map,List.getElem_map,(List.getElem?_eq_some_iff.1 hjt).2,(List.getElem?_eq_some_iff.1 hk).2] at hp
 omega
def cbR (zs:List Int) (ims:List (List Tm)) (n:Nat):List (List Int):=(clR zs ims n).map (fun r=>byR r (bdR zs ims n))
def csR (zs:List Int) (ims:List (List Tm)) (n:Nat):List (List Int):=redR (cbR zs ims n)
section
variable {zs:List Int} {ims:List (List Tm)}
theorem cbR_ok (HA:AlgOk zs ims) (hz:degsOk zs=true) (n:Nat):∀r∈cbR zs ims n,RowOk (cnt zs n) r:=fun r hr=>by
 obtain ⟨s,hs,rfl⟩:=List.mem_map.1 hr
 exact byR_ok ((clR_red HA hz n).ok s hs) (bdR_red HA hz n).ok
theorem cbR_len (zs:List Int) (ims:List (List Tm)) (n:Nat):(cbR zs ims n).length=(clR zs ims n).length:=List.length_map ..
theorem csR_red (HA:AlgOk zs ims) (hz:degsOk zs=true) (n:Nat):RedI (cnt zs n) (csR zs ims n):=(redR_redI (cbR_ok HA hz n)).1
theorem csR_len (zs:List Int) (ims:List (List Tm)) (n:Nat):(csR zs ims n).length≤cnt zs n:=by
 have h1:=redR_le (cbR zs ims n)
 have h2:=clR_len zs ims n
 rw [cbR_len] at h1
 rw [csR]
 omega
end
def hoC (cl:Bool) (zs:List Int) (ims:List (List Tm)) (ts:List Tm):Int:=
 if (isAlg zs ims && isForm zs ts)=false then 1 else if (allW zs ts && (!cl || closedB zs ims ts))=false then 5 else if 20<headW zs ts then 2 else if many zs (low1 (headW zs ts)) ((headW zs ts+1).toNat - low1 (headW zs ts))=true then 3 else 0
def hoN (cl:Bool) (zs:List Int) (ims:List (List Tm)) (ts:List Tm):Int:=if hoC cl zs ims ts=0 then headW zs ts else 0
section
variable {cl:Bool} {zs:List Int} {ims:List (List Tm)} {ts:List Tm}
theorem hoC_1 (h:(isAlg zs ims && isForm zs ts)=false):hoC cl zs ims ts=1:=by rw [hoC,if_pos h]
theorem hoC_5 (h:(isAlg zs ims && isForm zs ts)=true) (h2:(allW zs ts && (!cl || closedB zs ims ts))=false):hoC cl zs ims ts=5:=by rw [hoC,if_neg (by simp [h]),if_pos h2]
theorem hoC_2 (h:(isAlg zs ims && isForm zs ts)=true) (h2:(allW zs ts && (!cl || closedB zs ims ts))=true) (h3:20<headW zs ts):hoC cl zs ims ts=2:=by rw [hoC,if_neg (by simp [h]),if_neg (by simp [h2]),if_pos h3]
theorem hoC_3 (h:(isAlg zs ims && isForm zs ts)=true) (h2:(allW zs ts && (!cl || closedB zs ims ts))=true) (h3:¬20<headW zs ts) (h4:many zs (low1 (headW zs ts)) ((headW zs ts+1).toNat - low1 (headW zs ts))=true):hoC cl zs ims ts=3:=by rw [hoC,if_neg (by simp [h]),if_neg (by simp [h2]),if_neg h3,if_pos h4]
theorem hoC_0 (h:(isAlg zs ims && isForm zs ts)=true) (h2:(allW zs ts && (!cl || closedB zs ims ts))=true) (h3:¬20<headW zs ts) (h4:many zs (low1 (headW zs ts)) ((headW zs ts+1).toNat - low1 (headW zs ts))=false):hoC cl zs ims ts=0:=by rw [hoC,if_neg (by simp [h]),if_neg (by simp [h2]),if_neg h3,if_neg (by simp [h4])]
theorem hoN_no (h:¬hoC cl zs ims ts=0):hoN cl zs ims ts=0:=by rw [hoN,if_neg h]
theorem hoN_yes (h:hoC cl zs ims ts=0):hoN cl zs ims ts=headW zs ts:=by rw [hoN,if_pos h]
theorem wtTo_nn {m:List Int} (hz:∀z∈zs,1≤z) (hm:IsMono m):∀k,0≤wtTo zs m k
 | 0=>by rw [wtTo];omega
 | k + 1 => by
   have ih:=wtTo_nn hz hm k;have h2:=getD_mono hm k
   have h3:0≤zs.getD k 0:=by
    by_cases hk:k<zs.length
    · have:=hz zs[k] (List.getElem_mem hk);simp [List.getD,hk]
      omega
    · simp [List.getD,List.getElem?_eq_none (Nat.le_of_not_lt hk)]
   have:=Int.mul_nonneg h3 h2.1;rw [wtTo];omega
theorem degs_pos (hz:degsOk zs=true):∀z∈zs,1≤z:=by
 intro z h
 obtain ⟨i,hi,rfl⟩:=List.mem_iff_getElem.1 h
 exact (degs_at hz (List.getElem?_eq_getElem hi)).1
theorem wt_nn {m:List Int} (hz:degsOk zs=true) (hm:IsMono m):0≤wt zs m:=wtTo_nn (degs_pos hz) hm _
theorem headW_lo (hz:degsOk zs=true) (hT:∀t∈ts,IsTm t):-1≤headW zs ts:=by
 rw [headW]
 split
 · rename_i t h;have:=wt_nn hz (hT t (List.mem_of_getElem? h)).1;omega
 · omega
end
set_option maxHeartbeats 4000000 in
theorem askedDegreeOf_c {w : World} {da : Option Addr} {dn : Nat} {zs : List Int} {a : Option Addr} {n : Nat} {ims : List (List Tm)} {a2 : Option Addr} {n2 : Nat} {fs : List Tm} (dc c c2 : Nat) (hd : Ints w da dn zs) (hdn : dn ≤ 1048576) (hF : Frms w a n ims) (hn : n ≤ 1048576) (hL : ∀ im ∈ ims, (im.length : Int) ≤ 1048576) (h : Terms w a2 n2 fs) (hn2 : n2 ≤ 1048576) :
    Calls Tryz.prog 58 #[.agg #[.slice da dn dc,.slice a n c],.agg #[.slice a2 n2 c2]] w fun e w'=>e=.returned (.tuple #[.int .i64 (hoN false zs ims fs),.int .i64 (hoC false zs ims fs)])∧Below w.heap.size w w':=by
 have HLL:=Lib.hid hL
 have HD:=Lib.hid hd
 have HF:=Lib.hid hF
 have HH:=Lib.hid h
 have HTM:=Lib.hid h.2.1
 clear hL
 have hA:=(Own.new w 35 #[.slice da dn dc,.slice a n c]).alloc (.cells #[.slice a2 n2 c2] 39)
 have hG:=Own.new (w.alloc (.cells #[.slice da dn dc,.slice a n c] 35)) 39 #[.slice a2 n2 c2]
 rw [sAl] at hG
 have hb:=bTn (bA1 w (.cells #[.slice da dn dc,.slice a n c] 35)) (bA1 _ (.cells #[.slice a2 n2 c2] 39))
 have c0:=hA.cell 0
 have c1:=hA.cell 1
 have cg:=hG.cell 0
 clear hd hF h
 go_enter Tryz.func58,Tryz.ntmps58
 go_upto_region 1 with fail
 generalize (w.alloc (.cells #[.slice da dn dc,.slice a n c] 35)).alloc (.cells #[.slice a2 n2 c2] 39)=w0 at *
 go_wp2_with fail
 refine (DegreeOfForm_c dc c2 (HD.out.keep hb) hdn (HH.out.keep hb) hn2).mono ?_
 rintro e w1 ⟨rfl,hb1⟩
 have hA1:=hA.keep hb1 hA.lt
 have hb2:=bT' hb hb1 hb.size
 clear hA hG hb hb1 c0 c1 cg
 have c0:=hA1.cell 0
 have c1:=hA1.cell 1
 generalize hv:degF zs fs=v at *
 generalize hcd:codF zs fs=cd at *
 have HV:=Lib.hid hv
 have HCD:=Lib.hid hcd
 clear hv hcd
 go_wp2_with fail
 refine (IsAlgebra_c dc c (HD.out.keep hb2) hdn (HF.out.keep hb2) hn HLL.out).mono ?_
 rintro e w2 ⟨rfl,hb3⟩
 have hA2:=hA1.keep hb3 hA1.lt
 have hb4:=bT' hb2 hb3 hb2.size
 clear hA1 hb2 hb3 c0 c1
 have c0:=hA2.cell 0
 have c1:=hA2.cell 1
 cases hal:isAlg zs ims with
 | false =>
   have HC:=Lib.hid (hoC_1 (cl:=false) (zs:=zs) (ims:=ims) (ts:=fs) (by rw [hal];rfl));clear hal;go_wp2_with fail
   go_ret2
   exact ⟨by rw [hoN_no (by rw [HC.out];omega),HC.out];rfl,hb4⟩
 | true =>
   have HAL:=Lib.hid hal;clear hal;by_cases hc0:cd=0
   · subst hc0
     have hfa:isForm zs fs=true∧allW zs fs=true:=by
      have:=HCD.out;unfold codF at this;split at this
      · rename_i h1;split at this
        · rename_i h2;exact ⟨h1,h2⟩
        · omega
      · omega
     have hvh:headW zs fs=v:=(by have:=HV.out;rw [degF,if_pos hfa] at this;exact this);have H1:Hid ((isAlg zs ims && isForm zs fs)=true):=Lib.hid (by rw [HAL.out,hfa.1];rfl);have H2:Hid ((allW zs fs && (!false || closedB zs ims fs))=true):=Lib.hid (by rw [hfa.2];rfl);have hz:=isAlg_dg HAL.out;have hlo:=headW_lo hz HTM.out;rw [hvh] at hlo;have HVH:=Lib.hid hvh;have HLO:=Lib.hid hlo;have HZ:=Lib.hid hz;clear hfa hvh hlo hz;by_cases hv2:20<v
     · have HC:=Lib.hid (hoC_2 (cl:=false) H1.out H2.out (by rw [HVH.out];exact hv2));go_wp2_with fail
       go_ret2
       exact ⟨by rw [hoN_no (by rw [HC.out];omega),HC.out];rfl,hb4⟩
     · obtain ⟨H,hH⟩:∃H:Nat,(v+1).toNat=H:=⟨_,rfl⟩;have hw1:IntKind.i64.wrap (v+1)=(H:Int):=(by have:=HLO.out;rw [IntWalk.i64_in _ (by omega)];omega);have hw2:IntKind.i64.wrap (v - 1)=v - 1:=by have:=HLO.out;rw [IntWalk.i64_in _ (by omega)]
       have HMF:Hid (Calls Tryz.prog 84 #[.agg #[.slice da dn dc,.slice a n c],.int .i64 (v - 1),.int .i64 H] w2 fun e w'=>e=.returned (.bool (many zs (low1 v) (H - low1 v)))∧Below w2.heap.size w2 w'):=Lib.hid (by
        have h1:=HLO.out;refine hasMany_c dc c (HD.out.keep hb4) HZ.out ?_ (by unfold low1;omega) (by omega);unfold low1;by_cases h3:v - 1<0
        · exact Or.inr ⟨h3,by omega⟩
        · exact Or.inl ⟨h3,by omega⟩)
       have HHH:=Lib.hid hH;clear hH;cases hm:many zs (low1 v) (H - low1 v)
       all_goals
        have HM:=Lib.hid hm;clear hm;go_wp2_with fail
        try rw [hw2]
        refine HMF.out.mono ?_;rintro e w3 ⟨rfl,hb5⟩;rw [HM.out];have hb6:=bT' hb4 hb5 hb4.size;go_wp2_with fail
        go_ret2
       · have HC:=hoC_0 (cl:=false) H1.out H2.out (by rw [HVH.out];omega) (by rw [HVH.out,HHH.out];exact HM.out);exact ⟨by rw [hoN_yes HC,HC,HVH.out];rfl,hb6⟩
       · have HC:=hoC_3 (cl:=false) H1.out H2.out (by rw [HVH.out];omega) (by rw [HVH.out,HHH.out];exact HM.out);exact ⟨by rw [hoN_no (by rw [HC];omega),HC];rfl,hb6⟩
   · have hcb:(cd != 0)=true:=by simpa using hc0
     have HC:Hid (hoC false zs ims fs=cd):=Lib.hid (by
      have:=HCD.out;unfold codF at this;split at this
      · rename_i h1;split at this
        · omega
        · rename_i h2;rw [hoC_5 (by rw [HAL.out,h1];rfl) (by simp [h2]),this]
      · rename_i h1
        rw [hoC_1 (by rw [HAL.out];simpa using h1),this])
     go_wp2_with fail
     go_ret2
     exact ⟨by rw [hoN_no (by rw [HC.out];exact hc0),HC.out];rfl,hb4⟩
section
variable {cl:Bool} {zs:List Int} {ims:List (List Tm)} {ts:List Tm}
theorem ho_facts (h:hoC cl zs ims ts=0) (hT:∀t∈ts,IsTm t):isAlg zs ims=true∧isForm zs ts=true∧((ts=[]∧headW zs ts=-1∧cnt zs 0≤120)∨∃m:Nat,headW zs ts=m∧m≤20∧cnt zs m≤120∧cnt zs (m+1)≤120∧(¬m=0→cnt zs (m - 1)≤120)∧∀t∈ts,t.m∈side zs m):=by
 unfold hoC at h
 split at h
 · omega
 · rename_i h1;split at h
   · omega
   · rename_i h2;split at h
     · omega
     · rename_i h3;split at h
       · omega
       · rename_i h4;simp only [Bool.not_eq_false,Bool.and_eq_true] at h1 h2;have hz:=isAlg_dg h1.1;have hlo:=headW_lo hz hT
         have hg:gmx zs (low1 (headW zs ts)) ((headW zs ts+1).toNat - low1 (headW zs ts))≤120:=by
          by_cases hh:120<gmx zs (low1 (headW zs ts)) ((headW zs ts+1).toNat - low1 (headW zs ts))
          · exact absurd (by rw [many];exact decide_eq_true hh) h4
          · omega
         refine ⟨h1.1,h1.2,?_⟩
         cases hts:ts with
         | nil =>
           subst hts;have hh:headW zs []=-1:=rfl;rw [hh] at hg;have:=gmx_le.1 hg 0 (by omega);exact Or.inl ⟨rfl,hh,by unfold low1 at this;simpa using Int.ofNat_le.1 this⟩
         | cons t0 tl =>
           rw [←hts];refine Or.inr ?_;have h0:ts[0]? = some t0:=(by rw [hts];rfl);have hw0:=headW_of (zs:=zs) h0;have hn0:=wt_nn hz (hT t0 (List.mem_of_getElem? h0)).1;obtain ⟨m,hm⟩:∃m:Nat,headW zs ts=m:=⟨(headW zs ts).toNat,by omega⟩;have hq:=gmx_le.1 hg;rw [hm] at hq;have hl:low1 (m:Int)=m - 1:=(by unfold low1;omega);rw [hl,show ((m:Int)+1).toNat=m+1 by omega] at hq;have q1:=hq (m - (m - 1)) (by omega);have q2:=hq (m+1 - (m - 1)) (by omega);rw [show m - 1+(m - (m - 1))=m by omega] at q1;rw [show m - 1+(m+1 - (m - 1))=m+1 by omega] at q2;refine ⟨m,hm,by omega,Int.ofNat_le.1 q1,Int.ofNat_le.1 q2,fun hm0=>?_,fun t ht=>?_⟩
           · have q3:=hq 0 (by omega);rw [Nat.add_zero] at q3;exact Int.ofNat_le.1 q3
           · obtain ⟨i,hi,hti⟩:=List.mem_iff_getElem.1 ht;have hi2:ts[i]? = some t:=(by rw [List.getElem?_eq_getElem hi,hti]);have hall:=List.all_eq_true.1 h2.1 i (List.mem_range.2 hi);rw [sameW_of hi2] at hall;have hwt:wt zs t.m=m:=(by rw [←hm];simpa using hall);exact ext_mem (degsOk_len hz) (degs_pos hz) (hT t ht).1 (isForm_fit h1.2 t ht) hwt
end
theorem rowT_ok {V:List (List Int)} {ts:List Tm} (hs:∀t∈ts,1≤t.f∧t.f≤10006):RowOk V.length (rowT V ts):=⟨rowT_len V ts,fun x hx=>by
 obtain ⟨m,-,rfl⟩:=List.mem_map.1 hx
 exact coef_bd (fun t ht=>by have:=hs t ht;omega)⟩
def coV (zs:List Int) (ims:List (List Tm)) (ts:List Tm):List Int:=if hoC true zs ims ts=0∧0≤headW zs ts then facR (byR (rowT (side zs (headW zs ts).toNat) ts) (bdR zs ims (headW zs ts).toNat)) (csR zs ims (headW zs ts).toNat) else []
theorem coV_no {zs:List Int} {ims:List (List Tm)} {ts:List Tm} (h:¬hoC true zs ims ts=0):coV zs ims ts=[]:=by rw [coV,if_neg (fun e=>h e.1)]
theorem coV_neg {zs:List Int} {ims:List (List Tm)} {ts:List Tm} (h:headW zs ts<0):coV zs ims ts=[]:=by rw [coV,if_neg (fun e=>by omega)]
theorem coV_yes {zs:List Int} {ims:List (List Tm)} {ts:List Tm} {m:Nat} (h:hoC true zs ims ts=0) (hm:headW zs ts=m):coV zs ims ts=facR (byR (rowT (side zs m) ts) (bdR zs ims m)) (csR zs ims m):=by
 rw [coV,if_pos ⟨h,by omega⟩,hm,Int.toNat_natCast]
theorem coV_len (zs:List Int) (ims:List (List Tm)) (ts:List Tm) (hT:∀t∈ts,IsTm t):(coV zs ims ts).length≤120:=by
 by_cases h:hoC true zs ims ts=0
 · rcases (ho_facts h hT).2.2 with ⟨-,h2,-⟩ | ⟨m,h2,-,h3,-⟩
   · rw [coV_neg (by omega)];simp
   · rw [coV_yes h h2,facR_len];exact Nat.le_trans (csR_len zs ims m) h3
 · rw [coV_no h];simp
theorem hoC_tf {zs:List Int} {ims:List (List Tm)} {ts:List Tm} (h:closedB zs ims ts=true):hoC true zs ims ts=hoC false zs ims ts:=by simp [hoC,h]
def BasV (w:World) (lo hi:Nat) (e:Value) (W:Nat) (R:List (List Int)):Prop:=
 ∃a c fa fc,e=.agg #[.slice a R.length c,.slice fa R.length fc]∧∀(i:Nat) r,R[i]? = some r→∃g p off cap gf,a=some ⟨g,0,none⟩∧fa=some ⟨gf,0,none⟩∧lo≤g∧g<hi∧lo≤p∧p<hi∧lo≤gf∧gf<hi∧w.cell? ⟨g,i,none⟩=some (.slice (some ⟨p,off,none⟩) W cap)∧RdAt w p off r∧w.cell? ⟨gf,i,none⟩=some (.int .i64 (fstN r:Nat))
section
variable {w w':World} {lo hi W:Nat} {e:Value} {R:List (List Int)}
theorem BasV.touch {q:Nat→Prop} (h:BasV w lo hi e W R) (ht:Touch q w w') (hq:∀k,lo≤k→k<hi→¬q k) (hh:hi≤w.heap.size):BasV w' lo hi e W R:=by
 obtain ⟨a,c,fa,fc,rfl,h1⟩:=h
 refine ⟨a,c,fa,fc,rfl,fun i r hr=>?_⟩
 obtain ⟨g,p,off,cap,gf,e1,e2,g1,g2,p1,p2,f1,f2,c1,c2,c3⟩:=h1 i r hr
 exact ⟨g,p,off,cap,gf,e1,e2,g1,g2,p1,p2,f1,f2,(World.cell?_of_block (a:=⟨g,i,none⟩) (ht.other g (by omega) (hq g g1 g2))).trans c1,c2.block (ht.other p (by omega) (hq p p1 p2)),(World.cell?_of_block (a:=⟨gf,i,none⟩) (ht.other gf (by omega) (hq gf f1 f2))).trans c3⟩
theorem BasV.keep (h:BasV w lo hi e W R) (hb:Below w.heap.size w w') (hh:hi≤w.heap.size):BasV w' lo hi e W R:=
 h.touch (Touch.of_below (p:=fun _=>False) hb) (fun _ _ _ h=>h) hh
theorem BasV.weaken {lo' hi':Nat} (h:BasV w lo hi e W R) (h1:lo'≤lo) (h2:hi≤hi'):BasV w lo' hi' e W R:=by
 obtain ⟨a,c,fa,fc,rfl,h3⟩:=h
 refine ⟨a,c,fa,fc,rfl,fun i r hr=>?_⟩
 obtain ⟨g,p,off,cap,gf,e1,e2,g1,g2,p1,p2,f1,f2,c1,c2,c3⟩:=h3 i r hr
 exact ⟨g,p,off,cap,gf,e1,e2,by omega,by omega,by omega,by omega,by omega,by omega,c1,c2,c3⟩
theorem BasV.nil (w:World) (lo hi W:Nat):BasV w lo hi (.agg #[.slice none 0 0,.slice none 0 0]) W []:=⟨none,0,none,0,rfl,by simp⟩
theorem BasV.of {vb vf:Value} (h:RwsV w lo vb W R) (hf:∃B n,lo≤B∧w.ownsRow B 3 1 vf n (R.map (fun r=>Value.int .i64 (fstN r:Nat)))):BasV w lo w.heap.size (.agg #[vb,vf]) W R:=by
 obtain ⟨a,c,rfl,h1⟩:=h
 obtain ⟨B,n,hB,h2⟩:=hf
 have hn:n=R.length:=by have:=h2.1;rw [List.length_map] at this;omega
 subst hn
 obtain ⟨fa,fc,rfl⟩:=row_slice h2
 refine ⟨a,c,fa,fc,rfl,fun i r hr=>?_⟩
 obtain ⟨g,p,off,cap,e1,e2,e3,e4,e5,e6,e7⟩:=h1 i r hr
 obtain ⟨gf,f1,f2,f3⟩:=row_cellA (i:=i) h2 (by rw [List.getElem?_map,hr];rfl)
 have f4:=(h2.lt gf (by rw [f1];rfl)).1
 exact ⟨g,p,off,cap,gf,e1,f1,e2,e3,e5,e6,by omega,f2,e4,e7,f3⟩
theorem SplitV.two {N:Nat} {L:List (List Int)} (h:SplitV w lo e W N L):∃vc vcf vb vbf vp,e=.agg #[vc,vcf,vb,vbf,vp]∧BasV w lo w.heap.size (.agg #[vc,vcf]) N (cloR W L)∧BasV w lo w.heap.size (.agg #[vb,vbf]) W (bndR W L)∧RwsV w lo vp N (priR W L):=by
 obtain ⟨vc,vcf,vb,vbf,vp,rfl,h1,h2,h3,h4,h5⟩:=h
 exact ⟨vc,vcf,vb,vbf,vp,rfl,BasV.of h1 h5,BasV.of h2 h4,h3⟩
end
set_option maxHeartbeats 4000000 in
theorem reduce_c {w : World} {lo hi W p : Nat} {e : Value} {R : List (List Int)} {r : List Int} (rc : Nat) (hB : BasV w lo hi e W R) (hh : hi ≤ w.heap.size) (hR : RedI W R) (hr : RowOk W r) (hp : RowAt w p r) (hpn : ¬ (lo ≤ p ∧ p < hi)) (hW : W ≤ 1000) (hRn : R.length ≤ 1000) :
    Calls Tryz.prog 120 #[e,.slice (some ⟨p,0,none⟩) W rc] w fun e w'=>∃g,e=.returned (.slice (some ⟨g,0,none⟩) R.length R.length)∧w.heap.size≤g∧Own w' g 173 (ofI (facR r R))∧RowAt w' p (byR r R)∧Touch (fun k=>k=p) w w':=by
 obtain ⟨a,c,fa,fc,rfl,hE⟩:=hB
 have HE:=Lib.hid hE
 have HRR:=Lib.hid hR
 have HRO:=Lib.hid hr
 have HH:=Lib.hid hh
 have HPN:=Lib.hid hpn
 have hpl:=hp.lt
 obtain ⟨N,hN⟩:∃N,R.length=N:=⟨_,rfl⟩
 rw [hN] at hRn ⊢
 have HN:=Lib.hid hN
 have hbx:=Own.new w 86 #[.slice a N c,.slice fa N fc]
 have hb1:=bA1 w (.cells #[.slice a N c,.slice fa N fc] 86)
 have hmk1:=make_num3 N (by omega) (w.alloc (.cells #[.slice a N c,.slice fa N fc] 86))
 rw [sAl] at hmk1
 have hF:=Own.new (w.alloc (.cells #[.slice a N c,.slice fa N fc] 86)) 173 (Array.replicate N (Value.int .i64 0))
 rw [sAl] at hF
 have hba:=bA1 (w.alloc (.cells #[.slice a N c,.slice fa N fc] 86)) (.cells (Array.replicate N (Value.int .i64 0)) 173)
 have hb3:=bT' hb1 hba hb1.size
 have hbx2:=hbx.keep hba hbx.lt
 have hp2:=hp.keep hb3 hpl
 have ht0:Touch (fun k=>k=p) w ((w.alloc (.cells #[.slice a N c,.slice fa N fc] 86)).alloc (.cells (Array.replicate N (Value.int .i64 0)) 173)):=Touch.of_below hb3
 have cx:=hbx.cell 0
 clear hE hR hr hh hpn hN hba hb1 hb3 hp
 go_enter Tryz.func120,Tryz.ntmps120
 go_upto_region 2 with fail
 clear hmk1 cx hbx
 generalize (w.alloc (.cells #[.slice a N c,.slice fa N fc] 86)).alloc (.cells (Array.replicate N (Value.int .i64 0)) 173)=w2 at *
 obtain ⟨gF,hgF⟩:∃gF,w.heap.size+1=gF:=⟨_,rfl⟩
 rw [hgF] at hF
 have hl1:w.heap.size<gF:=by omega
 try rw [hgF]
 clear hgF
 have hF0:Own w2 gF 173 (ofI (copyTo (facR r R) 0)):=by
  rw [copyTo,List.take_zero,Nat.sub_zero,facR_len,HN.out,List.nil_append,←ofI_rep];exact hF
 have hR0:RowAt w2 p (byR r (R.take 0)):=by rw [List.take_zero];exact hp2
 have cx:=hbx2.cell 0
 clear hF hp2
 go_upto_region 3 with fail
 clear cx
 go_loopw [15] (fun y wr=>∃k:Nat,k≤N∧y=.int .i64 k∧Touch (fun k=>k=p) w wr∧Own wr w.heap.size 86 #[.slice a N c,.slice fa N fc]∧Own wr gF 173 (ofI (copyTo (facR r R) k))∧RowAt wr p (byR r (R.take k))) (fun y _=>N - (intOf y).toNat)
 case atStart=>exact ⟨0,Nat.zero_le _,rfl,ht0,hbx2,hF0,hR0⟩
 case round=>
  clear ht0 hbx2 hF0 hR0;obtain ⟨k,hk,rfl,ht,hbx,hF,hP⟩:=hrel;by_cases hin:k<N
  · have hk0:(0:Int)≤(k:Int):=(by omega);have hkn:(k:Int)<(N:Int):=(by omega);obtain ⟨s,hs⟩:∃s,R[k]? = some s:=⟨_,List.getElem?_eq_getElem (by rw [HN.out];exact hin)⟩;have hsm:=List.mem_of_getElem? hs;obtain ⟨g,q,off,cap,gf,rfl,rfl,g1,g2,q1,q2,f1,f2,c1,c2,c3⟩:=HE.out k s hs;have hhh:=HH.out;have hne:=HPN.out;have c1':=(World.cell?_of_block (a:=⟨g,k,none⟩) (ht.other g (by omega) (fun e=>hne (by omega)))).trans c1;have c3':=(World.cell?_of_block (a:=⟨gf,k,none⟩) (ht.other gf (by omega) (fun e=>hne (by omega)))).trans c3;have hfs:=HRR.out.fst s hsm;have hcur:RowOk W (byR r (R.take k)):=byR_ok HRO.out (fun t ht=>HRR.out.ok t (List.mem_of_mem_take ht));obtain ⟨f,hf⟩:∃f,(byR r (R.take k)).getD (fstN s) 0=f:=⟨_,rfl⟩;have HFE:=Lib.hid hf;have hfb:=hcur.at_ (fstN s);rw [hf] at hfb;have hcf:=hP.cell (getD_get hcur.len hfs);rw [hf] at hcf;obtain ⟨j,hj⟩:∃j,fstN s=j:=⟨_,rfl⟩;rw [hj] at hcf c3' hfs HFE;have HJ:=Lib.hid hj;have hj0:(0:Int)≤(j:Int):=(by omega);have hjw:(j:Int)<(W:Int):=by omega
    have HFA:Hid ((facR r R)[k]? = some f):=Lib.hid (by
     rw [facR,List.getElem?_map,hs,Option.map_some,←byR_fac HRR.out HRO.out hs,hj,HFE.out])
    have HST:=Lib.hid (copyTo_set HFA.out);obtain ⟨ov,hcv⟩:=hF.has (i:=k) (by rw [ofI,List.size_toArray,List.length_map,copyTo_len (by rw [facR_len,HN.out];omega),facR_len,HN.out];exact hin);have hfz:=hF.frozen k;have cx0:=hbx.cell 0;have cx1:=hbx.cell 1;have HS:=Lib.hid (HRR.out.ok s hsm);have HCU:=Lib.hid hcur;have HSN:=Lib.hid (take_sn hs);have hpg:¬p=gF:=(by have:=hpl;omega);have HRD:Hid (∀w',Touch (fun k=>k=p) w w'→RdAt w' q off s):=Lib.hid (fun w' h=>c2.block (h.other q (by omega) (fun e=>hne (by omega))));clear hs hsm hf hcur hj c1 c2 c3 hne hhh;go_upto_region 6 with fail
    clear c1' c3' hcf cx0 cx1 hcv hfz;have hF5:=hF.set k (.int .i64 f);rw [ofI_set,HST.out] at hF5;have hbx5:=hbx.far (p:=⟨gF,k,none⟩) (by dsimp only;omega) (.int .i64 f);have hP5:=hP.far (p:=⟨gF,k,none⟩) (by dsimp only;exact hpg) (.int .i64 f);have ht5:=ht.setNew (b:=gF) (by omega) k (.int .i64 f);clear hF hbx hP ht;generalize wr.setCell ⟨gF,k,none⟩ (.int .i64 f)=w5 at *
    have cF:w5.cell? ⟨gF,k,none⟩=some (.int .i64 f):=by
     rw [hF5.cell k,ofI_get];rw [copyTo,List.getElem?_append_left (by rw [List.length_take,facR_len,HN.out];omega),List.getElem?_take,if_pos (by omega)];exact HFA.out
    go_wp2_with fail
    refine (opposite3_c f _ hfb).mono ?_;rintro e w6 ⟨rfl,rfl⟩;clear cF;have hnf:0≤num (-f)∧num (-f)≤10006:=(by unfold num;omega);go_wp2_with fail
    refine (addA_c (off:=off) rc cap (num (-f)) HCU.out.len HS.out.len hW hP5 HCU.out.bd HS.out.bd hnf (fun w' h=>HRD.out w' (ht5.trans h))).mono ?_;rintro e w7 ⟨rfl,hP7,ht7⟩;have ht8:=ht5.trans ht7;have hF7:=ht7.own hF5 (fun e=>hpg e.symm);have hbx7:=ht7.own hbx5 (by omega);clear ht5 ht7 hF5 hbx5 hP5;go_wp2_with fail
    go_roundw
    case rel=>
     refine ⟨k+1,by omega,by go_num,ht8,hbx7,hF7,?_⟩;have hst:=byR_step (r:=r) (L:=R.take k) HCU.out HS.out;rw [HJ.out,HFE.out] at hst;rw [HSN.out,hst];exact hP7
    case measure=>simp [intOf] <;> omega
  · have he:k=N:=(by omega);subst he;go_wp2_with fail
    go_ret
    refine ⟨gF,rfl,by omega,?_,?_,ht⟩
    · rw [copyTo,facR_len,HN.out,Nat.sub_self,List.replicate_zero,List.append_nil,List.take_of_length_le (by rw [facR_len,HN.out];exact Nat.le_refl _)] at hF;exact hF
    · rwa [List.take_of_length_le (by rw [HN.out];exact Nat.le_refl _)] at hP
end Go.Proofs.YtifcfoijcodjbaaGreat
