
import Derived.Test.YtfheammnkmjabaaGreatMatD
import Derived.Test.YtfheammnkmjabaaGreatRows3
import Derived.Test.YtfheammnkmjabaaGreatBin
import Derived.Test.YtfheammnkmjabaaGreatIsAlg
import Derived.Test.YtfheammnkmjabaaGreatSumF
namespace Go.Proofs.YtfheammnkmjabaaGreat
set_option maxRecDepth 100000
open Go.RowKit Go.Deep
theorem coef_nz3 {ts:List Tm} {m:List Int} (h:¬coef ts m=0):∃t∈ts,t.m=m:=by
 by_cases h1:∃t∈ts,t.m=m
 · exact h1
 · exact absurd (coef_none fun t ht e=>h1 ⟨t,ht,e⟩) h
theorem len_nodup3 {α:Type} [DecidableEq α]:∀{K l:List α},K.Nodup→(∀x∈K,x∈l)→K.length≤l.length
 | [],_,_,_=>Nat.zero_le _
 | x :: K, l, hn, h => by
   rw [List.nodup_cons] at hn;have hx:=h x (by simp);have h1:=len_nodup3 (K:=K) (l:=l.erase x) hn.2 (fun y hy=>(List.mem_erase_of_ne (fun e=>hn.1 (by rw [←e];exact hy))).2 (h y (by simp [hy])));rw [List.length_erase_of_mem hx] at h1;have:=List.length_pos_of_mem hx;rw [List.length_cons];omega
theorem srt_len {ts:List Tm} {V:List (List Int)} (hs:Srt ts) (h:∀t∈ts,t.m∈V):ts.length≤V.length:=by
 have hn:(ts.map (·.m)).Nodup:=by
  rw [List.Nodup,List.pairwise_map];refine hs.imp fun hb e=>?_;rw [e,before_self] at hb;cases hb
 have:=len_nodup3 hn (l:=V) (fun x hx=>by
  obtain ⟨t,ht,rfl⟩:=List.mem_map.1 hx
  exact h t ht)
 rwa [List.length_map] at this
theorem FormOf.told3 {w w' : World} {S : List Int → Int} {e : Ending} {T : List Tm} (h : FormOf w S e w') (hg : Good T) (ht : ∀ x ∈ T, IsTm x) (hw : ∀ x ∈ T, within x.m = true) (hl : T.length ≤ 400) (hc : ∀ m, S m = coef T m) :
    ∃v,e=.returned (.tuple #[.agg #[v],.int .i64 0])∧OwnR w' w.heap.size v T:=by
 rcases h with ⟨v,L,rfl,hO,hs,hT,hF,-,-,hco⟩ | ⟨-,hbad⟩
 · have hLR:L=T:=srt_ext L _ hs hg.srt (fun t h=>(hT t h).1) (fun x hx=>(ht x hx).1) (fun t h=>by have:=hF t h;omega) (fun t h=>by have:=hg.nz t h;omega) (fun m hm=>by rw [hco m hm,hc m]);subst hLR;exact ⟨v,rfl,hO⟩
 · exfalso
   rcases hbad with ⟨m,hm,hne,hw2⟩ | ⟨K,hK,h4,hk⟩
   · rw [hc m] at hne;obtain ⟨t,ht',rfl⟩:=coef_nz3 hne;rw [hw t ht'] at hw2;cases hw2
   · have := len_nodup3 hK (l := T.map (·.m)) (fun m hm => by
       have h:=(hk m hm).2;rw [hc m] at h;obtain ⟨t,ht',rfl⟩:=coef_nz3 h
       exact List.mem_map.2 ⟨t,ht',rfl⟩)
     rw [List.length_map] at this;omega
theorem monoOk_within {zs m:List Int} (hm:IsMono m) (h:monoOk zs m=true):within m=true:=by
 rw [within,List.all_eq_true]
 intro x hx
 have:=ok_in hm h x hx
 simpa using this.2
def dRow (zs:List Int) (ims:List (List Tm)) (V:List (List Int)) (u:List Int):List Int:=rowT V (diffT zs ims [] [⟨u,1⟩])
def flat3 (zs:List Int) (ims:List (List Tm)) (V U:List (List Int)):List Int:=U.flatMap (dRow zs ims V)
theorem flat3_len {zs:List Int} {ims:List (List Tm)} {V:List (List Int)}:∀{U:List (List Int)},(flat3 zs ims V U).length=U.length * V.length
 | []=>by simp [flat3]
 | u :: U => by
   have ih:=flat3_len (zs:=zs) (ims:=ims) (V:=V) (U:=U);rw [flat3] at ih ⊢;rw [List.flatMap_cons,List.length_append,ih,dRow,rowT_len,List.length_cons,Nat.succ_mul];omega
theorem flat3_step {zs:List Int} {ims:List (List Tm)} {V U:List (List Int)} {k:Nat} {u:List Int} (h:U[k]? = some u):flat3 zs ims V (U.take (k+1))=flat3 zs ims V (U.take k)++dRow zs ims V u:=by
 rw [flat3,flat3,List.take_add_one,h,Option.toList_some,List.flatMap_append]
 simp
def numbers3 (zs:List Int) (ims:List (List Tm)) (V U:List (List Int)) (k:Nat):List Int:=flat3 zs ims V (U.take k)++List.replicate ((U.length - k) * V.length) 0
theorem rowT_nil (V:List (List Int)):rowT V []=List.replicate V.length 0:=by
 rw [rowT,List.eq_replicate_iff]
 refine ⟨by simp,fun x hx=>?_⟩
 obtain ⟨m,_,rfl⟩:=List.mem_map.1 hx
 rfl
theorem numbers3_split {zs:List Int} {ims:List (List Tm)} {V U:List (List Int)} {k:Nat} (h:k<U.length):numbers3 zs ims V U k=flat3 zs ims V (U.take k)++rowT V []++List.replicate ((U.length - (k+1)) * V.length) 0:=by
 rw [numbers3,rowT_nil,List.append_assoc,List.replicate_append_replicate,show V.length+(U.length - (k+1)) * V.length=(U.length - k) * V.length by
  rw [show U.length - k=(U.length - (k+1))+1 by omega,Nat.succ_mul];omega]
theorem numbers3_step {zs:List Int} {ims:List (List Tm)} {V U:List (List Int)} {k:Nat} {u:List Int} (h:U[k]? = some u):flat3 zs ims V (U.take k)++dRow zs ims V u++List.replicate ((U.length - (k+1)) * V.length) 0=numbers3 zs ims V U (k+1):=by
 rw [numbers3,flat3_step h]
theorem diff_facts {zs : List Int} {ims : List (List Tm)} (hA : isAlg zs ims = true) (h : AlgOk zs ims) (hz : ∀ z ∈ zs, 1 ≤ z) {n : Nat} (hn : n ≤ 40) (hc : cnt zs (n + 1) ≤ 400) {u : List Int} (hu : u ∈ ext [] (mons zs n)) (hm : IsMono u) :
    monoOk zs u=true∧(∀x∈diffT zs ims [] [⟨u,1⟩],IsTm x)∧Good (diffT zs ims [] [⟨u,1⟩])∧(∀x∈diffT zs ims [] [⟨u,1⟩],x.m∈ext [] (mons zs (n+1)))∧(∀x∈diffT zs ims [] [⟨u,1⟩],within x.m=true)∧(diffT zs ims [] [⟨u,1⟩]).length≤400∧∀m,diffS zs ims zeroL [⟨u,1⟩] m=coef (diffT zs ims [] [⟨u,1⟩]) m:=by
 obtain ⟨ok,hw⟩:=ext_ok h.h8 hz hu
 have ht:IsTm ⟨u,1⟩:=⟨hm,by dsimp only;omega,by dsimp only;omega⟩
 have one:∀t∈[(⟨u,1⟩:Tm)],t=⟨u,1⟩:=fun t h=>by simpa using h
 have hs:=h.diff [⟨u,1⟩] [] 0 (fun t h=>by rw [one t h];exact ht) (fun t h=>by rw [one t h];exact ok) sum9_nil
 have hmem:=diff_mem hA h hz ht ok hw hn
 have hco:=(diff_coef h.ims h.ln h.h8 [⟨u,1⟩] [] zeroL (fun t h=>by rw [one t h];exact hm) (fun t h=>by rw [one t h];exact ok) (fun _=>rfl) good_nil).1
 refine ⟨ok,hs.tm,hs.good,hmem,fun x hx=>monoOk_within (hs.tm x hx).1 (ext_ok h.h8 hz (hmem x hx)).1,?_,hco⟩
 have:=srt_len hs.good.srt hmem
 rw [ext_len] at this
 rw [cnt] at hc
 omega
set_option maxHeartbeats 4000000 in
theorem columnsOf_c {w : World} {da : Option Addr} {dn : Nat} {zs : List Int} {a : Option Addr} {n : Nat} {x : Int} (dc c : Nat) (hd : Ints w da dn zs) (hdn : dn ≤ 1048576) :
    Calls Tryz.prog 37 #[.agg #[.slice da dn dc,.slice a n c],.int .i64 x] w fun e w'=>∃ra rn rc,e=.returned (.slice ra rn rc)∧OwnM w' w.heap.size w'.heap.size ra rn (moV zs x)∧Below w.heap.size w w':=by
 have hb:=bA1 w (.cells #[.slice da dn dc,.slice a n c] 31)
 have HD:=Lib.hid (hd.keep hb)
 have hs:=Lib.hid hb.size
 clear hd
 go_enter Tryz.func37,Tryz.ntmps37
 go_wp2_with fail
 refine (MonomialsOf_c dc x HD.out hdn).mono ?_
 rintro e w1 ⟨ra,rn,rc,rfl,hM,hb1⟩
 have hM1:=hM.weaken hs.out (Nat.le_refl _)
 have hb2:=bTn hb hb1
 clear hM hb hb1
 go_wp2_with fail
 go_ret
 exact ⟨ra,rn,rc,rfl,hM1,hb2⟩
def side (zs:List Int) (n:Nat):List (List Int):=ext [] (mons zs n)
theorem moV_side {zs:List Int} {n:Nat} (hz:degsOk zs=true) (hn:n≤40) (hc:cnt zs n≤400):moV zs n=side zs n:=(mo_0 hz hn (by omega)).2
theorem side_len (zs:List Int) (n:Nat):(side zs n).length=cnt zs n:=by rw [side,ext_len,cnt]
theorem rows3_get {g W n j:Nat} (hj:j<n):(rows3 g W n n).toArray[j]? = some (.slice (some ⟨g,j * W,none⟩) W W):=by
 rw [List.getElem?_toArray,rows3,List.getElem?_map,List.getElem?_range hj]
 simp [hj]
theorem Touch.bel3 {g B:Nat} {w w':World} (h:Touch (fun k=>k=g) w w') (hg:B≤g) (hs:B≤w.heap.size):Below B w w':=
 ⟨h.below.os,h.below.tape,h.below.output,h.below.size,fun k hk=>h.other k (by omega) (by omega)⟩
theorem OwnR.touch {w w':World} {B g:Nat} {v:Value} {ts:List Tm} (h:OwnR w B v ts) (ht:Touch (fun k=>k=g) w w') (hg:g<B):OwnR w' B v ts:=by
 refine World.ownsRow.kept h (row:=some g) ⟨ht.below.os,ht.below.tape,ht.below.output,ht.below.size,fun k hk hne=>ht.other k hk (by simpa using hne)⟩ ?_
 rcases hv:v.ownBlock with _ | q
 · exact Or.inl rfl
 · right
   have:=(World.ownsRow.lt h q hv).1;simp
   omega
theorem single_terms {w:World} {g:Nat} {p0 p1 p2 p3 p4 p5 p6 p7:Int} (hm:IsMono [p0,p1,p2,p3,p4,p5,p6,p7]) (h:Own w g 80 #[.int .u8 p0,.int .u8 p1,.int .u8 p2,.int .u8 p3,.int .u8 p4,.int .u8 p5,.int .u8 p6,.int .u8 p7,.int .i64 1]):Terms w (some ⟨g,0,none⟩) 1 [⟨[p0,p1,p2,p3,p4,p5,p6,p7],1⟩]:=by
 refine ⟨rfl,fun t ht=>?_,fun _=>⟨g,0,rfl,h.lt,fun j v hv=>?_⟩⟩
 · obtain rfl:t=⟨[p0,p1,p2,p3,p4,p5,p6,p7],1⟩:=(by simpa using ht);exact ⟨hm,by dsimp only;omega,by dsimp only;omega⟩
 · rw [Nat.zero_add,h.cell j,List.getElem?_toArray];simpa [rcells,tcells,mcells] using hv
set_option maxHeartbeats 8000000 in
theorem matrixOf_c {w : World} {da : Option Addr} {dn : Nat} {zs : List Int} {a : Option Addr} {k : Nat} {ims : List (List Tm)} {m : Nat} (dc c : Nat) (hd : Ints w da dn zs) (hdn : dn ≤ 1048576) (hF : Frms w a k ims) (HA : AlgOk zs ims) (hA : isAlg zs ims = true) (hz : degsOk zs = true) (hz1 : ∀ z ∈ zs, 1 ≤ z) (hm : m ≤ 20) (hc1 : cnt zs m ≤ 120) (hc2 : cnt zs (m + 1) ≤ 120) :
    Calls Tryz.prog 24 #[.agg #[.slice da dn dc,.slice a k c],.int .i64 m] w fun e w'=>∃g,e=.returned (.slice (some ⟨g+1,0,none⟩) (cnt zs m) (cnt zs m))∧w.heap.size≤g∧Own w' g 109 (ofI (flat3 zs ims (side zs (m+1)) (side zs m)))∧Own w' (g+1) 84 (rows3 g (cnt zs (m+1)) (cnt zs m) (cnt zs m)).toArray∧Below w.heap.size w w':=by
 have HC1:Hid (∀w',Below w.heap.size w w'→Calls Tryz.prog 37 #[.agg #[.slice da dn dc,.slice a k c],.int .i64 (m:Int)] w' fun e w''=>∃ra rc,e=.returned (.slice ra (cnt zs m) rc)∧OwnM w'' w'.heap.size w''.heap.size ra (cnt zs m) (side zs m)∧Below w'.heap.size w' w''):=Lib.hid (fun w' hb=>by
  refine (columnsOf_c dc c (hd.keep hb) hdn).mono ?_;rintro e w'' ⟨ra,rn,rc,rfl,hM,hb2⟩;rw [moV_side hz (by omega) (by omega)] at hM;obtain rfl:cnt zs m=rn:=by rw [←hM.1,side_len]
  exact ⟨ra,rc,rfl,hM,hb2⟩)
 have HC2:Hid (∀w',Below w.heap.size w w'→Calls Tryz.prog 37 #[.agg #[.slice da dn dc,.slice a k c],.int .i64 ((m:Int)+1)] w' fun e w''=>∃ra rc,e=.returned (.slice ra (cnt zs (m+1)) rc)∧OwnM w'' w'.heap.size w''.heap.size ra (cnt zs (m+1)) (side zs (m+1))∧Below w'.heap.size w' w''):=Lib.hid (fun w' hb=>by
  refine (columnsOf_c dc c (hd.keep hb) hdn).mono ?_;rintro e w'' ⟨ra,rn,rc,rfl,hM,hb2⟩;have e1:moV zs ((m:Int)+1)=side zs (m+1):=moV_side (n:=m+1) hz (by omega) (by omega);rw [e1] at hM;obtain rfl:cnt zs (m+1)=rn:=by rw [←hM.1,side_len]
  exact ⟨ra,rc,rfl,hM,hb2⟩)
 have HD:=Lib.hid hd
 have HF:=Lib.hid hF
 have HAO:=Lib.hid HA
 have HIA:=Lib.hid hA
 have HZ1:=Lib.hid hz1
 have hO:=Own.new w 31 #[.slice da dn dc,.slice a k c]
 have hb:=bA1 w (.cells #[.slice da dn dc,.slice a k c] 31)
 have e1:IntKind.i64.wrap ((m:Int)+1)=(m:Int)+1:=IntWalk.i64_in _ (by omega)
 have HU:Hid ((side zs m).length=cnt zs m):=Lib.hid (side_len _ _)
 have HV:Hid ((side zs (m+1)).length=cnt zs (m+1)):=Lib.hid (side_len _ _)
 have HCC:Hid (cnt zs (m+1)≤400):=Lib.hid (by omega)
 clear hd hF HA hA hz hz1
 go_enter Tryz.func24,Tryz.ntmps24
 go_upto_region 1 with fail
 generalize hw0:w.alloc (.cells #[.slice da dn dc,.slice a k c] 31)=w0 at *
 have hs0:=Lib.hid hb.size
 clear hw0
 generalize hga:w.heap.size=gA at *
 have HGA:=Lib.hid hga
 clear hga
 generalize hUe:side zs m=U at *
 generalize hVe:side zs (m+1)=V at *
 have HUE:=Lib.hid hUe
 have HVE:=Lib.hid hVe
 clear hUe hVe
 generalize hNe:cnt zs m=N at *
 generalize hWe:cnt zs (m+1)=W at *
 have HNE:=Lib.hid hNe
 have HWE:=Lib.hid hWe
 clear hNe hWe
 go_cut [5,6] (fun p q wr=>∃ua uc va vc lo hi,p=.slice ua N uc∧q=.slice va W vc∧gA≤lo∧hi≤wr.heap.size∧OwnM wr lo hi ua N U∧OwnM wr lo hi va W V∧Own wr gA 31 #[.slice da dn dc,.slice a k c]∧Below gA w wr)
 case first=>
  have hO':Own w0.drew gA 31 #[.slice da dn dc,.slice a k c]:=hO;have hbb:Below gA w w0.drew:=hb.drew
  go_region_held3 (fun w'=>w'.cell? ⟨gA,0,none⟩=some (.slice da dn dc)∧w'.cell? ⟨gA,1,none⟩=some (.slice a k c)) (exact ⟨hO'.cell 0,hO'.cell 1⟩)
   (first
    | (go_at_call 37;(with_reducible refine (HC1.out _ hbb).mono ?_);rintro e w2 ⟨ua,uc,rfl,hU,hb2⟩;have hO':=hO'.keep hb2 hO'.lt;have hbb:=bT' hbb hb2 hs0.out)
    | (go_at_call 37;(with_reducible refine (HC2.out _ hbb).mono ?_);rintro e w3 ⟨va,vc,rfl,hV,hb3⟩;have hbb:=bT' hbb hb3 (Nat.le_of_lt hO'.lt);have hU:=hU.keep hb3;have hO':=hO'.keep hb3 hO'.lt))
  all_goals go_wp2_with fail
  all_goals go_meet
  all_goals exact ⟨_,_,_,_,w0.heap.size,w3.heap.size,rfl,rfl,hs0.out,Nat.le_refl _,hU.weaken (Nat.le_refl _) hb3.size,hV.weaken hb2.size (Nat.le_refl _),hO',hbb⟩
 case rest=>
  obtain ⟨ua,uc,va,vc,lo,hi,rfl,rfl,hlo,hhi,hU,hV,hO1,hb1⟩:=hcut;go_wp2_with fail
  refine (newRows_c (by omega) (by omega)).mono ?_;rintro e w4 ⟨rfl,hg,hr,hb4⟩;have hGs:=hO1.lt;have hgA:gA≤wc.heap.size:=Nat.le_of_lt hO1.lt;have hb5:=bT' hb1 hb4 hgA;replace hU:=hU.keep hb4;replace hV:=hV.keep hb4;replace hO1:=hO1.keep hb4 hO1.lt
  have hN0:Own w4 wc.heap.size 109 (ofI (numbers3 zs ims V U 0)):=by
   rw [numbers3,List.take_zero,HU.out,HV.out];exact hg
  clear hg hb1 hb4 hb hO;have hGl:=Lib.hid (show gA<wc.heap.size from hGs);generalize wc.heap.size=g at *;clear hs0;clear w0 wc;have HHI:=Lib.hid hhi;have HLO:=Lib.hid hlo;have HGA2:=Lib.hid hgA;clear hhi hlo hgA hGs;go_wp2_with fail
  go_loopw [26] (fun y wr=>∃j:Nat,j≤N∧y=.int .i64 j∧Below gA w wr∧OwnM wr lo hi ua N U∧OwnM wr lo hi va W V∧Own wr gA 31 #[.slice da dn dc,.slice a k c]∧Own wr (g+1) 84 (rows3 g W N N).toArray∧Own wr g 109 (ofI (numbers3 zs ims V U j))) (fun y _=>N - (intOf y).toNat)
  case atStart=>exact ⟨0,Nat.zero_le _,rfl,hb5,hU,hV,hO1,hr,hN0⟩
  case round=>
   clear hb5 hU hV hO1 hr hN0;obtain ⟨j,hj,rfl,hb,hU,hV,hO,hr,hN⟩:=hrel;by_cases hlt:j<N
   · have hji:(j:Int)<(N:Int):=(by omega);have hj0:(0:Int)≤(j:Int):=(by omega);obtain ⟨b,off,u,rfl,hbl,hro,hmu,hx⟩:=hU.mos.at_ hlt;have HDF:=Lib.hid (diff_facts HIA.out HAO.out HZ1.out (n:=m) (by omega) (by rw [HWE.out];exact HCC.out) (u:=u) (by rw [←side,HUE.out];exact List.mem_of_getElem? hx.out) hmu);have HSP:=Lib.hid (numbers3_split (zs:=zs) (ims:=ims) (V:=V) (U:=U) (k:=j) (by rw [HU.out];exact hlt));have HST:=Lib.hid (numbers3_step (zs:=zs) (ims:=ims) (V:=V) hx.out);obtain ⟨u0,u1,u2,u3,u4,u5,u6,u7,rfl⟩:=mono8 hmu;obtain ⟨y0,y1,y2,y3,y4,y5,y6,y7⟩:=eight hro;have hT:=Own.new wr 69 (mcells [u0,u1,u2,u3,u4,u5,u6,u7]).toArray;have hba:=bA1 wr (.cells (mcells [u0,u1,u2,u3,u4,u5,u6,u7]).toArray 69);have hgA:=Nat.le_of_lt hO.lt;replace hU:=hU.keep hba;replace hV:=hV.keep hba;replace hO:=hO.keep hba hO.lt;replace hr:=hr.keep hba hr.lt;replace hN:=hN.keep hba hN.lt;replace hb:=bT' hb hba hgA;clear hba hgA hx hro;go_upto_region 6 with fail
     clear y0 y1 y2 y3 y4 y5 y6 y7
     change Code.wp _ _ _ _ (wr.alloc (.cells (mcells [u0,u1,u2,u3,u4,u5,u6,u7]).toArray 69))
     generalize wr.alloc (.cells (mcells [u0,u1,u2,u3,u4,u5,u6,u7]).toArray 69)=w6 at *;generalize wr.heap.size=gT at *;clear wr;obtain ⟨x0,x1,x2,x3,x4,x5,x6,x7⟩:=own8 hT;have c0:=hO.cell 0;have c1:=hO.cell 1;go_wp2_with fail
     clear x0 x1 x2 x3 x4 x5 x6 x7 c0 c1 hT;have hS1:=single_terms hmu (Own.new w6 80 #[.int .u8 u0,.int .u8 u1,.int .u8 u2,.int .u8 u3,.int .u8 u4,.int .u8 u5,.int .u8 u6,.int .u8 u7,.int .i64 1]);have hba:=bA1 w6 (.cells #[.int .u8 u0,.int .u8 u1,.int .u8 u2,.int .u8 u3,.int .u8 u4,.int .u8 u5,.int .u8 u6,.int .u8 u7,.int .i64 1] 80);have hgA:=Nat.le_of_lt hO.lt;replace hU:=hU.keep hba;replace hV:=hV.keep hba;replace hO:=hO.keep hba hO.lt;replace hr:=hr.keep hba hr.lt;replace hN:=hN.keep hba hN.lt;replace hb:=bT' hb hba hgA;clear hba hgA;generalize w6.alloc (.cells #[.int .u8 u0,.int .u8 u1,.int .u8 u2,.int .u8 u3,.int .u8 u4,.int .u8 u5,.int .u8 u6,.int .u8 u7,.int .i64 1] 80)=w7 at *;generalize w6.heap.size=gS at *;clear w6;have hbW:Below w.heap.size w w7:=by rw [HGA.out];exact hb
     refine (differentialOf_c dc c 1 (HD.out.keep hbW) (HF.out.keep hbW) hS1 HAO.out (fun t ht=>by
      obtain rfl:t=⟨[u0,u1,u2,u3,u4,u5,u6,u7],1⟩:=by simpa using ht
      exact HDF.out.1) (fun t ht=>by
      obtain rfl:t=⟨[u0,u1,u2,u3,u4,u5,u6,u7],1⟩:=by simpa using ht
      exact ⟨by dsimp only;omega,by dsimp only;omega⟩) (by omega)).mono ?_
     rintro e w8 ⟨bm,rfl,hbm,hMap,hba⟩;have hgA:=Nat.le_of_lt hO.lt;replace hU:=hU.keep hba;replace hV:=hV.keep hba;replace hO:=hO.keep hba hO.lt;have hgl:Hid (g+1<w8.heap.size):=Lib.hid (hr.keep hba hr.lt).lt;replace hr:=hr.keep hba hr.lt;replace hN:=hN.keep hba hN.lt;replace hb:=bT' hb hba hgA;clear hba hgA hbW hS1 hbm;clear w7
     have HSB:Hid (∀q,0≤diffS zs ims zeroL [⟨[u0,u1,u2,u3,u4,u5,u6,u7],1⟩] q∧diffS zs ims zeroL [⟨[u0,u1,u2,u3,u4,u5,u6,u7],1⟩] q≤10006):=Lib.hid (fun q=>by
      rw [HDF.out.2.2.2.2.2.2 q]
      exact coef_bd (fun t ht=>by have:=HDF.out.2.2.1.nz t ht;omega))
     go_wp2_with fail
     refine (form_c hMap (by omega) HSB.out).mono ?_;rintro e w9 ⟨hFO,hba⟩;obtain ⟨v,rfl,hR⟩:=hFO.told3 HDF.out.2.2.1 HDF.out.2.1 HDF.out.2.2.2.2.1 HDF.out.2.2.2.2.2.1 HDF.out.2.2.2.2.2.2;obtain ⟨fa,fn,fc,rfl⟩:=hR.isSlice
     have hfn:fn=(diffT zs ims [] [⟨[u0,u1,u2,u3,u4,u5,u6,u7],1⟩]).length:=by
      obtain ⟨a',c',e',-⟩:=hR.terms HDF.out.2.1 rfl
      injection e'
     have HFN:=Lib.hid hfn;have hgA:=Nat.le_of_lt hO.lt;replace hU:=hU.keep hba;replace hV:=hV.keep hba;replace hO:=hO.keep hba hO.lt;replace hr:=hr.keep hba hr.lt;replace hN:=hN.keep hba hN.lt;replace hb:=bT' hb hba hgA;clear hba hgA hFO hMap hfn;generalize w8.heap.size=gB at *;clear w8;have hgX:=Lib.hid hN.lt;have hX:=Own.new w9 53 #[.slice fa fn fc];have hba:=bA1 w9 (.cells #[.slice fa fn fc] 53);have hgA:=Nat.le_of_lt hO.lt;replace hU:=hU.keep hba;replace hV:=hV.keep hba;replace hO:=hO.keep hba hO.lt;replace hr:=hr.keep hba hr.lt;replace hN:=hN.keep hba hN.lt;replace hR:=hR.keep hba;replace hb:=bT' hb hba hgA;clear hba hgA;go_upto_region 7 with fail
     generalize w9.alloc (.cells #[.slice fa fn fc] 53)=wA at *;generalize w9.heap.size=gX at *;clear w9
     have hW:Calls Tryz.prog 41 #[.slice va W vc,.slice (some ⟨g,j * W,none⟩) W W,.agg #[.slice fa fn fc]] wA.drew fun e w'=>e=.returned (.tuple #[])∧Own w' g 109 (ofI (numbers3 zs ims V U (j+1)))∧Touch (fun k=>k=g) wA.drew w':=by
      have hVd:OwnM wA.drew lo hi va W V:=hV;have hRd:OwnR wA.drew gB (.slice fa fn fc) (diffT zs ims [] [⟨[u0,u1,u2,u3,u4,u5,u6,u7],1⟩]):=hR
      have hNd:Own wA.drew g 109 (ofI (flat3 zs ims V (U.take j)++rowT V []++List.replicate ((U.length - (j+1)) * V.length) 0)):=by
       rw [←HSP.out];exact hN
      have h1:=HHI.out;have h2:=hgl.out;have hfl:=HDF.out.2.2.2.2.2.1;refine (write_c vc W fc (fun w' ht=>(hVd.touch ht (fun q _ hq e=>by omega)).mos) (by rw [←HVE.out];exact ext_ord _ _) (by omega) (fun w' ht=>(hRd.touch ht (by omega)).read HDF.out.2.1) (by rw [HFN.out];omega) HDF.out.2.2.1.srt (fun t ht=>by rw [←HVE.out];exact HDF.out.2.2.2.1 t ht) hNd (by rw [flat3_len,List.length_take,HU.out,HV.out,Nat.min_eq_left (Nat.le_of_lt hlt)])).mono ?_;rintro e w' ⟨rfl,hN2,ht⟩;refine ⟨rfl,?_,ht⟩;have:=HST.out;rw [dRow] at this;rw [←this];exact hN2
     have HW:=Lib.hid hW;have hrd:Own wA.drew (g+1) 84 (rows3 g W N N).toArray:=hr;have hXd:Own wA.drew gX 53 #[.slice fa fn fc]:=hX;clear hW
     go_region_held3 (fun w'=>w'.cell? ⟨g+1,j,none⟩=some (.slice (some ⟨g,j * W,none⟩) W W)∧w'.cell? ⟨gX,0,none⟩=some (.slice fa fn fc)) (exact ⟨(hrd.cell j).trans (rows3_get hlt),hXd.cell 0⟩)
      ((go_at_call 41;(with_reducible refine HW.out.mono ?_);rintro e w2 ⟨rfl,hN2,ht⟩;have hrd:=ht.own hrd (by omega);have hXd:=ht.own hXd (by have:=hgX.out;omega)))
     all_goals go_wp2_with fail
     all_goals go_roundw
     all_goals first
      | (case measure=>simp [intOf] <;> omega)
      | skip
     all_goals
      have q1:=HHI.out;have q2:=hGl.out;exact ⟨j+1,by omega,by go_num,hb.drew.trans (ht.bel3 (by omega) (Nat.le_of_lt (show gA<wA.heap.size from hO.lt))),OwnM.touch (show OwnM wA.drew lo hi _ N U from hU) ht (fun q _ hq e=>by omega),OwnM.touch (show OwnM wA.drew lo hi _ W V from hV) ht (fun q _ hq e=>by omega),ht.own (show Own wA.drew gA 31 #[.slice da dn dc,.slice a k c] from hO) (by omega),hrd,hN2⟩
   · obtain rfl:j=N:=(by omega);go_wp2_with fail
     go_ret
     have he:numbers3 zs ims V U j=flat3 zs ims V U:=(by rw [numbers3,←HU.out,List.take_length,Nat.sub_self,Nat.zero_mul,List.replicate_zero,List.append_nil]);rw [he] at hN;exact ⟨g,by rw [HNE.out];rfl,by rw [HGA.out];exact HGA2.out,by rw [HVE.out,HUE.out];exact hN,by rw [HNE.out,HWE.out];exact hr,by rw [HGA.out];exact hb⟩
end Go.Proofs.YtfheammnkmjabaaGreat
