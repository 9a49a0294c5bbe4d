
import Derived.Test.YtfheammnkmjabaaGreatElimB
import Derived.Test.YtfheammnkmjabaaGreatVector
import Derived.Test.YtfheammnkmjabaaGreatRedP
import Derived.Test.YtfheammnkmjabaaGreatMatM
import Derived.Test.YtfheammnkmjabaaGreatIsFormB
import Derived.Test.YtfheammnkmjabaaGreatIsAlgS
import Derived.Test.YtfheammnkmjabaaGreatSingle
namespace Go.Proofs.YtfheammnkmjabaaGreat
set_option maxRecDepth 100000
open Go.RowKit Go.Deep
theorem basisOf0_c {w : World} (a : Option Addr) (c : Nat) :
    Calls Tryz.prog 42 #[.slice a 0 c] w fun e w'=>e=.returned (.agg #[.slice none 0 0,.slice none 0 0])∧Below w.heap.size w w':=by
 have hQ:=(Own.new w 87 #[.slice none 0 0,.slice none 0 0]).alloc (.cells #[.slice none 0 0,.slice none 0 0] 87)
 have hB:=Own.new (w.alloc (.cells #[.slice none 0 0,.slice none 0 0] 87)) 87 #[.slice none 0 0,.slice none 0 0]
 rw [sAl] at hB
 have hb:=bTn (bA1 w (.cells #[.slice none 0 0,.slice none 0 0] 87)) (bA1 _ (.cells #[.slice none 0 0,.slice none 0 0] 87))
 go_enter Tryz.func42,Tryz.ntmps42
 go_wp2_with fail
 go_step3
 go_upto_region 2 with fail
 generalize (w.alloc (.cells #[.slice none 0 0,.slice none 0 0] 87)).alloc (.cells #[.slice none 0 0,.slice none 0 0] 87)=w0 at *
 have b0:=hB.cell 0
 have b1:=hB.cell 1
 have r0:=hQ.cell 0
 have r1:=hQ.cell 1
 have q0:=hQ.frozen 0
 have q1:=hQ.frozen 1
 go_wp2_with fail
 (try rw [Exit.noGoto_ret])
 have s2:=(hQ.set 0 (.slice none 0 0)).set 1 (.slice none 0 0)
 exact bodyPost_ret (results_cell_row rfl _ _ w.heap.size 87 #[.slice none 0 0,.slice none 0 0] (0,0) _ rfl s2 Tryz.underlying87 rfl Tryz.info_basis) rfl ⟨rfl,(hb.setCell (p:=⟨w.heap.size,0,none⟩) (Nat.le_refl _) _).setCell (p:=⟨w.heap.size,1,none⟩) (Nat.le_refl _) _⟩
theorem rankOf_c {w : World} {g gr W n : Nat} {Fl : List Int} {o : List Nat} (hM : Mat Fl W n o) (hn : n ≤ 1000) (hW : W ≤ 1000) (hgr : ¬ gr = g) (hO : Own w g 109 (ofI Fl)) (hR : Own w gr 84 (slc g W o).toArray) :
    Calls Tryz.prog 25 #[.slice (some ⟨gr,0,none⟩) n n] w fun e w'=>∃d:Nat,e=.returned (.int .i64 d)∧Hid (IsRank (o.map (fun i=>vec (rowOf Fl W i))) d)∧Touch (fun k=>k=g∨k=gr) w w':=by
 by_cases hn0:0<n
 · go_enter Tryz.func25,Tryz.ntmps25
   go_wp2_with fail
   refine (basisOf_c hM hn hn0 hW hgr hO hR).mono ?_;rintro e w1 ⟨d,rc,v2,rfl,HK,ht⟩;have hfd:∀w:World,(Instr.field 87 (.agg #[.slice (some ⟨gr,0,none⟩) d rc,v2]) 0).run Tryz.prog w=.ok (.slice (some ⟨gr,0,none⟩) d rc) w:=fun _=>(by first | rfl | kernel_rfl);go_wp2_with fail
   go_ret
   exact ⟨d,rfl,HK,ht⟩
 · obtain rfl:n=0:=(by omega);have ho:o=[]:=List.length_eq_zero_iff.1 hM.ol;go_enter Tryz.func25,Tryz.ntmps25
   go_wp2_with fail
   refine (basisOf0_c _ _).mono ?_;rintro e w1 ⟨rfl,hb⟩;have hfd:∀w:World,(Instr.field 87 (.agg #[.slice none 0 0,.slice none 0 0]) 0).run Tryz.prog w=.ok (.slice none 0 0) w:=fun _=>(by first | rfl | kernel_rfl);go_wp2_with fail
   go_ret
   exact ⟨0,rfl,Lib.hid ⟨[],⟨by simp,by simp,by simp,by simp⟩,by rw [ho];exact SameSp.refl _,rfl⟩,Touch.of_below hb⟩
theorem dRow_ok {zs:List Int} {ims:List (List Tm)} (h:AlgOk zs ims) (V:List (List Int)) {u:List Int} (hm:IsMono u) (ok:monoOk zs u=true):RowOk V.length (dRow zs ims V u):=⟨by rw [dRow,rowT_len],fun x hx=>by
 rw [dRow,rowT] at hx
 obtain ⟨m,-,rfl⟩:=List.mem_map.1 hx
 have hs:=h.diff [⟨u,1⟩] [] 0 (fun t ht=>by
  obtain rfl:t=⟨u,1⟩:=by simpa using ht
  exact ⟨hm,by dsimp only;omega,by dsimp only;omega⟩) (fun t ht=>by
  obtain rfl:t=⟨u,1⟩:=by simpa using ht
  exact ok) sum9_nil
 exact coef_bd hs.bd⟩
theorem rows3_slc (g W n:Nat):rows3 g W n n=slc g W (List.range n):=by
 rw [rows3,slc]
 apply List.map_congr_left
 intro i hi
 rw [if_pos (List.mem_range.1 hi)]
theorem flat_row {zs:List Int} {ims:List (List Tm)} {V U:List (List Int)} {i:Nat} {u:List Int} (h:U[i]? = some u):rowOf (flat3 zs ims V U) V.length i=dRow zs ims V u:=by
 have hi:=(List.getElem?_eq_some_iff.1 h).1
 have hl:(flat3 zs ims V U).length=U.length * V.length:=flat3_len
 apply List.ext_getElem?
 intro c
 have hd:(dRow zs ims V u).length=V.length:=by rw [dRow,rowT_len]
 by_cases hc:c<V.length
 · have hx:(dRow zs ims V u)[c]? = some ((dRow zs ims V u)[c]'(by omega)):=List.getElem?_eq_getElem _;rw [←rowOf_get hl hi hc,flat3_get h c _ hx,hx]
 · rw [List.getElem?_eq_none (by rw [rowOf_len hl hi];omega),List.getElem?_eq_none (by omega)]
theorem flat3_bd {zs:List Int} {ims:List (List Tm)} {m:Nat} (hA:AlgOk zs ims) (hz:degsOk zs=true) {V:List (List Int)}:∀x∈flat3 zs ims V (side zs m),0≤x∧x≤10006:=fun x hx=>by
 rw [flat3,List.mem_flatMap] at hx
 obtain ⟨u,hu,hx⟩:=hx
 exact (dRow_ok hA V (mons_mono hA.h8 u hu) (ext_ok hA.h8 (degs_one hz) hu).1).bd x hx
theorem insR_len {r:List Int} {p:Nat}:∀{L:List (List Int)},(insR r p L).length=L.length+1
 | []=>rfl
 | s :: L => by
   have:=insR_len (r:=r) (p:=p) (L:=L);rw [insR];split <;> simp [this]
theorem putR_len {L:List (List Int)} {r:List Int}:(putR L r).length≤L.length+1:=by
 rw [putR]
 split
 · rw [insR_len];exact Nat.le_refl _
 · omega
theorem redR_len:∀{V L:List (List Int)},(V.foldl putR L).length≤L.length+V.length
 | [],L=>by simp
 | r :: V, L => by
   have h1:=redR_len (V:=V) (L:=putR L r);have h2:=putR_len (L:=L) (r:=r);rw [List.foldl_cons,List.length_cons];omega
theorem redR_snoc {V:List (List Int)} {k:Nat} {r:List Int} (h:V[k]? = some r):redR (V.take (k+1))=putR (redR (V.take k)) r:=by
 rw [redR,take_sn h,List.foldl_append]
 rfl
set_option maxHeartbeats 1000000 in
theorem l03Reduce_c {w : World} {b : Option Addr} {m N : Nat} {V : List (List Int)} (c : Nat) (hT : Tab w b N V) (hm : m ≤ 1000) (hN : N ≤ 800) (hV : ∀ r ∈ V, RowOk m r) :
    Calls Tryz.prog 32 #[.slice b N c] w fun e w'=>∃b' N' c',e=.returned (.slice b' N' c')∧TabC w' b' N' (redR V)∧Below w.heap.size w w':=by
 have HT:=Lib.hid hT
 have HLn:=Lib.hid hT.1
 have HV:=Lib.hid hV
 have hb:=bA1 w (.cells #[] 22)
 clear hT hV
 go_enter Tryz.func32,Tryz.ntmps32
 go_upto_region 2 with fail
 generalize w.alloc (.cells #[] 22)=w1 at *
 generalize hge:w.heap.size=gO at *
 have HGE:=Lib.hid hge
 clear hge
 go_upto_region 3 with fail
 go_loopw [4,3] (fun y z wr=>∃(k n:Nat) (oa:Option Addr) (oc:Nat),k≤N∧y=.int .i64 k∧z=.slice oa n oc∧Below gO w wr∧TabC wr oa n (redR (V.take k))) (fun y _ _=>N - (intOf y).toNat)
 case atStart=>exact ⟨0,0,_,0,Nat.zero_le _,rfl,rfl,hb,by rw [List.take_zero];exact TabC.none_ _ _⟩
 case round=>
  clear hb;obtain ⟨k,n,oa,oc,hk,rfl,rfl,hb,hO⟩:=hrel;have hk0:(0:Int)≤(k:Int):=(by omega);by_cases hkn:k<N
  · have hki:(k:Int)<(N:Int):=(by omega);obtain ⟨b1,off,s,ai,mi,ci,rfl,hbl,hcs,hIs,hx⟩:=(HT.out.keep (by rw [HGE.out];exact hb)).at_ hkn;have hs:=HV.out s (List.mem_of_getElem? hx.out);obtain rfl:m=mi:=(by have:=hIs.len;have:=hs.len;omega);have hR:=redR_red (RedI.nil m) (V:=V.take k) (fun r hr=>HV.out r (List.mem_of_mem_take hr));have HRD:=Lib.hid hR.1;have hln:=redR_len (V:=V.take k) (L:=[])
    have hn9:n≤900:=by
     have h1:=hO.1.1;rw [redR] at h1;rw [List.length_take,List.length_nil] at hln;omega
    have HS:=Lib.hid hs;have HX:=Lib.hid hx.out;clear hs hR hln hx;go_wp2_with fail
    refine (l03Put_c ci oc hIs hO hm hn9 HS.out (fun t ht=>⟨HRD.out.ok t ht,HRD.out.fst t ht⟩)).mono ?_;rintro e w2 ⟨b',N',c',rfl,hO2,hb2⟩;have hb3:=hb.trans (hb2.mono (by rw [←HGE.out];exact hb.size));clear hb hb2 hO hIs hcs;go_wp2_with fail
    go_roundw
    case rel=>exact ⟨k+1,N',b',c',by omega,by go_num,rfl,hb3,by rw [redR_snoc HX.out];exact hO2⟩
    case measure=>simp [intOf] <;> omega
  · have he:k=N:=(by omega);subst he;rw [List.take_of_length_le (Nat.le_of_eq HLn.out)] at hO;go_wp2_with fail
    go_ret
    exact ⟨oa,n,oc,rfl,hO,by rw [HGE.out];exact hb⟩
def rkM (zs:List Int) (ims:List (List Tm)) (n:Nat):Nat:=(redR ((side zs n).map (dRow zs ims (side zs (n+1))))).length
def bt (zs:List Int) (ims:List (List Tm)) (k:Nat):Int:=(cnt zs k:Int) - (rkM zs ims k:Int) - (if k=0 then 0 else (rkM zs ims (k - 1):Int))
def btL (zs:List Int) (ims:List (List Tm)) (k:Nat):List Int:=(List.range k).map (bt zs ims)
def btE (zs:List Int) (ims:List (List Tm)) (m:Int):Int:=code3 zs ims 0 m
def btV (zs:List Int) (ims:List (List Tm)) (m:Int):List Int:=if btE zs ims m=0 then btL zs ims (m.toNat+1) else []
def rkB (zs:List Int) (ims:List (List Tm)) (k:Nat):Nat:=if k=0 then 0 else rkM zs ims (k - 1)
theorem bt_eq (zs:List Int) (ims:List (List Tm)) (k:Nat):bt zs ims k=(cnt zs k:Int) - (rkM zs ims k:Int) - (rkB zs ims k:Int):=by
 rw [bt,rkB]
 split <;> rfl
theorem rkB_succ (zs:List Int) (ims:List (List Tm)) (k:Nat):rkB zs ims (k+1)=rkM zs ims k:=by simp [rkB]
theorem btL_len (zs:List Int) (ims:List (List Tm)) (k:Nat):(btL zs ims k).length=k:=by simp [btL]
theorem btL_succ (zs:List Int) (ims:List (List Tm)) (k:Nat):btL zs ims (k+1)=btL zs ims k++[bt zs ims k]:=by simp [btL,List.range_succ]
theorem rkM_le (zs:List Int) (ims:List (List Tm)) (k:Nat):rkM zs ims k≤cnt zs k:=by
 have:=redR_len (V:=(side zs k).map (dRow zs ims (side zs (k+1)))) (L:=[])
 rw [rkM,redR]
 rw [List.length_map,side_len,List.length_nil] at this
 omega
theorem bt_zero {zs:List Int} {ims:List (List Tm)} {m:Int} (h:btE zs ims m=0):isAlg zs ims=true∧0≤m∧m≤20∧∀i,i≤m.toNat+1→cnt zs i≤120:=by
 unfold btE code3 at h
 split at h
 · omega
 · rename_i h1;split at h
   · omega
   · rename_i h2;split at h
     · omega
     · rename_i h3;have h2':0≤m∧m≤20:=Decidable.of_not_not h2;refine ⟨by simpa using h1,h2'.1,h2'.2,fun i hi=>?_⟩
       have h4:¬120<gmx zs 0 (m.toNat+1 - 0):=by
        intro hh;exact h3 (by rw [many];simpa using hh)
       have h5:=gmx_le.1 (Int.not_lt.1 h4) i (by omega);rw [Nat.zero_add] at h5;omega
theorem row_ok {zs:List Int} {ims:List (List Tm)} (hA:AlgOk zs ims) (hz:degsOk zs=true) (n:Nat):∀r∈(side zs n).map (dRow zs ims (side zs (n+1))),RowOk (cnt zs (n+1)) r:=fun r hr=>by
 obtain ⟨u,hu,rfl⟩:=List.mem_map.1 hr
 have:=dRow_ok hA (side zs (n+1)) (mons_mono hA.h8 u hu) (ext_ok hA.h8 (degs_one hz) hu).1
 rwa [side_len] at this
theorem rk_rank {zs:List Int} {ims:List (List Tm)} {m d:Nat} (hA:AlgOk zs ims) (hz:degsOk zs=true) (h:IsRank ((List.range (cnt zs m)).map (fun i=>vec (rowOf (flat3 zs ims (side zs (m+1)) (side zs m)) (cnt zs (m+1)) i))) d):d=rkM zs ims m:=by
 have e:(List.range (cnt zs m)).map (fun i=>vec (rowOf (flat3 zs ims (side zs (m+1)) (side zs m)) (cnt zs (m+1)) i))=((side zs m).map (dRow zs ims (side zs (m+1)))).map vec:=by
  rw [List.map_map];apply List.ext_getElem
  · simp [side_len]
  · intro i h1 h2;simp only [List.length_map,List.length_range] at h1;have hi:i<(side zs m).length:=(by rw [side_len];exact h1);rw [List.getElem_map,List.getElem_map,List.getElem_range,←side_len zs (m+1),flat_row (List.getElem?_eq_getElem hi)];rfl
 rw [e] at h
 exact h.uniq (redR_rank (row_ok hA hz m))
set_option maxHeartbeats 1000000 in
theorem l03RankM_c {w : World} {da : Option Addr} {dn : Nat} {zs : List Int} {a : Option Addr} {k : Nat} {ims : List (List Tm)} {m : Nat} (dc c : Nat) (hd : Ints w da dn zs) (hF : Frms w a k ims) (HA : AlgOk zs ims) (hA : isAlg zs ims = true) (hz : degsOk zs = true) (hm : m ≤ 20) (hc1 : cnt zs m ≤ 120) (hc2 : cnt zs (m + 1) ≤ 120) :
    Calls Tryz.prog 20 #[.agg #[.slice da dn dc,.slice a k c],.int .i64 m] w fun e w'=>e=.returned (.int .i64 (rkM zs ims m:Nat))∧Below w.heap.size w w':=by
 have hO:=Own.new w 31 #[.slice da dn dc,.slice a k c]
 have hb:=bA1 w (.cells #[.slice da dn dc,.slice a k c] 31)
 have HV:=Lib.hid (row_ok HA hz m)
 have hm0:¬(m:Int)<0:=by omega
 have c0:=hO.cell 0
 have c1:=hO.cell 1
 go_enter Tryz.func20,Tryz.ntmps20
 go_upto_region 1 with fail
 generalize w.alloc (.cells #[.slice da dn dc,.slice a k c] 31)=w0 at *
 go_wp2_with fail
 refine (l03Matrix_c dc c (hd.keep hb) (hF.keep hb) HA hA hz (degs_one hz) hm hc1 hc2).mono ?_
 rintro e w1 ⟨ra,rc,rfl,hT,hb1⟩
 have hb2:=bT' hb hb1 hb.size
 have hTb:=hT.tab
 clear hT hb hb1 c0 c1 hO
 go_wp2_with fail
 refine (l03Reduce_c (m:=cnt zs (m+1)) rc hTb (by omega) (by omega) HV.out).mono ?_
 rintro e w2 ⟨b',N',c',rfl,hT2,hb3⟩
 have hb4:=bT' hb2 hb3 hb2.size
 have HN:Hid (rkM zs ims m=N'):=Lib.hid hT2.1.1
 clear hb2 hb3 hT2 hTb
 go_wp2_with fail
 go_ret
 exact ⟨ret_i (by rw [HN.out]),hb4⟩
def OwnI (w:World) (lo hi:Nat) (a:Option Addr) (n:Nat) (V:List Int):Prop:=V.length=n∧(0<n→∃g,a=some ⟨g,0,none⟩∧lo≤g∧g<hi∧Own w g 2 ((V.map (Value.int .i64)).toArray))
section
variable {w w':World} {lo hi n:Nat} {a:Option Addr} {V:List Int}
theorem OwnI.none_:OwnI w lo hi none 0 []:=⟨rfl,fun h=>absurd h (by omega)⟩
theorem OwnI.keep (h:OwnI w lo hi a n V) (hb:Below w.heap.size w w'):OwnI w' lo hi a n V:=
 ⟨h.1,fun hn=>by obtain ⟨g,h1,h2,h3,h4⟩:=h.2 hn;exact ⟨g,h1,h2,h3,h4.keep hb h4.lt⟩⟩
theorem OwnI.ints (h:OwnI w lo hi a n V):Ints w a n V:=
 ⟨h.1,fun hn=>by
  obtain ⟨g,rfl,h2,h3,h4⟩:=h.2 hn
  exact (IntBlk.ints' (n:=n) h4 h.1).2 hn⟩
theorem OwnI.weaken {lo' hi':Nat} (h:OwnI w lo hi a n V) (h1:lo'≤lo) (h2:hi≤hi'):OwnI w lo' hi' a n V:=
 ⟨h.1,fun hn=>by obtain ⟨g,e,h3,h4,h5⟩:=h.2 hn;exact ⟨g,e,by omega,by omega,h5⟩⟩
theorem OwnI.block {gx : Nat} {tx : TypeId} {csx : Array Value} (h : OwnI w lo hi a n V) (hx : Own w gx tx csx) :
    ∃g t cs,Own w g t cs∧n≤cs.size∧(0<n→a=some ⟨g,0,none⟩)∧(g=gx∨(lo≤g∧g<hi)):=by
 by_cases hn:0<n
 · obtain ⟨g,e,h1,h2,h3⟩:=h.2 hn;exact ⟨g,_,_,h3,by have:=h.1;simp;omega,fun _=>e,Or.inr ⟨h1,h2⟩⟩
 · exact ⟨gx,tx,csx,hx,by omega,fun hh=>absurd hh hn,Or.inl rfl⟩
end
theorem made_ints (n:Nat):madeCells #[Value.int .i64 0] n=Array.replicate n (Value.int .i64 0):=by
 apply Array.ext'
 rw [toList_madeCells_one]
 simp
theorem zero_ints (n:Nat):Array.replicate n (Value.int .i64 0)=((List.replicate n (0:Int)).map (Value.int .i64)).toArray:=by simp
theorem IntBlk.set {w:World} {g i:Nat} {v:Int} {zs:List Int} (h:Own w g 2 ((zs.map (Value.int .i64)).toArray)):Own (w.setCell ⟨g,i,none⟩ (.int .i64 v)) g 2 (((zs.set i v).map (Value.int .i64)).toArray):=by
 have:=h.set i (.int .i64 v)
 rwa [show ((zs.map (Value.int .i64)).toArray).setIfInBounds i (.int .i64 v)=(((zs.set i v).map (Value.int .i64)).toArray) by simp [List.map_set]] at this
end Go.Proofs.YtfheammnkmjabaaGreat
