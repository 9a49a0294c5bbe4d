
import Derived.Test.YtifcfoijcodjbaaGreatRdcC
import Derived.Test.YtifcfoijcodjbaaGreatBin
import Derived.Lib.AppendZerosOnto
import Derived.Deep.DeepAppendWide
import Derived.Test.YtifcfoijcodjbaaGreatOpen
import Derived.Test.YtifcfoijcodjbaaGreatWithB
import Derived.Lib.AppendZeros
namespace Go.Proofs.YtifcfoijcodjbaaGreat
set_option maxRecDepth 100000
open Go.RowKit Go.Deep
theorem l01Mons_m {w : World} {da : Option Addr} {dn m : Nat} {zs : List Int} (dc : Nat) (hd : Ints w da dn zs) (hz : degsOk zs = true) (hm : m ≤ 40) (hc : cnt zs m ≤ 120) :
    Calls Tryz.prog 109 #[.slice da dn dc,.int .i64 m] w fun e w'=>∃la lc,e=.returned (.slice la (cnt zs m) lc)∧Mos w' la (cnt zs m) (side zs m)∧Below w.heap.size w w':=by
 refine (l01Monomials_c (r:=m) dc hd hz (by omega)).mono ?_
 rintro e w' ⟨ra,rn,rc,rfl,hM,hb⟩
 rw [side_take (by omega)] at hM
 obtain rfl:cnt zs m=rn:=by rw [←hM.1,side_len]
 exact ⟨ra,rc,rfl,hM.mos,hb⟩
theorem nbR_lt2 {zs:List Int} {m:Nat} (h:¬m=0→cnt zs (m - 1)≤120):nbR zs m≤120:=by
 rw [nbR]
 split
 · omega
 · rename_i h0;exact h h0
set_option maxHeartbeats 1000000 in
theorem l03Bounds_c {w : World} {da : Option Addr} {dn : Nat} {zs : List Int} {a : Option Addr} {k : Nat} {ims : List (List Tm)} {m : Nat} (dc c : Nat) (hd : Ints w da dn zs) (hF : Frms w a k ims) (HA : AlgOk zs ims) (hA : isAlg zs ims = true) (hz : degsOk zs = true) (hm : m ≤ 20) (hc1 : cnt zs m ≤ 120) (_hc2 : cnt zs (m + 1) ≤ 120) (hl : ¬ m = 0 → cnt zs (m - 1) ≤ 120) :
    Calls Tryz.prog 110 #[.agg #[.slice da dn dc,.slice a k c],.int .i64 m] w fun e w'=>∃ra rn rc,e=.returned (.slice ra rn rc)∧Tab w' ra rn (bdR zs ims m)∧Below w.heap.size w w':=by
 have hO:=Own.new w 35 #[.slice da dn dc,.slice a k c]
 have hb:=bA1 w (.cells #[.slice da dn dc,.slice a k c] 35)
 by_cases h0:m=0
 · subst h0;go_enter Tryz.func110,Tryz.ntmps110
   go_wp2_with fail
   go_ret
   exact ⟨_,0,⟨_,rfl⟩,⟨by rw [bdR,if_pos rfl];rfl,fun h=>absurd h (by omega)⟩,bTn hb (bA1 _ _)⟩
 · have hmb:((m:Int)==0)=false:=(by simpa using h0);have hw1:IntKind.i64.wrap ((m:Int) - 1)=((m - 1:Nat):Int):=(by rw [IntWalk.i64_in _ (by omega)];omega);have hl2:=hl h0;have hHd:=Lib.hid hd;have hHF:=Lib.hid hF;have HL2:=Lib.hid hl2;have HC1:=Lib.hid hc1;have HV:=Lib.hid (mrR_low HA hz h0);have HB:Hid (bdR zs ims m=redR (mrR zs ims (m - 1))):=Lib.hid (by rw [bdR,if_neg h0]);have HM1:Hid (m - 1+1=m):=Lib.hid (by omega);have c0:=hO.cell 0;have c1:=hO.cell 1;clear hd hF hl hl2;go_enter Tryz.func110,Tryz.ntmps110
   go_wp2_with fail
   refine (l03Matrix_c (m:=m - 1) dc c (hHd.out.keep hb) (hHF.out.keep hb) HA hA hz (degs_one hz) (by omega) HL2.out (by rw [HM1.out];exact HC1.out)).mono ?_;rintro e w1 ⟨ra,rc,rfl,hT,hb1⟩;have hb2:=bT' hb hb1 hb.size;have hTb:Tab w1 ra (cnt zs (m - 1)) (mrR zs ims (m - 1)):=hT.tab;clear hT hb hb1 c0 c1 hO;go_wp2_with fail
   refine (l03Reduce_c (m:=cnt zs m) rc hTb (by have:=HC1.out;omega) (by have:=HL2.out;omega) HV.out).mono ?_;rintro e w2 ⟨b',N',c',rfl,hT2,hb3⟩;have hb4:=bT' hb2 hb3 hb2.size;clear hb2 hb3 hTb;go_wp2_with fail
   go_ret
   exact ⟨b',N',c',rfl,by rw [HB.out];exact hT2.1,hb4⟩
theorem zeroCells_one (z0:Value) (n:Nat):Builtin.zeroCells #[z0] n=(List.replicate n z0).toArray:=by
 apply Array.ext
 · simp [size_zeroCells]
 · intro i h1 h2;simp [Builtin.zeroCells,Nat.mod_one]
theorem run_append_zeros {P : Program} (w : World) (base : Nat) (t tn ty e : TypeId) (i : TypeInfo) (z z0 : Value) (kq kn : IntKind) (ht : P.underlying t = some (.slice e)) (htn : P.underlying tn = some (.int kn)) (hi : P.info? e = some i) (hz : i.zero = some z) (hs : i.size = 1) (hby : i.bytes = 8) (hzc : z.cells = #[z0]) (h1 : z0.oneCell' = true)
    (v:Value) (n:Nat) (xs:List Value) (hown:w.ownsRow base e 1 v n xs) (m:Nat) (hb:n+m≤1000000) (hbase:base≤w.heap.size) :
    ∃v' w',(Builtin.append_ #[t,tn] ty #[v,.int kq m]).run P w=.ok v' w'∧w'.ownsRow base e 1 v' (n+m) (xs++List.replicate m z0)∧w.grownBy w' v.ownBlock:=by
 have hxs:xs.length=n:=by rw [hown.1,Nat.mul_one]
 have hw:IntKind.i64.wrap (m:Int)=m:=by rw [IntKind.wrap_i64];omega
 have hneg:¬((m:Int)<0):=by omega
 have h48i:¬(281474976710656<(m:Int) * (i.bytes:Int)):=by rw [hby];omega
 have grown : ∀ (old : Nat), old < n + m → ∀ (row : Option Nat),
     (w.drew.alloc (.cells (xs.toArray++Builtin.zeroCells z.cells m++Builtin.zeroCells z.cells (grownCap w (n+m) old e - (n+m))) e)).ownsRow base e 1 (.slice (some ⟨w.heap.size,0,none⟩) (n+m) (grownCap w (n+m) old e)) (n+m) (xs++List.replicate m z0) ∧
     w.grownBy (w.drew.alloc (.cells (xs.toArray++Builtin.zeroCells z.cells m++Builtin.zeroCells z.cells (grownCap w (n+m) old e - (n+m))) e)) row:=by
  intro old ho row;have hge:=grownCap_ge w (n+m) old e;have hcm:grownCap w (n+m) old e≤maxLen:=grownCap_le_maxLen w (n+m) old e (by simp only [maxLen];omega);have hl:(xs++List.replicate m z0).length=(n+m) * 1:=(by rw [List.length_append,List.length_replicate,hxs,Nat.mul_one]);refine ⟨⟨hl,.inr ⟨w.heap.size,_,_,rfl,hbase,heap_alloc_new w.drew _,hge,hcm,?_,?_⟩⟩,⟨rfl,rfl,rfl,by simp,fun k hk _=>Go.heap_alloc_old w.drew _ hk⟩⟩
  · simp only [hzc,zeroCells_one,Array.size_append,List.size_toArray,List.length_replicate,hxs];omega
  · simp only [hzc,zeroCells_one,Array.toList_append,←hl];exact List.take_left
 rcases hown.2 with ⟨rfl,rfl⟩ | ⟨g,cap,cur,rfl,hbg,hg,hnc,hcm,hcs,htake⟩
 · have hx:xs=[]:=List.eq_nil_of_length_eq_zero hxs;subst hx;by_cases hm:m=0
   · subst hm;refine ⟨.slice none 0 0,w,?_,World.ownsRow_nil w base e 1,⟨rfl,rfl,rfl,Nat.le_refl _,fun _ _ _=>rfl⟩⟩;simp [Builtin.append_,run_underlying ht,run_underlying htn,sizeOf,typeInfo,hi,asInt,asIntOf,IntKind.wrap_i64]
   · have hr:=Lib.run_append_nil_zeros (P:=P) w t tn ty e i z kq kn ht htn hi hz m (by omega) (by omega) (by omega) (by rw [hby];omega);have hgr:=grown 0 (by omega) (Value.ownBlock (.slice none 0 0));simp only [Nat.zero_add,List.nil_append,Array.empty_append] at hgr ⊢;exact ⟨_,_,hr,hgr.1,hgr.2⟩
 · by_cases hroom:n+m≤cap
   · have hst:=run_storeCells_at P g (n * i.size) e (List.replicate m z0) 0 cur w hg (by rw [hs,List.length_replicate,hcs];omega) (fun u hu=>by rw [(List.mem_replicate.1 hu).2];exact h1);simp only [Nat.add_zero] at hst;refine ⟨.slice (some ⟨g,0,none⟩) (n+m) cap,w.setRow g (cur.toList.take (n * i.size)++List.replicate m z0++cur.toList.drop (n * i.size+(List.replicate m z0).length)).toArray,?_,⟨by rw [List.length_append,List.length_replicate,hxs,Nat.mul_one],.inr ⟨g,cap,_,rfl,hbg,setRow_heap w g cur _ e _ hg,hroom,hcm,?_,?_⟩⟩,⟨rfl,rfl,rfl,by simp,fun k _ hk=>setRow_other w g k _ (fun e=>hk (by simp [Value.ownBlock,e]))⟩⟩
     · by_cases hm:m=0
       · subst hm;simp at hst
         simp [Builtin.append_,run_underlying ht,run_underlying htn,sizeOf,typeInfo,hi,asInt,asIntOf,IntKind.wrap_i64,hnc,Addr.add_lit,hst]
       · have hns:¬(m * i.size=0):=Nat.mul_ne_zero hm (by omega);simp [Builtin.append_,run_underlying ht,run_underlying htn,sizeOf,typeInfo,zeroValue,hi,hz,asInt,asIntOf,hw,hneg,hns,h48i,hroom,Addr.add_lit,hzc,zeroCells_one,hst]
     · simp only [List.size_toArray,List.length_append,List.length_take,List.length_drop,Array.length_toList,List.length_replicate,hs];omega
     · rw [hs,htake];have hl:(xs++List.replicate m z0).length=(n+m) * 1:=(by rw [List.length_append,List.length_replicate,hxs,Nat.mul_one]);rw [←hl];exact List.take_left
   · have hold : (Builtin.firstCells i.size n (.slice (some ⟨g, 0, none⟩) n cap)).run P w.drew = .ok xs.toArray w.drew := by
       have holds:∀j u,xs[j]? = some u→w.drew.cell? ((⟨g,0,none⟩:Addr).add j)=some u:=hown.cells (g:=g) rfl;exact run_firstCells_some w.drew i.size n ⟨g,0,none⟩ n cap xs (by rw [hs,hxs,Nat.mul_one]) holds
     have hr:=Lib.run_append_grow_zeros (P:=P) w t tn ty e i z kq kn ht htn hi hz (some ⟨g,0,none⟩) n cap xs hold m (by omega) (by omega) (by omega) (by omega) (by rw [hby];omega) (growslice_fits_wide (by omega) (by rw [hby];omega));have hgr:=grown cap (by omega) (Value.ownBlock (.slice (some ⟨g,0,none⟩) n cap));exact ⟨_,_,hr,hgr.1,hgr.2⟩
theorem run_append_ints {P : Program} (w : World) (base : Nat) (t ty e : TypeId) (i : TypeInfo) (z : Value) (ht : P.underlying t = some (.slice e)) (hi : P.info? e = some i) (hz : i.zero = some z) (hs : i.size = 1) (hby : i.bytes = 8) (hzs : z.cells.size = 1)
    (v:Value) (n:Nat) (xs:List Value) (hown:w.ownsRow base e 1 v n xs) {ai:Option Addr} {m:Nat} {zs:List Int} (c:Nat) (hI:Ints w ai m zs) (hb:n+m≤1000000) (hbase:base≤w.heap.size) :
    ∃v' w',(Builtin.append_ #[t,t] ty #[v,.slice ai m c]).run P w=.ok v' w'∧w'.ownsRow base e 1 v' (n+m) (xs++zs.map (Value.int .i64))∧w.grownBy w' v.ownBlock:=by
 have hl:(zs.map (Value.int .i64)).length=m * 1:=by rw [List.length_map,hI.len,Nat.mul_one]
 have hone:∀u∈zs.map (Value.int .i64),u.oneCell'=true:=fun u hu=>by
  obtain ⟨x,-,rfl⟩:=List.mem_map.1 hu;rfl
 have some_:∀ad,ai=some ad→(∀j u,(zs.map (Value.int .i64))[j]? = some u→w.cell? (ad.add j)=some u)→∃v' w',(Builtin.append_ #[t,t] ty #[v,.slice ai m c]).run P w=.ok v' w'∧w'.ownsRow base e 1 v' (n+m) (xs++zs.map (Value.int .i64))∧w.grownBy w' v.ownBlock:=fun ad ha hn=>by
  subst ha;obtain ⟨v',w',h1,h2,h3,-⟩:=run_append_own_wide (P:=P) w base t ty e i z 1 8 ht hi hz hs hby hzs (by omega) v n xs hown ad m c (zs.map (Value.int .i64)) hl hn hone (by simp only [maxLen];omega) (by omega) hbase;exact ⟨v',w',h1,h2,h3⟩
 by_cases hm:0<m
 · obtain ⟨b,off,ha,hbl,hc⟩:=hI.2 hm;refine some_ _ ha (fun j u hu=>?_);rw [List.getElem?_map] at hu
   cases hx:zs[j]? with
   | none=>rw [hx] at hu;simp at hu
   | some x =>
     rw [hx,Option.map_some,Option.some.injEq] at hu;subst hu;have hj:j<m:=(by rw [←hI.len];exact (List.getElem?_eq_some_iff.1 hx).1);have:=hc j hj;rw [getD_of (by rw [hI.len];exact hj),Option.some.injEq] at hx;rw [Addr.add_lit,←hx];exact this
 · obtain rfl:m=0:=(by omega);obtain rfl:zs=[]:=List.eq_nil_of_length_eq_zero hI.len
   cases ai with
   | some ad=>exact some_ ad rfl (by simp)
   | none =>
     refine ⟨v,w,?_,by simpa using hown,⟨rfl,rfl,rfl,Nat.le_refl _,fun _ _ _=>rfl⟩⟩
     rcases hown.2 with ⟨rfl,rfl⟩ | ⟨g,cap,cur,rfl,hbg,hg,hnc,hcm,hcs,htake⟩
     · simp [Builtin.append_,run_underlying ht,sizeOf,typeInfo,hi,Builtin.lenOf,Builtin.firstCells]
     · simp [Builtin.append_,run_underlying ht,sizeOf,typeInfo,hi,Builtin.lenOf,Builtin.firstCells,hnc,Addr.add_lit,storeCells]
def RwO (w:World) (B:Nat) (vals:List Value) (R:List (List Int)):Prop:=vals.length=R.length∧∀(q:Nat) v t,vals[q]? = some v→R[q]? = some t→w.ownsRow B 2 1 v t.length (t.map (Value.int .i64))
section
variable {w w':World} {B:Nat} {vals:List Value} {R:List (List Int)}
theorem RwO.nil (w:World) (B:Nat):RwO w B [] []:=⟨rfl,by simp⟩
theorem RwO.keep (h:RwO w B vals R) (hb:Below w.heap.size w w'):RwO w' B vals R:=⟨h.1,fun q v t h1 h2=>row_keep (h.2 q v t h1 h2) hb⟩
theorem RwO.grown {C n:Nat} {x:Value} {xs:List Value} {ty:TypeId} (h:RwO w B vals R) (ho:w.ownsRow C ty 1 x n xs) (ht:2≠ty) (hg:w.grownBy w' x.ownBlock):RwO w' B vals R:=⟨h.1,fun q v t h1 h2=>by
 have h3:=h.2 q v t h1 h2
 refine h3.kept hg ?_
 cases hv:v.ownBlock with
 | none=>exact Or.inl rfl
 | some b=>exact Or.inr (fun e=>Apt.types h3 ho ht b hv e.symm)⟩
theorem RwO.snoc {v:Value} {t:List Int} (h:RwO w B vals R) (hv:w.ownsRow B 2 1 v t.length (t.map (Value.int .i64))):RwO w B (vals++[v]) (R++[t]):=⟨by simp [h.1],fun q u s h1 h2=>by
 by_cases e:q<vals.length
 · rw [List.getElem?_append_left e] at h1;rw [List.getElem?_append_left (by rw [←h.1];exact e)] at h2;exact h.2 q u s h1 h2
 · rw [List.getElem?_append_right (by omega)] at h1;rw [List.getElem?_append_right (by rw [←h.1];omega)] at h2;obtain ⟨g1,g2⟩:=List.getElem?_eq_some_iff.1 h1;obtain ⟨g3,g4⟩:=List.getElem?_eq_some_iff.1 h2;simp at g1 g2 g3 g4
   subst g2 g4
   exact hv⟩
theorem ints_row {n:Nat} {v:Value} {t:List Int} (h:w.ownsRow B 2 1 v n (t.map (Value.int .i64))) (hn:t.length=n):∃a c,v=.slice a n c∧Ints w a n t:=by
 rcases h.2 with ⟨h0,h1⟩ | ⟨g,cap,cur,hv,_,hg,hnc,_,hcs,htk⟩
 · exact ⟨none,0,by rw [h1];exact h0,hn,fun h=>by omega⟩
 · refine ⟨some ⟨g,0,none⟩,cap,hv,hn,fun _=>⟨g,0,rfl,(show Own w g _ cur from hg).lt,fun i hi=>?_⟩⟩;rw [Nat.zero_add,(show Own w g _ cur from hg).cell i];have hx:(t.map (Value.int .i64))[i]? = some (.int .i64 (t.getD i 0)):=(by rw [List.getElem?_map,getD_of (by omega)];rfl);rw [←htk,List.getElem?_take,if_pos (by omega)] at hx;simpa using hx
theorem RwO.tab {C n:Nat} {v:Value} (h:RwO w B vals R) (ho:w.ownsRow C 22 1 v n vals):∃a c,v=.slice a n c∧Tab w a n R:=by
 have hl:vals.length=n:=by rw [ho.1,Nat.mul_one]
 rcases ho.2 with ⟨h0,h1⟩ | ⟨g,cap,cur,hv,_,hg,hnc,_,hcs,htk⟩
 · exact ⟨none,0,by rw [h1];exact h0,by rw [←h.1];exact hl,fun h=>by omega⟩
 · refine ⟨some ⟨g,0,none⟩,cap,hv,by rw [←h.1];exact hl,fun _=>⟨g,0,rfl,(show Own w g _ cur from hg).lt,fun i t hi=>?_⟩⟩;have hin:i<vals.length:=(by rw [h.1];exact (List.getElem?_eq_some_iff.1 hi).1);have hvi:vals[i]? = some vals[i]:=List.getElem?_eq_getElem hin;obtain ⟨ai,ci,e,hI⟩:=ints_row (h.2 i _ t hvi hi) rfl;refine ⟨ai,ci,?_,hI⟩;rw [Nat.zero_add,(show Own w g _ cur from hg).cell i];rw [e,←htk,List.getElem?_take,if_pos (by omega)] at hvi;simpa using hvi
end
theorem longR_take {M:List (List Int)} {k:Nat} {r:List Int} (h:M[k]? = some r):(longR M).take (k+1)=(longR M).take k++[r++unitR M.length k]:=by
 have h1:=longR_get h
 obtain ⟨h2,h3⟩:=List.getElem?_eq_some_iff.1 h1
 rw [List.take_succ_eq_append_getElem h2,h3]
theorem cloR_yes {W k:Nat} {L:List (List Int)} {r:List Int} (h:L[k]? = some r) (hb:W≤fstN r):cloR W (L.take (k+1))=cloR W (L.take k)++[r.drop W]:=by
 obtain ⟨h1,rfl⟩:=List.getElem?_eq_some_iff.1 h
 rw [cloR,List.take_succ_eq_append_getElem h1,List.filter_append,List.map_append,cloR]
 simp [hb]
theorem cloR_no {W k:Nat} {L:List (List Int)} {r:List Int} (h:L[k]? = some r) (hb:¬W≤fstN r):cloR W (L.take (k+1))=cloR W (L.take k):=by
 obtain ⟨h1,rfl⟩:=List.getElem?_eq_some_iff.1 h
 rw [cloR,List.take_succ_eq_append_getElem h1,List.filter_append,List.map_append,cloR]
 simp [show fstN L[k]<W by omega]
theorem unit_set {r:List Int} {W n k:Nat} (hr:r.length=W):(r++List.replicate n (0:Int)).set (W+k) 1=r++unitR n k:=by
 rw [List.set_append_right _ _ (by omega),hr,show W+k - W=k by omega,unitR]
theorem Tryz.info_zero:∃i,Tryz.prog.info? 2=some i∧i.zero=some (.int .i64 0)∧i.size=1∧i.bytes=8:=by
 have h:(Tryz.prog.info? 2).map (fun i=>(i.zero,i.size,i.bytes))=some (some (.int .i64 0),1,8):=by kernel_rfl
 obtain ⟨i,hi,hzz⟩:=Option.map_eq_some_iff.1 h
 simp only [Prod.mk.injEq] at hzz
 exact ⟨i,hi,hzz.1,hzz.2.1,hzz.2.2⟩
theorem row_weak {w:World} {B B' sz n:Nat} {t:TypeId} {v:Value} {xs:List Value} (h:w.ownsRow B t sz v n xs) (hB:B'≤B):w.ownsRow B' t sz v n xs:=
 ⟨h.1,h.2.imp id fun ⟨g,cap,cur,hv,hb,r⟩=>⟨g,cap,cur,hv,by omega,r⟩⟩
theorem news1k (w:World) (v:Value) (t:TypeId):∀j u,([v]:List Value)[j]? = some u→(w.alloc (.cells #[v] t)).cell? ((⟨w.heap.size,0,none⟩:Addr).add j)=some u:=fun j u hu=>by
 rw [Addr.add_mid]
 exact (Own.new w t #[v]).range j u hu
theorem long_row {w : World} {B : Nat} (hB : B ≤ w.heap.size) {ai : Option Addr} {W : Nat} {r : List Int} (c N : Nat) (hI : Ints w ai W r) (hW : W ≤ 1000) (hN : N ≤ 1000) (hN0 : 0 < N) (ty ty2 : TypeId) :
    ∃v1 w1 g c2 w2,(Builtin.append_ #[22,22] ty #[.slice (some ⟨w.heap.size,0,none⟩) 0 0,.slice ai W c]).run Tryz.prog (w.alloc (.cells #[] 2))=.ok v1 w1∧(Builtin.append_ #[22,3] ty2 #[v1,.int .i64 N]).run Tryz.prog w1=.ok (.slice (some ⟨g,0,none⟩) (W+N) c2) w2 ∧
     w.heap.size≤g∧g<w2.heap.size∧w2.ownsRow B 2 1 (.slice (some ⟨g,0,none⟩) (W+N) c2) (W+N) ((r++List.replicate N 0).map (Value.int .i64))∧Below w.heap.size w w2:=by
 obtain ⟨i,hi,hz,hs,hby⟩:=Tryz.info_zero
 have ho0:=empty_rowG w 2 (Nat.le_refl w.heap.size)
 have hba:=bA1 w (.cells #[] 2)
 obtain ⟨v1,w1,hr1,ho1,hg1⟩:=run_append_ints (P:=Tryz.prog) (w.alloc (.cells #[] 2)) w.heap.size 22 ty 2 i _ Tryz.underlying22 hi hz hs hby (by rfl) _ 0 [] ho0 c (hI.keep hba) (by omega) (by rw [sAl];omega)
 have hb1:=grown_below hba hg1 (fun k e=>by have:w.heap.size=k:=(by simpa [Value.ownBlock] using e);omega) (by rw [sAl];omega)
 obtain ⟨v2,w2,hr2,ho2,hg2⟩:=run_append_zeros (P:=Tryz.prog) w1 w.heap.size 22 3 ty2 2 i _ (.int .i64 0) .i64 .i64 Tryz.underlying22 Tryz.underlying3 hi hz hs hby (by rfl) (by rfl) v1 (0+W) _ ho1 N (by omega) hb1.size
 have hb2:=grown_below hb1 hg2 (fun k e=>(ho1.lt k e).1) hb1.size
 rw [Nat.zero_add,List.nil_append] at ho2
 rw [show List.replicate N (Value.int .i64 0)=(List.replicate N (0:Int)).map (Value.int .i64) by simp,←List.map_append] at ho2
 rcases ho2.2 with ⟨h0,h1⟩ | ⟨g,cap,cur,hv,hbg,hg,r1⟩
 · omega
 · subst hv;refine ⟨v1,w1,g,cap,w2,hr1,hr2,hbg,(show Own w2 g _ cur from hg).lt,⟨ho2.1,Or.inr ⟨g,cap,cur,rfl,by omega,hg,r1⟩⟩,hb2⟩
set_option maxHeartbeats 4000000 in
theorem l03Kernel_c {w : World} {ra : Option Addr} {N W : Nat} {M : List (List Int)} (rc : Nat) (hT : Tab w ra N M) (hok : ∀ r ∈ M, RowOk W r) (hN : N ≤ 120) (hW : W ≤ 120) :
    Calls Tryz.prog 179 #[.slice ra N rc,.int .i64 W] w fun e w'=>∃b' N' c',e=.returned (.slice b' N' c')∧Tab w' b' N' (cloR W (redR (longR M)))∧Below w.heap.size w w':=by
 obtain ⟨tiR,tzR,htiR,htzR,htsR,htbR,htzsR⟩:=Tryz.info_intsA
 have HIR:=Lib.hid htiR
 have HZR:=Lib.hid htzR
 have HSR:=Lib.hid htsR
 have HBtR:=Lib.hid htbR
 have HZsR:=Lib.hid htzsR
 have HT:=Lib.hid hT
 have HML:=Lib.hid hT.1
 have HOK:=Lib.hid hok
 clear htiR htzR htsR htbR htzsR hT hok
 have hb0:=bA1 w (.cells #[] 22)
 have hR0:=empty_rowG w 22 (Nat.le_refl w.heap.size)
 go_enter Tryz.func179,Tryz.ntmps179
 go_upto_region 3 with fail
 generalize w.alloc (.cells #[] 22)=w2 at *
 obtain ⟨gO,hgO⟩:∃gO,w.heap.size=gO:=⟨_,rfl⟩
 rw [hgO] at hR0 hb0 ⊢
 have HGO:=Lib.hid hgO
 clear hgO
 have HW0:Hid (RwO w2 gO [] ((longR M).take 0)):=Lib.hid (by rw [List.take_zero];exact RwO.nil _ _)
 go_upto_region 4 with fail
 go_loopw [6,7] (fun l y wr=>∃(k:Nat) (la:Option Addr) (lc:Nat) (vs:List Value),k≤N∧y=.int .i64 k∧l=.slice la k lc∧Below gO w wr∧wr.ownsRow gO 22 1 (.slice la k lc) k vs∧Hid (RwO wr gO vs ((longR M).take k))) (fun _ y _=>N - (intOf y).toNat)
 case atStart=>exact ⟨0,_,_,[],Nat.zero_le _,rfl,rfl,hb0,hR0,HW0⟩
 case round=>
  clear hb0 hR0 HW0;obtain ⟨k,la,lc,vs,hk,rfl,rfl,hb,hR,HW⟩:=hrel;have HR:=Lib.hid hR;clear hR;have hk0:(0:Int)≤(k:Int):=(by omega);by_cases hin:k<N
  · obtain ⟨b1,off,s,ai,mi,ci,rfl,hbl,hcs,hIs,hx⟩:=(HT.out.keep (by rw [HGO.out];exact hb)).at_ hin;have hsk:=HOK.out s (List.mem_of_getElem? hx.out);obtain rfl:W=mi:=(by have:=hIs.len;have:=hsk.len;omega);have HLT:=Lib.hid (longR_take hx.out);have hkn:(k:Int)<(N:Int):=(by omega);have hsz:gO≤wr.heap.size:=(by have:=hb.size;have:=HGO.out;omega);have HSL:=Lib.hid hsk.len;have hwk:IntKind.i64.wrap ((W:Int)+(k:Int))=((W+k:Nat):Int):=(by rw [IntWalk.i64_in _ (by omega)];omega);obtain ⟨v1,w1,g,c2,w2',hr1,hr2,hg1,hg2,ho2,hb2⟩:=long_row hsz ci N hIs (by omega) (by omega) (by omega) 22 22;have HR1:=Lib.hid hr1;have HR2:=Lib.hid hr2
    have hcv:w2'.cell? ⟨g,W+k,none⟩=some (.int .i64 0):=by
     rw [ho2.cellAt (W+k) (by omega),List.getElem?_map,List.getElem?_append_right (by rw [HSL.out];omega),HSL.out,List.getElem?_replicate,if_pos (by omega)];rfl
    have hfz:=ho2.frozenAt (W+k);have hb3:=hb2.setCell (p:=⟨g,W+k,none⟩) (by dsimp only;omega) (.int .i64 1);have hst:=(ho2.stored (W+k) (.int .i64 1)).1;rw [←List.map_set,unit_set HSL.out] at hst;have HR3:=row_keep HR.out hb3;have HW3:=HW.out.keep hb3;have hsz3:=hb3.size;have hbw3:=bT' hb hb3 hsz;have hss:(w2'.setCell ⟨g,W+k,none⟩ (.int .i64 1)).heap.size=w2'.heap.size:=(by simp);have hnw:=news1k (w2'.setCell ⟨g,W+k,none⟩ (.int .i64 1)) (Value.slice (some ⟨g,0,none⟩) (W+N) c2) 22;rw [hss] at hnw;have HN:=Lib.hid hnw;have HO:=Lib.hid (show ∀u∈([Value.slice (some ⟨g,0,none⟩) (W+N) c2]:List Value),u.oneCell'=true by simp [Value.oneCell']);have hba:=bA1 (w2'.setCell ⟨g,W+k,none⟩ (.int .i64 1)) (.cells #[.slice (some ⟨g,0,none⟩) (W+N) c2] 22);have HR4:=Lib.hid (HR3.alloc (.cells #[.slice (some ⟨g,0,none⟩) (W+N) c2] 22));have HW4:=Lib.hid ((HW3.snoc (t:=s++unitR N k) (by rw [List.length_append,HSL.out,unitR_len];exact hst)).keep hba);have HB4:=Lib.hid (bT' hbw3 hba (Nat.le_trans hsz hsz3));have HSZ:=Lib.hid (Nat.le_trans hsz hsz3);have HLT2:Hid ((longR M).take (k+1)=(longR M).take k++[s++unitR N k]):=Lib.hid (by rw [HLT.out,HML.out]);clear hnw hss hx hsk hr1 hr2 ho2 hb hb2 HR HW hb3 hst hbw3 hba HR3 HW3 hg1 hg2 hsz hsz3 hIs
    go_wp2_with (first
     | refine Lib.wpList_append_run _ rfl (.tmp 19) (.tmp 23) 22 22 rfl _ _ rfl rfl _ _ HR1.out ?_
     | refine Lib.wpList_append_run _ rfl (.tmp 24) (.tmp 25) 22 3 rfl _ _ rfl rfl _ _ HR2.out ?_
     | (refine wpList_append_own_wide _ rfl (.tmp 32) (.tmp 34) 68 rfl gO 22 tiR tzR 1 24 Tryz.underlying68 HIR.out HZR.out HSR.out HBtR.out HZsR.out (by omega) (.slice la k lc) k vs rfl HR4.out ⟨w2'.heap.size, 0, none⟩ 1 1 [Value.slice (some ⟨g, 0, none⟩) (W + N) c2] rfl rfl HN.out HO.out (by simp only [maxLen]; omega) (by omega) (by rw [sAl]; have := HSZ.out; omega) (fun v' w' h2 h3 h4 => ?_)
        have hb5:=grown_below HB4.out h3 (fun j e=>(HR4.out.lt j e).1) (by rw [sAl];have:=HSZ.out;omega);have HW5:=Lib.hid (HW4.out.grown HR4.out (by decide) h3);obtain ⟨xa,xc,rfl⟩:=row_slice h2;have H2:=Lib.hid h2
        clear h2 h3 h4))
    go_roundw
    case rel=>exact ⟨k+1,xa,xc,_,by omega,by go_num,rfl,hb5,H2.out,by rw [HLT2.out];exact HW5⟩
    case measure=>simp [intOf] <;> omega
  · have he:k=N:=(by omega);subst he;have hW1:=HW.out;rw [List.take_of_length_le (by rw [longR_len,HML.out];exact Nat.le_refl _)] at hW1;obtain ⟨ta,tc,hte,hTT⟩:=hW1.tab HR.out;simp only [Value.slice.injEq,true_and] at hte;obtain ⟨rfl,rfl⟩:=hte;have HLK:Hid (∀r∈longR M,RowOk (W+k) r):=Lib.hid (by have:=longR_ok HOK.out;rwa [HML.out] at this);have hrl:=redR_le (longR M);rw [longR_len,HML.out] at hrl;have hRR:Hid (RedI (W+k) (redR (longR M))):=Lib.hid (redR_redI HLK.out).1;have hsz:gO≤wr.heap.size:=(by have:=hb.size;have:=HGO.out;omega);clear hW1 HW HR;go_wp2_with fail
    refine (l03Reduce_c (m:=W+k) lc hTT (by omega) (by omega) HLK.out).mono ?_;rintro e w4 ⟨b',N',c',rfl,hL2,hb4⟩;have hNl:N'≤k:=(by have:=hL2.1.1;omega);have hb5:=bT' hb hb4 hsz;have HB5:=Lib.hid hb5;have hsz4:gO≤w4.heap.size:=Nat.le_trans hsz hb4.size;have HL2:=Lib.hid hL2;have HLL:=Lib.hid hL2.1.1;obtain ⟨L,hL⟩:∃L,redR (longR M)=L:=⟨_,rfl⟩;rw [hL] at HL2 HLL hRR;have HLE:=Lib.hid hL;have HSZ4:=Lib.hid hsz4;have hb6:=bA1 w4 (.cells #[] 22);have hR0:=empty_rowG w4 22 (Nat.le_refl w4.heap.size);clear hTT hb hb4 hL2 hL hb5 hsz hsz4 hrl;go_upto_region 11 with fail
    generalize w4.alloc (.cells #[] 22)=w5 at *;have HW0:Hid (RwO w5 w4.heap.size [] (cloR W (L.take 0))):=Lib.hid (RwO.nil _ _);obtain ⟨gC,hgC⟩:∃gC,w4.heap.size=gC:=⟨_,rfl⟩;rw [hgC] at hR0 hb6 HW0
    try rw [hgC]
    have HGC:=Lib.hid hgC;clear hgC;go_upto_region 12 with fail
    go_loopw [9,10] (fun o y wx=>∃(j d:Nat) (oa:Option Addr) (oc:Nat) (vs:List Value),j≤N'∧d≤j∧y=.int .i64 j∧o=.slice oa d oc∧Below gC w4 wx∧wx.ownsRow gC 22 1 (.slice oa d oc) d vs∧Hid (RwO wx gC vs (cloR W (L.take j)))) (fun _ y _=>N' - (intOf y).toNat)
    case atStart=>exact ⟨0,0,_,_,[],Nat.zero_le _,Nat.le_refl _,rfl,rfl,hb6,hR0,HW0⟩
    case round=>
     clear hb6 hR0 HW0;obtain ⟨j,d,oa,oc,vs,hj,hdj,rfl,rfl,hb,hR,HW⟩:=hrel;have HR:=Lib.hid hR;clear hR;have hj0:(0:Int)≤(j:Int):=(by omega);by_cases hin:j<N'
     · obtain ⟨b1,off,s,ai,mi,ci,rfl,hbl,hcs,hIs,hx,hcap⟩:=(HL2.out.keep (by rw [HGC.out];exact hb)).at_ hin;have hsm:=List.mem_of_getElem? hx.out;have hsl:=(hRR.out.ok s hsm).len;have hsf:=hRR.out.fst s hsm;obtain rfl:W+k=mi:=(by have:=hIs.len;omega);have HFI:=Lib.hid (fstI_lt hsl hsf);have hjn:(j:Int)<(N':Int):=(by omega);have hszx:gC≤wr.heap.size:=(by have:=hb.size;have:=HGC.out;omega);by_cases hfw:W≤fstN s
       · have HCL:=Lib.hid (cloR_yes hx.out hfw);have hge:(W:Int)≤(fstN s:Int):=(by omega);obtain ⟨b2,o2,rfl,hb2l,hc2⟩:=hIs.2 (by omega);have HIS0:=Lib.hid hIs;have hne:¬ci=W:=by omega
         have hI2:Ints wr (some ⟨b2,o2+W,none⟩) k (s.drop W):=⟨by rw [List.length_drop,hsl];omega,fun _=>⟨b2,o2+W,rfl,hb2l,fun i hi=>by
          have:=hc2 (W+i) (by omega);rw [←Nat.add_assoc] at this
          rw [this,drop_getD]⟩⟩
         obtain ⟨i6,hi6,hz6,hs6,hby6⟩:=Tryz.info_zero;obtain ⟨v1,w1,hr1,ho1,hg1⟩:=run_append_ints (P:=Tryz.prog) (wr.alloc (.cells #[] 2)) wr.heap.size 22 22 2 i6 _ Tryz.underlying22 hi6 hz6 hs6 hby6 (by rfl) _ 0 [] (empty_rowG wr 2 (Nat.le_refl _)) (ci - W) (hI2.keep (bA1 wr _)) (by omega) (by rw [sAl];omega);have hb3:=grown_below (bA1 wr (.cells #[] 2)) hg1 (fun q e=>by have:wr.heap.size=q:=(by simpa [Value.ownBlock] using e);omega) (by rw [sAl];omega);rw [Nat.zero_add,List.nil_append] at ho1;obtain ⟨va,vc,rfl⟩:=row_slice ho1;have HR1:=Lib.hid hr1;have HR3:=row_keep HR.out hb3;have HW3:=HW.out.keep hb3;have hsz3:=hb3.size;have hbw3:=bT' hb hb3 hszx;have HN:=Lib.hid (news1k w1 (Value.slice va k vc) 22);have HO:=Lib.hid (show ∀u∈([Value.slice va k vc]:List Value),u.oneCell'=true by simp [Value.oneCell']);have hba:=bA1 w1 (.cells #[.slice va k vc] 22);have HR4:=Lib.hid (HR3.alloc (.cells #[.slice va k vc] 22))
         have ho1':w1.ownsRow gC 2 1 (.slice va k vc) (s.drop W).length ((s.drop W).map (Value.int .i64)):=by
          have:=row_weak ho1 hszx
          rwa [show (s.drop W).length=k by rw [List.length_drop,hsl];omega]
         have HW4:=Lib.hid ((HW3.snoc ho1').keep hba);have HB4:=Lib.hid (bT' hbw3 hba (Nat.le_trans hszx hsz3));have HSZ:=Lib.hid (Nat.le_trans hszx hsz3);clear hx hsm hsl hsf hr1 ho1 ho1' hb hb3 HR HW hbw3 hba HR3 HW3 hg1 hszx hsz3 hIs hI2 hc2 hcap hi6 hz6 hs6 hby6;have HIS:=Lib.hid (show Ints wr (some ⟨b2,o2,none⟩) (W+k) s from HIS0.out);go_wp2_with fail
         refine (l03First_c ci HIS.out (by omega)).mono ?_;rintro e w6 ⟨rfl,rfl⟩;rw [HFI.out]
         go_wp2_with (first
          | refine Lib.wpList_append_run _ rfl (.tmp 53) (.tmp 59) 22 22 rfl _ _ rfl rfl _ _ HR1.out ?_
          | (refine wpList_append_own_wide _ rfl (.tmp 52) (.tmp 61) 68 rfl gC 22 tiR tzR 1 24 Tryz.underlying68 HIR.out HZR.out HSR.out HBtR.out HZsR.out (by omega) (.slice oa d oc) d vs rfl HR4.out ⟨w1.heap.size, 0, none⟩ 1 1 [Value.slice va k vc] rfl rfl HN.out HO.out (by simp only [maxLen]; omega) (by omega) (by rw [sAl]; have := HSZ.out; omega) (fun v' w' h2 h3 h4 => ?_)
             have hb7:=grown_below HB4.out h3 (fun j e=>(HR4.out.lt j e).1) (by rw [sAl];have:=HSZ.out;omega);have HW7:=Lib.hid (HW4.out.grown HR4.out (by decide) h3);obtain ⟨xa,xc,rfl⟩:=row_slice h2;have H2:=Lib.hid h2
             clear h2 h3 h4))
         go_roundw
         case rel=>exact ⟨j+1,d+1,xa,xc,_,by omega,by omega,by go_num,rfl,hb7,H2.out,by rw [HCL.out];exact HW7⟩
         case measure=>simp [intOf] <;> omega
       · have HCL:=Lib.hid (cloR_no hx.out hfw);have hge:¬(W:Int)≤(fstN s:Int):=(by omega);have HIS:=Lib.hid hIs;clear hx hsm hsl hsf hIs hcap;go_wp2_with fail
         refine (l03First_c ci HIS.out (by omega)).mono ?_;rintro e w6 ⟨rfl,rfl⟩;rw [HFI.out];go_wp2_with fail
         go_roundw
         case rel=>exact ⟨j+1,d,oa,oc,vs,by omega,by omega,by go_num,rfl,hb,HR.out,by rw [HCL.out];exact HW.out⟩
         case measure=>simp [intOf] <;> omega
     · have he:j=N':=(by omega);subst he;have hW1:=HW.out;rw [List.take_of_length_le (Nat.le_of_eq HLL.out)] at hW1;obtain ⟨ta,tc,hte,hTT⟩:=hW1.tab HR.out;simp only [Value.slice.injEq,true_and] at hte;obtain ⟨rfl,rfl⟩:=hte;have HCK:Hid (∀r∈cloR W L,RowOk k r):=Lib.hid (cloR_red hRR.out).ok;have hbX:=bT' HB5.out (by rw [←HGC.out] at hb;exact hb) HSZ4.out;have hszx:gO≤wr.heap.size:=(by have:=hbX.size;have:=HGO.out;omega);have HEQ:Hid (redR (cloR W L)=cloR W (redR (longR M))):=Lib.hid (by rw [←HLE.out];exact cloR_self HOK.out);clear hW1 HW HR hb;go_wp2_with fail
       refine (l03Reduce_c (m:=k) oc hTT (by omega) (by omega) HCK.out).mono ?_;rintro e w7 ⟨b8,N8,c8,rfl,hL8,hb8⟩;have hb9:=bT' hbX hb8 hszx;clear hTT hbX hb8;go_wp2_with fail
       go_ret
       exact ⟨b8,N8,c8,rfl,by rw [←HEQ.out];exact hL8.1,by rw [HGO.out];exact hb9⟩
end Go.Proofs.YtifcfoijcodjbaaGreat
