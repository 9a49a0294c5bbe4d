
import Derived.Test.YtifcfoijcodjbaaGreatAskC
import Derived.Test.YtifcfoijcodjbaaGreatRows3
import Derived.Lib.AppendZerosOnto
import Derived.Deep.DeepAppendWide
import Derived.Test.YtifcfoijcodjbaaGreatOpen
import Derived.Test.YtifcfoijcodjbaaGreatSingle
import Derived.Lib.AppendZeros
namespace Go.Proofs.YtifcfoijcodjbaaGreat
set_option maxRecDepth 100000
open Go.RowKit Go.Deep
theorem l01Mons_m {w : World} {da : Option Addr} {dn m : Nat} {zs : List Int} (dc : Nat) (hd : Ints w da dn zs) (hz : degsOk zs = true) (hm : m ≤ 40) (hc : cnt zs m ≤ 120) :
    Calls Tryz.prog 109 #[.slice da dn dc,.int .i64 m] w fun e w'=>∃la lc,e=.returned (.slice la (cnt zs m) lc)∧Mos w' la (cnt zs m) (side zs m)∧Below w.heap.size w w':=by
 refine (l01Monomials_c (r:=m) dc hd hz (by omega)).mono ?_
 rintro e w' ⟨ra,rn,rc,rfl,hM,hb⟩
 rw [side_take (by omega)] at hM
 obtain rfl:cnt zs m=rn:=by rw [←hM.1,side_len]
 exact ⟨ra,rc,rfl,hM.mos,hb⟩
theorem nbR_lt2 {zs:List Int} {m:Nat} (h:¬m=0→cnt zs (m - 1)≤120):nbR zs m≤120:=by
 rw [nbR]
 split
 · omega
 · rename_i h0;exact h h0
set_option maxHeartbeats 1000000 in
theorem l03Bounds_c {w : World} {da : Option Addr} {dn : Nat} {zs : List Int} {a : Option Addr} {k : Nat} {ims : List (List Tm)} {m : Nat} (dc c : Nat) (hd : Ints w da dn zs) (hF : Frms w a k ims) (HA : AlgOk zs ims) (hA : isAlg zs ims = true) (hz : degsOk zs = true) (hm : m ≤ 20) (hc1 : cnt zs m ≤ 120) (_hc2 : cnt zs (m + 1) ≤ 120) (hl : ¬ m = 0 → cnt zs (m - 1) ≤ 120) :
    Calls Tryz.prog 110 #[.agg #[.slice da dn dc,.slice a k c],.int .i64 m] w fun e w'=>∃ra rn rc,e=.returned (.slice ra rn rc)∧Tab w' ra rn (bdR zs ims m)∧Below w.heap.size w w':=by
 have hO:=Own.new w 35 #[.slice da dn dc,.slice a k c]
 have hb:=bA1 w (.cells #[.slice da dn dc,.slice a k c] 35)
 by_cases h0:m=0
 · subst h0;go_enter Tryz.func110,Tryz.ntmps110
   go_wp2_with fail
   go_ret
   exact ⟨_,0,⟨_,rfl⟩,⟨by rw [bdR,if_pos rfl];rfl,fun h=>absurd h (by omega)⟩,bTn hb (bA1 _ _)⟩
 · have hmb:((m:Int)==0)=false:=(by simpa using h0);have hw1:IntKind.i64.wrap ((m:Int) - 1)=((m - 1:Nat):Int):=(by rw [IntWalk.i64_in _ (by omega)];omega);have hl2:=hl h0;have hHd:=Lib.hid hd;have hHF:=Lib.hid hF;have HL2:=Lib.hid hl2;have HC1:=Lib.hid hc1;have HV:=Lib.hid (mrR_low HA hz h0);have HB:Hid (bdR zs ims m=redR (mrR zs ims (m - 1))):=Lib.hid (by rw [bdR,if_neg h0]);have HM1:Hid (m - 1+1=m):=Lib.hid (by omega);have c0:=hO.cell 0;have c1:=hO.cell 1;clear hd hF hl hl2;go_enter Tryz.func110,Tryz.ntmps110
   go_wp2_with fail
   refine (l03Matrix_c (m:=m - 1) dc c (hHd.out.keep hb) (hHF.out.keep hb) HA hA hz (degs_one hz) (by omega) HL2.out (by rw [HM1.out];exact HC1.out)).mono ?_;rintro e w1 ⟨ra,rc,rfl,hT,hb1⟩;have hb2:=bT' hb hb1 hb.size;have hTb:Tab w1 ra (cnt zs (m - 1)) (mrR zs ims (m - 1)):=hT.tab;clear hT hb hb1 c0 c1 hO;go_wp2_with fail
   refine (l03Reduce_c (m:=cnt zs m) rc hTb (by have:=HC1.out;omega) (by have:=HL2.out;omega) HV.out).mono ?_;rintro e w2 ⟨b',N',c',rfl,hT2,hb3⟩;have hb4:=bT' hb2 hb3 hb2.size;clear hb2 hb3 hTb;go_wp2_with fail
   go_ret
   exact ⟨b',N',c',rfl,by rw [HB.out];exact hT2.1,hb4⟩
theorem zeroCells_one (z0:Value) (n:Nat):Builtin.zeroCells #[z0] n=(List.replicate n z0).toArray:=by
 apply Array.ext
 · simp [size_zeroCells]
 · intro i h1 h2;simp [Builtin.zeroCells,Nat.mod_one]
theorem run_append_zeros {P : Program} (w : World) (base : Nat) (t tn ty e : TypeId) (i : TypeInfo) (z z0 : Value) (kq kn : IntKind) (ht : P.underlying t = some (.slice e)) (htn : P.underlying tn = some (.int kn)) (hi : P.info? e = some i) (hz : i.zero = some z) (hs : i.size = 1) (hby : i.bytes = 8) (hzc : z.cells = #[z0]) (h1 : z0.oneCell' = true)
    (v:Value) (n:Nat) (xs:List Value) (hown:w.ownsRow base e 1 v n xs) (m:Nat) (hb:n+m≤1000000) (hbase:base≤w.heap.size) :
    ∃v' w',(Builtin.append_ #[t,tn] ty #[v,.int kq m]).run P w=.ok v' w'∧w'.ownsRow base e 1 v' (n+m) (xs++List.replicate m z0)∧w.grownBy w' v.ownBlock:=by
 have hxs:xs.length=n:=by rw [hown.1,Nat.mul_one]
 have hw:IntKind.i64.wrap (m:Int)=m:=by rw [IntKind.wrap_i64];omega
 have hneg:¬((m:Int)<0):=by omega
 have h48i:¬(281474976710656<(m:Int) * (i.bytes:Int)):=by rw [hby];omega
 have grown : ∀ (old : Nat), old < n + m → ∀ (row : Option Nat),
     (w.drew.alloc (.cells (xs.toArray++Builtin.zeroCells z.cells m++Builtin.zeroCells z.cells (grownCap w (n+m) old e - (n+m))) e)).ownsRow base e 1 (.slice (some ⟨w.heap.size,0,none⟩) (n+m) (grownCap w (n+m) old e)) (n+m) (xs++List.replicate m z0) ∧
     w.grownBy (w.drew.alloc (.cells (xs.toArray++Builtin.zeroCells z.cells m++Builtin.zeroCells z.cells (grownCap w (n+m) old e - (n+m))) e)) row:=by
  intro old ho row;have hge:=grownCap_ge w (n+m) old e;have hcm:grownCap w (n+m) old e≤maxLen:=grownCap_le_maxLen w (n+m) old e (by simp only [maxLen];omega);have hl:(xs++List.replicate m z0).length=(n+m) * 1:=(by rw [List.length_append,List.length_replicate,hxs,Nat.mul_one]);refine ⟨⟨hl,.inr ⟨w.heap.size,_,_,rfl,hbase,heap_alloc_new w.drew _,hge,hcm,?_,?_⟩⟩,⟨rfl,rfl,rfl,by simp,fun k hk _=>Go.heap_alloc_old w.drew _ hk⟩⟩
  · simp only [hzc,zeroCells_one,Array.size_append,List.size_toArray,List.length_replicate,hxs];omega
  · simp only [hzc,zeroCells_one,Array.toList_append,←hl];exact List.take_left
 rcases hown.2 with ⟨rfl,rfl⟩ | ⟨g,cap,cur,rfl,hbg,hg,hnc,hcm,hcs,htake⟩
 · have hx:xs=[]:=List.eq_nil_of_length_eq_zero hxs;subst hx;by_cases hm:m=0
   · subst hm;refine ⟨.slice none 0 0,w,?_,World.ownsRow_nil w base e 1,⟨rfl,rfl,rfl,Nat.le_refl _,fun _ _ _=>rfl⟩⟩;simp [Builtin.append_,run_underlying ht,run_underlying htn,sizeOf,typeInfo,hi,asInt,asIntOf,IntKind.wrap_i64]
   · have hr:=Lib.run_append_nil_zeros (P:=P) w t tn ty e i z kq kn ht htn hi hz m (by omega) (by omega) (by omega) (by rw [hby];omega);have hgr:=grown 0 (by omega) (Value.ownBlock (.slice none 0 0));simp only [Nat.zero_add,List.nil_append,Array.empty_append] at hgr ⊢;exact ⟨_,_,hr,hgr.1,hgr.2⟩
 · by_cases hroom:n+m≤cap
   · have hst:=run_storeCells_at P g (n * i.size) e (List.replicate m z0) 0 cur w hg (by rw [hs,List.length_replicate,hcs];omega) (fun u hu=>by rw [(List.mem_replicate.1 hu).2];exact h1);simp only [Nat.add_zero] at hst;refine ⟨.slice (some ⟨g,0,none⟩) (n+m) cap,w.setRow g (cur.toList.take (n * i.size)++List.replicate m z0++cur.toList.drop (n * i.size+(List.replicate m z0).length)).toArray,?_,⟨by rw [List.length_append,List.length_replicate,hxs,Nat.mul_one],.inr ⟨g,cap,_,rfl,hbg,setRow_heap w g cur _ e _ hg,hroom,hcm,?_,?_⟩⟩,⟨rfl,rfl,rfl,by simp,fun k _ hk=>setRow_other w g k _ (fun e=>hk (by simp [Value.ownBlock,e]))⟩⟩
     · by_cases hm:m=0
       · subst hm;simp at hst
         simp [Builtin.append_,run_underlying ht,run_underlying htn,sizeOf,typeInfo,hi,asInt,asIntOf,IntKind.wrap_i64,hnc,Addr.add_lit,hst]
       · have hns:¬(m * i.size=0):=Nat.mul_ne_zero hm (by omega);simp [Builtin.append_,run_underlying ht,run_underlying htn,sizeOf,typeInfo,zeroValue,hi,hz,asInt,asIntOf,hw,hneg,hns,h48i,hroom,Addr.add_lit,hzc,zeroCells_one,hst]
     · simp only [List.size_toArray,List.length_append,List.length_take,List.length_drop,Array.length_toList,List.length_replicate,hs];omega
     · rw [hs,htake];have hl:(xs++List.replicate m z0).length=(n+m) * 1:=(by rw [List.length_append,List.length_replicate,hxs,Nat.mul_one]);rw [←hl];exact List.take_left
   · have hold : (Builtin.firstCells i.size n (.slice (some ⟨g, 0, none⟩) n cap)).run P w.drew = .ok xs.toArray w.drew := by
       have holds:∀j u,xs[j]? = some u→w.drew.cell? ((⟨g,0,none⟩:Addr).add j)=some u:=hown.cells (g:=g) rfl;exact run_firstCells_some w.drew i.size n ⟨g,0,none⟩ n cap xs (by rw [hs,hxs,Nat.mul_one]) holds
     have hr:=Lib.run_append_grow_zeros (P:=P) w t tn ty e i z kq kn ht htn hi hz (some ⟨g,0,none⟩) n cap xs hold m (by omega) (by omega) (by omega) (by omega) (by rw [hby];omega) (growslice_fits_wide (by omega) (by rw [hby];omega));have hgr:=grown cap (by omega) (Value.ownBlock (.slice (some ⟨g,0,none⟩) n cap));exact ⟨_,_,hr,hgr.1,hgr.2⟩
theorem run_append_ints {P : Program} (w : World) (base : Nat) (t ty e : TypeId) (i : TypeInfo) (z : Value) (ht : P.underlying t = some (.slice e)) (hi : P.info? e = some i) (hz : i.zero = some z) (hs : i.size = 1) (hby : i.bytes = 8) (hzs : z.cells.size = 1)
    (v:Value) (n:Nat) (xs:List Value) (hown:w.ownsRow base e 1 v n xs) {ai:Option Addr} {m:Nat} {zs:List Int} (c:Nat) (hI:Ints w ai m zs) (hb:n+m≤1000000) (hbase:base≤w.heap.size) :
    ∃v' w',(Builtin.append_ #[t,t] ty #[v,.slice ai m c]).run P w=.ok v' w'∧w'.ownsRow base e 1 v' (n+m) (xs++zs.map (Value.int .i64))∧w.grownBy w' v.ownBlock:=by
 have hl:(zs.map (Value.int .i64)).length=m * 1:=by rw [List.length_map,hI.len,Nat.mul_one]
 have hone:∀u∈zs.map (Value.int .i64),u.oneCell'=true:=fun u hu=>by
  obtain ⟨x,-,rfl⟩:=List.mem_map.1 hu;rfl
 have some_:∀ad,ai=some ad→(∀j u,(zs.map (Value.int .i64))[j]? = some u→w.cell? (ad.add j)=some u)→∃v' w',(Builtin.append_ #[t,t] ty #[v,.slice ai m c]).run P w=.ok v' w'∧w'.ownsRow base e 1 v' (n+m) (xs++zs.map (Value.int .i64))∧w.grownBy w' v.ownBlock:=fun ad ha hn=>by
  subst ha;obtain ⟨v',w',h1,h2,h3,-⟩:=run_append_own_wide (P:=P) w base t ty e i z 1 8 ht hi hz hs hby hzs (by omega) v n xs hown ad m c (zs.map (Value.int .i64)) hl hn hone (by simp only [maxLen];omega) (by omega) hbase;exact ⟨v',w',h1,h2,h3⟩
 by_cases hm:0<m
 · obtain ⟨b,off,ha,hbl,hc⟩:=hI.2 hm;refine some_ _ ha (fun j u hu=>?_);rw [List.getElem?_map] at hu
   cases hx:zs[j]? with
   | none=>rw [hx] at hu;simp at hu
   | some x =>
     rw [hx,Option.map_some,Option.some.injEq] at hu;subst hu;have hj:j<m:=(by rw [←hI.len];exact (List.getElem?_eq_some_iff.1 hx).1);have:=hc j hj;rw [getD_of (by rw [hI.len];exact hj),Option.some.injEq] at hx;rw [Addr.add_lit,←hx];exact this
 · obtain rfl:m=0:=(by omega);obtain rfl:zs=[]:=List.eq_nil_of_length_eq_zero hI.len
   cases ai with
   | some ad=>exact some_ ad rfl (by simp)
   | none =>
     refine ⟨v,w,?_,by simpa using hown,⟨rfl,rfl,rfl,Nat.le_refl _,fun _ _ _=>rfl⟩⟩
     rcases hown.2 with ⟨rfl,rfl⟩ | ⟨g,cap,cur,rfl,hbg,hg,hnc,hcm,hcs,htake⟩
     · simp [Builtin.append_,run_underlying ht,sizeOf,typeInfo,hi,Builtin.lenOf,Builtin.firstCells]
     · simp [Builtin.append_,run_underlying ht,sizeOf,typeInfo,hi,Builtin.lenOf,Builtin.firstCells,hnc,Addr.add_lit,storeCells]
def RwO (w:World) (B:Nat) (vals:List Value) (R:List (List Int)):Prop:=vals.length=R.length∧∀(q:Nat) v t,vals[q]? = some v→R[q]? = some t→w.ownsRow B 2 1 v t.length (t.map (Value.int .i64))
section
variable {w w':World} {B:Nat} {vals:List Value} {R:List (List Int)}
theorem RwO.nil (w:World) (B:Nat):RwO w B [] []:=⟨rfl,by simp⟩
theorem RwO.keep (h:RwO w B vals R) (hb:Below w.heap.size w w'):RwO w' B vals R:=⟨h.1,fun q v t h1 h2=>row_keep (h.2 q v t h1 h2) hb⟩
theorem RwO.grown {C n:Nat} {x:Value} {xs:List Value} {ty:TypeId} (h:RwO w B vals R) (ho:w.ownsRow C ty 1 x n xs) (ht:2≠ty) (hg:w.grownBy w' x.ownBlock):RwO w' B vals R:=⟨h.1,fun q v t h1 h2=>by
 have h3:=h.2 q v t h1 h2
 refine h3.kept hg ?_
 cases hv:v.ownBlock with
 | none=>exact Or.inl rfl
 | some b=>exact Or.inr (fun e=>Apt.types h3 ho ht b hv e.symm)⟩
theorem RwO.snoc {v:Value} {t:List Int} (h:RwO w B vals R) (hv:w.ownsRow B 2 1 v t.length (t.map (Value.int .i64))):RwO w B (vals++[v]) (R++[t]):=⟨by simp [h.1],fun q u s h1 h2=>by
 by_cases e:q<vals.length
 · rw [List.getElem?_append_left e] at h1;rw [List.getElem?_append_left (by rw [←h.1];exact e)] at h2;exact h.2 q u s h1 h2
 · rw [List.getElem?_append_right (by omega)] at h1;rw [List.getElem?_append_right (by rw [←h.1];omega)] at h2;obtain ⟨g1,g2⟩:=List.getElem?_eq_some_iff.1 h1;obtain ⟨g3,g4⟩:=List.getElem?_eq_some_iff.1 h2;simp at g1 g2 g3 g4
   subst g2 g4
   exact hv⟩
theorem ints_row {n:Nat} {v:Value} {t:List Int} (h:w.ownsRow B 2 1 v n (t.map (Value.int .i64))) (hn:t.length=n):∃a c,v=.slice a n c∧Ints w a n t:=by
 rcases h.2 with ⟨h0,h1⟩ | ⟨g,cap,cur,hv,_,hg,hnc,_,hcs,htk⟩
 · exact ⟨none,0,by rw [h1];exact h0,hn,fun h=>by omega⟩
 · refine ⟨some ⟨g,0,none⟩,cap,hv,hn,fun _=>⟨g,0,rfl,(show Own w g _ cur from hg).lt,fun i hi=>?_⟩⟩;rw [Nat.zero_add,(show Own w g _ cur from hg).cell i];have hx:(t.map (Value.int .i64))[i]? = some (.int .i64 (t.getD i 0)):=(by rw [List.getElem?_map,getD_of (by omega)];rfl);rw [←htk,List.getElem?_take,if_pos (by omega)] at hx;simpa using hx
theorem RwO.tab {C n:Nat} {v:Value} (h:RwO w B vals R) (ho:w.ownsRow C 22 1 v n vals):∃a c,v=.slice a n c∧Tab w a n R:=by
 have hl:vals.length=n:=by rw [ho.1,Nat.mul_one]
 rcases ho.2 with ⟨h0,h1⟩ | ⟨g,cap,cur,hv,_,hg,hnc,_,hcs,htk⟩
 · exact ⟨none,0,by rw [h1];exact h0,by rw [←h.1];exact hl,fun h=>by omega⟩
 · refine ⟨some ⟨g,0,none⟩,cap,hv,by rw [←h.1];exact hl,fun _=>⟨g,0,rfl,(show Own w g _ cur from hg).lt,fun i t hi=>?_⟩⟩;have hin:i<vals.length:=(by rw [h.1];exact (List.getElem?_eq_some_iff.1 hi).1);have hvi:vals[i]? = some vals[i]:=List.getElem?_eq_getElem hin;obtain ⟨ai,ci,e,hI⟩:=ints_row (h.2 i _ t hvi hi) rfl;refine ⟨ai,ci,?_,hI⟩;rw [Nat.zero_add,(show Own w g _ cur from hg).cell i];rw [e,←htk,List.getElem?_take,if_pos (by omega)] at hvi;simpa using hvi
end
theorem longR_take {M:List (List Int)} {k:Nat} {r:List Int} (h:M[k]? = some r):(longR M).take (k+1)=(longR M).take k++[r++unitR M.length k]:=by
 have h1:=longR_get h
 obtain ⟨h2,h3⟩:=List.getElem?_eq_some_iff.1 h1
 rw [List.take_succ_eq_append_getElem h2,h3]
theorem cloR_yes {W k:Nat} {L:List (List Int)} {r:List Int} (h:L[k]? = some r) (hb:W≤fstN r):cloR W (L.take (k+1))=cloR W (L.take k)++[r.drop W]:=by
 obtain ⟨h1,rfl⟩:=List.getElem?_eq_some_iff.1 h
 rw [cloR,List.take_succ_eq_append_getElem h1,List.filter_append,List.map_append,cloR]
 simp [hb]
theorem cloR_no {W k:Nat} {L:List (List Int)} {r:List Int} (h:L[k]? = some r) (hb:¬W≤fstN r):cloR W (L.take (k+1))=cloR W (L.take k):=by
 obtain ⟨h1,rfl⟩:=List.getElem?_eq_some_iff.1 h
 rw [cloR,List.take_succ_eq_append_getElem h1,List.filter_append,List.map_append,cloR]
 simp [show fstN L[k]<W by omega]
theorem unit_set {r:List Int} {W n k:Nat} (hr:r.length=W):(r++List.replicate n (0:Int)).set (W+k) 1=r++unitR n k:=by
 rw [List.set_append_right _ _ (by omega),hr,show W+k - W=k by omega,unitR]
end Go.Proofs.YtifcfoijcodjbaaGreat
