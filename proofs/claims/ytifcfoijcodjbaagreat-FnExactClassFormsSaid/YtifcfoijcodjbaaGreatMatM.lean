
import Derived.Test.YtifcfoijcodjbaaGreatAlg
import Derived.Stop.BytesEq
import Derived.Test.YtifcfoijcodjbaaGreatRows3
import Derived.Test.YtifcfoijcodjbaaGreatSplP
import Derived.Test.YtifcfoijcodjbaaGreatDiffD
import Derived.Test.YtifcfoijcodjbaaGreatSingle
namespace Go.Proofs.YtifcfoijcodjbaaGreat
set_option maxRecDepth 100000
open Go.RowKit Go.Deep
theorem u8s_beq {m k:List Int} (hm:∀x∈m,0≤x∧x≤255) (hk:∀x∈k,0≤x∧x≤255):(m.map (fun x=>UInt8.ofNat x.toNat)==k.map (fun x=>UInt8.ofNat x.toNat))=decide (m=k):=by
 have back:∀l:List Int,(∀x∈l,0≤x∧x≤255)→(l.map (fun x=>UInt8.ofNat x.toNat)).map (fun u=>((u.toNat:Nat):Int))=l:=by
  intro l
  induction l with
  | nil=>intro _;rfl
  | cons a l ih =>
    intro h;have ha:=h a (by simp);rw [List.map_cons,List.map_cons,ih (fun x hx=>h x (by simp [hx]))];congr 1
    rw [UInt8.toNat_ofNat',Nat.mod_eq_of_lt (by omega)];omega
 rw [Bool.eq_iff_iff,beq_iff_eq,decide_eq_true_eq]
 constructor
 · intro h;rw [←back m hm,←back k hk,h]
 · intro h;rw [h]
theorem mcells_u8 {m:List Int} (hm:∀x∈m,0≤x∧x≤255):mcells m=(m.map (fun x=>UInt8.ofNat x.toNat)).map Extern.Stop.cell:=by
 rw [mcells,List.map_map]
 apply List.map_congr_left
 intro x hx
 have ha:=hm x hx
 simp only [Function.comp_def,Extern.Stop.cell,UInt8.toNat_ofNat']
 rw [Nat.mod_eq_of_lt (by omega)]
 congr 1
 exact (Int.toNat_of_nonneg ha.1).symm
theorem eqM_run {w:World} {m k:List Int} (hm:IsMono m) (hk:IsMono k):(Op.equalIn 10000 156 (.agg (mcells m).toArray) (.agg (mcells k).toArray)).run Tryz.prog w=.ok (decide (m=k)) w:=by
 rw [mcells_u8 hm.2,mcells_u8 hk.2,←u8s_beq hm.2 hk.2]
 exact run_equalIn_bytes w 9998 156 5 8 Tryz.underlying156 Tryz.underlying5 (fun w=>by kernel_rfl) _ _ (by rw [List.length_map,hm.1]) (by rw [List.length_map,hk.1])
def Inv3 (V:List (List Int)) (ts:List Tm) (j k:Nat):Prop:=(∀t∈ts.take j,t.m∈V.take k)∧∀t∈ts.drop j,¬t.m∈V.take k
def vecTo (V:List (List Int)) (ts:List Tm) (k:Nat):List Int:=rowT (V.take k) ts++List.replicate (V.length - k) 0
theorem vecTo_len {V:List (List Int)} {ts:List Tm} {k:Nat} (hk:k≤V.length):(vecTo V ts k).length=V.length:=by
 rw [vecTo,List.length_append,rowT_len,List.length_take,List.length_replicate]
 omega
theorem vecTo_set {V:List (List Int)} {ts:List Tm} {k:Nat} {m:List Int} {x:Int} (hk:V[k]? = some m) (hx:coef ts m=x):(vecTo V ts k).set k x=vecTo V ts (k+1):=by
 have hl:=(List.getElem?_eq_some_iff.1 hk).1
 have h1:(rowT (V.take k) ts).length=k:=by rw [rowT_len,List.length_take];omega
 rw [vecTo,List.set_append_right _ _ (by omega),h1,Nat.sub_self,show V.length - k=(V.length - (k+1))+1 by omega,List.replicate_succ,List.set_cons_zero,vecTo,List.take_add_one,hk,Option.toList_some,rowT,rowT,List.map_append,List.map_cons,List.map_nil,hx,List.append_assoc]
 rfl
theorem vecTo_skip {V:List (List Int)} {ts:List Tm} {k:Nat} {m:List Int} (hk:V[k]? = some m) (hx:coef ts m=0):vecTo V ts k=vecTo V ts (k+1):=by
 have hl:=(List.getElem?_eq_some_iff.1 hk).1
 rw [vecTo,show V.length - k=(V.length - (k+1))+1 by omega,List.replicate_succ,vecTo,List.take_add_one,hk,Option.toList_some,rowT,rowT,List.map_append,List.map_cons,List.map_nil,hx,List.append_assoc]
 rfl
theorem coef_at {ts:List Tm} (h:Srt ts) {j:Nat} {t:Tm} (hj:ts[j]? = some t):coef ts t.m=t.f:=by
 induction ts generalizing j with
 | nil=>simp at hj
 | cons u ts ih =>
   cases j with
   | zero =>
     simp only [List.getElem?_cons_zero,Option.some.injEq] at hj;subst hj;exact coef_hit rfl
   | succ j =>
     rw [List.getElem?_cons_succ] at hj;have h2:=List.pairwise_cons.1 h;have hb:=h2.1 t (List.mem_of_getElem? hj);rw [coef_miss (fun e=>by rw [e,before_self] at hb;cases hb)];exact ih h2.2 hj
theorem Ord.not_take {V:List (List Int)} (ho:Ord V) {k:Nat} {m:List Int} (hk:V[k]? = some m):¬m∈V.take k:=by
 intro h
 obtain ⟨i,hi,he⟩:=List.mem_iff_getElem.1 h
 rw [List.length_take] at hi
 rw [List.getElem_take] at he
 have:=ho.inj (m:=m) (i:=i) (j:=k) (by rw [List.getElem?_eq_getElem (by omega),he]) hk
 omega
theorem Inv3.hit {V:List (List Int)} {ts:List Tm} {j k:Nat} {t:Tm} (h:Inv3 V ts j k) (hs:Srt ts) (hj:ts[j]? = some t) (hk:V[k]? = some t.m):Inv3 V ts (j+1) (k+1):=by
 have hd:ts.drop j=t::ts.drop (j+1):=by
  obtain ⟨h1,rfl⟩:=List.getElem?_eq_some_iff.1 hj;exact List.drop_eq_getElem_cons h1
 have hsd:Srt (ts.drop j):=List.Pairwise.sublist (List.drop_sublist j ts) hs
 rw [hd] at hsd
 have h2:=(List.pairwise_cons.1 hsd).1
 constructor
 · intro u hu;rw [List.take_add_one,hj,Option.toList_some,List.mem_append,List.mem_singleton] at hu;rw [List.take_add_one,hk,Option.toList_some,List.mem_append,List.mem_singleton]
   rcases hu with hu | rfl
   · exact Or.inl (h.1 u hu)
   · exact Or.inr rfl
 · intro u hu hm;rw [List.take_add_one,hk,Option.toList_some,List.mem_append,List.mem_singleton] at hm
   rcases hm with hm | hm
   · exact h.2 u (by rw [hd];exact List.mem_cons_of_mem _ hu) hm
   · have:=h2 u hu;rw [hm,before_self] at this;cases this
theorem Inv3.miss {V:List (List Int)} {ts:List Tm} {j k:Nat} {t:Tm} {m:List Int} (h:Inv3 V ts j k) (ho:Ord V) (hs:Srt ts) (hmem:∀t∈ts,t.m∈V) (hj:ts[j]? = some t) (hk:V[k]? = some m) (hne:¬t.m=m):Inv3 V ts j (k+1)∧coef ts m=0:=by
 have hd:ts.drop j=t::ts.drop (j+1):=by
  obtain ⟨h1,rfl⟩:=List.getElem?_eq_some_iff.1 hj;exact List.drop_eq_getElem_cons h1
 have hsd:Srt (ts.drop j):=List.Pairwise.sublist (List.drop_sublist j ts) hs
 rw [hd] at hsd
 have h2:=(List.pairwise_cons.1 hsd).1
 obtain ⟨i,hi⟩:∃i,V[i]? = some t.m:=List.mem_iff_getElem?.1 (hmem t (List.mem_of_getElem? hj))
 have hki:k<i:=by
  by_cases e:i=k
  · subst e;rw [hk,Option.some.injEq] at hi;exact absurd hi.symm hne
  · by_cases h3:i<k
    · refine absurd ?_ (h.2 t (by rw [hd];exact List.mem_cons_self));obtain ⟨h4,h5⟩:=List.getElem?_eq_some_iff.1 hi;exact List.mem_iff_getElem.2 ⟨i,by rw [List.length_take];omega,by rw [List.getElem_take];exact h5⟩
    · omega
 have hmt:=ho.lt hk hi hki
 have hno:∀u∈ts.drop j,¬u.m=m:=by
  intro u hu e;rw [hd] at hu
  rcases List.mem_cons.1 hu with rfl | hu
  · exact hne e
  · have h3:=h2 u hu;rw [before,decide_eq_true_eq,e] at h3;have h4:=cmpM_trans _ _ _ hmt h3;rw [cmpM_self] at h4;omega
 refine ⟨⟨fun u hu=>?_,fun u hu hm=>?_⟩,coef_none fun u hu e=>?_⟩
 · rw [List.take_add_one,List.mem_append];exact Or.inl (h.1 u hu)
 · rw [List.take_add_one,hk,Option.toList_some,List.mem_append,List.mem_singleton] at hm
   rcases hm with hm | hm
   · exact h.2 u hu hm
   · exact hno u hu hm
 · rw [←List.take_append_drop j ts,List.mem_append] at hu
   rcases hu with hu | hu
   · have:=h.1 u hu;rw [e] at this;exact ho.not_take hk this
   · exact hno u hu e
theorem Inv3.done {V:List (List Int)} {ts:List Tm} {k:Nat} (h:Inv3 V ts ts.length k) (ho:Ord V):vecTo V ts k=rowT V ts:=by
 have h0:∀m∈V.drop k,coef ts m=0:=by
  intro m hm;refine coef_none fun t ht e=>?_;have h1:=h.1 t (by rw [List.take_length];exact ht);rw [e] at h1;obtain ⟨i,hi,he⟩:=List.mem_iff_getElem.1 hm;rw [List.length_drop] at hi;rw [List.getElem_drop] at he;obtain ⟨i',hi',he'⟩:=List.mem_iff_getElem.1 h1;rw [List.length_take] at hi';rw [List.getElem_take] at he';have:=ho.inj (m:=m) (i:=k+i) (j:=i') (by rw [List.getElem?_eq_getElem (by omega),he]) (by rw [List.getElem?_eq_getElem (by omega),he']);omega
 have h1:rowT V ts=rowT (V.take k) ts++(V.drop k).map (coef ts):=by
  rw [rowT,rowT,←List.map_append,List.take_append_drop]
 rw [h1,vecTo]
 congr 1
 symm
 rw [List.eq_replicate_iff]
 refine ⟨by simp,fun x hx=>?_⟩
 obtain ⟨m,hm,rfl⟩:=List.mem_map.1 hx
 exact h0 m hm
theorem vecTo_end {V:List (List Int)} {ts:List Tm} {n:Nat} (h:V.length=n):vecTo V ts n=rowT V ts:=by
 subst h
 rw [vecTo,List.take_length,Nat.sub_self,List.replicate_zero,List.append_nil]
theorem nine8 {w':World} {b o:Nat} {m0 m1 m2 m3 m4 m5 m6 m7 f:Int} (h:w'.rangeAt b o (tcells ⟨[m0,m1,m2,m3,m4,m5,m6,m7],f⟩)):w'.cell? ⟨b,o,none⟩=some (.int .u8 m0)∧w'.cell? ⟨b,o+1,none⟩=some (.int .u8 m1)∧w'.cell? ⟨b,o+2,none⟩=some (.int .u8 m2)∧w'.cell? ⟨b,o+3,none⟩=some (.int .u8 m3)∧w'.cell? ⟨b,o+4,none⟩=some (.int .u8 m4)∧w'.cell? ⟨b,o+5,none⟩=some (.int .u8 m5)∧w'.cell? ⟨b,o+6,none⟩=some (.int .u8 m6)∧w'.cell? ⟨b,o+7,none⟩=some (.int .u8 m7):=
 ⟨h 0 _ rfl,h 1 _ rfl,h 2 _ rfl,h 3 _ rfl,h 4 _ rfl,h 5 _ rfl,h 6 _ rfl,h 7 _ rfl⟩
set_option maxHeartbeats 4000000 in
theorem vector3_c {w : World} {a fa : Option Addr} {n fn : Nat} {V : List (List Int)} {ts : List Tm} (cc fc : Nat) (hM : Mos w a n V) (ho : Ord V) (hn : n ≤ 1048576) (hT : Terms w fa fn ts) (hfn : fn ≤ 1048576) (hs : Srt ts) (hmem : ∀ t ∈ ts, t.m ∈ V) :
    Calls Tryz.prog 108 #[.agg #[.slice fa fn fc],.slice a n cc] w fun e w'=>∃g,e=.returned (.slice (some ⟨g,0,none⟩) n n)∧w.heap.size≤g∧Own w' g 2 (ofI (rowT V ts))∧Below w.heap.size w w':=by
 have HL:=Lib.hid hT.len
 have HN:=Lib.hid hM.1
 have HM:=Lib.hid hM
 have HT:=Lib.hid hT
 have HS:=Lib.hid hs
 have HV:=Lib.hid ho
 have HE:=Lib.hid hmem
 have hF0:=Own.new w 39 #[.slice fa fn fc]
 have hb0:=bA1 w (.cells #[.slice fa fn fc] 39)
 have hmk:=run_make_row' (P:=Tryz.prog) 22 2 (.int .i64 0) 8 Tryz.underlying22 Tryz.info_int64 rfl .i64 .i64 n (by omega) (by omega)
 rw [show madeCells #[Value.int .i64 0] n=Array.replicate n (Value.int .i64 0) by (apply Array.ext';rw [toList_madeCells_one];simp)] at hmk
 clear hM hT hs ho hmem
 go_enter Tryz.func108,Tryz.ntmps108
 go_upto_region 1 with fail
 generalize w.alloc (.cells #[.slice fa fn fc] 39)=w0 at *
 have hmk1:=hmk w0
 clear hmk
 have hR:=Own.new w0 2 (Array.replicate n (Value.int .i64 0))
 have hba:=bA1 w0 (.cells (Array.replicate n (Value.int .i64 0)) 2)
 have hF1:=hF0.keep hba hF0.lt
 have hb1:=bT' hb0 hba hb0.size
 have hgR:Hid (w.heap.size<w0.heap.size):=Lib.hid hF0.lt
 go_upto_region 2 with fail
 generalize w0.alloc (.cells (Array.replicate n (Value.int .i64 0)) 2)=w2 at *
 generalize w0.heap.size=gR at *
 clear hmk1 hF0 hb0 hba
 generalize hge:w.heap.size=gF at *
 have HGE:=Lib.hid hge
 clear hge
 have hR0:Own w2 gR 2 (ofI (vecTo V ts 0)):=by
  have e:vecTo V ts 0=List.replicate n 0:=(by rw [vecTo,List.take_zero,HN.out];rfl);rw [e,←ofI_rep];exact hR
 clear hR
 go_wp2_with fail
 go_loopw [6,7] (fun x y wr=>∃j k:Nat,j≤fn∧k≤n∧x=.int .i64 j∧y=.int .i64 k∧Below gF w wr∧Own wr gR 2 (ofI (vecTo V ts k))∧Own wr gF 39 #[.slice fa fn fc]∧Inv3 V ts j k) (fun _ y _=>n - (intOf y).toNat)
 case atStart=>exact ⟨0,0,Nat.zero_le _,Nat.zero_le _,rfl,rfl,hb1,hR0,hF1,by simp,by simp⟩
 case round=>
  clear hb1 hR0 hF1;obtain ⟨j,k,hj,hk,rfl,rfl,hb,hR,hF,hI⟩:=hrel;have HI:=Lib.hid hI;clear hI;have c0:=hF.cell 0;by_cases hkn:k<n
  · have hki:(k:Int)<(n:Int):=(by omega);by_cases hjn:j<fn
    · have hji:(j:Int)<(fn:Int):=(by omega);obtain ⟨b,fo,t,rfl,hbl,hro,htm,hx⟩:=(HT.out.keep (by rw [HGE.out];exact hb)).at_ hjn;obtain ⟨b',off,m,rfl,hbl',hr,hm,hx'⟩:=(HM.out.keep (by rw [HGE.out];exact hb)).at_ hkn;obtain ⟨mt,ft⟩:=t;have hmt:IsMono mt:=htm.1;have hlv:(vecTo V ts k).length=n:=(by rw [vecTo_len (by rw [HN.out];exact hk),HN.out]);have HLV:=Lib.hid hlv;by_cases he:mt=m
      · subst he;have HST:=Lib.hid (vecTo_set (ts:=ts) hx'.out (coef_at HS.out hx.out));have HIN:=Lib.hid (HI.out.hit HS.out hx.out hx'.out);obtain ⟨m0,m1,m2,m3,m4,m5,m6,m7,rfl⟩:=mono8 hm
        have HQ:∀w,(Op.equalIn 10000 156 (.agg #[.int .u8 m0,.int .u8 m1,.int .u8 m2,.int .u8 m3,.int .u8 m4,.int .u8 m5,.int .u8 m6,.int .u8 m7]) (.agg #[.int .u8 m0,.int .u8 m1,.int .u8 m2,.int .u8 m3,.int .u8 m4,.int .u8 m5,.int .u8 m6,.int .u8 m7])).run Tryz.prog w=.ok true w:=fun w=>by
         have:=eqM_run (w:=w) hm hm
         rwa [decide_eq_true rfl] at this
        clear hlv hx hx' htm hmt;have hRd:Own wr.drew gR 2 (ofI (vecTo V ts k)):=hR;have y8:wr.drew.cell? ⟨b,fo+j * 9+8,none⟩=some (.int .i64 ft):=hro 8 _ rfl;have c0d:wr.drew.cell? ⟨gF,0,none⟩=some (.slice (some ⟨b,fo,none⟩) fn fc):=c0;have hfz:=hRd.frozen k;obtain ⟨ov,hcv⟩:=hRd.has (i:=k) (by rw [ofI,List.size_toArray,List.length_map,HLV.out];exact hkn);go_upto_region 5 with fail
        go_region_held3 (fun w'=>w'.cell? ⟨gF,0,none⟩=some (.slice (some ⟨b,fo,none⟩) fn fc)∧w'.cell? ⟨b,fo+j * 9,none⟩=some (.int .u8 m0)∧w'.cell? ⟨b,fo+j * 9+1,none⟩=some (.int .u8 m1)∧w'.cell? ⟨b,fo+j * 9+2,none⟩=some (.int .u8 m2)∧w'.cell? ⟨b,fo+j * 9+3,none⟩=some (.int .u8 m3)∧w'.cell? ⟨b,fo+j * 9+4,none⟩=some (.int .u8 m4)∧w'.cell? ⟨b,fo+j * 9+5,none⟩=some (.int .u8 m5)∧w'.cell? ⟨b,fo+j * 9+6,none⟩=some (.int .u8 m6)∧w'.cell? ⟨b,fo+j * 9+7,none⟩=some (.int .u8 m7)∧w'.cell? ⟨b',off+k * 8,none⟩=some (.int .u8 m0)∧w'.cell? ⟨b',off+k * 8+1,none⟩=some (.int .u8 m1)∧w'.cell? ⟨b',off+k * 8+2,none⟩=some (.int .u8 m2)∧w'.cell? ⟨b',off+k * 8+3,none⟩=some (.int .u8 m3)∧w'.cell? ⟨b',off+k * 8+4,none⟩=some (.int .u8 m4)∧w'.cell? ⟨b',off+k * 8+5,none⟩=some (.int .u8 m5)∧w'.cell? ⟨b',off+k * 8+6,none⟩=some (.int .u8 m6)∧w'.cell? ⟨b',off+k * 8+7,none⟩=some (.int .u8 m7)) (exact And.intro (hF.cell 0) (pair16 (nine8 hro) (eight hr))) (fail)
        all_goals go_wp2_with fail
        all_goals go_roundw
        all_goals first
         | (case measure=>simp [intOf] <;> omega)
         | skip
        all_goals refine ⟨j+1,k+1,by omega,by omega,by go_num,by go_num,hb.drew.setCell (p:=⟨gR,k,none⟩) (by have:=hgR.out;dsimp only;omega) _,?_,(show Own wr.drew gF 39 #[.slice (some ⟨b,fo,none⟩) fn fc] from hF).far (p:=⟨gR,k,none⟩) (by have:=hgR.out;dsimp only;omega) _,HIN.out⟩
        all_goals (rw [←HST.out,←ofI_set];exact hRd.set k _)
      · have HIM:=Lib.hid (HI.out.miss HV.out HS.out HE.out hx.out hx'.out he);have HSK:=Lib.hid (vecTo_skip (ts:=ts) hx'.out HIM.out.2);obtain ⟨m0,m1,m2,m3,m4,m5,m6,m7,rfl⟩:=mono8 hm;obtain ⟨p0,p1,p2,p3,p4,p5,p6,p7,rfl⟩:=mono8 hmt
        have HQ:∀w,(Op.equalIn 10000 156 (.agg #[.int .u8 p0,.int .u8 p1,.int .u8 p2,.int .u8 p3,.int .u8 p4,.int .u8 p5,.int .u8 p6,.int .u8 p7]) (.agg #[.int .u8 m0,.int .u8 m1,.int .u8 m2,.int .u8 m3,.int .u8 m4,.int .u8 m5,.int .u8 m6,.int .u8 m7])).run Tryz.prog w=.ok false w:=fun w=>by
         have:=eqM_run (w:=w) hmt hm
         rwa [decide_eq_false he] at this
        clear hlv hx hx' htm he;go_upto_region 5 with fail
        go_region_held3 (fun w'=>w'.cell? ⟨gF,0,none⟩=some (.slice (some ⟨b,fo,none⟩) fn fc)∧w'.cell? ⟨b,fo+j * 9,none⟩=some (.int .u8 p0)∧w'.cell? ⟨b,fo+j * 9+1,none⟩=some (.int .u8 p1)∧w'.cell? ⟨b,fo+j * 9+2,none⟩=some (.int .u8 p2)∧w'.cell? ⟨b,fo+j * 9+3,none⟩=some (.int .u8 p3)∧w'.cell? ⟨b,fo+j * 9+4,none⟩=some (.int .u8 p4)∧w'.cell? ⟨b,fo+j * 9+5,none⟩=some (.int .u8 p5)∧w'.cell? ⟨b,fo+j * 9+6,none⟩=some (.int .u8 p6)∧w'.cell? ⟨b,fo+j * 9+7,none⟩=some (.int .u8 p7)∧w'.cell? ⟨b',off+k * 8,none⟩=some (.int .u8 m0)∧w'.cell? ⟨b',off+k * 8+1,none⟩=some (.int .u8 m1)∧w'.cell? ⟨b',off+k * 8+2,none⟩=some (.int .u8 m2)∧w'.cell? ⟨b',off+k * 8+3,none⟩=some (.int .u8 m3)∧w'.cell? ⟨b',off+k * 8+4,none⟩=some (.int .u8 m4)∧w'.cell? ⟨b',off+k * 8+5,none⟩=some (.int .u8 m5)∧w'.cell? ⟨b',off+k * 8+6,none⟩=some (.int .u8 m6)∧w'.cell? ⟨b',off+k * 8+7,none⟩=some (.int .u8 m7)) (exact And.intro (hF.cell 0) (pair16 (nine8 hro) (eight hr))) (fail)
        all_goals go_wp2_with fail
        all_goals go_roundw
        all_goals first
         | (case measure=>simp [intOf] <;> omega)
         | skip
        all_goals exact ⟨j,k+1,hj,by omega,rfl,by go_num,hb.drew,by rw [←HSK.out];exact hR,hF,HIM.out.1⟩
    · have hji:¬(j:Int)<(fn:Int):=(by omega);go_wp2_with fail
      go_ret
      obtain rfl:j=fn:=(by omega);have hd:=(show Inv3 V ts ts.length k by rw [HL.out];exact HI.out).done HV.out;rw [hd] at hR;exact ⟨gR,rfl,by have:=hgR.out;have:=HGE.out;omega,hR,by rw [HGE.out];exact hb⟩
  · have hki:¬(k:Int)<(n:Int):=(by omega);go_wp2_with fail
    go_ret
    obtain rfl:k=n:=(by omega);rw [vecTo_end HN.out] at hR;exact ⟨gR,rfl,by have:=hgR.out;have:=HGE.out;omega,hR,by rw [HGE.out];exact hb⟩
theorem row_drew {w:World} {B sz n:Nat} {t:TypeId} {v:Value} {xs:List Value} (h:w.ownsRow B t sz v n xs):w.drew.ownsRow B t sz v n xs:=h
theorem own_drew {w:World} {g:Nat} {t:TypeId} {cs:Array Value} (h:Own w g t cs):Own w.drew g t cs:=h
def RowsX (w:World) (lo:Nat) (V:List (List Int)) (k:Nat) (gs:List Nat):Prop:=
 gs.length=k∧(∀(i g:Nat) row,gs[i]? = some g→V[i]? = some row→Own w g 2 (ofI row))∧gs.Pairwise (· < ·)∧∀x∈gs,lo≤x∧x<w.heap.size
theorem RowsX.keep {w w':World} {lo k:Nat} {V:List (List Int)} {gs:List Nat} (h:RowsX w lo V k gs) (hb:Below w.heap.size w w'):RowsX w' lo V k gs:=
 ⟨h.1,fun i g row h1 h2=>(h.2.1 i g row h1 h2).keep hb (h.2.1 i g row h1 h2).lt,h.2.2.1,fun x hx=>⟨(h.2.2.2 x hx).1,Nat.lt_of_lt_of_le (h.2.2.2 x hx).2 hb.size⟩⟩
theorem RowsX.grown {w w':World} {lo k B m n:Nat} {V:List (List Int)} {gs:List Nat} {v:Value} {xs:List Value} (h:RowsX w lo V k gs) (ho:w.ownsRow B 22 m v n xs) (hg:w.grownBy w' v.ownBlock):RowsX w' lo V k gs:=
 ⟨h.1,fun i g row h1 h2=>(h.2.1 i g row h1 h2).grown hg (own_ne_row (h.2.1 i g row h1 h2) ho (by decide)),h.2.2.1,fun x hx=>⟨(h.2.2.2 x hx).1,Nat.lt_of_lt_of_le (h.2.2.2 x hx).2 hg.size⟩⟩
theorem RowsX.snoc {w : World} {lo k g : Nat} {V : List (List Int)} {gs : List Nat} {row : List Int} (h : RowsX w lo V k gs) (hx : V[k]? = some row) (hlt : ∀ x ∈ gs, x < g) (hlo : lo ≤ g)
    (hg:Own w g 2 (ofI row)):RowsX w lo V (k+1) (gs++[g]):=by
 refine ⟨by rw [List.length_append,h.1];rfl,fun i g' ts' h1 h2=>?_,?_,fun x hx=>?_⟩
 · by_cases hi:i<k
   · rw [List.getElem?_append_left (by rw [h.1];exact hi)] at h1;exact h.2.1 i g' ts' h1 h2
   · have hik : i = k := by
       have:=(List.getElem?_eq_some_iff.1 h1).1;rw [List.length_append,h.1] at this;simp at this
       omega
     subst hik;rw [List.getElem?_append_right (by rw [h.1];omega),h.1,Nat.sub_self] at h1
     injection h1 with h1
     subst h1;rw [hx] at h2
     injection h2 with h2
     subst h2;exact hg
 · refine List.pairwise_append.2 ⟨h.2.2.1,List.pairwise_singleton _ _,fun x hx y hy=>?_⟩;obtain rfl:y=g:=(by simpa using hy);exact hlt x hx
 · rcases List.mem_append.1 hx with hx | hx
   · exact h.2.2.2 x hx
   · obtain rfl:x=g:=(by simpa using hx);exact ⟨hlo,hg.lt⟩
theorem degs_mild {zs:List Int} (h:degsOk zs=true):Mild zs:=fun x hx=>by
 obtain ⟨i,hi,rfl⟩:=List.mem_iff_getElem.1 hx
 have:=degs_at h (List.getElem?_eq_getElem hi)
 omega
theorem news1 (w:World) (v:Value):∀j u,([v]:List Value)[j]? = some u→(w.alloc (.cells #[v] 22)).cell? ((⟨w.heap.size,0,none⟩:Addr).add j)=some u:=fun j u hu=>by
 rw [Addr.add_mid]
 exact (Own.new w 22 #[v]).range j u hu
def OM (w:World) (a:Option Addr) (n:Nat) (V:List (List Int)):Prop:=∃lo hi,OwnM w lo hi a n V
theorem OM.keep {w w':World} {a:Option Addr} {n:Nat} {V:List (List Int)} (h:OM w a n V) (hb:Below w.heap.size w w'):OM w' a n V:=by
 obtain ⟨lo,hi,h⟩:=h
 exact ⟨lo,hi,h.keep hb⟩
theorem OM.mos {w:World} {a:Option Addr} {n:Nat} {V:List (List Int)} (h:OM w a n V):Mos w a n V:=by
 obtain ⟨lo,hi,h⟩:=h
 exact h.mos
theorem OM.grown {w w':World} {a:Option Addr} {n B m k:Nat} {V:List (List Int)} {v:Value} {xs:List Value} (h:OM w a n V) (ho:w.ownsRow B 22 m v k xs) (hg:w.grownBy w' v.ownBlock):OM w' a n V:=by
 obtain ⟨lo,hi,h1,h2,h3⟩:=h
 refine ⟨lo,hi,h1,h2,fun hn=>?_⟩
 obtain ⟨g,cs,e,h4,h5,h6,h7⟩:=h3 hn
 exact ⟨g,cs,e,h4,h5,h6.grown hg (own_ne_row h6 ho (by decide)),h7⟩
theorem OM.range {w:World} {b off n j:Nat} {V:List (List Int)} {u:List Int} (h:OM w (some ⟨b,off,none⟩) n V) (hx:V[j]? = some u):w.rangeAt b (off+j * 8) (mcells u):=by
 have hM:=h.mos
 have hj:=(List.getElem?_eq_some_iff.1 hx).1
 obtain ⟨b',off',e,-,hr⟩:=hM.2.2 (by have:=hM.1;omega)
 injection e with e
 injection e with e1 e2
 subst e1 e2
 intro q v hv
 have:=hr (j * 8+q) v (mrowsV_get hM.2.1 hx hv)
 rwa [←Nat.add_assoc] at this
theorem side_take {zs:List Int} {n:Nat} (h:cnt zs n≤400):(ext [] (mons zs n)).take 401=side zs n:=by
 rw [side,List.take_of_length_le (by rw [ext_len];unfold cnt at h;omega)]
set_option maxHeartbeats 8000000 in
theorem l03Matrix_c {w : World} {da : Option Addr} {dn : Nat} {zs : List Int} {a : Option Addr} {k : Nat} {ims : List (List Tm)} {m : Nat} (dc c : Nat) (hd : Ints w da dn zs) (hF : Frms w a k ims) (HA : AlgOk zs ims) (hA : isAlg zs ims = true) (hz : degsOk zs = true) (hz1 : ∀ z ∈ zs, 1 ≤ z) (hm : m ≤ 20) (hc1 : cnt zs m ≤ 120) (hc2 : cnt zs (m + 1) ≤ 120) :
    Calls Tryz.prog 124 #[.agg #[.slice da dn dc,.slice a k c],.int .i64 m] w fun e w'=>∃ra rc,e=.returned (.slice ra (cnt zs m) rc)∧OwnT w' w.heap.size w'.heap.size ra (cnt zs m) ((side zs m).map (dRow zs ims (side zs (m+1))))∧Below w.heap.size w w':=by
 have HC1:Hid (∀w',Below w.heap.size w w'→Calls Tryz.prog 109 #[.slice da dn dc,.int .i64 (m:Int)] w' fun e w''=>∃ra rc,e=.returned (.slice ra (cnt zs m) rc)∧OwnM w'' w'.heap.size w''.heap.size ra (cnt zs m) (side zs m)∧Below w'.heap.size w' w''):=Lib.hid (fun w' hb=>by
  refine (l01Monomials_c (r:=m) dc (hd.keep hb) hz (by omega)).mono ?_;rintro e w'' ⟨ra,rn,rc,rfl,hM,hb2⟩;rw [side_take (by omega)] at hM;obtain rfl:cnt zs m=rn:=by rw [←hM.1,side_len]
  exact ⟨ra,rc,rfl,hM,hb2⟩)
 have HC2:Hid (∀w',Below w.heap.size w w'→Calls Tryz.prog 109 #[.slice da dn dc,.int .i64 ((m:Int)+1)] w' fun e w''=>∃ra rc,e=.returned (.slice ra (cnt zs (m+1)) rc)∧OwnM w'' w'.heap.size w''.heap.size ra (cnt zs (m+1)) (side zs (m+1))∧Below w'.heap.size w' w''):=Lib.hid (fun w' hb=>by
  refine (l01Monomials_c (r:=m+1) dc (hd.keep hb) hz (by omega)).mono ?_;rintro e w'' ⟨ra,rn,rc,rfl,hM,hb2⟩;rw [side_take (by omega)] at hM;obtain rfl:cnt zs (m+1)=rn:=by rw [←hM.1,side_len]
  exact ⟨ra,rc,rfl,hM,hb2⟩)
 obtain ⟨ti,tz,hti,htz,hts,htb,htzs⟩:=Tryz.info_intsA
 have HTI:=Lib.hid hti
 have HTZ:=Lib.hid htz
 have HTS:=Lib.hid hts
 have HTB:=Lib.hid htb
 have HTZs:=Lib.hid htzs
 clear hti htz hts htb htzs
 have HD:=Lib.hid hd
 have HF:=Lib.hid hF
 have HAO:=Lib.hid HA
 have HIA:=Lib.hid hA
 have HZ1:=Lib.hid hz1
 have HMI:=Lib.hid (degs_mild hz)
 have hO:=Own.new w 35 #[.slice da dn dc,.slice a k c]
 have hb:=bA1 w (.cells #[.slice da dn dc,.slice a k c] 35)
 have e1:IntKind.i64.wrap ((m:Int)+1)=(m:Int)+1:=IntWalk.i64_in _ (by omega)
 have HU:Hid ((side zs m).length=cnt zs m):=Lib.hid (side_len _ _)
 have HV:Hid ((side zs (m+1)).length=cnt zs (m+1)):=Lib.hid (side_len _ _)
 have HCC:Hid (cnt zs (m+1)≤400):=Lib.hid (by omega)
 clear hd hF HA hA hz hz1
 go_enter Tryz.func124,Tryz.ntmps124
 go_upto_region 1 with fail
 generalize hw0:w.alloc (.cells #[.slice da dn dc,.slice a k c] 35)=w0 at *
 have hs0:=Lib.hid hb.size
 clear hw0
 generalize hga:w.heap.size=gA at *
 have HGA:=Lib.hid hga
 clear hga
 generalize hUe:side zs m=U at *
 generalize hVe:side zs (m+1)=V at *
 have HUE:=Lib.hid hUe
 have HVE:=Lib.hid hVe
 clear hUe hVe
 generalize hNe:cnt zs m=N at *
 generalize hWe:cnt zs (m+1)=W at *
 have HNE:=Lib.hid hNe
 have HWE:=Lib.hid hWe
 clear hNe hWe
 go_cut [5,6,7] (fun p q o wr=>∃ua uc va vc oa oc,p=.slice ua N uc∧q=.slice va W vc∧o=.slice oa 0 oc∧OM wr ua N U∧OM wr va W V∧Own wr gA 35 #[.slice da dn dc,.slice a k c]∧Below gA w wr∧wr.ownsRow (gA+1) 22 1 (.slice oa 0 oc) 0 [])
 case first=>
  have hO':Own w0.drew gA 35 #[.slice da dn dc,.slice a k c]:=hO;have hbb:Below gA w w0.drew:=hb.drew
  go_region_held3 (fun w'=>w'.cell? ⟨gA,0,none⟩=some (.slice da dn dc)) (first | exact hO'.cell 0 | exact (hO'.alloc _).cell 0 | exact (own_drew (hO.alloc _)).cell 0)
   (first
    | (go_at_call 109;(first | ((with_reducible refine (HC1.out _ hbb).mono ?_);rintro e w2 ⟨ua,uc,rfl,hU,hb2⟩;have hU:OM _ _ _ _:=⟨_,_,hU⟩;(try (have hV:=hV.keep hb2));(try (have hRow:=row_keep hRow hb2));have hbb:=bT' hbb hb2 (Nat.le_of_lt hO'.lt);have hO':=hO'.keep hb2 hO'.lt) | ((with_reducible refine (HC1.out _ (hbb.alloc (Nat.le_of_lt hO'.lt) _)).mono ?_);rintro e w2 ⟨ua,uc,rfl,hU,hb2⟩;have hU:OM _ _ _ _:=⟨_,_,hU⟩;(try (have hV:=(hV.keep (bA1 _ _)).keep hb2));have hRow:=row_keep (empty_rowG _ 22 (B:=gA+1) hO'.lt) hb2;have hbb:=bT' (hbb.alloc (Nat.le_of_lt hO'.lt) _) hb2 (Nat.le_of_lt (hO'.alloc _).lt);have hO':=(hO'.alloc _).keep hb2 (hO'.alloc _).lt) | ((with_reducible refine (HC1.out _ ((hb.alloc (Nat.le_of_lt hO.lt) _).drew)).mono ?_);rintro e w2 ⟨ua,uc,rfl,hU,hb2⟩;have hU:OM _ _ _ _:=⟨_,_,hU⟩;have hRow:=row_keep (row_drew (empty_rowG w0 22 (B:=gA+1) hO.lt)) hb2;have hbb:=bT' ((hb.alloc (Nat.le_of_lt hO.lt) _).drew) hb2 (Nat.le_of_lt (hO.alloc _).lt);have hO':=(own_drew (hO.alloc _)).keep hb2 (hO.alloc _).lt)))
    | (go_at_call 109;(first | ((with_reducible refine (HC2.out _ hbb).mono ?_);rintro e w3 ⟨va,vc,rfl,hV,hb3⟩;have hV:OM _ _ _ _:=⟨_,_,hV⟩;(try (have hU:=hU.keep hb3));(try (have hRow:=row_keep hRow hb3));have hbb:=bT' hbb hb3 (Nat.le_of_lt hO'.lt);have hO':=hO'.keep hb3 hO'.lt) | ((with_reducible refine (HC2.out _ (hbb.alloc (Nat.le_of_lt hO'.lt) _)).mono ?_);rintro e w3 ⟨va,vc,rfl,hV,hb3⟩;have hV:OM _ _ _ _:=⟨_,_,hV⟩;(try (have hU:=(hU.keep (bA1 _ _)).keep hb3));have hRow:=row_keep (empty_rowG _ 22 (B:=gA+1) hO'.lt) hb3;have hbb:=bT' (hbb.alloc (Nat.le_of_lt hO'.lt) _) hb3 (Nat.le_of_lt (hO'.alloc _).lt);have hO':=(hO'.alloc _).keep hb3 (hO'.alloc _).lt) | ((with_reducible refine (HC2.out _ ((hb.alloc (Nat.le_of_lt hO.lt) _).drew)).mono ?_);rintro e w3 ⟨va,vc,rfl,hV,hb3⟩;have hV:OM _ _ _ _:=⟨_,_,hV⟩;have hRow:=row_keep (row_drew (empty_rowG w0 22 (B:=gA+1) hO.lt)) hb3;have hbb:=bT' ((hb.alloc (Nat.le_of_lt hO.lt) _).drew) hb3 (Nat.le_of_lt (hO.alloc _).lt);have hO':=(own_drew (hO.alloc _)).keep hb3 (hO.alloc _).lt))))
  all_goals go_wp2_with fail
  all_goals go_meet
  all_goals first
   | exact ⟨_,_,_,_,_,_,rfl,rfl,rfl,hU,hV,hO',hbb,hRow⟩
   | exact ⟨_,_,_,_,_,_,rfl,rfl,rfl,hU.keep (bA1 _ _),hV.keep (bA1 _ _),hO'.alloc _,hbb.alloc (Nat.le_of_lt hO'.lt) _,empty_rowG _ 22 (B:=gA+1) hO'.lt⟩
 case rest=>
  obtain ⟨ua,uc,va,vc,oa,oc,rfl,rfl,rfl,hU,hV,hO1,hb1,hRow⟩:=hcut;obtain ⟨Vr,hVr⟩:∃X,U.map (dRow zs ims V)=X:=⟨_,rfl⟩;have HVR:=Lib.hid hVr;have HW0:Hid (RowsX wc (gA+1) Vr 0 []):=Lib.hid ⟨rfl,by simp,by simp,by simp⟩;clear hVr hb hO hs0;clear w0;go_upto_region 3 with fail
  go_loopw [7,8] (fun o y wr=>∃(j:Nat) (oa:Option Addr) (oc:Nat) (gs:List Nat),j≤N∧y=.int .i64 j∧o=.slice oa j oc∧Below gA w wr∧Own wr gA 35 #[.slice da dn dc,.slice a k c]∧OM wr ua N U∧OM wr va W V∧wr.ownsRow (gA+1) 22 1 (.slice oa j oc) j (rowSl W gs)∧Hid (RowsX wr (gA+1) Vr j gs)) (fun _ y _=>N - (intOf y).toNat)
  case atStart=>exact ⟨0,_,_,[],Nat.zero_le _,rfl,rfl,hb1,hO1,hU,hV,hRow,HW0⟩
  case round=>
   clear hb1 hO1 hU hV hRow HW0;obtain ⟨j,oa,oc,gs,hj,rfl,rfl,hb,hO,hU,hV,hRow,HW⟩:=hrel;by_cases hlt:j<N
   · have hji:(j:Int)<(N:Int):=(by omega);have hj0:(0:Int)≤(j:Int):=(by omega);obtain ⟨b,off,u,rfl,hlb,hr,hmu,hx⟩:=hU.mos.at_ hlt;have HDF:=Lib.hid (diff_facts HIA.out HAO.out HZ1.out (n:=m) (by omega) (by rw [HWE.out];exact HCC.out) (u:=u) (by rw [←side,HUE.out];exact List.mem_of_getElem? hx.out) hmu);have HXR:Hid (Vr[j]? = some (dRow zs ims V u)):=Lib.hid (by rw [←HVR.out,List.getElem?_map,hx.out];rfl);obtain ⟨u0,u1,u2,u3,u4,u5,u6,u7,rfl⟩:=mono8 hmu;have HUX:=Lib.hid hx.out;have HORD:Hid (Ord V):=Lib.hid (by rw [←HVE.out];exact ext_ord _ _);have HMEM:Hid (∀t∈diffT zs ims [] [⟨[u0,u1,u2,u3,u4,u5,u6,u7],1⟩],t.m∈V):=Lib.hid (fun t ht=>by rw [←HVE.out];exact HDF.out.2.2.2.1 t ht);clear hx;go_upto_region 5 with fail
     replace hb:Below gA w wr.drew:=hb.drew;replace hO:Own wr.drew gA 35 #[.slice da dn dc,.slice a k c]:=hO;replace hU:OM wr.drew (some ⟨b,off,none⟩) N U:=hU;replace hV:OM wr.drew va W V:=hV;replace hRow:=row_drew hRow;replace HW:Hid (RowsX wr.drew (gA+1) Vr j gs):=HW;replace hr:wr.drew.rangeAt b (off+j * 8) (mcells [u0,u1,u2,u3,u4,u5,u6,u7]):=hr;replace hlb:b<wr.drew.heap.size:=hlb;refine wp_region_held_drew (S:=(fun w'=>w'.cell? ⟨gA,0,none⟩=some (.slice da dn dc)∧w'.cell? ⟨gA,1,none⟩=some (.slice a k c)∧w'.cell? ⟨b,off+j * 8,none⟩=some (.int .u8 u0)∧w'.cell? ⟨b,off+j * 8+1,none⟩=some (.int .u8 u1)∧w'.cell? ⟨b,off+j * 8+2,none⟩=some (.int .u8 u2)∧w'.cell? ⟨b,off+j * 8+3,none⟩=some (.int .u8 u3)∧w'.cell? ⟨b,off+j * 8+4,none⟩=some (.int .u8 u4)∧w'.cell? ⟨b,off+j * 8+5,none⟩=some (.int .u8 u5)∧w'.cell? ⟨b,off+j * 8+6,none⟩=some (.int .u8 u6)∧w'.cell? ⟨b,off+j * 8+7,none⟩=some (.int .u8 u7))) (by kernel_rfl) ?_ (fun _=>?_)
     · ((try dsimp only);(exact ⟨hO.cell 0,hO.cell 1,eight hr⟩))
     refine hdT 0 ?_;refine hdT 1 ?_;refine hdT 2 ?_;refine hdT 3 ?_;refine hdT 4 ?_;refine hdT 5 ?_;refine hdT 8 ?_;refine hdC 6 (fun K hK=>?_)
     (go_simp;(go_at_call 164;refine (l01Single_c hmu).mono ?_;rintro e w2 ⟨g1,rfl,hg1,hT1,hb2⟩;have hr:=rgK hr (hb2.block b hlb);have hlb:=Nat.lt_of_lt_of_le hlb (hb2).size;have hU:=hU.keep hb2;have hV:=hV.keep hb2;have hRow:=row_keep hRow hb2;have HW:=Lib.hid (HW.out.keep hb2);have hb:=bT' hb hb2 (Nat.le_of_lt hO.lt);have hO:=hO.keep hb2 hO.lt);go_wp2_with fail)
     refine hK.out _ _ ?_ (fun _=>?_)
     · ((try dsimp only);(exact ⟨hO.cell 0,hO.cell 1,eight hr⟩))
     clear hK K
     (try simp only [Act.put,pA,pB,pC])
     refine hdC 7 (fun K hK=>?_)
     (go_simp; (go_at_call 106; refine (l02D_c dc c 1 (HD.out.keep (by rw [HGA.out]; exact hb)) (HF.out.keep (by rw [HGA.out]; exact hb)) hT1 HAO.out HMI.out (fun t ht => by
           obtain rfl:t=⟨[u0,u1,u2,u3,u4,u5,u6,u7],1⟩:=by simpa using ht
           exact HDF.out.1) (fun t ht=>by
           obtain rfl:t=⟨[u0,u1,u2,u3,u4,u5,u6,u7],1⟩:=by simpa using ht
           exact ⟨by dsimp only;omega,by dsimp only;omega⟩) (by omega)).mono ?_;rintro e w3 ⟨v,rfl,hOF,hb3⟩;obtain ⟨fa,fn,fc,rfl⟩:=hOF.isSlice;have hT3:=hOF.r.read HDF.out.2.1;have hr:=rgK hr (hb3.block b hlb);have hlb:=Nat.lt_of_lt_of_le hlb (hb3).size;have hU:=hU.keep hb3;have hV:=hV.keep hb3;have hRow:=row_keep hRow hb3;have HW:=Lib.hid (HW.out.keep hb3);have hb:=bT' hb hb3 (Nat.le_of_lt hO.lt);have hO:=hO.keep hb3 hO.lt);go_wp2_with fail)
     refine hK.out _ _ ?_ (fun _=>?_)
     · ((try dsimp only);(exact ⟨hO.cell 0,hO.cell 1,eight hr⟩))
     clear hK K
     (try simp only [Act.put,pA,pB,pC])
     refine hdC 9 (fun K hK=>?_)
     (go_simp;(go_at_call 108;refine (vector3_c vc fc hV.mos HORD.out (by omega) hT3 (by have h9:=HDF.out.2.2.2.2.2.1;rw [hT3.len] at h9;omega) HDF.out.2.2.1.srt HMEM.out).mono ?_;rintro e w4 ⟨g4,rfl,hg4,hG4,hb4⟩;have hgl4:=Lib.hid hO.lt;have HS4:=Lib.hid HW.out;have hr:=rgK hr (hb4.block b hlb);have hlb:=Nat.lt_of_lt_of_le hlb (hb4).size;have hU:=hU.keep hb4;have hV:=hV.keep hb4;have hRow:=row_keep hRow hb4;have HW:=Lib.hid (HW.out.keep hb4);have hb:=bT' hb hb4 (Nat.le_of_lt hO.lt);have hO:=hO.keep hb4 hO.lt);go_wp2_with fail)
     refine hK.out _ _ ?_ (fun _=>?_)
     · ((try dsimp only);(exact ⟨hO.cell 0,hO.cell 1,eight hr⟩))
     clear hK K
     (try simp only [Act.put,pA,pB,pC])
     refine hdC 10 (fun K hK=>?_)
     (go_simp;try go_wp2_with fail)
     have hnb:=news1 w4 (Value.slice (some ⟨g4,0,none⟩) W W);have hG5:=hG4.alloc (.cells #[.slice (some ⟨g4,0,none⟩) W W] 22);have hbX:=bA1 w4 (.cells #[.slice (some ⟨g4,0,none⟩) W W] 22);have hr:=rgK hr (hbX.block b hlb);have hlb:=Nat.lt_of_lt_of_le hlb (hbX).size;have hU:=hU.keep hbX;have hV:=hV.keep hbX;have hRow:=row_keep hRow hbX;have HW:=Lib.hid (HW.out.keep hbX);have hb:=bT' hb hbX (Nat.le_of_lt hO.lt);have hO:=hO.keep hbX hO.lt;generalize w4.alloc (.cells #[.slice (some ⟨g4,0,none⟩) W W] 22)=w5 at *;generalize w4.heap.size=gN at *;refine hK.out _ _ ?_ (fun _=>?_)
     · ((try dsimp only);(exact ⟨hO.cell 0,hO.cell 1,eight hr⟩))
     clear hK K
     (try simp only [Act.put,pA,pB,pC])
     refine hdC 11 (fun K hK=>?_);have HRW:=Lib.hid hRow;have HNW:=Lib.hid hnb;have hszW:gA+1≤w5.heap.size:=hO.lt;rw [if_pos (by rfl)];refine wp_append_own_wide _ (.tmp 25) (.tmp 35) 68 rfl (gA+1) 22 ti tz 1 24 Tryz.underlying68 HTI.out HTZ.out HTS.out HTB.out HTZs.out (by omega) (.slice oa j oc) j _ rfl HRW.out ⟨gN,0,none⟩ 1 1 [Value.slice (some ⟨g4,0,none⟩) W W] rfl rfl HNW.out (by simp [Value.oneCell']) (by simp only [maxLen];omega) (by omega) hszW (fun v' w6 h2 h3 h4=>?_);obtain ⟨xa,xc,rfl⟩:=row_slice h2;replace hb:=grown_below hb h3 (fun q e=>by have:=(HRW.out.lt q e).1;omega) (Nat.le_of_lt hO.lt);replace hG5:=hG5.grown h3 (own_ne_row hG5 HRW.out (by decide));replace hO:=hO.grown h3 (own_ne_row hO HRW.out (by decide));replace hU:=hU.grown HRW.out h3;replace hV:=hV.grown HRW.out h3;replace HW:=Lib.hid (HW.out.grown HRW.out h3);replace hr:=hU.range HUX.out
     have hR6:w6.ownsRow (gA+1) 22 1 (.slice xa (j+1) xc) (j+1) (rowSl W (gs++[g4])):=by
      rw [rowSl,List.map_append];exact h2
     have HW6:=Lib.hid (HW.out.snoc HXR.out (fun x hx=>Nat.lt_of_lt_of_le (HS4.out.2.2.2 x hx).2 hg4) (by have:=hgl4.out;omega) hG5);clear HNW HRW hszW h2 h3 h4 hnb hRow;refine hK.out _ _ ?_ (fun _=>?_)
     · ((try dsimp only);(exact ⟨hO.cell 0,hO.cell 1,eight hr⟩))
     clear hK K
     (try simp only [Act.put,pA,pB,pC])
     refine hdT 12 ?_;refine wpAnyH_done (by kernel_rfl) ?_ _;go_wp2_with fail
     go_roundw
     case rel=>exact ⟨j+1,xa,xc,gs++[g4],by omega,by go_num,rfl,hb,hO,hU,hV,hR6,HW6⟩
     case measure=>simp [intOf] <;> omega
   · obtain rfl:j=N:=(by omega);have HR:=Lib.hid hRow;clear hRow;go_wp2_with fail
     go_ret
     obtain ⟨ra,rc,hrr,hOT⟩:=ownT_row (V:=Vr) (m:=W) (by rw [←HVR.out,List.length_map,HU.out]) HW.out.1 (by
      intro row hrow;rw [←HVR.out] at hrow;obtain ⟨u,-,rfl⟩:=List.mem_map.1 hrow
      rw [dRow,rowT_len,HV.out]) HR.out (fun i g row h1 h2=>HW.out.2.1 i g row h1 h2) (fun g hg=>(HW.out.2.2.2 g hg).1) HW.out.2.2.1
     simp only [Value.slice.injEq] at hrr;obtain ⟨rfl,-,rfl⟩:=hrr;rw [HNE.out,HUE.out,HVE.out,HVR.out,HGA.out];exact ⟨oa,oc,rfl,hOT.weaken (by omega) (Nat.le_refl _),hb⟩
end Go.Proofs.YtifcfoijcodjbaaGreat
