
import Derived.Test.YtfheammnkmjabaaGreatMatQ
import Derived.Test.YtfheammnkmjabaaGreatTabOf
import Derived.Test.YtfheammnkmjabaaGreatCode3
import Derived.Test.YtfheammnkmjabaaGreatTerm
import Derived.Stop.BytesEq
import Derived.Test.YtfheammnkmjabaaGreatRows3
namespace Go.Proofs.YtfheammnkmjabaaGreat
set_option maxRecDepth 100000
open Go.RowKit Go.Deep
theorem flat3_get {zs:List Int} {ims:List (List Tm)} {V:List (List Int)}:∀{U:List (List Int)} {i:Nat} {u:List Int},U[i]? = some u→∀(j:Nat) x,(dRow zs ims V u)[j]? = some x→(flat3 zs ims V U)[i * V.length+j]? = some x
 | [],i,u,h,_,_,_=>by simp at h
 | v :: U, 0, u, h, j, x, hx => by
   simp only [List.getElem?_cons_zero,Option.some.injEq] at h;subst h;rw [flat3,List.flatMap_cons,Nat.zero_mul,Nat.zero_add,List.getElem?_append_left (List.getElem?_eq_some_iff.1 hx).1];exact hx
 | v :: U, i + 1, u, h, j, x, hx => by
   rw [List.getElem?_cons_succ] at h;have ih:=flat3_get h j x hx;have hl:(dRow zs ims V v).length=V.length:=(by rw [dRow,rowT_len]);rw [flat3,List.flatMap_cons,List.getElem?_append_right (by rw [hl,Nat.succ_mul];omega),hl,show (i+1) * V.length+j - V.length=i * V.length+j by rw [Nat.succ_mul];omega];exact ih
theorem degs_one {zs:List Int} (h:degsOk zs=true):∀z∈zs,1≤z:=by
 intro z hz
 obtain ⟨i,hi,rfl⟩:=List.mem_iff_getElem.1 hz
 exact (degs_at h (List.getElem?_eq_getElem hi)).1
theorem u8s_beq {m k:List Int} (hm:∀x∈m,0≤x∧x≤255) (hk:∀x∈k,0≤x∧x≤255):(m.map (fun x=>UInt8.ofNat x.toNat)==k.map (fun x=>UInt8.ofNat x.toNat))=decide (m=k):=by
 have back:∀l:List Int,(∀x∈l,0≤x∧x≤255)→(l.map (fun x=>UInt8.ofNat x.toNat)).map (fun u=>((u.toNat:Nat):Int))=l:=by
  intro l
  induction l with
  | nil=>intro _;rfl
  | cons a l ih =>
    intro h;have ha:=h a (by simp);rw [List.map_cons,List.map_cons,ih (fun x hx=>h x (by simp [hx]))];congr 1
    rw [UInt8.toNat_ofNat',Nat.mod_eq_of_lt (by omega)];omega
 rw [Bool.eq_iff_iff,beq_iff_eq,decide_eq_true_eq]
 constructor
 · intro h;rw [←back m hm,←back k hk,h]
 · intro h;rw [h]
theorem mcells_u8 {m:List Int} (hm:∀x∈m,0≤x∧x≤255):mcells m=(m.map (fun x=>UInt8.ofNat x.toNat)).map Extern.Stop.cell:=by
 rw [mcells,List.map_map]
 apply List.map_congr_left
 intro x hx
 have ha:=hm x hx
 simp only [Function.comp_def,Extern.Stop.cell,UInt8.toNat_ofNat']
 rw [Nat.mod_eq_of_lt (by omega)]
 congr 1
 exact (Int.toNat_of_nonneg ha.1).symm
theorem eqM_run {w:World} {m k:List Int} (hm:IsMono m) (hk:IsMono k):(Op.equalIn 10000 69 (.agg (mcells m).toArray) (.agg (mcells k).toArray)).run Tryz.prog w=.ok (decide (m=k)) w:=by
 rw [mcells_u8 hm.2,mcells_u8 hk.2,←u8s_beq hm.2 hk.2]
 exact run_equalIn_bytes w 9998 69 5 8 Tryz.underlying69 Tryz.underlying5 (fun w=>by kernel_rfl) _ _ (by rw [List.length_map,hm.1]) (by rw [List.length_map,hk.1])
def Inv3 (V:List (List Int)) (ts:List Tm) (j k:Nat):Prop:=(∀t∈ts.take j,t.m∈V.take k)∧∀t∈ts.drop j,¬t.m∈V.take k
def vecTo (V:List (List Int)) (ts:List Tm) (k:Nat):List Int:=rowT (V.take k) ts++List.replicate (V.length - k) 0
theorem vecTo_len {V:List (List Int)} {ts:List Tm} {k:Nat} (hk:k≤V.length):(vecTo V ts k).length=V.length:=by
 rw [vecTo,List.length_append,rowT_len,List.length_take,List.length_replicate]
 omega
theorem vecTo_set {V:List (List Int)} {ts:List Tm} {k:Nat} {m:List Int} {x:Int} (hk:V[k]? = some m) (hx:coef ts m=x):(vecTo V ts k).set k x=vecTo V ts (k+1):=by
 have hl:=(List.getElem?_eq_some_iff.1 hk).1
 have h1:(rowT (V.take k) ts).length=k:=by rw [rowT_len,List.length_take];omega
 rw [vecTo,List.set_append_right _ _ (by omega),h1,Nat.sub_self,show V.length - k=(V.length - (k+1))+1 by omega,List.replicate_succ,List.set_cons_zero,vecTo,List.take_add_one,hk,Option.toList_some,rowT,rowT,List.map_append,List.map_cons,List.map_nil,hx,List.append_assoc]
 rfl
theorem vecTo_skip {V:List (List Int)} {ts:List Tm} {k:Nat} {m:List Int} (hk:V[k]? = some m) (hx:coef ts m=0):vecTo V ts k=vecTo V ts (k+1):=by
 have hl:=(List.getElem?_eq_some_iff.1 hk).1
 rw [vecTo,show V.length - k=(V.length - (k+1))+1 by omega,List.replicate_succ,vecTo,List.take_add_one,hk,Option.toList_some,rowT,rowT,List.map_append,List.map_cons,List.map_nil,hx,List.append_assoc]
 rfl
theorem coef_at {ts:List Tm} (h:Srt ts) {j:Nat} {t:Tm} (hj:ts[j]? = some t):coef ts t.m=t.f:=by
 induction ts generalizing j with
 | nil=>simp at hj
 | cons u ts ih =>
   cases j with
   | zero =>
     simp only [List.getElem?_cons_zero,Option.some.injEq] at hj;subst hj;exact coef_hit rfl
   | succ j =>
     rw [List.getElem?_cons_succ] at hj;have h2:=List.pairwise_cons.1 h;have hb:=h2.1 t (List.mem_of_getElem? hj);rw [coef_miss (fun e=>by rw [e,before_self] at hb;cases hb)];exact ih h2.2 hj
theorem Ord.not_take {V:List (List Int)} (ho:Ord V) {k:Nat} {m:List Int} (hk:V[k]? = some m):¬m∈V.take k:=by
 intro h
 obtain ⟨i,hi,he⟩:=List.mem_iff_getElem.1 h
 rw [List.length_take] at hi
 rw [List.getElem_take] at he
 have:=ho.inj (m:=m) (i:=i) (j:=k) (by rw [List.getElem?_eq_getElem (by omega),he]) hk
 omega
theorem Inv3.hit {V:List (List Int)} {ts:List Tm} {j k:Nat} {t:Tm} (h:Inv3 V ts j k) (hs:Srt ts) (hj:ts[j]? = some t) (hk:V[k]? = some t.m):Inv3 V ts (j+1) (k+1):=by
 have hd:ts.drop j=t::ts.drop (j+1):=by
  obtain ⟨h1,rfl⟩:=List.getElem?_eq_some_iff.1 hj;exact List.drop_eq_getElem_cons h1
 have hsd:Srt (ts.drop j):=List.Pairwise.sublist (List.drop_sublist j ts) hs
 rw [hd] at hsd
 have h2:=(List.pairwise_cons.1 hsd).1
 constructor
 · intro u hu;rw [List.take_add_one,hj,Option.toList_some,List.mem_append,List.mem_singleton] at hu;rw [List.take_add_one,hk,Option.toList_some,List.mem_append,List.mem_singleton]
   rcases hu with hu | rfl
   · exact Or.inl (h.1 u hu)
   · exact Or.inr rfl
 · intro u hu hm;rw [List.take_add_one,hk,Option.toList_some,List.mem_append,List.mem_singleton] at hm
   rcases hm with hm | hm
   · exact h.2 u (by rw [hd];exact List.mem_cons_of_mem _ hu) hm
   · have:=h2 u hu;rw [hm,before_self] at this;cases this
theorem Inv3.miss {V:List (List Int)} {ts:List Tm} {j k:Nat} {t:Tm} {m:List Int} (h:Inv3 V ts j k) (ho:Ord V) (hs:Srt ts) (hmem:∀t∈ts,t.m∈V) (hj:ts[j]? = some t) (hk:V[k]? = some m) (hne:¬t.m=m):Inv3 V ts j (k+1)∧coef ts m=0:=by
 have hd:ts.drop j=t::ts.drop (j+1):=by
  obtain ⟨h1,rfl⟩:=List.getElem?_eq_some_iff.1 hj;exact List.drop_eq_getElem_cons h1
 have hsd:Srt (ts.drop j):=List.Pairwise.sublist (List.drop_sublist j ts) hs
 rw [hd] at hsd
 have h2:=(List.pairwise_cons.1 hsd).1
 obtain ⟨i,hi⟩:∃i,V[i]? = some t.m:=List.mem_iff_getElem?.1 (hmem t (List.mem_of_getElem? hj))
 have hki:k<i:=by
  by_cases e:i=k
  · subst e;rw [hk,Option.some.injEq] at hi;exact absurd hi.symm hne
  · by_cases h3:i<k
    · refine absurd ?_ (h.2 t (by rw [hd];exact List.mem_cons_self));obtain ⟨h4,h5⟩:=List.getElem?_eq_some_iff.1 hi;exact List.mem_iff_getElem.2 ⟨i,by rw [List.length_take];omega,by rw [List.getElem_take];exact h5⟩
    · omega
 have hmt:=ho.lt hk hi hki
 have hno:∀u∈ts.drop j,¬u.m=m:=by
  intro u hu e;rw [hd] at hu
  rcases List.mem_cons.1 hu with rfl | hu
  · exact hne e
  · have h3:=h2 u hu;rw [before,decide_eq_true_eq,e] at h3;have h4:=cmpM_trans _ _ _ hmt h3;rw [cmpM_self] at h4;omega
 refine ⟨⟨fun u hu=>?_,fun u hu hm=>?_⟩,coef_none fun u hu e=>?_⟩
 · rw [List.take_add_one,List.mem_append];exact Or.inl (h.1 u hu)
 · rw [List.take_add_one,hk,Option.toList_some,List.mem_append,List.mem_singleton] at hm
   rcases hm with hm | hm
   · exact h.2 u hu hm
   · exact hno u hu hm
 · rw [←List.take_append_drop j ts,List.mem_append] at hu
   rcases hu with hu | hu
   · have:=h.1 u hu;rw [e] at this;exact ho.not_take hk this
   · exact hno u hu e
theorem Inv3.done {V:List (List Int)} {ts:List Tm} {k:Nat} (h:Inv3 V ts ts.length k) (ho:Ord V):vecTo V ts k=rowT V ts:=by
 have h0:∀m∈V.drop k,coef ts m=0:=by
  intro m hm;refine coef_none fun t ht e=>?_;have h1:=h.1 t (by rw [List.take_length];exact ht);rw [e] at h1;obtain ⟨i,hi,he⟩:=List.mem_iff_getElem.1 hm;rw [List.length_drop] at hi;rw [List.getElem_drop] at he;obtain ⟨i',hi',he'⟩:=List.mem_iff_getElem.1 h1;rw [List.length_take] at hi';rw [List.getElem_take] at he';have:=ho.inj (m:=m) (i:=k+i) (j:=i') (by rw [List.getElem?_eq_getElem (by omega),he]) (by rw [List.getElem?_eq_getElem (by omega),he']);omega
 have h1:rowT V ts=rowT (V.take k) ts++(V.drop k).map (coef ts):=by
  rw [rowT,rowT,←List.map_append,List.take_append_drop]
 rw [h1,vecTo]
 congr 1
 symm
 rw [List.eq_replicate_iff]
 refine ⟨by simp,fun x hx=>?_⟩
 obtain ⟨m,hm,rfl⟩:=List.mem_map.1 hx
 exact h0 m hm
theorem vecTo_end {V:List (List Int)} {ts:List Tm} {n:Nat} (h:V.length=n):vecTo V ts n=rowT V ts:=by
 subst h
 rw [vecTo,List.take_length,Nat.sub_self,List.replicate_zero,List.append_nil]
theorem nine8 {w':World} {b o:Nat} {m0 m1 m2 m3 m4 m5 m6 m7 f:Int} (h:w'.rangeAt b o (tcells ⟨[m0,m1,m2,m3,m4,m5,m6,m7],f⟩)):w'.cell? ⟨b,o,none⟩=some (.int .u8 m0)∧w'.cell? ⟨b,o+1,none⟩=some (.int .u8 m1)∧w'.cell? ⟨b,o+2,none⟩=some (.int .u8 m2)∧w'.cell? ⟨b,o+3,none⟩=some (.int .u8 m3)∧w'.cell? ⟨b,o+4,none⟩=some (.int .u8 m4)∧w'.cell? ⟨b,o+5,none⟩=some (.int .u8 m5)∧w'.cell? ⟨b,o+6,none⟩=some (.int .u8 m6)∧w'.cell? ⟨b,o+7,none⟩=some (.int .u8 m7):=
 ⟨h 0 _ rfl,h 1 _ rfl,h 2 _ rfl,h 3 _ rfl,h 4 _ rfl,h 5 _ rfl,h 6 _ rfl,h 7 _ rfl⟩
set_option maxHeartbeats 4000000 in
theorem vector3_c {w : World} {a fa : Option Addr} {n fn : Nat} {V : List (List Int)} {ts : List Tm} (cc fc : Nat) (hM : Mos w a n V) (ho : Ord V) (hn : n ≤ 1048576) (hT : Terms w fa fn ts) (hfn : fn ≤ 1048576) (hs : Srt ts) (hmem : ∀ t ∈ ts, t.m ∈ V) :
    Calls Tryz.prog 49 #[.agg #[.slice fa fn fc],.slice a n cc] w fun e w'=>∃g,e=.returned (.slice (some ⟨g,0,none⟩) n n)∧w.heap.size≤g∧Own w' g 2 (ofI (rowT V ts))∧Below w.heap.size w w':=by
 have HL:=Lib.hid hT.len
 have HN:=Lib.hid hM.1
 have HM:=Lib.hid hM
 have HT:=Lib.hid hT
 have HS:=Lib.hid hs
 have HV:=Lib.hid ho
 have HE:=Lib.hid hmem
 have hF0:=Own.new w 53 #[.slice fa fn fc]
 have hb0:=bA1 w (.cells #[.slice fa fn fc] 53)
 have hmk:=run_make_row' (P:=Tryz.prog) 22 2 (.int .i64 0) 8 Tryz.underlying22 Tryz.info_int64 rfl .i64 .i64 n (by omega) (by omega)
 rw [show madeCells #[Value.int .i64 0] n=Array.replicate n (Value.int .i64 0) by (apply Array.ext';rw [toList_madeCells_one];simp)] at hmk
 clear hM hT hs ho hmem
 go_enter Tryz.func49,Tryz.ntmps49
 go_upto_region 1 with fail
 generalize w.alloc (.cells #[.slice fa fn fc] 53)=w0 at *
 have hmk1:=hmk w0
 clear hmk
 have hR:=Own.new w0 2 (Array.replicate n (Value.int .i64 0))
 have hba:=bA1 w0 (.cells (Array.replicate n (Value.int .i64 0)) 2)
 have hF1:=hF0.keep hba hF0.lt
 have hb1:=bT' hb0 hba hb0.size
 have hgR:Hid (w.heap.size<w0.heap.size):=Lib.hid hF0.lt
 go_upto_region 2 with fail
 generalize w0.alloc (.cells (Array.replicate n (Value.int .i64 0)) 2)=w2 at *
 generalize w0.heap.size=gR at *
 clear hmk1 hF0 hb0 hba
 generalize hge:w.heap.size=gF at *
 have HGE:=Lib.hid hge
 clear hge
 have hR0:Own w2 gR 2 (ofI (vecTo V ts 0)):=by
  have e:vecTo V ts 0=List.replicate n 0:=(by rw [vecTo,List.take_zero,HN.out];rfl);rw [e,←ofI_rep];exact hR
 clear hR
 go_wp2_with fail
 go_loopw [6,7] (fun x y wr=>∃j k:Nat,j≤fn∧k≤n∧x=.int .i64 j∧y=.int .i64 k∧Below gF w wr∧Own wr gR 2 (ofI (vecTo V ts k))∧Own wr gF 53 #[.slice fa fn fc]∧Inv3 V ts j k) (fun _ y _=>n - (intOf y).toNat)
 case atStart=>exact ⟨0,0,Nat.zero_le _,Nat.zero_le _,rfl,rfl,hb1,hR0,hF1,by simp,by simp⟩
 case round=>
  clear hb1 hR0 hF1;obtain ⟨j,k,hj,hk,rfl,rfl,hb,hR,hF,hI⟩:=hrel;have HI:=Lib.hid hI;clear hI;have c0:=hF.cell 0;by_cases hkn:k<n
  · have hki:(k:Int)<(n:Int):=(by omega);by_cases hjn:j<fn
    · have hji:(j:Int)<(fn:Int):=(by omega);obtain ⟨b,fo,t,rfl,hbl,hro,htm,hx⟩:=(HT.out.keep (by rw [HGE.out];exact hb)).at_ hjn;obtain ⟨b',off,m,rfl,hbl',hr,hm,hx'⟩:=(HM.out.keep (by rw [HGE.out];exact hb)).at_ hkn;obtain ⟨mt,ft⟩:=t;have hmt:IsMono mt:=htm.1;have hlv:(vecTo V ts k).length=n:=(by rw [vecTo_len (by rw [HN.out];exact hk),HN.out]);have HLV:=Lib.hid hlv;by_cases he:mt=m
      · subst he;have HST:=Lib.hid (vecTo_set (ts:=ts) hx'.out (coef_at HS.out hx.out));have HIN:=Lib.hid (HI.out.hit HS.out hx.out hx'.out);obtain ⟨m0,m1,m2,m3,m4,m5,m6,m7,rfl⟩:=mono8 hm
        have HQ:∀w,(Op.equalIn 10000 69 (.agg #[.int .u8 m0,.int .u8 m1,.int .u8 m2,.int .u8 m3,.int .u8 m4,.int .u8 m5,.int .u8 m6,.int .u8 m7]) (.agg #[.int .u8 m0,.int .u8 m1,.int .u8 m2,.int .u8 m3,.int .u8 m4,.int .u8 m5,.int .u8 m6,.int .u8 m7])).run Tryz.prog w=.ok true w:=fun w=>by
         have:=eqM_run (w:=w) hm hm
         rwa [decide_eq_true rfl] at this
        clear hlv hx hx' htm hmt;have hRd:Own wr.drew gR 2 (ofI (vecTo V ts k)):=hR;have y8:wr.drew.cell? ⟨b,fo+j * 9+8,none⟩=some (.int .i64 ft):=hro 8 _ rfl;have c0d:wr.drew.cell? ⟨gF,0,none⟩=some (.slice (some ⟨b,fo,none⟩) fn fc):=c0;have hfz:=hRd.frozen k;obtain ⟨ov,hcv⟩:=hRd.has (i:=k) (by rw [ofI,List.size_toArray,List.length_map,HLV.out];exact hkn);go_upto_region 5 with fail
        go_region_held3 (fun w'=>w'.cell? ⟨gF,0,none⟩=some (.slice (some ⟨b,fo,none⟩) fn fc)∧w'.cell? ⟨b,fo+j * 9,none⟩=some (.int .u8 m0)∧w'.cell? ⟨b,fo+j * 9+1,none⟩=some (.int .u8 m1)∧w'.cell? ⟨b,fo+j * 9+2,none⟩=some (.int .u8 m2)∧w'.cell? ⟨b,fo+j * 9+3,none⟩=some (.int .u8 m3)∧w'.cell? ⟨b,fo+j * 9+4,none⟩=some (.int .u8 m4)∧w'.cell? ⟨b,fo+j * 9+5,none⟩=some (.int .u8 m5)∧w'.cell? ⟨b,fo+j * 9+6,none⟩=some (.int .u8 m6)∧w'.cell? ⟨b,fo+j * 9+7,none⟩=some (.int .u8 m7)∧w'.cell? ⟨b',off+k * 8,none⟩=some (.int .u8 m0)∧w'.cell? ⟨b',off+k * 8+1,none⟩=some (.int .u8 m1)∧w'.cell? ⟨b',off+k * 8+2,none⟩=some (.int .u8 m2)∧w'.cell? ⟨b',off+k * 8+3,none⟩=some (.int .u8 m3)∧w'.cell? ⟨b',off+k * 8+4,none⟩=some (.int .u8 m4)∧w'.cell? ⟨b',off+k * 8+5,none⟩=some (.int .u8 m5)∧w'.cell? ⟨b',off+k * 8+6,none⟩=some (.int .u8 m6)∧w'.cell? ⟨b',off+k * 8+7,none⟩=some (.int .u8 m7)) (exact And.intro (hF.cell 0) (pair16 (nine8 hro) (eight hr))) (fail)
        all_goals go_wp2_with fail
        all_goals go_roundw
        all_goals first
         | (case measure=>simp [intOf] <;> omega)
         | skip
        all_goals refine ⟨j+1,k+1,by omega,by omega,by go_num,by go_num,hb.drew.setCell (p:=⟨gR,k,none⟩) (by have:=hgR.out;dsimp only;omega) _,?_,(show Own wr.drew gF 53 #[.slice (some ⟨b,fo,none⟩) fn fc] from hF).far (p:=⟨gR,k,none⟩) (by have:=hgR.out;dsimp only;omega) _,HIN.out⟩
        all_goals (rw [←HST.out,←ofI_set];exact hRd.set k _)
      · have HIM:=Lib.hid (HI.out.miss HV.out HS.out HE.out hx.out hx'.out he);have HSK:=Lib.hid (vecTo_skip (ts:=ts) hx'.out HIM.out.2);obtain ⟨m0,m1,m2,m3,m4,m5,m6,m7,rfl⟩:=mono8 hm;obtain ⟨p0,p1,p2,p3,p4,p5,p6,p7,rfl⟩:=mono8 hmt
        have HQ:∀w,(Op.equalIn 10000 69 (.agg #[.int .u8 p0,.int .u8 p1,.int .u8 p2,.int .u8 p3,.int .u8 p4,.int .u8 p5,.int .u8 p6,.int .u8 p7]) (.agg #[.int .u8 m0,.int .u8 m1,.int .u8 m2,.int .u8 m3,.int .u8 m4,.int .u8 m5,.int .u8 m6,.int .u8 m7])).run Tryz.prog w=.ok false w:=fun w=>by
         have:=eqM_run (w:=w) hmt hm
         rwa [decide_eq_false he] at this
        clear hlv hx hx' htm he;go_upto_region 5 with fail
        go_region_held3 (fun w'=>w'.cell? ⟨gF,0,none⟩=some (.slice (some ⟨b,fo,none⟩) fn fc)∧w'.cell? ⟨b,fo+j * 9,none⟩=some (.int .u8 p0)∧w'.cell? ⟨b,fo+j * 9+1,none⟩=some (.int .u8 p1)∧w'.cell? ⟨b,fo+j * 9+2,none⟩=some (.int .u8 p2)∧w'.cell? ⟨b,fo+j * 9+3,none⟩=some (.int .u8 p3)∧w'.cell? ⟨b,fo+j * 9+4,none⟩=some (.int .u8 p4)∧w'.cell? ⟨b,fo+j * 9+5,none⟩=some (.int .u8 p5)∧w'.cell? ⟨b,fo+j * 9+6,none⟩=some (.int .u8 p6)∧w'.cell? ⟨b,fo+j * 9+7,none⟩=some (.int .u8 p7)∧w'.cell? ⟨b',off+k * 8,none⟩=some (.int .u8 m0)∧w'.cell? ⟨b',off+k * 8+1,none⟩=some (.int .u8 m1)∧w'.cell? ⟨b',off+k * 8+2,none⟩=some (.int .u8 m2)∧w'.cell? ⟨b',off+k * 8+3,none⟩=some (.int .u8 m3)∧w'.cell? ⟨b',off+k * 8+4,none⟩=some (.int .u8 m4)∧w'.cell? ⟨b',off+k * 8+5,none⟩=some (.int .u8 m5)∧w'.cell? ⟨b',off+k * 8+6,none⟩=some (.int .u8 m6)∧w'.cell? ⟨b',off+k * 8+7,none⟩=some (.int .u8 m7)) (exact And.intro (hF.cell 0) (pair16 (nine8 hro) (eight hr))) (fail)
        all_goals go_wp2_with fail
        all_goals go_roundw
        all_goals first
         | (case measure=>simp [intOf] <;> omega)
         | skip
        all_goals exact ⟨j,k+1,hj,by omega,rfl,by go_num,hb.drew,by rw [←HSK.out];exact hR,hF,HIM.out.1⟩
    · have hji:¬(j:Int)<(fn:Int):=(by omega);go_wp2_with fail
      go_ret
      obtain rfl:j=fn:=(by omega);have hd:=(show Inv3 V ts ts.length k by rw [HL.out];exact HI.out).done HV.out;rw [hd] at hR;exact ⟨gR,rfl,by have:=hgR.out;have:=HGE.out;omega,hR,by rw [HGE.out];exact hb⟩
  · have hki:¬(k:Int)<(n:Int):=(by omega);go_wp2_with fail
    go_ret
    obtain rfl:k=n:=(by omega);rw [vecTo_end HN.out] at hR;exact ⟨gR,rfl,by have:=hgR.out;have:=HGE.out;omega,hR,by rw [HGE.out];exact hb⟩
end Go.Proofs.YtfheammnkmjabaaGreat
