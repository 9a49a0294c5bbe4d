
import Derived.Test.YtikldofmpkidbaaConD
import Derived.Test.YtikldofmpkidbaaQuad
import Derived.Test.YtikldofmpkidbaaWord
import Derived.Test.YtikldofmpkidbaaConT
namespace Go.Proofs.Ytikldofmpkidbaa
set_option maxRecDepth 100000
open Go.RowKit Go.Deep
theorem gensW_len {m:List Int} (hm:IsMono m):∀j,((gensW m j).length:Int)=wlTo m j
 | 0=>rfl
 | j + 1 => by
   have h1:=gensW_len hm j;have h2:=(getD_mono hm j).1;rw [gensW,wlTo,List.length_append,List.length_replicate];omega
theorem news1q (w:World) (v:Value) (t:TypeId):∀j u,([v]:List Value)[j]? = some u→(w.alloc (.cells #[v] t)).cell? ((⟨w.heap.size,0,none⟩:Addr).add j)=some u:=fun j u hu=>by
 rw [Addr.add_mid]
 exact (Own.new w t #[v]).range j u hu
set_option maxHeartbeats 8000000 in
theorem constantOf_c {w : World} (i : Nat) {p0 p1 p2 p3 p4 p5 p6 p7 f : Int} (hm : IsMono [p0, p1, p2, p3, p4, p5, p6, p7]) :
    Calls Try.prog 69 #[.int .i64 i,.agg #[.int .u8 p0,.int .u8 p1,.int .u8 p2,.int .u8 p3,.int .u8 p4,.int .u8 p5,.int .u8 p6,.int .u8 p7,.int .i64 f]] w fun e w'=>∃a n c,e=.returned (.slice a n c)∧OwnV w' w.heap.size w'.heap.size a n (rowK i ⟨[p0,p1,p2,p3,p4,p5,p6,p7],f⟩)∧Below w.heap.size w w':=by
 obtain ⟨ti,tz,hti,htz,hts,htb,htzs⟩:=Try.info_intA
 have HI:=Lib.hid hti
 have HZ:=Lib.hid htz
 have HS:=Lib.hid hts
 have HBt:=Lib.hid htb
 have HZs:=Lib.hid htzs
 have HGL:=Lib.hid (gensW_len hm)
 have HWB:=Lib.hid (wlTo_bd hm)
 clear hti htz hts htb htzs
 have hA:=Own.new w 88 #[.int .u8 p0,.int .u8 p1,.int .u8 p2,.int .u8 p3,.int .u8 p4,.int .u8 p5,.int .u8 p6,.int .u8 p7,.int .i64 f]
 have hb:=bA1 w (.cells #[.int .u8 p0,.int .u8 p1,.int .u8 p2,.int .u8 p3,.int .u8 p4,.int .u8 p5,.int .u8 p6,.int .u8 p7,.int .i64 f] 88)
 go_enter Try.func69,Try.ntmps69
 go_upto_region 1 with fail
 generalize w.alloc (.cells #[.int .u8 p0,.int .u8 p1,.int .u8 p2,.int .u8 p3,.int .u8 p4,.int .u8 p5,.int .u8 p6,.int .u8 p7,.int .i64 f] 88)=w0 at *
 obtain ⟨lo,hlo⟩:∃lo,w.heap.size=lo:=⟨_,rfl⟩
 rw [hlo] at hA hb ⊢
 try rw [hlo]
 have HLO:=Lib.hid hlo
 clear hlo
 have hl0:=hA.lt
 have hba:=bA1 w0 (.cells #[.int .i64 (i:Int)] 2)
 have hO:=Own.new w0 2 #[.int .i64 (i:Int)]
 have hR:(w0.alloc (.cells #[.int .i64 (i:Int)] 2)).ownsRow lo 2 1 (.slice (some ⟨w0.heap.size,0,none⟩) 1 1) 1 (([(i:Int)]++gensW [p0,p1,p2,p3,p4,p5,p6,p7] 0).map (Value.int .i64)):=
  ⟨rfl,Or.inr ⟨w0.heap.size,1,_,rfl,by omega,hO,Nat.le_refl _,by decide,rfl,rfl⟩⟩
 replace hA:=hA.keep hba hA.lt
 replace hb:=bT' hb hba (by omega)
 clear hO hba hl0
 go_upto_region 2 with fail
 generalize w0.alloc (.cells #[.int .i64 (i:Int)] 2)=w1 at *
 generalize w0.heap.size=gC at *
 have c0:=hA.cell 0
 have c1:=hA.cell 1
 have c2:=hA.cell 2
 have c3:=hA.cell 3
 have c4:=hA.cell 4
 have c5:=hA.cell 5
 have c6:=hA.cell 6
 have c7:=hA.cell 7
 go_wp2_with fail
 clear c0 c1 c2 c3 c4 c5 c6 c7
 go_loopw [5,12] (fun s y wr=>∃(j:Nat) (oa:Option Addr) (n oc:Nat),j≤8∧y=.int .i64 j∧s=.slice oa n oc∧Below lo w wr∧Own wr lo 88 #[.int .u8 p0,.int .u8 p1,.int .u8 p2,.int .u8 p3,.int .u8 p4,.int .u8 p5,.int .u8 p6,.int .u8 p7,.int .i64 f]∧wr.ownsRow lo 2 1 (.slice oa n oc) n (([(i:Int)]++gensW [p0,p1,p2,p3,p4,p5,p6,p7] j).map (Value.int .i64))) (fun _ y _=>8 - (intOf y).toNat)
 case atStart=>exact ⟨0,_,_,_,Nat.zero_le _,rfl,rfl,hb,hA,hR⟩
 case round=>
  clear hb hA hR;obtain ⟨j,oa,n,oc,hj,rfl,rfl,hb,hA,hR⟩:=hrel;have HR:=Lib.hid hR;clear hR;by_cases hlt:j<8
  · obtain ⟨y,hy0,hy1,hy,HY⟩:=mono_at hm hlt;have hj8:(j:Int)<8:=by omega
    have hyA:(#[.int .u8 p0,.int .u8 p1,.int .u8 p2,.int .u8 p3,.int .u8 p4,.int .u8 p5,.int .u8 p6,.int .u8 p7]:Array Value)[j]? = some (.int .u8 y):=by
     show (mcells [p0,p1,p2,p3,p4,p5,p6,p7]).toArray[j]? = _
     rw [List.getElem?_toArray];exact hy
    have hix:=run_index_one (P:=Try.prog) Try.underlying86 Try.info_u8 hlt (cs:=#[.int .u8 p0,.int .u8 p1,.int .u8 p2,.int .u8 p3,.int .u8 p4,.int .u8 p5,.int .u8 p6,.int .u8 p7]) (v:=.int .u8 y) hyA Try.isAgg_u8
    have HGS:Hid ([(i:Int)]++gensW [p0,p1,p2,p3,p4,p5,p6,p7] (j+1)=([(i:Int)]++gensW [p0,p1,p2,p3,p4,p5,p6,p7] j)++List.replicate y.toNat (j:Int)):=Lib.hid (by
     rw [gensW,List.getD_eq_getElem?_getD,HY.out,←List.append_assoc];rfl)
    have hGB:([(i:Int)]++gensW [p0,p1,p2,p3,p4,p5,p6,p7] j).length≤2041:=by
     rw [List.length_append,List.length_singleton];have h1:=HGL.out j;have h2:=(HWB.out j).2;omega
    generalize [(i:Int)]++gensW [p0,p1,p2,p3,p4,p5,p6,p7] j=G at *;go_wp2_with fail
    clear hix hyA hy
    go_loopw [5,17] (fun s y' wx=>∃(c:Nat) (oa:Option Addr) (n oc:Nat),(c:Int)≤y∧y'=.int .u8 c∧s=.slice oa n oc∧Below lo w wx∧Own wx lo 88 #[.int .u8 p0,.int .u8 p1,.int .u8 p2,.int .u8 p3,.int .u8 p4,.int .u8 p5,.int .u8 p6,.int .u8 p7,.int .i64 f]∧wx.ownsRow lo 2 1 (.slice oa n oc) n ((G++List.replicate c (j:Int)).map (Value.int .i64))) (fun _ y' _=>y.toNat - (intOf y').toNat)
    case atStart=>exact ⟨0,oa,n,oc,hy0,rfl,rfl,hb,hA,by rw [List.replicate_zero,List.append_nil];exact HR.out⟩
    case round=>
     clear hb hA HR;obtain ⟨c,oa,n,oc,hc,rfl,rfl,hb,hA,hR⟩:=hrel;by_cases hcy:(c:Int)<y
     · have hn : n ≤ 4000 := by
         have:=hR.1;rw [List.length_map,List.length_append,List.length_replicate] at this;omega
       have hu8:IntKind.u8.wrap ((c:Int)+1)=(c:Int)+1:=IntWalk.u8_in _ (by omega);have hnews:=news1q wr (Value.int .i64 (j:Int)) 2;have hone:∀u∈([Value.int .i64 (j:Int)]:List Value),u.oneCell'=true:=(by simp [Value.oneCell']);have HN:=Lib.hid hnews;have HO:=Lib.hid hone;have hba:=bA1 wr (.cells #[.int .i64 (j:Int)] 2);have HR2:=Lib.hid (row_keep hR hba);have hsz0:lo≤wr.heap.size:=Nat.le_of_lt hA.lt;have hb8:=bT' hb hba hsz0;have hA3:=hA.keep hba hA.lt;have hsz:lo≤(wr.alloc (.cells #[.int .i64 (j:Int)] 2)).heap.size:=(by rw [sAl];omega);clear hnews hone hba hR hA hb
       go_wp2_with (refine wpList_append_own_wide _ rfl (.tmp 19) (.tmp 21) 22 rfl lo 2 ti tz 1 8 Try.underlying22 HI.out HZ.out HS.out HBt.out HZs.out (by omega) (.slice oa n oc) n _ rfl HR2.out ⟨wr.heap.size, 0, none⟩ 1 1 [Value.int .i64 (j : Int)] rfl rfl HN.out HO.out (by simp only [maxLen]; omega) (by omega) hsz (fun v' w' h2 h3 h4 => ?_)
                    have hb9:=grown_below hb8 h3 (fun j e=>(HR2.out.lt j e).1) hsz;have hA4:=hA3.grown h3 (own_ne_row hA3 HR2.out (by decide));obtain ⟨va,vc,rfl⟩:=row_slice h2
                    have hR5:w'.ownsRow lo 2 1 (.slice va (n+1) vc) (n+1) ((G++List.replicate (c+1) (j:Int)).map (Value.int .i64)):=by
                     rw [List.replicate_succ',←List.append_assoc,List.map_append (l₂:=[(j:Int)])];exact h2
                    clear h2 h3 h4 hb8 hA3 HR2 HN HO hsz hsz0)
       go_roundw
       case rel=>exact ⟨c+1,va,n+1,vc,by omega,by go_num,rfl,hb9,hA4,hR5⟩
       case measure=>simp [intOf] <;> omega
     · have hcc:c=y.toNat:=(by omega);have HR:=Lib.hid hR;clear hR;go_wp2_with fail
       go_roundw
       case rel=>exact ⟨j+1,oa,n,oc,by omega,by go_num,rfl,hb,hA,by rw [HGS.out,←hcc];exact HR.out⟩
       case measure=>simp [intOf] <;> omega
  · have he:j=8:=(by omega);subst he
    have hn:n≤4000:=by
     have h0:=HR.out.1;rw [List.length_map,List.length_append,List.length_singleton] at h0;have h1:=HGL.out 8;have h2:=(HWB.out 8).2;omega
    have cf:=hA.cell 8;have hnews:=news1q wr (Value.int .i64 f) 2;have hone:∀u∈([Value.int .i64 f]:List Value),u.oneCell'=true:=(by simp [Value.oneCell']);have HN:=Lib.hid hnews;have HO:=Lib.hid hone;have hba:=bA1 wr (.cells #[.int .i64 f] 2);have HR2:=Lib.hid (row_keep HR.out hba);have hsz0:lo≤wr.heap.size:=Nat.le_of_lt hA.lt;have hb8:=bT' hb hba hsz0;have hsz:lo≤(wr.alloc (.cells #[.int .i64 f] 2)).heap.size:=(by rw [sAl];omega);clear hnews hone hba HR hb
    go_wp2_with (refine wpList_append_own_wide _ rfl (.tmp 25) (.tmp 28) 22 rfl lo 2 ti tz 1 8 Try.underlying22 HI.out HZ.out HS.out HBt.out HZs.out (by omega) (.slice oa n oc) n _ rfl HR2.out ⟨wr.heap.size, 0, none⟩ 1 1 [Value.int .i64 f] rfl rfl HN.out HO.out (by simp only [maxLen]; omega) (by omega) hsz (fun v' w' h2 h3 h4 => ?_)
                 have hb9:=grown_below hb8 h3 (fun j e=>(HR2.out.lt j e).1) hsz
                 have hR5:w'.ownsRow lo 2 1 v' (n+1) ((rowK i ⟨[p0,p1,p2,p3,p4,p5,p6,p7],f⟩).map (Value.int .i64)):=by
                  rw [rowK,List.map_append (l₂:=[f])];exact h2
                 clear h2 h3 h4 hb8 HR2 HN HO hsz hsz0)
    obtain ⟨va,vc,rfl,hV⟩:=OwnV.of_row hR5
    go_ret
    exact ⟨va,n+1,vc,rfl,by rw [HLO.out];exact hV,by rw [HLO.out];exact hb9⟩
def conR (V:List (List Tm)):Nat→List (List Int)
 | 0=>[]
 | i+1=>conR V i++(V.getD i []).map (rowK i)
theorem conR_len {V:List (List Tm)} (h:∀ts∈V,ts.length≤400):∀i,(conR V i).length≤i * 400
 | 0=>Nat.le_refl _
 | i + 1 => by
   have h1:=conR_len h i
   have h2:(V.getD i []).length≤400:=by
    by_cases hi:i<V.length
    · rw [List.getD_eq_getElem?_getD,List.getElem?_eq_getElem hi];exact h _ (List.getElem_mem hi)
    · rw [List.getD_eq_getElem?_getD,List.getElem?_eq_none (by omega)];exact Nat.zero_le _
   rw [conR,List.length_append,List.length_map];omega
theorem conR_map {ims:List (List Tm)}:∀i,conR (ims.map (wordsOf 2)) i=conQ ims i
 | 0=>rfl
 | i + 1 => by
   rw [conR,conQ,conR_map i];congr 2
   rw [List.getD_eq_getElem?_getD,List.getD_eq_getElem?_getD,List.getElem?_map];cases ims[i]? <;> rfl
structure QpOk (V:List (List Tm)):Prop where
 l8:V.length≤8
 l4:∀ts∈V,ts.length≤400
 tm:∀ts∈V,∀t∈ts,IsTm t
 r4:∀ts∈V,∀t∈ts,∀i,(rowK i t).length=4
theorem qpOk {zs:List Int} {ims:List (List Tm)} (hT:∀im∈ims,∀t∈im,IsTm t):QpOk (qpV zs ims)∧conR (qpV zs ims) (qpV zs ims).length=conV zs ims∧qpE zs ims=conE zs ims:=by
 cases hA:isAlg zs ims with
 | false =>
   rw [(qp_no hA).1,(qp_no hA).2,conV,conE,hA];exact ⟨⟨by simp,by simp,by simp,by simp⟩,rfl,rfl⟩
 | true =>
   have hO:=isAlg_ok hA hT;rw [(qp_yes hA).1,(qp_yes hA).2,conV,conE,hA,if_pos rfl,if_pos rfl];refine ⟨⟨?_,?_,?_,?_⟩,?_,rfl⟩
   · rw [List.length_map,hO.ln];exact hO.h8
   · intro ts hts;obtain ⟨im,him,rfl⟩:=List.mem_map.1 hts;exact Nat.le_trans (wordsOf_len 2 im) (isForm_400 (hO.fm im him))
   · intro ts hts;obtain ⟨im,him,rfl⟩:=List.mem_map.1 hts;exact wordsOf_tm (hT im him)
   · intro ts hts t ht i;obtain ⟨im,him,rfl⟩:=List.mem_map.1 hts;exact rowK_four hO.h8 ((words_ok (hO.fm im him) (hT im him)).2 t ht)
   · rw [List.length_map,conR_map,conQ_eq hO.h8 hO.fm hT _ (Nat.le_refl _)]
set_option maxHeartbeats 8000000 in
theorem ConstantsOf_c {w : World} {da : Option Addr} {dn : Nat} {zs : List Int} {a : Option Addr} {n : Nat} {ims : List (List Tm)} (dc c : Nat) (hd : Ints w da dn zs) (hdn : dn ≤ 1048576) (hF : Frms w a n ims) (hn : n ≤ 1048576) (hL : ∀ im ∈ ims, (im.length : Int) ≤ 1048576) :
    Calls Try.prog 24 #[.agg #[.slice da dn dc,.slice a n c]] w fun e w'=>∃ra rn rc,e=.returned (.tuple #[.slice ra rn rc,.int .i64 (conE zs ims)])∧OwnT w' w.heap.size w'.heap.size ra rn (conV zs ims)∧Below w.heap.size w w':=by
 have HLL:=Lib.hid hL
 obtain ⟨hQ,hC1,hC2⟩:=qpOk (zs:=zs) hF.tm
 have HQ:=Lib.hid hQ
 have HC1:=Lib.hid hC1
 have HC2:=Lib.hid hC2
 obtain ⟨tiR,tzR,htiR,htzR,htsR,htbR,htzsR⟩:=Try.info_intsA
 have HIR:=Lib.hid htiR
 have HZR:=Lib.hid htzR
 have HSR:=Lib.hid htsR
 have HBtR:=Lib.hid htbR
 have HZsR:=Lib.hid htzsR
 clear hL hQ hC1 hC2 htiR htzR htsR htbR htzsR
 have hA:=Own.new w 33 #[.slice da dn dc,.slice a n c]
 have hb:=bA1 w (.cells #[.slice da dn dc,.slice a n c] 33)
 have c0:=hA.cell 0
 have c1:=hA.cell 1
 go_enter Try.func24,Try.ntmps24
 go_upto_region 1 with fail
 generalize w.alloc (.cells #[.slice da dn dc,.slice a n c] 33)=w0 at *
 go_wp2_with fail
 refine (QuadraticParts_c dc c (hd.keep hb) hdn (hF.keep hb) hn HLL.out).mono ?_
 rintro e w1 ⟨pa,pn,pc,rfl,hV,hb1⟩
 have hb2:=bT' hb hb1 hb.size
 have hlo:w.heap.size≤w1.heap.size:=hb2.size
 have HPN:=Lib.hid hV.1
 have HFr:=Lib.hid (hV.frms (fun ts hts=>by have:=HQ.out.l4 ts hts;omega))
 clear hA hb hb1 c0 c1 hV
 generalize qpV zs ims=V at *
 have hp8:pn≤8:=by have:=HPN.out;have:=HQ.out.l8;omega
 have HS:=Lib.hid (CoQ.start w1)
 have HB2:=Lib.hid hb2
 clear hb2
 obtain ⟨Q,hQs⟩:∃Q,w1.heap.size=Q:=⟨_,rfl⟩
 rw [hQs] at HS hlo
 try rw [hQs]
 have HQS:=Lib.hid hQs
 clear hQs
 go_wp2_with fail
 go_loopw [6,18] (fun o y wr=>∃(i:Nat) (oa:Option Addr) (oc:Nat) (R:List Rw),i≤pn∧y=.int .i64 i∧o=.slice oa R.length oc∧Hid (CoQ w1 wr Q oa oc R (conR V i))) (fun _ y _=>pn - (intOf y).toNat)
 case atStart=>exact ⟨0,_,_,[],Nat.zero_le _,rfl,rfl,HS⟩
 case round=>
  clear HS;obtain ⟨i,oa,oc,R,hi,rfl,rfl,HW⟩:=hrel;by_cases hin:i<pn
  · obtain ⟨b,off,ts,ai,ni,ci,rfl,hbl,hc0,hTs,hni,hx⟩:=HFr.out.at_ hin;have hc:=(World.cell?_of_block (a:=⟨b,off+i,none⟩) (HW.out.b.block b (by rw [←HQS.out];exact hbl))).trans hc0;have hmem:=List.mem_of_getElem? hx.out;have HTL:=Lib.hid hTs.len;have h4:ni≤400:=(by have:=HQ.out.l4 ts hmem;have:=hTs.len;omega);have HCR:Hid (conR V (i+1)=conR V i++ts.map (rowK i)):=Lib.hid (by rw [conR,List.getD_eq_getElem?_getD,hx.out];rfl);have HR4:=Lib.hid (HQ.out.r4 ts hmem);have hcl:=conR_len HQ.out.l4 i;have HCL:=Lib.hid (show (conR V i).length≤3200 by omega);have hi0:(0:Int)≤(i:Int):=(by omega);have hipn:(i:Int)<(pn:Int):=(by omega);have hba:=bA1 wr (.cells #[.slice ai ni ci] 61);have hE:=Own.new wr 61 #[.slice ai ni ci];have HW1:Hid (CoQ w1 (wr.alloc (.cells #[.slice ai ni ci] 61)) Q oa oc R (conR V i++(ts.take 0).map (rowK i))):=Lib.hid (by rw [List.take_zero,List.map_nil,List.append_nil];exact HW.out.keep hba);have HTS:=Lib.hid hTs;go_upto_region 6 with fail
    clear hba HW hTs hc hc0 hbl hmem hcl hx;generalize conR V i=T0 at *;generalize wr.alloc (.cells #[.slice ai ni ci] 61)=wf at *;generalize wr.heap.size=gF at *;have cE:=hE.cell 0;go_wp2_with fail
    clear cE hE;have HFS:=Lib.hid HW1.out.sz
    go_loopw [6,26] (fun o y wx=>∃(t:Nat) (oa:Option Addr) (oc:Nat) (R:List Rw),t≤ni∧y=.int .i64 t∧o=.slice oa R.length oc∧Hid (CoQ w1 wx Q oa oc R (T0++(ts.take t).map (rowK i))) ) (fun _ y _=>ni - (intOf y).toNat)
    case atStart=>exact ⟨0,_,_,_,Nat.zero_le _,rfl,rfl,HW1⟩
    case round=>
     clear HW1;obtain ⟨t,oa,oc,R,ht,rfl,rfl,HW⟩:=hrel;by_cases htn:t<ni
     · obtain ⟨b2,o2,x,rfl,hb2l,hro,htm,hxt⟩:=(HTS.out.keep (show Below w1.heap.size w1 wr by rw [HQS.out];exact HW.out.b)).at_ htn;obtain ⟨mt,tf⟩:=x;have hmt:IsMono mt:=htm.1;obtain ⟨p0,p1,p2,p3,p4,p5,p6,p7,rfl⟩:=mono8 hmt;obtain ⟨y0,y1,y2,y3,y4,y5,y6,y7,y8⟩:=nine hro;have h44:=HR4.out _ (List.mem_of_getElem? hxt.out) i;have hT:=Own.new wr 88 #[.int .u8 p0,.int .u8 p1,.int .u8 p2,.int .u8 p3,.int .u8 p4,.int .u8 p5,.int .u8 p6,.int .u8 p7,.int .i64 tf];have hba:=bA1 wr (.cells #[.int .u8 p0,.int .u8 p1,.int .u8 p2,.int .u8 p3,.int .u8 p4,.int .u8 p5,.int .u8 p6,.int .u8 p7,.int .i64 tf] 88);have z0:=hT.cell 0;have z1:=hT.cell 1;have z2:=hT.cell 2;have z3:=hT.cell 3;have z4:=hT.cell 4;have z5:=hT.cell 5;have z6:=hT.cell 6;have z7:=hT.cell 7;have z8:=hT.cell 8;have ht0:(0:Int)≤(t:Int):=(by omega);have htn2:(t:Int)<(ni:Int):=(by omega);go_wp2_with fail
       clear y0 y1 y2 y3 y4 y5 y6 y7 y8 z0 z1 z2 z3 z4 z5 z6 z7 z8 hT hro htm;generalize hwt:wr.alloc (.cells #[.int .u8 p0,.int .u8 p1,.int .u8 p2,.int .u8 p3,.int .u8 p4,.int .u8 p5,.int .u8 p6,.int .u8 p7,.int .i64 tf] 88)=wt at *;refine (constantOf_c i hmt).mono ?_;rintro e wc ⟨ra,rn,rc,rfl,hV,hb3⟩;have hr4:rn=4:=(by rw [←hV.1,h44]);subst hr4;obtain ⟨-,hV2⟩:=hV;obtain ⟨g,cs,rfl,hg1,hg2,hO,hs4,hcs⟩:=hV2 (by omega);have hsz:wr.heap.size≤wt.heap.size:=hba.size;have hbc:=bT' hba hb3 hsz;have hl:=HW.out.co.len;rw [List.length_append,List.length_map,List.length_take] at hl;have hl2:R.length≤4000:=(by have:=HCL.out;omega);clear hl hwt hba hb3 hg2;have HN:=Lib.hid (news1c wc (.slice (some ⟨g,0,none⟩) 4 rc) 22);have HO:=Lib.hid (show ∀u∈([Value.slice (some ⟨g,0,none⟩) 4 rc]:List Value),u.oneCell'=true by simp [Value.oneCell']);have HRW:=Lib.hid (row_keep (row_keep HW.out.rw_ hbc) (bA1 wc (.cells #[.slice (some ⟨g,0,none⟩) 4 rc] 22)));have hszc:Q≤(wc.alloc (.cells #[.slice (some ⟨g,0,none⟩) 4 rc] 22)).heap.size:=by rw [sAl];have:=HW.out.sz;have:=hbc.size;omega
       go_wp2_with (refine wpList_append_own_wide _ rfl (.tmp 30) (.tmp 34) 41 rfl Q 22 tiR tzR 1 24 Try.underlying41 HIR.out HZR.out HSR.out HBtR.out HZsR.out (by omega) (.slice oa R.length oc) R.length (rowsD R) rfl HRW.out ⟨wc.heap.size, 0, none⟩ 1 1 [Value.slice (some ⟨g, 0, none⟩) 4 rc] rfl rfl HN.out HO.out (by simp only [maxLen]; omega) (by omega) hszc (fun v' w' h2 h3 h4 => ?_)
                    obtain ⟨xa,xc,R',rfl,hW6,-⟩:=HW.out.push (r:=rowK i ⟨[p0,p1,p2,p3,p4,p5,p6,p7],tf⟩) hbc (Nat.le_trans hsz hg1) hO hs4 hcs h44 h2 h3;have HW6:=Lib.hid hW6
                    clear h2 h3 h4 hW6)
       go_roundw
       case rel=>exact ⟨t+1,xa,xc,R',by omega,by go_num,rfl,by rw [List.take_add_one,hxt.out,List.map_append,←List.append_assoc];exact HW6⟩
       case measure=>simp [intOf] <;> omega
     · have he:t=ni:=(by omega);subst he;go_wp2_with fail
       go_roundw
       case rel=>exact ⟨i+1,oa,oc,R,by omega,by go_num,rfl,by rw [HCR.out];have:=HW.out;rw [List.take_of_length_le (Nat.le_of_eq HTL.out)] at this;exact Lib.hid this⟩
       case measure=>simp [intOf] <;> omega
  · have he:i=pn:=(by omega);subst he;have hW:=HW.out;have hT:=hW.co.ownT hW.rw_ (Nat.le_refl _) (Nat.le_refl _);have hbb:=bT' HB2.out (show Below w1.heap.size w1 wr by rw [HQS.out];exact hW.b) HB2.out.size;rw [←HPN.out,HC1.out] at hT;have HTT:=Lib.hid (hT.weaken (lo':=w.heap.size) hlo (Nat.le_refl _));clear hT hW HW;go_wp2_with fail
    go_ret2
    exact ⟨oa,R.length,oc,by first | rfl | (rw [HC2.out];rfl),HTT.out,hbb⟩
theorem FrmsN.frmsC {w:World} {a:Option Addr} {n:Nat} {fss:List (List Tm)} (h:FrmsN w a n fss) (hL:∀ts∈fss,(ts.length:Int)≤1048576):Frms w a n fss:=
 ⟨h.1,fun hn=>by
  obtain ⟨b,off,ha,hlt,hc⟩:=h.2 hn;refine ⟨b,off,ha,hlt,fun i ts hi=>?_⟩;obtain ⟨ai,ni,ci,h1,h2,-⟩:=hc i ts hi
  exact ⟨ai,ni,ci,h1,h2,by have:=hL ts (List.mem_of_getElem? hi);have:=h2.len;omega⟩⟩
theorem constantsOf_walk (da : Option Addr) (dn dc : Nat) (zs : List Int) (a : Option Addr) (n c : Nat) (fss : List (List Tm)) (w : World) (hd : Ints w da dn zs) (hdm : (dn : Int) ≤ 9223372036854775807) (hF : Frms w a n fss) (hnm : (n : Int) ≤ 9223372036854775807) :
    Calls Try.prog 4 #[.agg #[.slice da dn dc,.slice a n c]] w fun e w'=>e=.returned (.bool true)∧Below w.heap.size w w':=
 lawCon_walk da dn dc zs a n c fss w hd hdm hF hnm (conV zs fss) (conE zs fss) (conV zs fss).length rfl (Nat.le_trans (conV_bd hF.tm).2 (by decide)) (fun r hr=>by rw [(conV_bd hF.tm).1 r hr];decide) (conV_tot hF.tm)
  (fun _ _ _ p q h1 h2 h3 _ _ h4 h5=>ConstantsOf_s p q h4 h1 (h5.frmsC h3) h2 h3)
  (fun _ _ _ p q h1 h2 h3 _ _ h4 h5=>ConstantsOf_c p q h4 h1 (h5.frmsC h3) h2 h3)
end Go.Proofs.Ytikldofmpkidbaa
