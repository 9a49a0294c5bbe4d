
import Derived.Test.YtndnkeijddagiaaWordsS
import Derived.Test.YtndnkeijddagiaaSingle
import Derived.Test.YtndnkeijddagiaaKeep
import Derived.Test.YtndnkeijddagiaaClosed
namespace Go.Proofs.Ytndnkeijddagiaa
set_option maxRecDepth 100000
open Go.RowKit Go.Deep
def qpV (zs:List Int) (ims:List (List Tm)):List (List Tm):=if isAlg zs ims=true then ims.map (wordsOf 2) else []
def qpE (zs:List Int) (ims:List (List Tm)):Int:=if isAlg zs ims=true then 0 else 1
theorem qp_no {zs:List Int} {ims:List (List Tm)} (h:isAlg zs ims=false):qpV zs ims=[]∧qpE zs ims=1:=by simp [qpV,qpE,h]
theorem qp_yes {zs:List Int} {ims:List (List Tm)} (h:isAlg zs ims=true):qpV zs ims=ims.map (wordsOf 2)∧qpE zs ims=0:=by simp [qpV,qpE,h]
def qpTo (ims:List (List Tm)) (k:Nat):List (List Tm):=(ims.take k).map (wordsOf 2)
theorem qpTo_succ {ims:List (List Tm)} {k:Nat} {ts:List Tm} (h:ims[k]? = some ts):qpTo ims (k+1)=qpTo ims k++[wordsOf 2 ts]:=by
 rw [qpTo,List.take_add_one,h,List.map_append]
 rfl
theorem qpTo_len {ims:List (List Tm)} {k:Nat} (h:k≤ims.length):(qpTo ims k).length=k:=by
 rw [qpTo,List.length_map,List.length_take];omega
theorem qp_tm {ims:List (List Tm)} (h:∀ts∈ims,∀t∈ts,IsTm t):∀ts∈ims.map (wordsOf 2),∀t∈ts,IsTm t:=by
 intro ts hts
 obtain ⟨us,hu,rfl⟩:=List.mem_map.1 hts
 exact wordsOf_tm (h us hu)
theorem isAlg_lenQ {zs:List Int} {ims:List (List Tm)} (h:isAlg zs ims=true):ims.length=zs.length:=by
 simp only [isAlg,Bool.and_eq_true,decide_eq_true_eq] at h
 exact h.2.1
theorem isAlg_400 {zs:List Int} {ims:List (List Tm)} (h:isAlg zs ims=true):∀ts∈ims,ts.length≤400:=by
 intro ts hts
 obtain ⟨k,hk,rfl⟩:=List.mem_iff_getElem.1 hts
 have hl:=isAlg_lenQ h
 simp only [isAlg,Bool.and_eq_true] at h
 have h4:=List.all_eq_true.1 h.2.2.1 k (List.mem_range.2 hk)
 have h5:=okIm_of (z:=zs[k]'(by omega)) (List.getElem?_eq_getElem (show k<zs.length by omega)) (List.getElem?_eq_getElem hk) rfl
 rw [h4] at h5
 have h6:=zeroOr_form h5.symm
 simp only [isForm,Bool.and_eq_true,decide_eq_true_eq] at h6
 omega
theorem Vals.frmsN {w:World} {lo gO n:Nat} {vs:List Value} {V:List (List Tm)} {os:Array Value} (h:Vals w lo vs V) (hV:V.length=n) (ho:Own w gO 47 os) (hos:∀(i:Nat) v,vs[i]? = some v→os[i]? = some v) (hT:∀ts∈V,∀t∈ts,IsTm t):FrmsN w (some ⟨gO,0,none⟩) n V:=by
 refine ⟨hV,fun _=>⟨gO,0,rfl,ho.lt,fun i ts hi=>?_⟩⟩
 have hl:=h.len
 have hiv:i<vs.length:=by have:=(List.getElem?_eq_some_iff.1 hi).1;omega
 have hv:vs[i]? = some vs[i]:=List.getElem?_eq_getElem hiv
 have hr:=h.each i _ ts hv hi
 obtain ⟨a,c,he,hTm⟩:=OwnR.terms hr (hT ts (List.mem_of_getElem? hi)) rfl
 refine ⟨a,ts.length,c,?_,hTm,?_⟩
 · rw [Nat.zero_add,ho.cell i,hos i _ hv,he]
 · rcases hr.2 with ⟨h1,h2⟩ | ⟨g,cap,cur,h1,_⟩
   · rw [he] at h1;simp only [Value.slice.injEq] at h1;exact Or.inl h1
   · rw [he] at h1;simp only [Value.slice.injEq] at h1;exact Or.inr ⟨g,0,h1.1⟩
def QpN (w:World) (ra:Option Addr) (rn:Nat) (zs:List Int) (ims:List (List Tm)):Prop:=isAlg zs ims=true→(∃g,ra=some ⟨g,0,none⟩)∧FrmsN w ra rn (ims.map (wordsOf 2))
set_option maxHeartbeats 2000000 in
theorem QuadraticParts_k {w : World} {da : Option Addr} {dn : Nat} {zs : List Int} {a : Option Addr} {n : Nat} {ims : List (List Tm)} (dc c : Nat) (hd : Ints w da dn zs) (hdn : dn ≤ 1048576) (hF : Frms w a n ims) (hn : n ≤ 1048576) (hL : ∀ im ∈ ims, (im.length : Int) ≤ 1048576) :
    Calls Try.prog 58 #[.agg #[.slice da dn dc,.slice a n c]] w fun e w'=>∃ra rn rc,e=.returned (.tuple #[.slice ra rn rc,.int .i64 (qpE zs ims)])∧OwnF w' w.heap.size w'.heap.size ra rn (qpV zs ims)∧Below w.heap.size w w'∧QpN w' ra rn zs ims:=by
 have HLL:=Lib.hid hL
 have HLn:=Lib.hid hF.len
 have HFF:=Lib.hid hF
 have HT:=Lib.hid hF.tm
 have HDL:=Lib.hid hd.len
 obtain ⟨ti,tz,hti,htz,hts,htb,htzs⟩:=Try.info_termA
 have HI:=Lib.hid hti
 have HZ:=Lib.hid htz
 have HS:=Lib.hid hts
 have HBt:=Lib.hid htb
 have HZs:=Lib.hid htzs
 clear hL hti htz hts htb htzs
 have hA:=Own.new w 29 #[.slice da dn dc,.slice a n c]
 have hb:=bA1 w (.cells #[.slice da dn dc,.slice a n c] 29)
 have c0:=hA.cell 0
 have c1:=hA.cell 1
 cases hal:isAlg zs ims
 all_goals
  have HA:=Lib.hid hal;clear hal;go_enter Try.func58,Try.ntmps58
  go_upto_region 1 with fail
  generalize w.alloc (.cells #[.slice da dn dc,.slice a n c] 29)=w0 at *;go_wp2_with fail
  refine (IsAlgebra_c dc c (hd.keep hb) hdn (hF.keep hb) hn HLL.out).mono ?_;rintro e w1 ⟨rfl,hb1⟩;rw [HA.out];have hA1:=hA.keep hb1 hA.lt;have hb2:=bT' hb hb1 hb.size;clear hA hb hb1 c0 c1
 · go_wp2_with fail
   go_ret2
   exact ⟨none,0,0,by rw [(qp_no HA.out).2];rfl,by rw [(qp_no HA.out).1];exact OwnF.none_,hb2,fun h=>absurd (h.symm.trans HA.out) (by simp)⟩
 · have H400:=Lib.hid (isAlg_400 HA.out);have h8:n≤8:=(by have:=isAlg_lenQ HA.out;have:=HLn.out;have:=HDL.out;have:=degsOk_len (isAlg_degs HA.out);omega);have hmk1:=make_forms n hn w1;have hR:=Own.new w1 47 (Array.replicate n (Value.slice none 0 0));have hba:=bA1 w1 (.cells (Array.replicate n (Value.slice none 0 0)) 47);have hb3:=bT' hb2 hba hb2.size;have hgR:w.heap.size<w1.heap.size:=hA1.lt;have c1:=hA1.cell 1;have hA2:=hA1.keep hba hA1.lt;go_upto_region 4 with fail
   generalize w1.alloc (.cells (Array.replicate n (Value.slice none 0 0)) 47)=w2 at *;generalize w1.heap.size=gO at *;clear c1 hmk1 hA1 hb2 hba;have c1:=hA2.cell 1;have hR0:Own w2 gO 47 (valCells n []).toArray:=(by rw [show (valCells n []).toArray=Array.replicate n (Value.slice none 0 0) by simp [valCells]];exact hR);have HW0:Hid (Vals w2 w.heap.size [] (qpTo ims 0)):=Lib.hid (Vals.nil _ _);clear hR;go_upto_region 5 with fail
   clear c1 hA2
   go_loopw [19] (fun y wr=>∃(k:Nat) (vs:List Value),k≤n∧y=.int .i64 k∧Below w.heap.size w wr∧Own wr gO 47 (valCells n vs).toArray∧Hid (Vals wr w.heap.size vs (qpTo ims k))) (fun y _=>n - (intOf y).toNat)
   case atStart=>exact ⟨0,[],Nat.zero_le _,rfl,hb3,hR0,HW0⟩
   case round=>
    clear hb3 hR0 HW0;obtain ⟨k,vs,hk,rfl,hb,hR,HW⟩:=hrel;have HVL:=Lib.hid (show vs.length=k by rw [HW.out.len,qpTo_len (by have:=HLn.out;omega)]);by_cases hin:k<n
    · obtain ⟨b,off,ts,ai,ni,ci,rfl,hbl,hc0,hT0,hni,hx⟩:=HFF.out.at_ hin;have hc:=(World.cell?_of_block (a:=⟨b,off+k,none⟩) (hb.block b hbl)).trans hc0;have hni4:ni≤400:=(by have:=H400.out ts (List.mem_of_getElem? hx.out);have:=hT0.len;omega);have HQ:=Lib.hid (qpTo_succ hx.out);have HTL:=Lib.hid hT0.len;have hk0:(0:Int)≤(k:Int):=(by omega);have hkn:(k:Int)<(n:Int):=(by omega);have hE:=Own.new wr 47 #[.slice ai ni ci];have hba:=bA1 wr (.cells #[.slice ai ni ci] 47);have hb4:=bT' hb hba hb.size;have hR4:=hR.keep hba hR.lt;have HW4:=Lib.hid (HW.out.keep hba);have HLT:=Lib.hid HW4.out.lt;go_upto_region 7 with fail
      generalize wr.alloc (.cells #[.slice ai ni ci] 47)=w3 at *;generalize wr.heap.size=gE at *;clear hc hc0 hba hb hR HW;have cE:=hE.cell 0;go_upto_region 8 with fail
      clear cE hE;have hgO3:gO<w3.heap.size:=hR4.lt;have hbs3:=hb4.size;obtain ⟨C,hC⟩:∃C,w3.heap.size=C:=⟨_,rfl⟩;rw [hC] at hgO3 hbs3;have HLT2:Hid (∀(i:Nat) u q,vs[i]? = some u→u.ownBlock=some q→q<C):=Lib.hid (by rw [←hC];exact HLT.out);have hV0:OwnForm w3 C (.slice none 0 0) (wordsOf 2 (ts.take 0)):=⟨World.ownsRow_nil _ _ _ _,by simp [wordsOf]⟩;have hR5:Own w3 gO 47 (valCells n (vs++[.slice none 0 0])).toArray:=(by rw [valCells_nil HVL.out hin];exact hR4);have hC3:C≤w3.heap.size:=Nat.le_of_eq hC.symm;clear HLT hR4 hC
      go_loopw [27] (fun y wr=>∃(q:Nat) (va:Option Addr) (vn vc:Nat),q≤ni∧y=.int .i64 q∧Below w.heap.size w wr∧C≤wr.heap.size∧Own wr gO 47 (valCells n (vs++[.slice va vn vc])).toArray∧OwnForm wr C (.slice va vn vc) (wordsOf 2 (ts.take q))∧Hid (Vals wr w.heap.size vs (qpTo ims k))) (fun y _=>ni - (intOf y).toNat)
      case atStart=>exact ⟨0,none,0,0,Nat.zero_le _,rfl,hb4,hC3,hR5,hV0,HW4⟩
      case round=>
       clear hb4 hR5 hV0 HW4 hC3;obtain ⟨q,va,vn,vc,hq,rfl,hb,hC,hR,hV,HW⟩:=hrel;by_cases hqn:q<ni
       · obtain ⟨bt,ot,t,rfl,hbtl,hro0,ht,hxt⟩:=hT0.at_ hqn;have hro:=rgK hro0 (hb.block bt hbtl);obtain ⟨mt,ft⟩:=t;have hmt:IsMono mt:=ht.1;obtain ⟨p0,p1,p2,p3,p4,p5,p6,p7,rfl⟩:=mono8 hmt;obtain ⟨y0,y1,y2,y3,y4,y5,y6,y7,y8⟩:=nine hro;have hba:=bA1 wr (.cells #[.int .u8 p0,.int .u8 p1,.int .u8 p2,.int .u8 p3,.int .u8 p4,.int .u8 p5,.int .u8 p6,.int .u8 p7,.int .i64 ft] 76);have hb5:=bT' hb hba hb.size;have hTt:=Own.new wr 76 #[.int .u8 p0,.int .u8 p1,.int .u8 p2,.int .u8 p3,.int .u8 p4,.int .u8 p5,.int .u8 p6,.int .u8 p7,.int .i64 ft];have hR5:=hR.keep hba hR.lt;have hV5:=hV.keep hba;have HW5:=Lib.hid (HW.out.keep hba);have hC5:C≤(wr.alloc (.cells #[.int .u8 p0,.int .u8 p1,.int .u8 p2,.int .u8 p3,.int .u8 p4,.int .u8 p5,.int .u8 p6,.int .u8 p7,.int .i64 ft] 76)).heap.size:=(by rw [sAl];omega);have hq0:(0:Int)≤(q:Int):=(by omega);have hqn2:(q:Int)<(ni:Int):=(by omega);go_upto_region 10 with fail
         generalize wr.alloc (.cells #[.int .u8 p0,.int .u8 p1,.int .u8 p2,.int .u8 p3,.int .u8 p4,.int .u8 p5,.int .u8 p6,.int .u8 p7,.int .i64 ft] 76)=w4 at *;have HGT:Hid (wr.heap.size≠gO):=Lib.hid (by omega);have HVT0:Hid (∀p,(Value.slice va vn vc).ownBlock=some p→p≠wr.heap.size):=Lib.hid (fun p e=>Nat.ne_of_lt (hV.1.lt p e).2);generalize wr.heap.size=gT at *;clear hba hb hR hV HW y0 y1 y2 y3 y4 y5 y6 y7 y8 hro hC;obtain ⟨z0,z1,z2,z3,z4,z5,z6,z7,z8⟩:w4.cell? ⟨gT,0,none⟩=some (.int .u8 p0)∧w4.cell? ⟨gT,1,none⟩=some (.int .u8 p1)∧w4.cell? ⟨gT,2,none⟩=some (.int .u8 p2)∧w4.cell? ⟨gT,3,none⟩=some (.int .u8 p3)∧w4.cell? ⟨gT,4,none⟩=some (.int .u8 p4)∧w4.cell? ⟨gT,5,none⟩=some (.int .u8 p5)∧w4.cell? ⟨gT,6,none⟩=some (.int .u8 p6)∧w4.cell? ⟨gT,7,none⟩=some (.int .u8 p7)∧w4.cell? ⟨gT,8,none⟩=some (.int .i64 ft):=⟨hTt.cell 0,hTt.cell 1,hTt.cell 2,hTt.cell 3,hTt.cell 4,hTt.cell 5,hTt.cell 6,hTt.cell 7,hTt.cell 8⟩;have HYS:=Lib.hid (fun e=>wordsOf_take_yes (n:=2) hxt.out e);have HNO:=Lib.hid (fun e=>wordsOf_take_no (n:=2) hxt.out e);have HCK:Hid ((valCells n (vs++[.slice va vn vc])).toArray[k]? = some (.slice va vn vc)):=Lib.hid (by rw [List.getElem?_toArray];exact valCells_last HVL.out);have HSZ:Hid (k<(valCells n (vs++[.slice va vn vc])).toArray.size):=Lib.hid (by rw [List.size_toArray,valCells_len (by rw [List.length_append,HVL.out,List.length_singleton];omega)];exact hin);by_cases heq:wlen [p0,p1,p2,p3,p4,p5,p6,p7]=2
         · go_wp2_with fail
           refine (wordLength8 hmt heq).mono ?_;rintro e w5 ⟨rfl,hb5'⟩;have hT6:Own w5.drew gT 76 #[.int .u8 p0,.int .u8 p1,.int .u8 p2,.int .u8 p3,.int .u8 p4,.int .u8 p5,.int .u8 p6,.int .u8 p7,.int .i64 ft]:=hTt.keep hb5'.drew hTt.lt;have hR6:Own w5.drew gO 47 (valCells n (vs++[.slice va vn vc])).toArray:=hR5.keep hb5'.drew hR5.lt;have hV6:OwnForm w5.drew C (.slice va vn vc) (wordsOf 2 (ts.take q)):=hV5.keep hb5'.drew;have hb6:Below w.heap.size w w5.drew:=(bT' hb5 hb5' hb5.size).drew;have HW6:Hid (Vals w5.drew w.heap.size vs (qpTo ims k)):=Lib.hid (HW5.out.keep hb5'.drew);have hC6:C≤w5.drew.heap.size:=Nat.le_trans hC5 hb5'.size;have HVT:Hid (∀p,(Value.slice va vn vc).ownBlock=some p→p≠gT):=HVT0;clear z0 z1 z2 z3 z4 z5 z6 z7 z8 hTt hR5 hV5 hb5 HW5 hC5 hb5' HVT0;have HTN:Hid (∀(W:World),W.ownsRow C 76 9 (.slice va vn vc) (wordsOf 2 (ts.take q)).length (rcells (wordsOf 2 (ts.take q)))→Own W gT 76 #[.int .u8 p0,.int .u8 p1,.int .u8 p2,.int .u8 p3,.int .u8 p4,.int .u8 p5,.int .u8 p6,.int .u8 p7,.int .i64 ft]→some gT≠(Value.slice va vn vc).ownBlock):=Lib.hid (fun W _ _ e=>HVT.out gT e.symm rfl)
           have cR:w5.drew.cell? ⟨gO,k,none⟩=some (.slice va vn vc):=by
            have:=hR6.cell k;rw [HCK.out] at this;exact this
           have hnews:∀j u,([Value.int .u8 p0,.int .u8 p1,.int .u8 p2,.int .u8 p3,.int .u8 p4,.int .u8 p5,.int .u8 p6,.int .u8 p7,.int .i64 ft]:List Value)[j]? = some u→(w5.drew.alloc (.cells #[.int .u8 p0,.int .u8 p1,.int .u8 p2,.int .u8 p3,.int .u8 p4,.int .u8 p5,.int .u8 p6,.int .u8 p7,.int .i64 ft] 76)).cell? ((⟨w5.heap.size,0,none⟩:Addr).add j)=some u:=fun j u hu=>by
            rw [Addr.add_mid];exact (Own.new w5.drew 76 #[.int .u8 p0,.int .u8 p1,.int .u8 p2,.int .u8 p3,.int .u8 p4,.int .u8 p5,.int .u8 p6,.int .u8 p7,.int .i64 ft]).range j u hu
           have hone:∀u∈([Value.int .u8 p0,.int .u8 p1,.int .u8 p2,.int .u8 p3,.int .u8 p4,.int .u8 p5,.int .u8 p6,.int .u8 p7,.int .i64 ft]:List Value),u.oneCell'=true:=by simp [Value.oneCell']
           have hpl:(wordsOf 2 (ts.take q)).length≤400:=by
            have h1:=wordsOf_len 2 (ts.take q);rw [List.length_take] at h1;omega
           have HN:=Lib.hid hnews;have HO:=Lib.hid hone;have HP:=Lib.hid hpl;have HEQ:=Lib.hid heq;clear hnews hone hpl heq;go_upto_region 11 with fail
           refine wp_region_held_drew (S:=(fun w'=>w'.cell? ⟨gT,0,none⟩=some (.int .u8 p0)∧w'.cell? ⟨gT,1,none⟩=some (.int .u8 p1)∧w'.cell? ⟨gT,2,none⟩=some (.int .u8 p2)∧w'.cell? ⟨gT,3,none⟩=some (.int .u8 p3)∧w'.cell? ⟨gT,4,none⟩=some (.int .u8 p4)∧w'.cell? ⟨gT,5,none⟩=some (.int .u8 p5)∧w'.cell? ⟨gT,6,none⟩=some (.int .u8 p6)∧w'.cell? ⟨gT,7,none⟩=some (.int .u8 p7)∧w'.cell? ⟨gT,8,none⟩=some (.int .i64 ft))) (by kernel_rfl) ?_ (fun hHeld=>?_)
           · ((try dsimp only);(exact ⟨hT6.cell 0,hT6.cell 1,hT6.cell 2,hT6.cell 3,hT6.cell 4,hT6.cell 5,hT6.cell 6,hT6.cell 7,hT6.cell 8⟩))
           refine hdT 0 ?_;refine hdT 1 ?_;refine hdT 2 ?_;refine hdT 3 ?_;refine hdT 4 ?_;refine hdT 5 ?_;refine hdT 7 ?_;refine wpAnyH_ready (rs:=[6,8]) (by kernel_rfl) (by simp) ?_;refine AllReadyH.cons (hdAt (i:=6) rfl) (fun K hK=>?_) (AllReadyH.cons (hdAt (i:=8) rfl) (fun K hK=>?_) AllReadyH.nil)
           · skip
             (go_simp;try go_wp2_with fail)
             refine hK.out _ _ ?_ (fun _=>?_)
             · ((try dsimp only);(exact ⟨hT6.cell 0,hT6.cell 1,hT6.cell 2,hT6.cell 3,hT6.cell 4,hT6.cell 5,hT6.cell 6,hT6.cell 7,hT6.cell 8⟩))
             clear hK K
             (try simp only [Act.put,pA,pB,pC])
             refine hdC 8 (fun K hK=>?_)
             (go_simp;try go_wp2_with fail)
             have hTa:=hT6.alloc (.cells #[.int .u8 p0,.int .u8 p1,.int .u8 p2,.int .u8 p3,.int .u8 p4,.int .u8 p5,.int .u8 p6,.int .u8 p7,.int .i64 ft] 76);have hRa:=hR6.alloc (.cells #[.int .u8 p0,.int .u8 p1,.int .u8 p2,.int .u8 p3,.int .u8 p4,.int .u8 p5,.int .u8 p6,.int .u8 p7,.int .i64 ft] 76);have hVa:=(hV6.keep (bA1 w5.drew (.cells #[.int .u8 p0,.int .u8 p1,.int .u8 p2,.int .u8 p3,.int .u8 p4,.int .u8 p5,.int .u8 p6,.int .u8 p7,.int .i64 ft] 76))).1;have HWa:=Lib.hid (HW6.out.keep (bA1 w5.drew (.cells #[.int .u8 p0,.int .u8 p1,.int .u8 p2,.int .u8 p3,.int .u8 p4,.int .u8 p5,.int .u8 p6,.int .u8 p7,.int .i64 ft] 76)));have hba:=bT' hb6 (bA1 w5.drew (.cells #[.int .u8 p0,.int .u8 p1,.int .u8 p2,.int .u8 p3,.int .u8 p4,.int .u8 p5,.int .u8 p6,.int .u8 p7,.int .i64 ft] 76)) hb6.size;have hCa:C≤(w5.alloc (.cells #[.int .u8 p0,.int .u8 p1,.int .u8 p2,.int .u8 p3,.int .u8 p4,.int .u8 p5,.int .u8 p6,.int .u8 p7,.int .i64 ft] 76)).drew.heap.size:=Nat.le_trans hC6 (bA1 w5.drew (.cells #[.int .u8 p0,.int .u8 p1,.int .u8 p2,.int .u8 p3,.int .u8 p4,.int .u8 p5,.int .u8 p6,.int .u8 p7,.int .i64 ft] 76)).size;refine hK.out _ _ ?_ (fun _=>?_)
             · ((try dsimp only);(exact ⟨hTa.cell 0,hTa.cell 1,hTa.cell 2,hTa.cell 3,hTa.cell 4,hTa.cell 5,hTa.cell 6,hTa.cell 7,hTa.cell 8⟩))
             clear hK K
             (try simp only [Act.put,pA,pB,pC])
             refine hdC 9 (fun K hK=>?_);rw [if_pos (by rfl)];refine wp_append_own_wide _ (.tmp 41) (.tmp 43) 45 rfl C 76 ti tz 9 16 Try.underlying45 HI.out HZ.out HS.out HBt.out HZs.out (by omega) (.slice va vn vc) _ _ rfl hVa ⟨w5.heap.size,0,none⟩ 1 1 [Value.int .u8 p0,.int .u8 p1,.int .u8 p2,.int .u8 p3,.int .u8 p4,.int .u8 p5,.int .u8 p6,.int .u8 p7,.int .i64 ft] rfl rfl HN.out HO.out (by have:=HP.out;simp only [maxLen];omega) (by have:=HP.out;omega) hCa (fun v' w' h2 h3 h4=>?_)
             obtain ⟨gg,vk,cp,rfl⟩:∃gg vk cp,v'=.slice gg vk cp:=by
              rcases h2.2 with ⟨h0,_⟩ | ⟨g,cap,cur,hv,_⟩
              · exact ⟨_,_,_,h0⟩
              · exact ⟨_,_,_,hv⟩
             have hT7:=hTa.grown h3 (HTN.out _ hVa hTa);have hR7:=hRa.grown h3 (own_ne_row hRa hVa (by decide));have hb7:=grown_below hba h3 (fun q e=>by have:=(hVa.lt q e).1;omega) hba.size;have HW7:=Lib.hid (HWa.out.grownN h3 (fun i u q h5 h6 e=>by have h7:=HLT2.out i u q h5 h6;have h8:=(hVa.lt q e).1;omega));have hC7:C≤w'.heap.size:=Nat.le_trans hCa h3.size;have f7:=hR7.frozen k;obtain ⟨ov,hov⟩:=hR7.has (i:=k) HSZ.out;have H2:=Lib.hid h2;have H4:=Lib.hid h4;clear h2 h3 h4 hVa hRa hba HWa hTa;refine hK.out _ _ ?_ (fun _=>?_)
             · ((try dsimp only);(exact ⟨hT7.cell 0,hT7.cell 1,hT7.cell 2,hT7.cell 3,hT7.cell 4,hT7.cell 5,hT7.cell 6,hT7.cell 7,hT7.cell 8⟩))
             clear hK K
             (try simp only [Act.put,pA,pB,pC])
             refine hdT 10 ?_;refine hdT 11 ?_;refine hdC 12 (fun K hK=>?_)
             (go_simp;go_wp2_with fail)
             have hT8:=hT7.far (p:=⟨gO,k,none⟩) HGT.out (.slice gg vk cp);have hb8:=hb7.setCell (p:=⟨gO,k,none⟩) (by dsimp only;omega) (.slice gg vk cp);refine hK.out _ _ ?_ (fun _=>?_)
             · ((try dsimp only);(exact ⟨hT8.cell 0,hT8.cell 1,hT8.cell 2,hT8.cell 3,hT8.cell 4,hT8.cell 5,hT8.cell 6,hT8.cell 7,hT8.cell 8⟩))
             clear hK K
             (try simp only [Act.put,pA,pB,pC])
             refine wpAnyH_done (by kernel_rfl) ?_ _;go_wp2_with fail
             go_roundw
             case rel=>
              have q4:Own (w'.setCell ⟨gO,k,none⟩ (.slice gg vk cp)) gO 47 (valCells n (vs++[.slice gg vk cp])).toArray:=by
               have:=hR7.set k (.slice gg vk cp)
               rwa [valCells_put HVL.out hin] at this
              have Q1:=Lib.hid (HW7.out.far (p:=⟨gO,k,none⟩) hR7 (.slice gg vk cp));refine ⟨q+1,gg,vk,cp,by omega,by go_num,hb8,by simpa using hC7,q4,?_,Q1⟩;rw [HYS.out HEQ.out];exact OwnForm.set (p:=⟨gO,k,none⟩) (OwnForm.of H2.out (by simp) (by rw [rcells_append];rfl) ⟨fun e=>absurd (H4.out.1 e).2 (by omega),fun e=>by omega⟩) (by dsimp only;omega) _
             case measure=>simp [intOf] <;> omega
           · skip
             (go_simp;try go_wp2_with fail)
             have hTa:=hT6.alloc (.cells #[.int .u8 p0,.int .u8 p1,.int .u8 p2,.int .u8 p3,.int .u8 p4,.int .u8 p5,.int .u8 p6,.int .u8 p7,.int .i64 ft] 76);have hRa:=hR6.alloc (.cells #[.int .u8 p0,.int .u8 p1,.int .u8 p2,.int .u8 p3,.int .u8 p4,.int .u8 p5,.int .u8 p6,.int .u8 p7,.int .i64 ft] 76);have hVa:=(hV6.keep (bA1 w5.drew (.cells #[.int .u8 p0,.int .u8 p1,.int .u8 p2,.int .u8 p3,.int .u8 p4,.int .u8 p5,.int .u8 p6,.int .u8 p7,.int .i64 ft] 76))).1;have HWa:=Lib.hid (HW6.out.keep (bA1 w5.drew (.cells #[.int .u8 p0,.int .u8 p1,.int .u8 p2,.int .u8 p3,.int .u8 p4,.int .u8 p5,.int .u8 p6,.int .u8 p7,.int .i64 ft] 76)));have hba:=bT' hb6 (bA1 w5.drew (.cells #[.int .u8 p0,.int .u8 p1,.int .u8 p2,.int .u8 p3,.int .u8 p4,.int .u8 p5,.int .u8 p6,.int .u8 p7,.int .i64 ft] 76)) hb6.size;have hCa:C≤(w5.alloc (.cells #[.int .u8 p0,.int .u8 p1,.int .u8 p2,.int .u8 p3,.int .u8 p4,.int .u8 p5,.int .u8 p6,.int .u8 p7,.int .i64 ft] 76)).drew.heap.size:=Nat.le_trans hC6 (bA1 w5.drew (.cells #[.int .u8 p0,.int .u8 p1,.int .u8 p2,.int .u8 p3,.int .u8 p4,.int .u8 p5,.int .u8 p6,.int .u8 p7,.int .i64 ft] 76)).size;refine hK.out _ _ ?_ (fun _=>?_)
             · ((try dsimp only);(exact ⟨hTa.cell 0,hTa.cell 1,hTa.cell 2,hTa.cell 3,hTa.cell 4,hTa.cell 5,hTa.cell 6,hTa.cell 7,hTa.cell 8⟩))
             clear hK K
             (try simp only [Act.put,pA,pB,pC])
             have cRa:(w5.alloc (.cells #[.int .u8 p0,.int .u8 p1,.int .u8 p2,.int .u8 p3,.int .u8 p4,.int .u8 p5,.int .u8 p6,.int .u8 p7,.int .i64 ft] 76)).drew.cell? ⟨gO,k,none⟩=some (.slice va vn vc):=by
              have:=hRa.cell k;rw [HCK.out] at this;exact this
             refine hdC 6 (fun K hK=>?_)
             (go_simp;try go_wp2_with fail)
             refine hK.out _ _ ?_ (fun _=>?_)
             · ((try dsimp only);(exact ⟨hTa.cell 0,hTa.cell 1,hTa.cell 2,hTa.cell 3,hTa.cell 4,hTa.cell 5,hTa.cell 6,hTa.cell 7,hTa.cell 8⟩))
             clear hK K
             (try simp only [Act.put,pA,pB,pC])
             refine hdC 9 (fun K hK=>?_);rw [if_pos (by rfl)];refine wp_append_own_wide _ (.tmp 41) (.tmp 43) 45 rfl C 76 ti tz 9 16 Try.underlying45 HI.out HZ.out HS.out HBt.out HZs.out (by omega) (.slice va vn vc) _ _ rfl hVa ⟨w5.heap.size,0,none⟩ 1 1 [Value.int .u8 p0,.int .u8 p1,.int .u8 p2,.int .u8 p3,.int .u8 p4,.int .u8 p5,.int .u8 p6,.int .u8 p7,.int .i64 ft] rfl rfl HN.out HO.out (by have:=HP.out;simp only [maxLen];omega) (by have:=HP.out;omega) hCa (fun v' w' h2 h3 h4=>?_)
             obtain ⟨gg,vk,cp,rfl⟩:∃gg vk cp,v'=.slice gg vk cp:=by
              rcases h2.2 with ⟨h0,_⟩ | ⟨g,cap,cur,hv,_⟩
              · exact ⟨_,_,_,h0⟩
              · exact ⟨_,_,_,hv⟩
             have hT7:=hTa.grown h3 (HTN.out _ hVa hTa);have hR7:=hRa.grown h3 (own_ne_row hRa hVa (by decide));have hb7:=grown_below hba h3 (fun q e=>by have:=(hVa.lt q e).1;omega) hba.size;have HW7:=Lib.hid (HWa.out.grownN h3 (fun i u q h5 h6 e=>by have h7:=HLT2.out i u q h5 h6;have h8:=(hVa.lt q e).1;omega));have hC7:C≤w'.heap.size:=Nat.le_trans hCa h3.size;have f7:=hR7.frozen k;obtain ⟨ov,hov⟩:=hR7.has (i:=k) HSZ.out;have H2:=Lib.hid h2;have H4:=Lib.hid h4;clear h2 h3 h4 hVa hRa hba HWa hTa;refine hK.out _ _ ?_ (fun _=>?_)
             · ((try dsimp only);(exact ⟨hT7.cell 0,hT7.cell 1,hT7.cell 2,hT7.cell 3,hT7.cell 4,hT7.cell 5,hT7.cell 6,hT7.cell 7,hT7.cell 8⟩))
             clear hK K
             (try simp only [Act.put,pA,pB,pC])
             refine hdT 10 ?_;refine hdT 11 ?_;refine hdC 12 (fun K hK=>?_)
             (go_simp;go_wp2_with fail)
             have hT8:=hT7.far (p:=⟨gO,k,none⟩) HGT.out (.slice gg vk cp);have hb8:=hb7.setCell (p:=⟨gO,k,none⟩) (by dsimp only;omega) (.slice gg vk cp);refine hK.out _ _ ?_ (fun _=>?_)
             · ((try dsimp only);(exact ⟨hT8.cell 0,hT8.cell 1,hT8.cell 2,hT8.cell 3,hT8.cell 4,hT8.cell 5,hT8.cell 6,hT8.cell 7,hT8.cell 8⟩))
             clear hK K
             (try simp only [Act.put,pA,pB,pC])
             refine wpAnyH_done (by kernel_rfl) ?_ _;go_wp2_with fail
             go_roundw
             case rel=>
              have q4:Own (w'.setCell ⟨gO,k,none⟩ (.slice gg vk cp)) gO 47 (valCells n (vs++[.slice gg vk cp])).toArray:=by
               have:=hR7.set k (.slice gg vk cp)
               rwa [valCells_put HVL.out hin] at this
              have Q1:=Lib.hid (HW7.out.far (p:=⟨gO,k,none⟩) hR7 (.slice gg vk cp));refine ⟨q+1,gg,vk,cp,by omega,by go_num,hb8,by simpa using hC7,q4,?_,Q1⟩;rw [HYS.out HEQ.out];exact OwnForm.set (p:=⟨gO,k,none⟩) (OwnForm.of H2.out (by simp) (by rw [rcells_append];rfl) ⟨fun e=>absurd (H4.out.1 e).2 (by omega),fun e=>by omega⟩) (by dsimp only;omega) _
             case measure=>simp [intOf] <;> omega
         · obtain ⟨v2,hv2⟩:∃v2,wlen [p0,p1,p2,p3,p4,p5,p6,p7]=v2:=⟨_,rfl⟩;have hne3:¬v2=2:=(by rw [←hv2];exact heq);have hne2:(v2==2)=false:=(by simpa using hne3);have HV:=Lib.hid hv2;have HE:=Lib.hid heq;clear hv2 heq;go_wp2_with fail
           refine (wordLength8 hmt HV.out).mono ?_;rintro e w5 ⟨rfl,hb5'⟩;go_wp2_with fail
           go_roundw
           case rel=>exact ⟨q+1,va,vn,vc,by omega,by go_num,bT' hb5 hb5' hb5.size,Nat.le_trans hC5 hb5'.size,hR5.keep hb5' hR5.lt,by rw [HNO.out HE.out];exact hV5.keep hb5',Lib.hid (HW5.out.keep hb5')⟩
           case measure=>simp [intOf] <;> omega
       · have he:q=ni:=(by omega);subst he;have HF:=Lib.hid (show wordsOf 2 (ts.take q)=wordsOf 2 ts by rw [List.take_of_length_le (Nat.le_of_eq HTL.out)]);go_wp2_with fail
         go_roundw
         case rel=>
          have q1:=hV.r;rw [HF.out] at q1;exact ⟨k+1,vs++[.slice va vn vc],by omega,by go_num,hb,hR,by rw [HQ.out];exact HW.out.snoc HLT2.out (by omega) q1⟩
         case measure=>simp [intOf] <;> omega
    · have he:k=n:=(by omega);subst he;go_wp2_with fail
      go_ret2
      have hq:qpTo ims k=ims.map (wordsOf 2):=(by rw [qpTo,List.take_of_length_le (Nat.le_of_eq HLn.out)]);have hW:=HW.out;rw [hq] at hW
      have hos:∀(i:Nat) v,vs[i]? = some v→(valCells k vs).toArray[i]? = some v:=fun i v hi=>by
       rw [List.getElem?_toArray,valCells_full HVL.out];exact hi
      refine ⟨some ⟨gO,0,none⟩,k,k,by rw [(qp_yes HA.out).2];rfl,?_,hb,fun _=>⟨⟨gO,rfl⟩,hW.frmsN (by rw [List.length_map];exact HLn.out) hR hos (qp_tm HT.out)⟩⟩;rw [(qp_yes HA.out).1];refine hW.ownF (by rw [List.length_map];exact HLn.out) hR (fun i v hi=>?_) (by omega) (qp_tm HT.out);rw [List.getElem?_toArray,valCells_full HVL.out];exact hi
end Go.Proofs.Ytndnkeijddagiaa
