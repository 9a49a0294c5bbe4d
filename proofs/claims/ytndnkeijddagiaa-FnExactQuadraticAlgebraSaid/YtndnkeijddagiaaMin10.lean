
import Derived.Test.YtndnkeijddagiaaMinW
import Derived.Test.YtndnkeijddagiaaWordsS
namespace Go.Proofs.Ytndnkeijddagiaa
set_option maxRecDepth 100000
open Go.RowKit Go.Deep
def mnE (zs:List Int) (ims:List (List Tm)):Int:=if isAlg zs ims=true then (if allLin ims=true then 0 else 5) else 1
theorem mn_no {zs:List Int} {ims:List (List Tm)} (h:isAlg zs ims=false):mnE zs ims=1:=by simp [mnE,h]
theorem mn_state {zs:List Int} {ims:List (List Tm)} (h:isAlg zs ims=true) (h2:allLin ims=false):mnE zs ims=5:=by simp [mnE,h,h2]
theorem mn_yes {zs:List Int} {ims:List (List Tm)} (h:isAlg zs ims=true) (h2:allLin ims=true):mnE zs ims=0:=by simp [mnE,h,h2]
theorem mn_cases (zs:List Int) (ims:List (List Tm)):(mnE zs ims=1∧isAlg zs ims=false)∨(mnE zs ims=5∧isAlg zs ims=true)∨(mnE zs ims=0∧isAlg zs ims=true∧allLin ims=true):=by
 cases h:isAlg zs ims
 · exact Or.inl ⟨mn_no h,rfl⟩
 · cases h2:allLin ims
   · exact Or.inr (Or.inl ⟨mn_state h h2,rfl⟩)
   · exact Or.inr (Or.inr ⟨mn_yes h h2,rfl,rfl⟩)
set_option maxHeartbeats 1000000 in
theorem checkMinimal_c {w : World} {da : Option Addr} {dn : Nat} {zs : List Int} {a : Option Addr} {n : Nat} {ims : List (List Tm)} (dc c : Nat) (hd : Ints w da dn zs) (hdn : dn ≤ 1048576) (hF : Frms w a n ims) (hn : n ≤ 1048576) (hL : ∀ im ∈ ims, (im.length : Int) ≤ 1048576) :
    Calls Try.prog 57 #[.agg #[.slice da dn dc,.slice a n c]] w fun e w'=>e=.returned (.int .i64 (mnE zs ims))∧Below w.heap.size w w':=by
 have HLL:=Lib.hid hL
 clear hL
 have hA:=Own.new w 29 #[.slice da dn dc,.slice a n c]
 have hb:=bA1 w (.cells #[.slice da dn dc,.slice a n c] 29)
 have c0:=hA.cell 0
 have c1:=hA.cell 1
 cases hal:isAlg zs ims
 · have HE:=Lib.hid (mn_no hal);have HM:=Lib.hid (min_no hal);clear hal;go_enter Try.func57,Try.ntmps57
   go_upto_region 1 with fail
   generalize w.alloc (.cells #[.slice da dn dc,.slice a n c] 29)=w0 at *;go_wp2_with fail
   refine (IsMinimal_c dc c (hd.keep hb) hdn (hF.keep hb) hn HLL.out).mono ?_;rintro e w1 ⟨rfl,hb1⟩;rw [HM.out.1,HM.out.2];go_wp2_with fail
   go_ret
   exact ⟨by rw [HE.out];rfl,bT' hb hb1 hb.size⟩
 · cases h2:allLin ims
   all_goals
    have HE:=Lib.hid (show mnE zs ims=_ by first | exact mn_state hal h2 | exact mn_yes hal h2);have HM:=Lib.hid (min_yes hal);have H2:=Lib.hid h2;clear hal h2;go_enter Try.func57,Try.ntmps57
    go_upto_region 1 with fail
    generalize w.alloc (.cells #[.slice da dn dc,.slice a n c] 29)=w0 at *;go_wp2_with fail
    refine (IsMinimal_c dc c (hd.keep hb) hdn (hF.keep hb) hn HLL.out).mono ?_;rintro e w1 ⟨rfl,hb1⟩;rw [HM.out.1,HM.out.2,H2.out];go_wp2_with fail
    go_ret
    exact ⟨by rw [HE.out];rfl,bT' hb hb1 hb.size⟩
set_option maxHeartbeats 1000000 in
theorem l10Minimal_c {w : World} {da : Option Addr} {dn : Nat} {zs : List Int} {a : Option Addr} {n : Nat} {ims : List (List Tm)} (dc c : Nat) (hd : Ints w da dn zs) (hdn : dn ≤ 1048576) (hF : Frms w a n ims) (hn : n ≤ 1048576) (hL : ∀ im ∈ ims, (im.length : Int) ≤ 1048576) :
    Calls Try.prog 53 #[.agg #[.slice da dn dc,.slice a n c]] w fun e w'=>e=.returned (.int .i64 (mnE zs ims))∧Below w.heap.size w w':=by
 have HLL:=Lib.hid hL
 clear hL
 have hA:=Own.new w 29 #[.slice da dn dc,.slice a n c]
 have hb:=bA1 w (.cells #[.slice da dn dc,.slice a n c] 29)
 have c0:=hA.cell 0
 have c1:=hA.cell 1
 cases hal:isAlg zs ims
 all_goals
  have HA:=Lib.hid hal;clear hal;go_enter Try.func53,Try.ntmps53
  go_upto_region 1 with fail
  generalize w.alloc (.cells #[.slice da dn dc,.slice a n c] 29)=w0 at *;go_wp2_with fail
  refine (l02Is_c dc c (hd.keep hb) hdn (hF.keep hb) hn HLL.out).mono ?_;rintro e w1 ⟨rfl,hb1⟩;rw [HA.out];have hA1:=hA.keep hb1 hA.lt;have hb2:=bT' hb hb1 hb.size;clear hA hb hb1 c0 c1;have c0:=hA1.cell 0;have c1:=hA1.cell 1
 · go_wp2_with fail
   go_ret
   exact ⟨by rw [mn_no HA.out];rfl,hb2⟩
 · go_wp2_with fail
   refine (l02Minimal_c dc c (hF.keep hb2) hn HLL.out HA.out).mono ?_;rintro e w2 ⟨rfl,hb3⟩;cases h2:allLin ims
   · have H2:=Lib.hid h2;clear h2;go_wp2_with fail
     go_ret
     exact ⟨by rw [mn_state HA.out H2.out];rfl,bT' hb2 hb3 hb2.size⟩
   · have H2:=Lib.hid h2;clear h2;go_wp2_with fail
     go_ret
     exact ⟨by rw [mn_yes HA.out H2.out];rfl,bT' hb2 hb3 hb2.size⟩
def le2 (t:Tm):Bool:=decide (wlen t.m≤2)
def cofI (ims:List (List Tm)) (i:Nat):Bool:=(ims.getD i []).all le2
def allCof (ims:List (List Tm)):Bool:=(List.range ims.length).all (cofI ims)
def cofB (zs:List Int) (ims:List (List Tm)):Bool:=decide (mnE zs ims=0) && allCof ims
theorem cof_ne {zs:List Int} {ims:List (List Tm)} (h:¬mnE zs ims=0):cofB zs ims=false:=by simp [cofB,h]
theorem cof_yes {zs:List Int} {ims:List (List Tm)} (h:mnE zs ims=0):cofB zs ims=allCof ims:=by simp [cofB,h]
theorem cofI_of {ims:List (List Tm)} {i:Nat} {ts:List Tm} {B:Bool} (hx:ims[i]? = some ts) (h:ts.all le2=B):cofI ims i=B:=by
 rw [cofI,List.getD_eq_getElem?_getD,hx]
 exact h
theorem cof_words {ts:List Tm} (h:∀t∈ts,1≤wlen t.m) (h1:ts.all notOne=true):ts.all le2=decide ((wordsOf 2 ts).length=ts.length):=by
 rw [Bool.eq_iff_iff,List.all_eq_true,decide_eq_true_eq,wordsOf,List.length_filter_eq_length_iff]
 rw [List.all_eq_true] at h1
 constructor
 · intro h2 t ht;have:=h t ht;have h3:=h1 t ht;have h4:=h2 t ht;simp [notOne] at h3
   simp [le2] at h4
   simp
   omega
 · intro h2 t ht;have:=h2 t ht;simp at this
   simp [le2]
   omega
theorem noLin_at {ims:List (List Tm)} (h:allLin ims=true) {i:Nat} {ts:List Tm} (hx:ims[i]? = some ts):ts.all notOne=true:=by
 rw [allLin,List.all_eq_true] at h
 have:=h i (List.mem_range.2 (List.getElem?_eq_some_iff.1 hx).1)
 rwa [noLin,List.getD_eq_getElem?_getD,hx] at this
theorem isAlg_400C {zs:List Int} {ims:List (List Tm)} (h:isAlg zs ims=true):∀ts∈ims,ts.length≤400:=by
 intro ts hts
 obtain ⟨k,hk,rfl⟩:=List.mem_iff_getElem.1 hts
 have hl:ims.length=zs.length:=by
  simp only [isAlg,Bool.and_eq_true,decide_eq_true_eq] at h;exact h.2.1
 simp only [isAlg,Bool.and_eq_true] at h
 have h4:=List.all_eq_true.1 h.2.2.1 k (List.mem_range.2 hk)
 have h5:=okIm_of (z:=zs[k]'(by omega)) (List.getElem?_eq_getElem (show k<zs.length by omega)) (List.getElem?_eq_getElem hk) rfl
 rw [h4] at h5
 have h6:=zeroOr_form h5.symm
 simp only [isForm,Bool.and_eq_true,decide_eq_true_eq] at h6
 omega
set_option maxHeartbeats 2000000 in
theorem IsCoformal_c {w : World} {da : Option Addr} {dn : Nat} {zs : List Int} {a : Option Addr} {n : Nat} {ims : List (List Tm)} (dc c : Nat) (hd : Ints w da dn zs) (hdn : dn ≤ 1048576) (hF : Frms w a n ims) (hn : n ≤ 1048576) (hL : ∀ im ∈ ims, (im.length : Int) ≤ 1048576) :
    Calls Try.prog 22 #[.agg #[.slice da dn dc,.slice a n c]] w fun e w'=>e=.returned (.tuple #[.bool (cofB zs ims),.int .i64 (mnE zs ims)])∧Below w.heap.size w w':=by
 have HLL:=Lib.hid hL
 have HLn:=Lib.hid hF.len
 have HFF:=Lib.hid hF
 clear hL
 have hA:=Own.new w 29 #[.slice da dn dc,.slice a n c]
 have hb:=bA1 w (.cells #[.slice da dn dc,.slice a n c] 29)
 have c0:=hA.cell 0
 have c1:=hA.cell 1
 obtain ⟨E,hE⟩:∃E,mnE zs ims=E:=⟨_,rfl⟩
 have HM:=Lib.hid hE
 rw [hE]
 by_cases h0:E=0
 all_goals
  have HE0:=Lib.hid h0;go_enter Try.func22,Try.ntmps22
  go_upto_region 1 with fail
  generalize w.alloc (.cells #[.slice da dn dc,.slice a n c] 29)=w0 at *;go_wp2_with fail
  refine (checkMinimal_c dc c (hd.keep hb) hdn (hF.keep hb) hn HLL.out).mono ?_;rintro e w1 ⟨rfl,hb1⟩;rw [HM.out];have hA1:=hA.keep hb1 hA.lt;have hb2:=bT' hb hb1 hb.size;clear hA hb hb1 c0 c1 hE;have c1:=hA1.cell 1
 · subst h0;go_wp2_with fail
   clear c1 hA1
   go_loopw [17] (fun y wr=>∃i:Nat,i≤n∧y=.int .i64 i∧Below w.heap.size w wr∧Hid ((List.range i).all (cofI ims)=true)) (fun y _=>n - (intOf y).toNat)
   case atStart=>exact ⟨0,Nat.zero_le _,rfl,hb2,rfl⟩
   case round=>
    clear hb2;obtain ⟨i,hi,rfl,hb,H⟩:=hrel;by_cases hlt:i<n
    · obtain ⟨b,off,ts,ai,ni,ci,rfl,hbl,hc0,hT0,hni,hx⟩:=HFF.out.at_ hlt;have hc:=(World.cell?_of_block (a:=⟨b,off+i,none⟩) (hb.block b hbl)).trans hc0;have HT0:=Lib.hid hT0;have HTL:=Lib.hid hT0.len;have hE:=Own.new wr 47 #[.slice ai ni ci];have hba:=bA1 wr (.cells #[.slice ai ni ci] 47);have hb3:=bT' hb hba hb.size;have hi0:(0:Int)≤(i:Int):=(by omega);have hin:(i:Int)<(n:Int):=(by omega);go_upto_region 7 with fail
      generalize wr.alloc (.cells #[.slice ai ni ci] 47)=wu at *;generalize wr.heap.size=gE at *;clear hc hc0 hba hb hT0;have cE:=hE.cell 0;go_wp2_with fail
      clear cE hE
      go_loopw [24] (fun y wx=>∃j:Nat,j≤ni∧y=.int .i64 j∧Below w.heap.size w wx∧Hid ((ts.take j).all le2=true)) (fun y _=>ni - (intOf y).toNat)
      case atStart=>exact ⟨0,Nat.zero_le _,rfl,hb3,rfl⟩
      case round=>
       clear hb3;obtain ⟨j,hj,rfl,hb,H2⟩:=hrel;by_cases hlt2:j<ni
       · obtain ⟨b2,off2,t,rfl,hbl2,hr,ht,hx2⟩:=(HT0.out.keep hb).at_ hlt2;obtain ⟨mt,ft⟩:=t;have hmt:IsMono mt:=ht.1;obtain ⟨p0,p1,p2,p3,p4,p5,p6,p7,rfl⟩:=mono8 hmt;obtain ⟨y0,y1,y2,y3,y4,y5,y6,y7,y8⟩:=nine hr;obtain ⟨x,hxe⟩:∃x,wlen [p0,p1,p2,p3,p4,p5,p6,p7]=x:=⟨_,rfl⟩;have HX:=Lib.hid hxe;clear hxe;have hba:=bA1 wr (.cells #[.int .u8 p0,.int .u8 p1,.int .u8 p2,.int .u8 p3,.int .u8 p4,.int .u8 p5,.int .u8 p6,.int .u8 p7,.int .i64 ft] 76);have hb3:=bT' hb hba hb.size;have hj0:(0:Int)≤(j:Int):=(by omega);have hjn:(j:Int)<(ni:Int):=(by omega);by_cases hx1:2<x
         · go_wp2_with fail
           generalize wr.alloc (.cells #[.int .u8 p0,.int .u8 p1,.int .u8 p2,.int .u8 p3,.int .u8 p4,.int .u8 p5,.int .u8 p6,.int .u8 p7,.int .i64 ft] 76)=w4 at *;refine (wordLength8 hmt HX.out).mono ?_;rintro e w5 ⟨rfl,hb5⟩;go_wp2_with fail
           go_ret2
           refine ⟨?_,bT' hb3 hb5 hb3.size⟩;have hno:cofI ims i=false:=cofI_of hx.out (all_noT hx2.out (by simp [le2,HX.out,hx1]));rw [cof_yes HM.out,show allCof ims=false by rw [allCof,HLn.out];exact range_all_no hlt hno];rfl
         · go_wp2_with fail
           generalize wr.alloc (.cells #[.int .u8 p0,.int .u8 p1,.int .u8 p2,.int .u8 p3,.int .u8 p4,.int .u8 p5,.int .u8 p6,.int .u8 p7,.int .i64 ft] 76)=w4 at *;refine (wordLength8 hmt HX.out).mono ?_;rintro e w5 ⟨rfl,hb5⟩;go_wp2_with fail
           go_roundw
           case rel=>exact ⟨j+1,by omega,by go_num,bT' hb3 hb5 hb3.size,take_allT hx2.out H2.out (by simp [le2,HX.out];omega)⟩
           case measure=>simp [intOf] <;> omega
       · have hnl:¬(j:Int)<(ni:Int):=by omega
         have HAL:Hid (ts.all le2=true):=by
          have:=H2.out;rw [List.take_of_length_le (by have:=HTL.out;omega)] at this;exact Lib.hid this
         go_wp2_with fail
         go_roundw
         case rel=>exact ⟨i+1,by omega,by go_num,hb,range_all_step H.out (cofI_of hx.out HAL.out)⟩
         case measure=>simp [intOf] <;> omega
    · have he:i=n:=(by omega);subst he;go_wp2_with fail
      go_ret2
      refine ⟨?_,hb⟩;rw [cof_yes HM.out,show allCof ims=true by rw [allCof,HLn.out];exact H.out];rfl
 · have hE0:(E==0)=false:=(by simpa using h0);go_wp2_with fail
   go_ret2
   exact ⟨by rw [cof_ne (by rw [HM.out];exact HE0.out)];rfl,hb2⟩
set_option maxHeartbeats 2000000 in
theorem IsCoformal_s {w : World} {da : Option Addr} {dn : Nat} {zs : List Int} {a : Option Addr} {n : Nat} {ims : List (List Tm)} (dc c : Nat) (hd : Ints w da dn zs) (hdn : dn ≤ 1048576) (hF : Frms w a n ims) (hn : n ≤ 1048576) (hL : ∀ im ∈ ims, (im.length : Int) ≤ 1048576) :
    Calls Try.prog 21 #[.agg #[.slice da dn dc,.slice a n c]] w fun e w'=>e=.returned (.tuple #[.bool (cofB zs ims),.int .i64 (mnE zs ims)])∧Below w.heap.size w w':=by
 have HLL:=Lib.hid hL
 have HLn:=Lib.hid hF.len
 have HFF:=Lib.hid hF
 have HT:=Lib.hid hF.tm
 clear hL
 have hA:=Own.new w 29 #[.slice da dn dc,.slice a n c]
 have hb:=bA1 w (.cells #[.slice da dn dc,.slice a n c] 29)
 have c0:=hA.cell 0
 have c1:=hA.cell 1
 obtain ⟨E,hE⟩:∃E,mnE zs ims=E:=⟨_,rfl⟩
 have HM:=Lib.hid hE
 have HC:=Lib.hid (mn_cases zs ims)
 rw [hE]
 by_cases h0:E=0
 all_goals
  have HE0:=Lib.hid h0;go_enter Try.func21,Try.ntmps21
  go_upto_region 1 with fail
  generalize w.alloc (.cells #[.slice da dn dc,.slice a n c] 29)=w0 at *;go_wp2_with fail
  refine (l10Minimal_c dc c (hd.keep hb) hdn (hF.keep hb) hn HLL.out).mono ?_;rintro e w1 ⟨rfl,hb1⟩;rw [HM.out];have hA1:=hA.keep hb1 hA.lt;have hb2:=bT' hb hb1 hb.size;clear hA hb hb1 c0 c1 hE
 · subst h0
   have HAL:Hid (isAlg zs ims=true∧allLin ims=true):=by
    rcases HC.out with h | h | h
    · have:=HM.out;omega
    · have:=HM.out;omega
    · exact Lib.hid h.2
   have H400:=Lib.hid (isAlg_400C HAL.out.1);go_wp2_with fail
   go_loopw [5] (fun y wr=>∃i:Nat,i≤n∧y=.int .i64 i∧Below w.heap.size w wr∧Own wr w.heap.size 29 #[.slice da dn dc,.slice a n c]∧Hid ((List.range i).all (cofI ims)=true)) (fun y _=>n - (intOf y).toNat)
   case atStart=>exact ⟨0,Nat.zero_le _,rfl,hb2,hA1,rfl⟩
   case round=>
    clear hb2 hA1;obtain ⟨i,hi,rfl,hb,hA,H⟩:=hrel;have c1:=hA.cell 1;by_cases hlt:i<n
    · obtain ⟨b,off,ts,ai,ni,ci,rfl,hbl,hc0,hT0,hni,hx⟩:=HFF.out.at_ hlt;have hc:=(World.cell?_of_block (a:=⟨b,off+i,none⟩) (hb.block b hbl)).trans hc0;have hni4:ni≤400:=(by have:=H400.out ts (List.mem_of_getElem? hx.out);have:=hT0.len;omega);have HTL:=Lib.hid hT0.len;have HW:=Lib.hid (cof_words (isAlg_im HAL.out.1 HT.out hx.out) (noLin_at HAL.out.2 hx.out));have HTM:=Lib.hid (HT.out ts (List.mem_of_getElem? hx.out));have hi0:(0:Int)≤(i:Int):=(by omega);have hin:(i:Int)<(n:Int):=(by omega);go_upto_region 7 with fail
      have hTs:=(hT0.keep hb).keep ((Below.refl _ _).drew:Below wr.heap.size wr wr.drew);replace hA:Own wr.drew w.heap.size 29 #[.slice da dn dc,.slice (some ⟨b,off,none⟩) n c]:=hA;replace hc:wr.drew.cell? ⟨b,off+i,none⟩=some (.slice ai ni ci):=hc;replace hb:Below w.heap.size w wr.drew:=hb.drew;have hfld:=field_form;clear c1 hc0;by_cases heq:(wordsOf 2 ts).length=ni
      · have HEQ:=Lib.hid heq;have HY:=Lib.hid (cofI_of hx.out (HW.out.trans (decide_eq_true (heq.trans HTL.out.symm))));have hne:((ni:Int) != (ni:Int))=false:=(by simp);clear heq
        go_region_held3 (fun w'=>w'.cell? ⟨w.heap.size,1,none⟩=some (.slice (some ⟨b,off,none⟩) n c)∧w'.cell? ⟨b,off+i,none⟩=some (.slice ai ni ci)) (exact ⟨hA.cell 1,hc⟩)
         (first | (go_at_call 60;refine (l02Words_c ci 2 hTs hni4).mono ?_;rintro e wv ⟨v,rfl,hV,hbv⟩;obtain ⟨va,vc,rfl,-⟩:=OwnR.terms hV (wordsOf_tm HTM.out) HEQ.out;have hA':=hA.keep hbv hA.lt;have hb':=bT' hb hbv hb.size;have hc':=(World.cell?_of_block (a:=⟨b,off+i,none⟩) (hbv.block b (World.block_lt_of_cell? _ _ hc))).trans hc;clear hA hb hc;have hA:=hA';have hb:=hb';have hc:=hc'))
        go_wp2_with fail
        go_roundw
        case rel=>exact ⟨i+1,by omega,by go_num,hb,hA,range_all_step H.out HY.out⟩
        case measure=>simp [intOf] <;> omega
      · have HEQ:=Lib.hid heq;have HNO:=Lib.hid (cofI_of hx.out (HW.out.trans (decide_eq_false (fun e=>heq (e.trans HTL.out)))));obtain ⟨q,hq⟩:∃q,(wordsOf 2 ts).length=q:=⟨_,rfl⟩;have HQ:=Lib.hid hq;have hqi:((q:Int)==(ni:Int))=false:=(by rw [hq] at heq;simpa using (fun e:(q:Int)=ni=>heq (by omega)));clear heq hq
        go_region_held3 (fun w'=>w'.cell? ⟨w.heap.size,1,none⟩=some (.slice (some ⟨b,off,none⟩) n c)∧w'.cell? ⟨b,off+i,none⟩=some (.slice ai ni ci)) (exact ⟨hA.cell 1,hc⟩)
         (first | (go_at_call 60;refine (l02Words_c ci 2 hTs hni4).mono ?_;rintro e wv ⟨v,rfl,hV,hbv⟩;obtain ⟨va,vc,rfl,-⟩:=OwnR.terms hV (wordsOf_tm HTM.out) HQ.out;have hA':=hA.keep hbv hA.lt;have hb':=bT' hb hbv hb.size;have hc':=(World.cell?_of_block (a:=⟨b,off+i,none⟩) (hbv.block b (World.block_lt_of_cell? _ _ hc))).trans hc;clear hA hb hc;have hA:=hA';have hb:=hb';have hc:=hc'))
        go_wp2_with fail
        go_ret2
        refine ⟨?_,hb⟩;rw [cof_yes HM.out,show allCof ims=false by rw [allCof,HLn.out];exact range_all_no hlt HNO.out];rfl
    · have he:i=n:=(by omega);subst he;go_wp2_with fail
      go_ret2
      refine ⟨?_,hb⟩;rw [cof_yes HM.out,show allCof ims=true by rw [allCof,HLn.out];exact H.out];rfl
 · have hE0:(E==0)=false:=(by simpa using h0);go_wp2_with fail
   go_ret2
   exact ⟨by rw [cof_ne (by rw [HM.out];exact HE0.out)];rfl,hb2⟩
end Go.Proofs.Ytndnkeijddagiaa
