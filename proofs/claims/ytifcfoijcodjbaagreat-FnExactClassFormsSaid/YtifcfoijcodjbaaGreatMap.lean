
import Derived.Test.YtifcfoijcodjbaaGreatIsFormB
import Derived.Test.YtifcfoijcodjbaaGreatIsForm
import Derived.Test.YtifcfoijcodjbaaGreatOpen
import Derived.Test.YtifcfoijcodjbaaGreatHeld
import Derived.Maps.RangeWalk
import Derived.Maps.OwnOps
import Derived.Maps.Views
import Derived.DeepKeys4
namespace Go.Proofs.YtifcfoijcodjbaaGreat
set_option maxRecDepth 100000
open Go.RowKit Go.Deep
def headW (zs:List Int) (ts:List Tm):Int:=match ts[0]? with | some t=>wt zs t.m | none=>-1
def sameW (zs:List Int) (ts:List Tm) (i:Nat):Bool:=match ts[i]? with | some t=>decide (wt zs t.m=headW zs ts) | none=>true
def allW (zs:List Int) (ts:List Tm):Bool:=(List.range ts.length).all (sameW zs ts)
def degA (zs:List Int) (ts:List Tm):Int:=if allW zs ts=true then headW zs ts else 0
def degF (zs:List Int) (ts:List Tm):Int:=if isForm zs ts=true∧allW zs ts=true then headW zs ts else 0
def codF (zs:List Int) (ts:List Tm):Int:=if isForm zs ts=true then (if allW zs ts=true then 0 else 5) else 1
theorem sameW_of {zs:List Int} {ts:List Tm} {i:Nat} {t:Tm} (h:ts[i]? = some t):sameW zs ts i=decide (wt zs t.m=headW zs ts):=by simp only [sameW,h]
theorem headW_of {zs:List Int} {ts:List Tm} {t:Tm} (h:ts[0]? = some t):headW zs ts=wt zs t.m:=by simp only [headW,h]
theorem sameW_zero (zs:List Int) (ts:List Tm):sameW zs ts 0=true:=by
 cases h:ts[0]? with
 | none=>simp only [sameW,h]
 | some t=>rw [sameW_of h,headW_of h];simp
theorem allW_end {zs:List Int} {ts:List Tm} {n:Nat} (hn:ts.length=n) (h:(List.range n).all (sameW zs ts)=true):allW zs ts=true:=by rw [allW,hn,h]
theorem allW_no {zs:List Int} {ts:List Tm} {k n:Nat} (hn:ts.length=n) (hk:k<n) (h:sameW zs ts k=false):allW zs ts=false:=by rw [allW,hn];exact range_all_no hk h
theorem isForm_degs {zs:List Int} {ts:List Tm} (h:isForm zs ts=true):degsOk zs=true:=by
 simp only [isForm,Bool.and_eq_true] at h;exact h.1
theorem l01Weight8 {w : World} {a : Option Addr} {n : Nat} {zs : List Int} {v : Int} {m0 m1 m2 m3 m4 m5 m6 m7 : Int} (c : Nat) (h : Ints w a n zs) (hn : n ≤ 8) (hz : Mild zs) (hm : IsMono [m0, m1, m2, m3, m4, m5, m6, m7]) (hv : wt zs [m0, m1, m2, m3, m4, m5, m6, m7] = v) :
    Calls Tryz.prog 163 #[.slice a n c,.agg #[.int .u8 m0,.int .u8 m1,.int .u8 m2,.int .u8 m3,.int .u8 m4,.int .u8 m5,.int .u8 m6,.int .u8 m7]] w fun e w'=>e=.returned (.int .i64 v)∧Below w.heap.size w w':=by
 have:=l01Weight_c c h hn hz hm
 rw [hv] at this
 exact this
theorem degreeOf8 {w : World} {a : Option Addr} {n : Nat} {zs : List Int} {v : Int} {m0 m1 m2 m3 m4 m5 m6 m7 : Int} (c : Nat) (h : Ints w a n zs) (hn : n ≤ 8) (hz : Mild zs) (hm : IsMono [m0, m1, m2, m3, m4, m5, m6, m7]) (hv : wt zs [m0, m1, m2, m3, m4, m5, m6, m7] = v) :
    Calls Tryz.prog 170 #[.slice a n c,.agg #[.int .u8 m0,.int .u8 m1,.int .u8 m2,.int .u8 m3,.int .u8 m4,.int .u8 m5,.int .u8 m6,.int .u8 m7]] w fun e w'=>e=.returned (.int .i64 v)∧Below w.heap.size w w':=by
 have:=degreeOf_c c h hn hz hm
 rw [hv] at this
 exact this
theorem l01Degree_c {w : World} {da : Option Addr} {dn : Nat} {zs : List Int} {a : Option Addr} {n : Nat} {ts : List Tm} (dc c : Nat) (hd : Ints w da dn zs) (hdn : dn ≤ 8) (hz : Mild zs) (h : Terms w a n ts) (hn : n ≤ 1048576) :
    Calls Tryz.prog 105 #[.slice da dn dc,.agg #[.slice a n c]] w fun e w'=>e=.returned (.tuple #[.int .i64 (degA zs ts),.bool (allW zs ts)])∧Below w.heap.size w w':=by
 have hl:=h.len
 have HL:=Lib.hid hl
 clear hl
 have hb0:=bA1 w (.cells #[.slice a n c] 39)
 have hF0:=Own.new w 39 #[.slice a n c]
 have c0:=hF0.cell 0
 by_cases hn0:n=0
 · subst hn0;have he:ts=[]:=List.length_eq_zero_iff.1 HL.out;subst he;go_enter Tryz.func105,Tryz.ntmps105
   go_wp2_with fail
   go_ret2
   exact ⟨rfl,hb0⟩
 · have hpos:0<n:=(by omega);have hne:((n:Int)==0)=false:=(by simp;omega);have hne':¬(n:Int)=0:=(by omega);have hnz:(0:Int)<(n:Int):=(by omega);obtain ⟨b0,off0,t0,rfl,hbl0,hr0,ht0,hx0⟩:=(h.keep hb0).at_ (k:=0) hpos;obtain ⟨m,f⟩:=t0;have hm:IsMono m:=ht0.1;obtain ⟨m0,m1,m2,m3,m4,m5,m6,m7,rfl⟩:=mono8 hm;have HH:=Lib.hid (headW_of (zs:=zs) hx0.out);rw [Nat.zero_mul,Nat.add_zero] at hr0;obtain ⟨x0,x1,x2,x3,x4,x5,x6,x7,x8⟩:=nine hr0;go_enter Tryz.func105,Tryz.ntmps105
   go_upto_region 3 with fail
   generalize w.alloc (.cells #[.slice (some ⟨b0,off0,none⟩) n c] 39)=w0 at *;go_wp2_with fail
   refine (l01Weight8 dc (hd.keep hb0) hdn hz hm rfl).mono ?_;rintro e w1 ⟨rfl,hb1⟩;have hF1:=hF0.keep hb1 hF0.lt;have hb01:=bT' hb0 hb1 hb0.size;clear x0 x1 x2 x3 x4 x5 x6 x7 x8 c0 hr0 hbl0;have hS1:(List.range 1).all (sameW zs ts)=true:=(by simp [sameW_zero]);have HS1:=Lib.hid hS1;clear hS1;rw [←HH.out];go_wp2_with fail
   clear hF0 hb0 hb1
   go_loopw [7] (fun i wr=>∃k:Nat,1≤k∧k≤n∧i=.int .i64 k∧Below w.heap.size w wr∧Own wr w.heap.size 39 #[.slice (some ⟨b0,off0,none⟩) n c]∧Hid ((List.range k).all (sameW zs ts)=true)) (fun i _=>n - (intOf i).toNat)
   case atStart=>exact ⟨1,Nat.le_refl _,hpos,rfl,hb01,hF1,HS1.out⟩
   case round=>
    clear hb01 hF1 HS1;obtain ⟨k,hk1,hk,rfl,hb,hF,H⟩:=hrel;have c0:=hF.cell 0;by_cases hlt:k<n
    · obtain ⟨b,off,t,he2,hbl,hr,ht,hx⟩:=(h.keep hb).at_ hlt;obtain ⟨rfl,rfl⟩:b0=b∧off0=off:=(by injection he2 with he2;injection he2 with h1 h2;exact ⟨h1,h2⟩);obtain ⟨mt,ft⟩:=t;have hmt:IsMono mt:=ht.1;obtain ⟨p0,p1,p2,p3,p4,p5,p6,p7,rfl⟩:=mono8 hmt;obtain ⟨y0,y1,y2,y3,y4,y5,y6,y7,y8⟩:=nine hr;have HSW:=Lib.hid (sameW_of (zs:=zs) hx.out);by_cases heq:wt zs [p0,p1,p2,p3,p4,p5,p6,p7]=headW zs ts
      · have hne2:(headW zs ts != headW zs ts)=false:=(by simp);go_wp2_with fail
        refine (l01Weight8 dc (hd.keep hb) hdn hz hmt heq).mono ?_;rintro e w2 ⟨rfl,hb2⟩;go_wp2_with fail
        go_roundw
        case rel=>exact ⟨k+1,by omega,by omega,by go_num,bT' hb hb2 hb.size,hF.keep hb2 hF.lt,range_all_step H.out (by rw [HSW.out];exact decide_eq_true heq)⟩
        case measure=>simp [intOf] <;> omega
      · have HN:=Lib.hid (allW_no HL.out hlt (by rw [HSW.out];exact decide_eq_false heq));obtain ⟨v,hv⟩:∃v,wt zs [p0,p1,p2,p3,p4,p5,p6,p7]=v:=⟨_,rfl⟩;have hne3:¬v=headW zs ts:=(by rw [←hv];exact heq);have hne2:(v != headW zs ts)=true:=(by simpa using hne3);have HV:=Lib.hid hv;clear hv heq HSW hx;generalize headW zs ts=hw at *;go_wp2_with fail
        refine (l01Weight8 dc (hd.keep hb) hdn hz hmt HV.out).mono ?_;rintro e w2 ⟨rfl,hb2⟩;go_wp2_with fail
        go_ret2
        exact ⟨by rw [degA,HN.out];rfl,bT' hb hb2 hb.size⟩
    · have he:k=n:=(by omega);subst he;have HA:=Lib.hid (allW_end HL.out H.out);go_wp2_with fail
      go_ret2
      exact ⟨by rw [degA,HA.out];rfl,hb⟩
set_option maxHeartbeats 1000000 in
theorem DegreeOfForm_c {w : World} {da : Option Addr} {dn : Nat} {zs : List Int} {a : Option Addr} {n : Nat} {ts : List Tm} (dc c : Nat) (hd : Ints w da dn zs) (hdn : dn ≤ 1048576) (h : Terms w a n ts) (hn : n ≤ 1048576) :
    Calls Tryz.prog 117 #[.slice da dn dc,.agg #[.slice a n c]] w fun e w'=>e=.returned (.tuple #[.int .i64 (degF zs ts),.int .i64 (codF zs ts)])∧Below w.heap.size w w':=by
 have HL:=Lib.hid hd.len
 have HLt:=Lib.hid h.len
 have hb0:=bA1 w (.cells #[.slice a n c] 39)
 have hF0:=Own.new w 39 #[.slice a n c]
 have c0:=hF0.cell 0
 cases hif:isForm zs ts with
 | false =>
   have HIF:=Lib.hid hif;clear hif;go_enter Tryz.func117,Tryz.ntmps117
   go_upto_region 1 with fail
   generalize w.alloc (.cells #[.slice a n c] 39)=w0 at *;go_wp2_with fail
   refine (IsForm_c dc c (hd.keep hb0) hdn (h.keep hb0) hn).mono ?_;rintro e w1 ⟨rfl,hb1⟩;rw [HIF.out];go_wp2_with fail
   go_ret2
   exact ⟨by rw [degF,codF,HIF.out];rfl,bT' hb0 hb1 hb0.size⟩
 | true =>
   have HIF:=Lib.hid hif;have hd8:dn≤8:=(by have:=degsOk_len (isForm_degs hif);have:=HL.out;omega);have hz:=degsOk_mild (isForm_degs hif);clear hif;by_cases hn0:n=0
   · subst hn0;have he:ts=[]:=List.length_eq_zero_iff.1 HLt.out;have HE:=Lib.hid he;clear he;go_enter Tryz.func117,Tryz.ntmps117
     go_upto_region 1 with fail
     generalize w.alloc (.cells #[.slice a 0 c] 39)=w0 at *;go_wp2_with fail
     refine (IsForm_c dc c (hd.keep hb0) hdn (h.keep hb0) hn).mono ?_;rintro e w1 ⟨rfl,hb1⟩;rw [HIF.out];have c1:=(hF0.keep hb1 hF0.lt).cell 0;have hb01:=bT' hb0 hb1 hb0.size;clear c0 hF0 hb0 hb1;go_wp2_with fail
     go_ret2
     exact ⟨by rw [degF,codF,HIF.out,HE.out];rfl,hb01⟩
   · have hpos:0<n:=(by omega);have hne:((n:Int)==0)=false:=(by simp;omega);have hne':¬(n:Int)=0:=(by omega);have hnz:(0:Int)<(n:Int):=(by omega);go_enter Tryz.func117,Tryz.ntmps117
     go_upto_region 1 with fail
     generalize w.alloc (.cells #[.slice a n c] 39)=w0 at *;go_wp2_with fail
     refine (IsForm_c dc c (hd.keep hb0) hdn (h.keep hb0) hn).mono ?_;rintro e w1 ⟨rfl,hb1⟩;rw [HIF.out];have hF1:=hF0.keep hb1 hF0.lt;have c1:=hF1.cell 0;have hb01:=bT' hb0 hb1 hb0.size;clear c0 hF0 hb0 hb1;obtain ⟨b0,off0,t0,rfl,hbl0,hr0,ht0,hx0⟩:=(h.keep hb01).at_ (k:=0) hpos;obtain ⟨m,f⟩:=t0;have hm:IsMono m:=ht0.1;obtain ⟨m0,m1,m2,m3,m4,m5,m6,m7,rfl⟩:=mono8 hm;have HH:=Lib.hid (headW_of (zs:=zs) hx0.out);rw [Nat.zero_mul,Nat.add_zero] at hr0;obtain ⟨x0,x1,x2,x3,x4,x5,x6,x7,x8⟩:=nine hr0;go_wp2_with fail
     refine (degreeOf8 dc (hd.keep hb01) hd8 hz hm rfl).mono ?_;rintro e w2 ⟨rfl,hb2⟩;have hF2:=hF1.keep hb2 hF1.lt;have hb02:=bT' hb01 hb2 hb01.size;clear x0 x1 x2 x3 x4 x5 x6 x7 x8 c1 hr0 hbl0 hF1 hb01 hb2;have c2:=hF2.cell 0;rw [←HH.out];go_wp2_with fail
     clear hF2 c2
     go_loopw [27] (fun i wr=>∃k:Nat,k≤n∧i=.int .i64 k∧Below w.heap.size w wr∧Hid ((List.range k).all (sameW zs ts)=true)) (fun i _=>n - (intOf i).toNat)
     case atStart=>exact ⟨0,Nat.zero_le _,rfl,hb02,rfl⟩
     case round=>
      clear hb02;obtain ⟨k,hk,rfl,hb,H⟩:=hrel;by_cases hlt:k<n
      · obtain ⟨b,off,t,he2,hbl,hr,ht,hx⟩:=(h.keep hb).at_ hlt;obtain ⟨rfl,rfl⟩:b0=b∧off0=off:=(by injection he2 with he2;injection he2 with h1 h2;exact ⟨h1,h2⟩);obtain ⟨mt,ft⟩:=t;have hmt:IsMono mt:=ht.1;obtain ⟨p0,p1,p2,p3,p4,p5,p6,p7,rfl⟩:=mono8 hmt;obtain ⟨y0,y1,y2,y3,y4,y5,y6,y7,y8⟩:=nine hr;have HSW:=Lib.hid (sameW_of (zs:=zs) hx.out);have hba:=bA1 wr (.cells #[.int .u8 p0,.int .u8 p1,.int .u8 p2,.int .u8 p3,.int .u8 p4,.int .u8 p5,.int .u8 p6,.int .u8 p7,.int .i64 ft] 158);have hb3:=bT' hb hba hb.size;by_cases heq:wt zs [p0,p1,p2,p3,p4,p5,p6,p7]=headW zs ts
        · have hne2:(headW zs ts != headW zs ts)=false:=(by simp);go_wp2_with fail
          generalize wr.alloc (.cells #[.int .u8 p0,.int .u8 p1,.int .u8 p2,.int .u8 p3,.int .u8 p4,.int .u8 p5,.int .u8 p6,.int .u8 p7,.int .i64 ft] 158)=w4 at *;refine (degreeOf8 dc (hd.keep hb3) hd8 hz hmt heq).mono ?_;rintro e w5 ⟨rfl,hb5⟩;go_wp2_with fail
          go_roundw
          case rel=>exact ⟨k+1,by omega,by go_num,bT' hb3 hb5 hb3.size,range_all_step H.out (by rw [HSW.out];exact decide_eq_true heq)⟩
          case measure=>simp [intOf] <;> omega
        · have HN:=Lib.hid (allW_no HLt.out hlt (by rw [HSW.out];exact decide_eq_false heq));have hne2:(wt zs [p0,p1,p2,p3,p4,p5,p6,p7] != headW zs ts)=true:=(by simp [heq]);go_wp2_with fail
          generalize wr.alloc (.cells #[.int .u8 p0,.int .u8 p1,.int .u8 p2,.int .u8 p3,.int .u8 p4,.int .u8 p5,.int .u8 p6,.int .u8 p7,.int .i64 ft] 158)=w4 at *;refine (degreeOf8 dc (hd.keep hb3) hd8 hz hmt rfl).mono ?_;rintro e w5 ⟨rfl,hb5⟩;go_wp2_with fail
          go_ret2
          exact ⟨by rw [degF,codF,HIF.out,HN.out];rfl,bT' hb3 hb5 hb3.size⟩
      · have he:k=n:=(by omega);subst he;have HA:=Lib.hid (allW_end HLt.out H.out);go_wp2_with fail
        go_ret2
        exact ⟨by rw [degF,codF,HIF.out,HA.out];rfl,hb⟩
theorem cmpM_cons (a b:Int) (l1 l2:List Int):cmpM (a::l1) (b::l2)=-1↔b<a∨(a=b∧cmpM l1 l2=-1):=by
 rw [cmpM]
 rcases Int.lt_trichotomy a b with h | h | h
 · rw [if_neg (by omega),if_pos h];omega
 · rw [if_neg (by omega),if_neg (by omega)];omega
 · rw [if_pos h];omega
theorem cmpM_turn:∀m k:List Int,cmpM k m=- cmpM m k
 | [],[]=>rfl
 | [],_::_=>rfl
 | _::_,[]=>rfl
 | a :: l1, b :: l2 => by
   have ih:=cmpM_turn l1 l2;rw [cmpM,cmpM]
   rcases Int.lt_trichotomy a b with h | h | h
   · rw [if_pos h,if_neg (by omega),if_pos h]
   · rw [if_neg (by omega),if_neg (by omega),if_neg (by omega),if_neg (by omega),ih]
   · rw [if_neg (by omega),if_pos h,if_pos h];rfl
theorem cmpM_eq:∀m k:List Int,m.length=k.length→cmpM m k=0→m=k
 | [],[],_,_=>rfl
 | [],_::_,h,_=>by simp at h
 | _::_,[],h,_=>by simp at h
 | a :: l1, b :: l2, hl, h => by
   rw [cmpM] at h
   rcases Int.lt_trichotomy a b with h1 | h1 | h1
   · rw [if_neg (by omega),if_pos h1] at h;omega
   · rw [if_neg (by omega),if_neg (by omega)] at h;rw [h1,cmpM_eq l1 l2 (by simpa using hl) h]
   · rw [if_pos h1] at h;omega
theorem cmpM_trans:∀m k p:List Int,cmpM m k=-1→cmpM k p=-1→cmpM m p=-1
 | [],_,_,h,_=>by simp [cmpM] at h
 | _::_,[],_,h,_=>by simp [cmpM] at h
 | _::_,_::_,[],_,h=>by simp [cmpM] at h
 | a :: l1, b :: l2, c :: l3, h1, h2 => by
   rw [cmpM_cons] at *
   rcases h1 with h1 | ⟨h1,h3⟩ <;> rcases h2 with h2 | ⟨h2,h4⟩
   · exact Or.inl (by omega)
   · exact Or.inl (by omega)
   · exact Or.inl (by omega)
   · exact Or.inr ⟨by omega,cmpM_trans l1 l2 l3 h3 h4⟩
theorem before_trans {m k p:List Int} (h1:before m k=true) (h2:before k p=true):before m p=true:=by
 simp only [before,decide_eq_true_eq] at *
 exact cmpM_trans m k p h1 h2
theorem before_asymm {m k:List Int} (h:before m k=true):before k m=false:=by
 simp only [before,decide_eq_true_eq,decide_eq_false_iff_not] at *
 rw [cmpM_turn m k,h];decide
theorem before_tri {m k:List Int} (hl:m.length=k.length) (h1:before m k=false) (h2:before k m=false):m=k:=by
 simp only [before,decide_eq_false_iff_not] at *
 rw [cmpM_turn m k] at h2
 apply cmpM_eq m k hl
 rcases cmpM_range m k with h | h | h
 · exact absurd h h1
 · exact h
 · rw [h] at h2;exact absurd rfl h2
def Srt (ts:List Tm):Prop:=ts.Pairwise fun s t=>before s.m t.m=true
theorem listOk_at {zs:List Int} {ts:List Tm} (h:listOk zs ts=true) {i:Nat} (hi:i<ts.length):okAt zs ts i=true:=
 List.all_eq_true.1 h i (List.mem_range.2 hi)
theorem listOk_all {zs:List Int} {ts:List Tm} (h:listOk zs ts=true):∀t∈ts,okTm zs t=true:=by
 intro t ht
 obtain ⟨i,hi,rfl⟩:=List.getElem_of_mem ht
 have h1:=listOk_at h hi
 rcases i with _ | j
 · rwa [okAt_zero (List.getElem?_eq_getElem hi)] at h1
 · rw [okAt_succ (List.getElem?_eq_getElem hi) (List.getElem?_eq_getElem (by omega)),Bool.and_eq_true] at h1;exact h1.1
theorem listOk_srt {zs:List Int} {ts:List Tm} (h:listOk zs ts=true):Srt ts:=by
 rw [Srt,List.pairwise_iff_getElem]
 intro i j hi hj hij
 obtain ⟨d,rfl⟩:∃d,j=i+1+d:=⟨j - (i+1),by omega⟩
 induction d with
 | zero =>
   have h1:=listOk_at h hj;rw [okAt_succ (List.getElem?_eq_getElem hj) (List.getElem?_eq_getElem hi),Bool.and_eq_true] at h1;exact h1.2
 | succ d ih =>
   have h0:=ih (by omega) (by omega);have h1:okAt zs ts (i+1+d+1)=true:=listOk_at h hj;rw [okAt_succ (j:=i+1+d) (List.getElem?_eq_getElem hj) (List.getElem?_eq_getElem (by omega)),Bool.and_eq_true] at h1;exact before_trans h0 h1.2
def own1 (m:List Int) (x:Int):List Tm:=if x=0 then [] else [⟨m,x⟩]
theorem own1_no {m:List Int} {x:Int} (h:x=0):own1 m x=[]:=by rw [own1,if_pos h]
theorem own1_yes {m:List Int} {x:Int} (h:¬x=0):own1 m x=[⟨m,x⟩]:=by rw [own1,if_neg h]
def addT (k:Int):List Tm→List Tm→List Tm
 | f :: fs, g :: gs =>
   if before f.m g.m=true then f::addT k fs (g::gs)
   else if before g.m f.m=true then own1 g.m (num (k * g.f))++addT k (f::fs) gs
   else own1 f.m (num (f.f+num (k * g.f)))++addT k fs gs
 | f::fs,[]=>f::fs
 | [],g::gs=>own1 g.m (num (k * g.f))++addT k [] gs
 | [],[]=>[]
termination_by fs gs=>fs.length+gs.length
theorem addT_right (k:Int) (fs:List Tm):addT k fs []=fs:=by cases fs <;> rw [addT]
theorem addT_left (k:Int) (g:Tm) (gs:List Tm):addT k [] (g::gs)=own1 g.m (num (k * g.f))++addT k [] gs:=by rw [addT]
theorem addT_lt {k:Int} {f g:Tm} {fs gs:List Tm} (h:before f.m g.m=true):addT k (f::fs) (g::gs)=f::addT k fs (g::gs):=by rw [addT,if_pos h]
theorem addT_gt {k:Int} {f g:Tm} {fs gs:List Tm} (h:before g.m f.m=true):addT k (f::fs) (g::gs)=own1 g.m (num (k * g.f))++addT k (f::fs) gs:=by
 rw [addT,if_neg (by rw [before_asymm h];simp),if_pos h]
theorem addT_eq {k:Int} {f g:Tm} {fs gs:List Tm} (h1:before f.m g.m=false) (h2:before g.m f.m=false):addT k (f::fs) (g::gs)=own1 f.m (num (f.f+num (k * g.f)))++addT k fs gs:=by
 rw [addT,if_neg (by rw [h1];simp),if_neg (by rw [h2];simp)]
theorem own1_mem {m:List Int} {x:Int} {t:Tm} (h:t∈own1 m x):t.m=m∧t.f=x∧¬x=0:=by
 unfold own1 at h
 split at h
 · simp at h
 · rename_i hx;rw [List.mem_singleton] at h;subst h;exact ⟨rfl,rfl,hx⟩
theorem own1_len (m:List Int) (x:Int):(own1 m x).length≤1:=by
 unfold own1
 split <;> simp
theorem addT_all {k:Int} {p:Tm→Prop}:∀(fs gs:List Tm),(∀f∈fs,p f)→(∀g∈gs,∀x,¬num x=0→p ⟨g.m,num x⟩)→(∀f∈fs,∀x,¬num x=0→p ⟨f.m,num x⟩)→∀t∈addT k fs gs,p t:=by
 intro fs gs
 induction fs,gs using addT.induct with
 | case1 f fs g gs hb ih =>
   intro h1 h2 h3 t ht;rw [addT_lt hb,List.mem_cons] at ht
   rcases ht with rfl | ht
   · exact h1 _ (by simp)
   · exact ih (fun f hf=>h1 f (by simp [hf])) h2 (fun f hf=>h3 f (by simp [hf])) t ht
 | case2 f fs g gs hb hb2 ih =>
   intro h1 h2 h3 t ht;rw [addT_gt hb2,List.mem_append] at ht
   rcases ht with ht | ht
   · obtain ⟨e1,e2,e3⟩:=own1_mem ht;have:=h2 g (by simp) _ e3;rw [←e1,←e2] at this;exact this
   · exact ih h1 (fun g hg=>h2 g (by simp [hg])) h3 t ht
 | case3 f fs g gs hb hb2 ih =>
   intro h1 h2 h3 t ht;rw [addT_eq (by simpa using hb) (by simpa using hb2),List.mem_append] at ht
   rcases ht with ht | ht
   · obtain ⟨e1,e2,e3⟩:=own1_mem ht;have:=h3 f (by simp) _ e3;rw [←e1,←e2] at this;exact this
   · exact ih (fun f hf=>h1 f (by simp [hf])) (fun g hg=>h2 g (by simp [hg])) (fun f hf=>h3 f (by simp [hf])) t ht
 | case4 f fs => 
   intro h1 h2 h3 t ht;rw [addT] at ht;exact h1 t ht
 | case5 g gs ih =>
   intro h1 h2 h3 t ht;rw [addT_left,List.mem_append] at ht
   rcases ht with ht | ht
   · obtain ⟨e1,e2,e3⟩:=own1_mem ht;have:=h2 g (by simp) _ e3;rw [←e1,←e2] at this;exact this
   · exact ih h1 (fun g hg=>h2 g (by simp [hg])) h3 t ht
 | case6 =>
   intro h1 h2 h3 t ht;rw [addT] at ht;simp at ht
theorem addT_len {k:Int} (fs gs:List Tm):(addT k fs gs).length≤fs.length+gs.length:=by
 induction fs,gs using addT.induct with
 | case1 f fs g gs hb ih=>rw [addT_lt hb];simp only [List.length_cons] at *;omega
 | case2 f fs g gs hb hb2 ih=>rw [addT_gt hb2];have:=own1_len g.m (num (k * g.f));simp only [List.length_cons,List.length_append] at *;omega
 | case3 f fs g gs hb hb2 ih=>rw [addT_eq (by simpa using hb) (by simpa using hb2)];have:=own1_len f.m (num (f.f+num (k * g.f)));simp only [List.length_cons,List.length_append] at *;omega
 | case4 f fs=>rw [addT];simp
 | case5 g gs ih=>rw [addT_left];have:=own1_len g.m (num (k * g.f));simp only [List.length_cons,List.length_append] at *;omega
 | case6=>rw [addT];simp
theorem addT_tm {k:Int} {fs gs:List Tm} (h1:∀f∈fs,IsTm f) (h2:∀g∈gs,IsTm g):∀t∈addT k fs gs,IsTm t:=by
 have hx:∀x,-9223372036854775808≤num x∧num x≤9223372036854775807:=fun x=>by have:=num_lo x;have:=num_hi x;omega
 exact addT_all fs gs h1 (fun g hg x _=>⟨(h2 g hg).1,hx x⟩) (fun f hf x _=>⟨(h1 f hf).1,hx x⟩)
theorem addT_head {k:Int} {m:List Int} {fs gs:List Tm} (h1:∀f∈fs,before m f.m=true) (h2:∀g∈gs,before m g.m=true):∀t∈addT k fs gs,before m t.m=true:=
 addT_all fs gs h1 (fun g hg _ _=>h2 g hg) (fun f hf _ _=>h1 f hf)
theorem srt_own1 {m:List Int} {x:Int} {ts:List Tm} (h:∀t∈ts,before m t.m=true) (hs:Srt ts):Srt (own1 m x++ts):=by
 unfold own1
 split
 · exact hs
 · exact List.Pairwise.cons h hs
theorem addT_srt {k:Int}:∀(fs gs:List Tm),(∀f∈fs,f.m.length=8)→(∀g∈gs,g.m.length=8)→Srt fs→Srt gs→Srt (addT k fs gs):=by
 intro fs gs
 induction fs,gs using addT.induct with
 | case1 f fs g gs hb ih =>
   intro l1 l2 h1 h2;rw [addT_lt hb];obtain ⟨ha,ht⟩:=List.pairwise_cons.1 h1;obtain ⟨hc,hu⟩:=List.pairwise_cons.1 h2;refine List.Pairwise.cons (addT_head ha ?_) (ih (fun f hf=>l1 f (by simp [hf])) l2 ht h2);intro g' hg';rw [List.mem_cons] at hg'
   rcases hg' with rfl | hg'
   · exact hb
   · exact before_trans hb (hc _ hg')
 | case2 f fs g gs hb hb2 ih =>
   intro l1 l2 h1 h2;rw [addT_gt hb2];obtain ⟨ha,ht⟩:=List.pairwise_cons.1 h1;obtain ⟨hc,hu⟩:=List.pairwise_cons.1 h2;refine srt_own1 (addT_head ?_ hc) (ih l1 (fun g hg=>l2 g (by simp [hg])) h1 hu);intro f' hf';rw [List.mem_cons] at hf'
   rcases hf' with rfl | hf'
   · exact hb2
   · exact before_trans hb2 (ha _ hf')
 | case3 f fs g gs hb hb2 ih =>
   intro l1 l2 h1 h2;rw [addT_eq (by simpa using hb) (by simpa using hb2)];obtain ⟨ha,ht⟩:=List.pairwise_cons.1 h1;obtain ⟨hc,hu⟩:=List.pairwise_cons.1 h2;have he:f.m=g.m:=before_tri (by rw [l1 f (by simp),l2 g (by simp)]) (by simpa using hb) (by simpa using hb2);exact srt_own1 (addT_head ha (by rw [he];exact hc)) (ih (fun f hf=>l1 f (by simp [hf])) (fun g hg=>l2 g (by simp [hg])) ht hu)
 | case4 f fs=>intro l1 l2 h1 h2;rw [addT];exact h1
 | case5 g gs ih =>
   intro l1 l2 h1 h2;rw [addT_left];obtain ⟨hc,hu⟩:=List.pairwise_cons.1 h2;exact srt_own1 (addT_head (by simp) hc) (ih l1 (fun g hg=>l2 g (by simp [hg])) h1 hu)
 | case6=>intro l1 l2 h1 h2;rw [addT];exact h1
theorem num_id {x:Int} (h1:0≤x) (h2:x≤10006):num x=x:=by unfold num;omega
theorem prime_10007:∀d:Nat,d<101→2≤d→¬d ∣ 10007:=by decide
theorem coprime_10007 {k:Nat} (h1:1≤k) (h2:k≤10006):Nat.Coprime k 10007:=by
 obtain ⟨e,he⟩:=Nat.gcd_dvd_right k 10007
 have hd:Nat.gcd k 10007≤k:=Nat.gcd_le_left _ h1
 rw [Nat.Coprime]
 generalize Nat.gcd k 10007=d at *
 by_cases h:d=1
 · exact h
 · exfalso
   have hd0:d≠0:=fun h0=>(by rw [h0] at he;simp at he);by_cases h3:d<101
   · exact prime_10007 d h3 (by omega) ⟨e,he⟩
   · have he1 : e < 101 := by
       by_cases h4:e<101
       · exact h4
       · have:=Nat.mul_le_mul (show 101≤d by omega) (show 101≤e by omega);omega
     have he0:e≠0:=fun h0=>(by rw [h0] at he;simp at he);have he2:e≠1:=fun h0=>(by rw [h0] at he;omega);exact prime_10007 e he1 (by omega) ⟨d,by rw [Nat.mul_comm];exact he⟩
theorem num_mul_ne {k f:Int} (h1:1≤k) (h2:k≤10006) (h3:1≤f) (h4:f≤10006):¬num (k * f)=0:=by
 intro h
 obtain ⟨a,rfl⟩:=Int.eq_ofNat_of_zero_le (show 0≤k by omega)
 obtain ⟨b,rfl⟩:=Int.eq_ofNat_of_zero_le (show 0≤f by omega)
 have h5:(10007:Nat) ∣ a * b:=by
  unfold num at h;rw [←Int.natCast_mul] at h;exact Nat.dvd_of_mod_eq_zero (by omega)
 have h6:(10007:Nat) ∣ b:=(coprime_10007 (by omega) (by omega)).symm.dvd_of_dvd_mul_left h5
 have:=Nat.le_of_dvd (by omega) h6
 omega
def scT (k:Int) (ts:List Tm):List Tm:=ts.map fun t=>⟨t.m,num (k * t.f)⟩
theorem scT_add {k:Int} (h1:1≤k) (h2:k≤10006):∀ts:List Tm,(∀t∈ts,1≤t.f∧t.f≤10006)→addT k [] ts=scT k ts
 | [],_=>by rw [addT];rfl
 | t :: ts, h => by
   have ht:=h t (by simp);rw [addT_left,own1_yes (num_mul_ne h1 h2 ht.1 ht.2),scT_add h1 h2 ts (fun t ht=>h t (by simp [ht]))];rfl
open Go.RowKit Go.Deep Go.Maps
theorem Tryz.laidMap:laidOutB Tryz.prog=true:=by kernel_rfl
theorem Tryz.cellsM:Tryz.prog.cellsOf 156=8:=by kernel_rfl
theorem Tryz.cellsU8:Tryz.prog.cellsOf 5=1:=by kernel_rfl
theorem Tryz.keyTypeM:Tryz.prog.keyType 156=true:=by kernel_rfl
theorem Tryz.keyM:Keyed Tryz.prog 156:=
 Keyed.of_law (deep_law_laid Tryz.laidMap (m:=2) (by omega) (of_decide_eq_true (by kernel_rfl)) (by kernel_rfl) (by rw [Tryz.underlying156]))
theorem Tryz.zeroI (w:World):(zeroValue 2).run Tryz.prog w=.ok (.int .i64 0) w:=by kernel_rfl
def kM (m:List Int):Lit:=.string (keyBytes (m.map (Lit.int .u8)))
theorem keyLits_u8 {d:Nat} {x:Int} (h:0≤x∧x≤255):Tryz.prog.keyLits (d+1) 5 [.int .u8 x]=some [.int .u8 x]:=by
 have hw:(Lit.int .u8 x).wf=true:=WalkArith.wf_u8 h
 unfold Program.keyLits
 rw [Tryz.underlying5]
 simp [hw]
theorem keyLits_M {m:List Int} (h:IsMono m):Tryz.prog.keyLits (Tryz.prog.types.size+1) 156 (mcells m)=some (m.map (Lit.int .u8)):=by
 obtain ⟨f,hf⟩:∃f,Tryz.prog.types.size=f+1:=⟨Tryz.prog.types.size - 1,by have:0 < Tryz.prog.types.size:=of_decide_eq_true (by kernel_rfl);omega⟩
 rw [hf]
 unfold Program.keyLits
 rw [Tryz.underlying156]
 simp only [Tryz.cellsM,Tryz.cellsU8,mcells_length,h.1,if_true]
 obtain ⟨m0,m1,m2,m3,m4,m5,m6,m7,rfl⟩:=mono8 h
 have q:∀x∈[m0,m1,m2,m3,m4,m5,m6,m7],Tryz.prog.keyLits (f+1) 5 [.int .u8 x]=some [.int .u8 x]:=fun x hx=>keyLits_u8 (h.2 x hx)
 simp only [List.mem_cons,List.not_mem_nil,or_false,forall_eq_or_imp,forall_eq] at q
 obtain ⟨q0,q1,q2,q3,q4,q5,q6,q7⟩:=q
 simp [mcells,List.range_succ,q0,q1,q2,q3,q4,q5,q6,q7]
theorem keyOf_M {m:List Int} (h:IsMono m):keyOf Tryz.prog 156 (.agg (mcells m).toArray)=some (kM m):=by
 have hf:(Value.agg (mcells m).toArray).formed Tryz.prog 156=true:=by
  simp [Value.formed,Tryz.underlying156,Tryz.cellsM,h.1,mcells]
 unfold keyOf
 rw [Tryz.underlying156]
 simp only [Tryz.keyTypeM,hf,Bool.and_self,if_true]
 have:(Value.agg (mcells m).toArray).cells.toList=mcells m:=by simp [Value.cells]
 rw [this,keyLits_M h]
 rfl
theorem kM_inj {m k:List Int} (hm:IsMono m) (hk:IsMono k) (h:kM m=kM k):m=k:=by
 have h1:=keyOf_M hm
 rw [h] at h1
 have h2:=Tryz.keyM.inj h1 (keyOf_M hk)
 simp only [Value.agg.injEq,List.toArray_eq_iff,mcells] at h2
 have:∀l:List Int,(l.map (Value.int .u8)).map intOf=l:=fun l=>by
  rw [List.map_map]
  conv=>rhs;rw [←List.map_id l]
  apply List.map_congr_left
  intro x _;rfl
 rw [←this m,←this k]
 have h3:(List.map (Value.int IntKind.u8) m)=(List.map (Value.int IntKind.u8) k):=by simpa using h2
 rw [h3]
def MapIs (w:World) (b n:Nat) (S:List Int→Int):Prop:=
 ∃D:DataW Unit,w.ownsMap Tryz.prog 156 (plainElem Tryz.prog 2) b n D∧IsMap D∧∀m,IsMono m→D.atKey (kM m) (.lit (.int .i64 0))=.lit (.int .i64 (S m))
theorem MapIs.lt {w:World} {b n:Nat} {S:List Int→Int} (h:MapIs w b n S):b<w.heap.size:=by obtain ⟨D,h1,_⟩:=h;exact h1.lt
theorem MapIs.keep {w w':World} {b n:Nat} {S:List Int→Int} (h:MapIs w b n S) (hb:Below w.heap.size w w'):MapIs w' b n S:=by
 obtain ⟨D,h1,h2⟩:=h
 exact ⟨D,h1.kept (row:=none) ⟨hb.os,hb.tape,hb.output,hb.size,fun k hk _=>hb.block k hk⟩ (by simp),h2⟩
theorem MapIs.far {w:World} {b n:Nat} {S:List Int→Int} (h:MapIs w b n S) {p:Addr} (hp:b≠p.block) (u:Value):MapIs (w.setCell p u) b n S:=by
 obtain ⟨D,h1,h2⟩:=h
 have hb:=(Below.refl p.block w).setCell (p:=p) (Nat.le_refl _) u
 exact ⟨D,h1.kept (row:=some p.block) ⟨hb.os,hb.tape,hb.output,hb.size,fun k _ hk=>Below.heap_setCell w p u k (fun e=>hk (by rw [e]))⟩ (by simpa using hp),h2⟩
theorem MapIs.mono {w:World} {b n n':Nat} {S:List Int→Int} (h:MapIs w b n S) (hn:n≤n'):MapIs w b n' S:=by
 obtain ⟨D,h1,h2⟩:=h
 exact ⟨D,h1.mono hn,h2⟩
theorem mapIs_made (w:World):MapIs (w.alloc (.map #[] 0)) w.heap.size 0 (fun _=>0):=
 ⟨.map [],World.ownsMap_made _ _ _ _,isMap_empty,fun _m _=>rfl⟩
def updS (S:List Int→Int) (m:List Int) (x:Int):List Int→Int:=fun k=>if k=m then x else S k
theorem MapIs.lookup {w:World} {b n:Nat} {S:List Int→Int} {m:List Int} (h:MapIs w b n S) (hm:IsMono m):(Instr.lookup 164 (.map (some b)) (.agg (mcells m).toArray) false).run Tryz.prog w=.ok (.int .i64 (S m)) w:=by
 obtain ⟨D,h1,_,h3⟩:=h
 obtain ⟨c,hrun,hat,_⟩:=h1.lookup_int Tryz.keyM Tryz.underlying164 Tryz.underlying2 (Tryz.zeroI w) (keyOf_M hm)
 rw [h3 m hm] at hat
 simp only [DataW.lit.injEq,Lit.int.injEq,true_and] at hat
 rw [hat]
 exact hrun
theorem MapIs.update {w:World} {b n:Nat} {S:List Int→Int} {m:List Int} {x:Int} (h:MapIs w b n S) (hn:n<maxLen) (hm:IsMono m) (hx:0≤x∧x≤10006):∃w',(Instr.mapUpdate 164 (.map (some b)) (.agg (mcells m).toArray) (.int .i64 x)).run Tryz.prog w=.ok () w'∧MapIs w' b (n+1) (updS S m x)∧w.grownBy w' (some b):=by
 obtain ⟨D,h1,h2,h3⟩:=h
 have hw:(Lit.int .i64 x).wf=true:=WalkArith.wf_i64 (by omega)
 obtain ⟨w',hrun,hown,hg⟩:=h1.update Tryz.keyM Tryz.underlying164 hn (keyOf_M hm) (plainElem_int Tryz.underlying2 hw)
 refine ⟨w',hrun,⟨_,hown,h2.put _ _,fun k hk=>?_⟩,hg⟩
 unfold updS
 split
 · rename_i e;rw [e,atKey_put_same h2 (Tryz.keyM.key (keyOf_M hm))]
 · rename_i e;rw [atKey_put_other (fun e2=>e (kM_inj hk hm e2)),h3 k hk]
theorem mapAdd8 {w : World} {b n : Nat} {S : List Int → Int} {p0 p1 p2 p3 p4 p5 p6 p7 f : Int} (h : MapIs w b n S) (hn : n < 1000000000) (hm : IsMono [p0, p1, p2, p3, p4, p5, p6, p7]) (hS : 0 ≤ S [p0, p1, p2, p3, p4, p5, p6, p7] ∧ S [p0, p1, p2, p3, p4, p5, p6, p7] ≤ 10006) (hf : -1000000000000 ≤ f ∧ f ≤ 1000000000000) :
    Calls Tryz.prog 187 #[.map (some b),.agg #[.int .u8 p0,.int .u8 p1,.int .u8 p2,.int .u8 p3,.int .u8 p4,.int .u8 p5,.int .u8 p6,.int .u8 p7],.int .i64 f] w fun e w'=>e=.returned (.tuple #[])∧MapIs w' b (n+1) (updS S [p0,p1,p2,p3,p4,p5,p6,p7] (num (S [p0,p1,p2,p3,p4,p5,p6,p7]+f)))∧w.grownBy w' (some b):=by
 have hb:=h.lt
 have hB:Own (w.alloc (.cells #[.int .u8 p0,.int .u8 p1,.int .u8 p2,.int .u8 p3,.int .u8 p4,.int .u8 p5,.int .u8 p6,.int .u8 p7] 156)).drew w.heap.size 156 #[.int .u8 p0,.int .u8 p1,.int .u8 p2,.int .u8 p3,.int .u8 p4,.int .u8 p5,.int .u8 p6,.int .u8 p7]:=Own.new w 156 #[.int .u8 p0,.int .u8 p1,.int .u8 p2,.int .u8 p3,.int .u8 p4,.int .u8 p5,.int .u8 p6,.int .u8 p7]
 have hmap:MapIs (w.alloc (.cells #[.int .u8 p0,.int .u8 p1,.int .u8 p2,.int .u8 p3,.int .u8 p4,.int .u8 p5,.int .u8 p6,.int .u8 p7] 156)).drew b n S:=h.keep (bA1 w _).drew
 have HBA:=Lib.hid ((bA1 w (.cells #[.int .u8 p0,.int .u8 p1,.int .u8 p2,.int .u8 p3,.int .u8 p4,.int .u8 p5,.int .u8 p6,.int .u8 p7] 156)).drew)
 have hlk:=hmap.lookup hm
 obtain ⟨s,hs⟩:∃s,S [p0,p1,p2,p3,p4,p5,p6,p7]=s:=⟨_,rfl⟩
 rw [hs] at hlk hS
 obtain ⟨x,hx0⟩:∃x,num (s+f)=x:=⟨_,rfl⟩
 have hxb:0≤x∧x≤10006:=by have h1:=num_lo (s+f);have h2:=num_hi (s+f);omega
 obtain ⟨w2,hup,hmap2,hgr⟩:=hmap.update (x:=x) (by unfold maxLen;omega) hm hxb
 have hB2:Own w2 w.heap.size 156 #[.int .u8 p0,.int .u8 p1,.int .u8 p2,.int .u8 p3,.int .u8 p4,.int .u8 p5,.int .u8 p6,.int .u8 p7]:=hB.grown hgr (by simp;omega)
 have s1:IntKind.i64.wrap (s+f)=s+f:=IntWalk.i64_in _ (by omega)
 have HX:=Lib.hid hx0
 have HM:=Lib.hid hmap2
 have HG:=Lib.hid hgr
 have HS:=Lib.hid hs
 clear hx0 hmap2 hgr hs hmap
 simp only [mcells,List.map_cons,List.map_nil] at hlk hup
 go_enter Tryz.func187,Tryz.ntmps187
 have z0:=hB.cell 0
 go_upto_region 1 with fail
 refine wp_region_held_drew (S:=(fun w'=>w'.cell? ⟨w.heap.size,0,none⟩=some (.int .u8 p0)∧w'.cell? ⟨w.heap.size,1,none⟩=some (.int .u8 p1)∧w'.cell? ⟨w.heap.size,2,none⟩=some (.int .u8 p2)∧w'.cell? ⟨w.heap.size,3,none⟩=some (.int .u8 p3)∧w'.cell? ⟨w.heap.size,4,none⟩=some (.int .u8 p4)∧w'.cell? ⟨w.heap.size,5,none⟩=some (.int .u8 p5)∧w'.cell? ⟨w.heap.size,6,none⟩=some (.int .u8 p6)∧w'.cell? ⟨w.heap.size,7,none⟩=some (.int .u8 p7))) (by kernel_rfl) ?_ (fun hHeld=>?_)
 · ((try dsimp only);(exact ⟨hB.cell 0,hB.cell 1,hB.cell 2,hB.cell 3,hB.cell 4,hB.cell 5,hB.cell 6,hB.cell 7⟩))
 refine hdT 0 ?_
 refine hdT 1 ?_
 refine hdT 2 ?_
 refine hdT 3 ?_
 refine hdT 5 ?_
 refine hdC 4 (fun K hK=>?_)
 (go_simp;(try go_wp2_with fail);go_wp2_with fail)
 refine hK.out _ _ ?_ (fun _=>?_)
 · ((try dsimp only);(exact ⟨hB.cell 0,hB.cell 1,hB.cell 2,hB.cell 3,hB.cell 4,hB.cell 5,hB.cell 6,hB.cell 7⟩))
 clear hK K
 (try simp only [Act.put,pA,pB,pC])
 refine hdT 6 ?_
 refine hdC 7 (fun K hK=>?_)
 (go_simp;((go_at_call 213;refine (numberOf_c _ _).mono ?_;rintro e wM ⟨rfl,rfl⟩;rw [HX.out]));go_wp2_with fail)
 refine hK.out _ _ ?_ (fun _=>?_)
 · ((try dsimp only);(exact ⟨hB.cell 0,hB.cell 1,hB.cell 2,hB.cell 3,hB.cell 4,hB.cell 5,hB.cell 6,hB.cell 7⟩))
 clear hK K
 (try simp only [Act.put,pA,pB,pC])
 refine hdC 8 (fun K hK=>?_)
 (go_simp;(try go_wp2_with fail);go_wp2_with fail)
 refine hK.out _ _ ?_ (fun _=>?_)
 · ((try dsimp only);(exact ⟨hB2.cell 0,hB2.cell 1,hB2.cell 2,hB2.cell 3,hB2.cell 4,hB2.cell 5,hB2.cell 6,hB2.cell 7⟩))
 clear hK K
 (try simp only [Act.put,pA,pB,pC])
 refine wpAnyH_done (by kernel_rfl) ?_ _
 go_wp2_with fail
 go_end0
 refine ⟨rfl,by rw [HS.out,HX.out];exact HM.out,?_⟩
 have hg:=HG.out
 exact ⟨hg.os,hg.tape,hg.output,Nat.le_trans HBA.out.size hg.size,fun k hk hne=>(hg.block k (Nat.lt_of_lt_of_le hk HBA.out.size) hne).trans (HBA.out.block k hk)⟩
end Go.Proofs.YtifcfoijcodjbaaGreat
