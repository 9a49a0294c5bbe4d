
import Derived.Test.YtndnkeijddagiaaIsFormB
namespace Go.Proofs.Ytndnkeijddagiaa
set_option maxRecDepth 100000
open Go.RowKit Go.Deep
def headW (zs:List Int) (ts:List Tm):Int:=match ts[0]? with | some t=>wt zs t.m | none=>-1
def sameW (zs:List Int) (ts:List Tm) (i:Nat):Bool:=match ts[i]? with | some t=>decide (wt zs t.m=headW zs ts) | none=>true
def allW (zs:List Int) (ts:List Tm):Bool:=(List.range ts.length).all (sameW zs ts)
def degA (zs:List Int) (ts:List Tm):Int:=if allW zs ts=true then headW zs ts else 0
def degF (zs:List Int) (ts:List Tm):Int:=if isForm zs ts=true∧allW zs ts=true then headW zs ts else 0
def codF (zs:List Int) (ts:List Tm):Int:=if isForm zs ts=true then (if allW zs ts=true then 0 else 5) else 1
theorem sameW_of {zs:List Int} {ts:List Tm} {i:Nat} {t:Tm} (h:ts[i]? = some t):sameW zs ts i=decide (wt zs t.m=headW zs ts):=by simp only [sameW,h]
theorem headW_of {zs:List Int} {ts:List Tm} {t:Tm} (h:ts[0]? = some t):headW zs ts=wt zs t.m:=by simp only [headW,h]
theorem sameW_zero (zs:List Int) (ts:List Tm):sameW zs ts 0=true:=by
 cases h:ts[0]? with
 | none=>simp only [sameW,h]
 | some t=>rw [sameW_of h,headW_of h];simp
theorem allW_end {zs:List Int} {ts:List Tm} {n:Nat} (hn:ts.length=n) (h:(List.range n).all (sameW zs ts)=true):allW zs ts=true:=by rw [allW,hn,h]
theorem allW_no {zs:List Int} {ts:List Tm} {k n:Nat} (hn:ts.length=n) (hk:k<n) (h:sameW zs ts k=false):allW zs ts=false:=by rw [allW,hn];exact range_all_no hk h
theorem isForm_degs {zs:List Int} {ts:List Tm} (h:isForm zs ts=true):degsOk zs=true:=by
 simp only [isForm,Bool.and_eq_true] at h;exact h.1
theorem l01Weight8 {w : World} {a : Option Addr} {n : Nat} {zs : List Int} {v : Int} {m0 m1 m2 m3 m4 m5 m6 m7 : Int} (c : Nat) (h : Ints w a n zs) (hn : n ≤ 8) (hz : Mild zs) (hm : IsMono [m0, m1, m2, m3, m4, m5, m6, m7]) (hv : wt zs [m0, m1, m2, m3, m4, m5, m6, m7] = v) :
    Calls Try.prog 106 #[.slice a n c,.agg #[.int .u8 m0,.int .u8 m1,.int .u8 m2,.int .u8 m3,.int .u8 m4,.int .u8 m5,.int .u8 m6,.int .u8 m7]] w fun e w'=>e=.returned (.int .i64 v)∧Below w.heap.size w w':=by
 have:=l01Weight_c c h hn hz hm
 rw [hv] at this
 exact this
theorem degreeOf8 {w : World} {a : Option Addr} {n : Nat} {zs : List Int} {v : Int} {m0 m1 m2 m3 m4 m5 m6 m7 : Int} (c : Nat) (h : Ints w a n zs) (hn : n ≤ 8) (hz : Mild zs) (hm : IsMono [m0, m1, m2, m3, m4, m5, m6, m7]) (hv : wt zs [m0, m1, m2, m3, m4, m5, m6, m7] = v) :
    Calls Try.prog 132 #[.slice a n c,.agg #[.int .u8 m0,.int .u8 m1,.int .u8 m2,.int .u8 m3,.int .u8 m4,.int .u8 m5,.int .u8 m6,.int .u8 m7]] w fun e w'=>e=.returned (.int .i64 v)∧Below w.heap.size w w':=by
 have:=degreeOf_c c h hn hz hm
 rw [hv] at this
 exact this
theorem l01Degree_c {w : World} {da : Option Addr} {dn : Nat} {zs : List Int} {a : Option Addr} {n : Nat} {ts : List Tm} (dc c : Nat) (hd : Ints w da dn zs) (hdn : dn ≤ 8) (hz : Mild zs) (h : Terms w a n ts) (hn : n ≤ 1048576) :
    Calls Try.prog 71 #[.slice da dn dc,.agg #[.slice a n c]] w fun e w'=>e=.returned (.tuple #[.int .i64 (degA zs ts),.bool (allW zs ts)])∧Below w.heap.size w w':=by
 have hl:=h.len
 have HL:=Lib.hid hl
 clear hl
 have hb0:=bA1 w (.cells #[.slice a n c] 47)
 have hF0:=Own.new w 47 #[.slice a n c]
 have c0:=hF0.cell 0
 by_cases hn0:n=0
 · subst hn0;have he:ts=[]:=List.length_eq_zero_iff.1 HL.out;subst he;go_enter Try.func71,Try.ntmps71
   go_wp2_with fail
   go_ret2
   exact ⟨rfl,hb0⟩
 · have hpos:0<n:=(by omega);have hne:((n:Int)==0)=false:=(by simp;omega);have hne':¬(n:Int)=0:=(by omega);have hnz:(0:Int)<(n:Int):=(by omega);obtain ⟨b0,off0,t0,rfl,hbl0,hr0,ht0,hx0⟩:=(h.keep hb0).at_ (k:=0) hpos;obtain ⟨m,f⟩:=t0;have hm:IsMono m:=ht0.1;obtain ⟨m0,m1,m2,m3,m4,m5,m6,m7,rfl⟩:=mono8 hm;have HH:=Lib.hid (headW_of (zs:=zs) hx0.out);rw [Nat.zero_mul,Nat.add_zero] at hr0;obtain ⟨x0,x1,x2,x3,x4,x5,x6,x7,x8⟩:=nine hr0;go_enter Try.func71,Try.ntmps71
   go_upto_region 3 with fail
   generalize w.alloc (.cells #[.slice (some ⟨b0,off0,none⟩) n c] 47)=w0 at *;go_wp2_with fail
   refine (l01Weight8 dc (hd.keep hb0) hdn hz hm rfl).mono ?_;rintro e w1 ⟨rfl,hb1⟩;have hF1:=hF0.keep hb1 hF0.lt;have hb01:=bT' hb0 hb1 hb0.size;clear x0 x1 x2 x3 x4 x5 x6 x7 x8 c0 hr0 hbl0;have hS1:(List.range 1).all (sameW zs ts)=true:=(by simp [sameW_zero]);have HS1:=Lib.hid hS1;clear hS1;rw [←HH.out];go_wp2_with fail
   clear hF0 hb0 hb1
   go_loopw [7] (fun i wr=>∃k:Nat,1≤k∧k≤n∧i=.int .i64 k∧Below w.heap.size w wr∧Own wr w.heap.size 47 #[.slice (some ⟨b0,off0,none⟩) n c]∧Hid ((List.range k).all (sameW zs ts)=true)) (fun i _=>n - (intOf i).toNat)
   case atStart=>exact ⟨1,Nat.le_refl _,hpos,rfl,hb01,hF1,HS1.out⟩
   case round=>
    clear hb01 hF1 HS1;obtain ⟨k,hk1,hk,rfl,hb,hF,H⟩:=hrel;have c0:=hF.cell 0;by_cases hlt:k<n
    · obtain ⟨b,off,t,he2,hbl,hr,ht,hx⟩:=(h.keep hb).at_ hlt;obtain ⟨rfl,rfl⟩:b0=b∧off0=off:=(by injection he2 with he2;injection he2 with h1 h2;exact ⟨h1,h2⟩);obtain ⟨mt,ft⟩:=t;have hmt:IsMono mt:=ht.1;obtain ⟨p0,p1,p2,p3,p4,p5,p6,p7,rfl⟩:=mono8 hmt;obtain ⟨y0,y1,y2,y3,y4,y5,y6,y7,y8⟩:=nine hr;have HSW:=Lib.hid (sameW_of (zs:=zs) hx.out);by_cases heq:wt zs [p0,p1,p2,p3,p4,p5,p6,p7]=headW zs ts
      · have hne2:(headW zs ts != headW zs ts)=false:=(by simp);go_wp2_with fail
        refine (l01Weight8 dc (hd.keep hb) hdn hz hmt heq).mono ?_;rintro e w2 ⟨rfl,hb2⟩;go_wp2_with fail
        go_roundw
        case rel=>exact ⟨k+1,by omega,by omega,by go_num,bT' hb hb2 hb.size,hF.keep hb2 hF.lt,range_all_step H.out (by rw [HSW.out];exact decide_eq_true heq)⟩
        case measure=>simp [intOf] <;> omega
      · have HN:=Lib.hid (allW_no HL.out hlt (by rw [HSW.out];exact decide_eq_false heq));obtain ⟨v,hv⟩:∃v,wt zs [p0,p1,p2,p3,p4,p5,p6,p7]=v:=⟨_,rfl⟩;have hne3:¬v=headW zs ts:=(by rw [←hv];exact heq);have hne2:(v != headW zs ts)=true:=(by simpa using hne3);have HV:=Lib.hid hv;clear hv heq HSW hx;generalize headW zs ts=hw at *;go_wp2_with fail
        refine (l01Weight8 dc (hd.keep hb) hdn hz hmt HV.out).mono ?_;rintro e w2 ⟨rfl,hb2⟩;go_wp2_with fail
        go_ret2
        exact ⟨by rw [degA,HN.out];rfl,bT' hb hb2 hb.size⟩
    · have he:k=n:=(by omega);subst he;have HA:=Lib.hid (allW_end HL.out H.out);go_wp2_with fail
      go_ret2
      exact ⟨by rw [degA,HA.out];rfl,hb⟩
set_option maxHeartbeats 1000000 in
theorem DegreeOfForm_c {w : World} {da : Option Addr} {dn : Nat} {zs : List Int} {a : Option Addr} {n : Nat} {ts : List Tm} (dc c : Nat) (hd : Ints w da dn zs) (hdn : dn ≤ 1048576) (h : Terms w a n ts) (hn : n ≤ 1048576) :
    Calls Try.prog 114 #[.slice da dn dc,.agg #[.slice a n c]] w fun e w'=>e=.returned (.tuple #[.int .i64 (degF zs ts),.int .i64 (codF zs ts)])∧Below w.heap.size w w':=by
 have HL:=Lib.hid hd.len
 have HLt:=Lib.hid h.len
 have hb0:=bA1 w (.cells #[.slice a n c] 47)
 have hF0:=Own.new w 47 #[.slice a n c]
 have c0:=hF0.cell 0
 cases hif:isForm zs ts with
 | false =>
   have HIF:=Lib.hid hif;clear hif;go_enter Try.func114,Try.ntmps114
   go_upto_region 1 with fail
   generalize w.alloc (.cells #[.slice a n c] 47)=w0 at *;go_wp2_with fail
   refine (IsForm_c dc c (hd.keep hb0) hdn (h.keep hb0) hn).mono ?_;rintro e w1 ⟨rfl,hb1⟩;rw [HIF.out];go_wp2_with fail
   go_ret2
   exact ⟨by rw [degF,codF,HIF.out];rfl,bT' hb0 hb1 hb0.size⟩
 | true =>
   have HIF:=Lib.hid hif;have hd8:dn≤8:=(by have:=degsOk_len (isForm_degs hif);have:=HL.out;omega);have hz:=degsOk_mild (isForm_degs hif);clear hif;by_cases hn0:n=0
   · subst hn0;have he:ts=[]:=List.length_eq_zero_iff.1 HLt.out;have HE:=Lib.hid he;clear he;go_enter Try.func114,Try.ntmps114
     go_upto_region 1 with fail
     generalize w.alloc (.cells #[.slice a 0 c] 47)=w0 at *;go_wp2_with fail
     refine (IsForm_c dc c (hd.keep hb0) hdn (h.keep hb0) hn).mono ?_;rintro e w1 ⟨rfl,hb1⟩;rw [HIF.out];have c1:=(hF0.keep hb1 hF0.lt).cell 0;have hb01:=bT' hb0 hb1 hb0.size;clear c0 hF0 hb0 hb1;go_wp2_with fail
     go_ret2
     exact ⟨by rw [degF,codF,HIF.out,HE.out];rfl,hb01⟩
   · have hpos:0<n:=(by omega);have hne:((n:Int)==0)=false:=(by simp;omega);have hne':¬(n:Int)=0:=(by omega);have hnz:(0:Int)<(n:Int):=(by omega);go_enter Try.func114,Try.ntmps114
     go_upto_region 1 with fail
     generalize w.alloc (.cells #[.slice a n c] 47)=w0 at *;go_wp2_with fail
     refine (IsForm_c dc c (hd.keep hb0) hdn (h.keep hb0) hn).mono ?_;rintro e w1 ⟨rfl,hb1⟩;rw [HIF.out];have hF1:=hF0.keep hb1 hF0.lt;have c1:=hF1.cell 0;have hb01:=bT' hb0 hb1 hb0.size;clear c0 hF0 hb0 hb1;obtain ⟨b0,off0,t0,rfl,hbl0,hr0,ht0,hx0⟩:=(h.keep hb01).at_ (k:=0) hpos;obtain ⟨m,f⟩:=t0;have hm:IsMono m:=ht0.1;obtain ⟨m0,m1,m2,m3,m4,m5,m6,m7,rfl⟩:=mono8 hm;have HH:=Lib.hid (headW_of (zs:=zs) hx0.out);rw [Nat.zero_mul,Nat.add_zero] at hr0;obtain ⟨x0,x1,x2,x3,x4,x5,x6,x7,x8⟩:=nine hr0;go_wp2_with fail
     refine (degreeOf8 dc (hd.keep hb01) hd8 hz hm rfl).mono ?_;rintro e w2 ⟨rfl,hb2⟩;have hF2:=hF1.keep hb2 hF1.lt;have hb02:=bT' hb01 hb2 hb01.size;clear x0 x1 x2 x3 x4 x5 x6 x7 x8 c1 hr0 hbl0 hF1 hb01 hb2;have c2:=hF2.cell 0;rw [←HH.out];go_wp2_with fail
     clear hF2 c2
     go_loopw [27] (fun i wr=>∃k:Nat,k≤n∧i=.int .i64 k∧Below w.heap.size w wr∧Hid ((List.range k).all (sameW zs ts)=true)) (fun i _=>n - (intOf i).toNat)
     case atStart=>exact ⟨0,Nat.zero_le _,rfl,hb02,rfl⟩
     case round=>
      clear hb02;obtain ⟨k,hk,rfl,hb,H⟩:=hrel;by_cases hlt:k<n
      · obtain ⟨b,off,t,he2,hbl,hr,ht,hx⟩:=(h.keep hb).at_ hlt;obtain ⟨rfl,rfl⟩:b0=b∧off0=off:=(by injection he2 with he2;injection he2 with h1 h2;exact ⟨h1,h2⟩);obtain ⟨mt,ft⟩:=t;have hmt:IsMono mt:=ht.1;obtain ⟨p0,p1,p2,p3,p4,p5,p6,p7,rfl⟩:=mono8 hmt;obtain ⟨y0,y1,y2,y3,y4,y5,y6,y7,y8⟩:=nine hr;have HSW:=Lib.hid (sameW_of (zs:=zs) hx.out);have hba:=bA1 wr (.cells #[.int .u8 p0,.int .u8 p1,.int .u8 p2,.int .u8 p3,.int .u8 p4,.int .u8 p5,.int .u8 p6,.int .u8 p7,.int .i64 ft] 76);have hb3:=bT' hb hba hb.size;by_cases heq:wt zs [p0,p1,p2,p3,p4,p5,p6,p7]=headW zs ts
        · have hne2:(headW zs ts != headW zs ts)=false:=(by simp);go_wp2_with fail
          generalize wr.alloc (.cells #[.int .u8 p0,.int .u8 p1,.int .u8 p2,.int .u8 p3,.int .u8 p4,.int .u8 p5,.int .u8 p6,.int .u8 p7,.int .i64 ft] 76)=w4 at *;refine (degreeOf8 dc (hd.keep hb3) hd8 hz hmt heq).mono ?_;rintro e w5 ⟨rfl,hb5⟩;go_wp2_with fail
          go_roundw
          case rel=>exact ⟨k+1,by omega,by go_num,bT' hb3 hb5 hb3.size,range_all_step H.out (by rw [HSW.out];exact decide_eq_true heq)⟩
          case measure=>simp [intOf] <;> omega
        · have HN:=Lib.hid (allW_no HLt.out hlt (by rw [HSW.out];exact decide_eq_false heq));have hne2:(wt zs [p0,p1,p2,p3,p4,p5,p6,p7] != headW zs ts)=true:=(by simp [heq]);go_wp2_with fail
          generalize wr.alloc (.cells #[.int .u8 p0,.int .u8 p1,.int .u8 p2,.int .u8 p3,.int .u8 p4,.int .u8 p5,.int .u8 p6,.int .u8 p7,.int .i64 ft] 76)=w4 at *;refine (degreeOf8 dc (hd.keep hb3) hd8 hz hmt rfl).mono ?_;rintro e w5 ⟨rfl,hb5⟩;go_wp2_with fail
          go_ret2
          exact ⟨by rw [degF,codF,HIF.out,HN.out];rfl,bT' hb3 hb5 hb3.size⟩
      · have he:k=n:=(by omega);subst he;have HA:=Lib.hid (allW_end HLt.out H.out);go_wp2_with fail
        go_ret2
        exact ⟨by rw [degF,codF,HIF.out,HA.out];rfl,hb⟩
end Go.Proofs.Ytndnkeijddagiaa
