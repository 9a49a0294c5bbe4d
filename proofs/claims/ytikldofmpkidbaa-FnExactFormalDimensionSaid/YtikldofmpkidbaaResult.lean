
import Derived.Test.YtikldofmpkidbaaIsFormB
import Derived.Deep.DeepAppendWide
import Derived.Test.YtikldofmpkidbaaHeld
namespace Go.Proofs.Ytikldofmpkidbaa
set_option maxRecDepth 100000
open Go.RowKit Go.Deep
def headW (zs:List Int) (ts:List Tm):Int:=match ts[0]? with | some t=>wt zs t.m | none=>-1
def sameW (zs:List Int) (ts:List Tm) (i:Nat):Bool:=match ts[i]? with | some t=>decide (wt zs t.m=headW zs ts) | none=>true
def allW (zs:List Int) (ts:List Tm):Bool:=(List.range ts.length).all (sameW zs ts)
def degA (zs:List Int) (ts:List Tm):Int:=if allW zs ts=true then headW zs ts else 0
def degF (zs:List Int) (ts:List Tm):Int:=if isForm zs ts=true∧allW zs ts=true then headW zs ts else 0
def codF (zs:List Int) (ts:List Tm):Int:=if isForm zs ts=true then (if allW zs ts=true then 0 else 5) else 1
theorem sameW_of {zs:List Int} {ts:List Tm} {i:Nat} {t:Tm} (h:ts[i]? = some t):sameW zs ts i=decide (wt zs t.m=headW zs ts):=by simp only [sameW,h]
theorem headW_of {zs:List Int} {ts:List Tm} {t:Tm} (h:ts[0]? = some t):headW zs ts=wt zs t.m:=by simp only [headW,h]
theorem sameW_zero (zs:List Int) (ts:List Tm):sameW zs ts 0=true:=by
 cases h:ts[0]? with
 | none=>simp only [sameW,h]
 | some t=>rw [sameW_of h,headW_of h];simp
theorem allW_end {zs:List Int} {ts:List Tm} {n:Nat} (hn:ts.length=n) (h:(List.range n).all (sameW zs ts)=true):allW zs ts=true:=by rw [allW,hn,h]
theorem allW_no {zs:List Int} {ts:List Tm} {k n:Nat} (hn:ts.length=n) (hk:k<n) (h:sameW zs ts k=false):allW zs ts=false:=by rw [allW,hn];exact range_all_no hk h
theorem isForm_degs {zs:List Int} {ts:List Tm} (h:isForm zs ts=true):degsOk zs=true:=by
 simp only [isForm,Bool.and_eq_true] at h;exact h.1
theorem l01Weight8 {w : World} {a : Option Addr} {n : Nat} {zs : List Int} {v : Int} {m0 m1 m2 m3 m4 m5 m6 m7 : Int} (c : Nat) (h : Ints w a n zs) (hn : n ≤ 8) (hz : Mild zs) (hm : IsMono [m0, m1, m2, m3, m4, m5, m6, m7]) (hv : wt zs [m0, m1, m2, m3, m4, m5, m6, m7] = v) :
    Calls Try.prog 108 #[.slice a n c,.agg #[.int .u8 m0,.int .u8 m1,.int .u8 m2,.int .u8 m3,.int .u8 m4,.int .u8 m5,.int .u8 m6,.int .u8 m7]] w fun e w'=>e=.returned (.int .i64 v)∧Below w.heap.size w w':=by
 have:=l01Weight_c c h hn hz hm
 rw [hv] at this
 exact this
theorem degreeOf8 {w : World} {a : Option Addr} {n : Nat} {zs : List Int} {v : Int} {m0 m1 m2 m3 m4 m5 m6 m7 : Int} (c : Nat) (h : Ints w a n zs) (hn : n ≤ 8) (hz : Mild zs) (hm : IsMono [m0, m1, m2, m3, m4, m5, m6, m7]) (hv : wt zs [m0, m1, m2, m3, m4, m5, m6, m7] = v) :
    Calls Try.prog 123 #[.slice a n c,.agg #[.int .u8 m0,.int .u8 m1,.int .u8 m2,.int .u8 m3,.int .u8 m4,.int .u8 m5,.int .u8 m6,.int .u8 m7]] w fun e w'=>e=.returned (.int .i64 v)∧Below w.heap.size w w':=by
 have:=degreeOf_c c h hn hz hm
 rw [hv] at this
 exact this
theorem l01Degree_c {w : World} {da : Option Addr} {dn : Nat} {zs : List Int} {a : Option Addr} {n : Nat} {ts : List Tm} (dc c : Nat) (hd : Ints w da dn zs) (hdn : dn ≤ 8) (hz : Mild zs) (h : Terms w a n ts) (hn : n ≤ 1048576) :
    Calls Try.prog 99 #[.slice da dn dc,.agg #[.slice a n c]] w fun e w'=>e=.returned (.tuple #[.int .i64 (degA zs ts),.bool (allW zs ts)])∧Below w.heap.size w w':=by
 have hl:=h.len
 have HL:=Lib.hid hl
 clear hl
 have hb0:=bA1 w (.cells #[.slice a n c] 61)
 have hF0:=Own.new w 61 #[.slice a n c]
 have c0:=hF0.cell 0
 by_cases hn0:n=0
 · subst hn0;have he:ts=[]:=List.length_eq_zero_iff.1 HL.out;subst he;go_enter Try.func99,Try.ntmps99
   go_wp2_with fail
   go_ret2
   exact ⟨rfl,hb0⟩
 · have hpos:0<n:=(by omega);have hne:((n:Int)==0)=false:=(by simp;omega);have hne':¬(n:Int)=0:=(by omega);have hnz:(0:Int)<(n:Int):=(by omega);obtain ⟨b0,off0,t0,rfl,hbl0,hr0,ht0,hx0⟩:=(h.keep hb0).at_ (k:=0) hpos;obtain ⟨m,f⟩:=t0;have hm:IsMono m:=ht0.1;obtain ⟨m0,m1,m2,m3,m4,m5,m6,m7,rfl⟩:=mono8 hm;have HH:=Lib.hid (headW_of (zs:=zs) hx0.out);rw [Nat.zero_mul,Nat.add_zero] at hr0;obtain ⟨x0,x1,x2,x3,x4,x5,x6,x7,x8⟩:=nine hr0;go_enter Try.func99,Try.ntmps99
   go_upto_region 3 with fail
   generalize w.alloc (.cells #[.slice (some ⟨b0,off0,none⟩) n c] 61)=w0 at *;go_wp2_with fail
   refine (l01Weight8 dc (hd.keep hb0) hdn hz hm rfl).mono ?_;rintro e w1 ⟨rfl,hb1⟩;have hF1:=hF0.keep hb1 hF0.lt;have hb01:=bT' hb0 hb1 hb0.size;clear x0 x1 x2 x3 x4 x5 x6 x7 x8 c0 hr0 hbl0;have hS1:(List.range 1).all (sameW zs ts)=true:=(by simp [sameW_zero]);have HS1:=Lib.hid hS1;clear hS1;rw [←HH.out];go_wp2_with fail
   clear hF0 hb0 hb1
   go_loopw [7] (fun i wr=>∃k:Nat,1≤k∧k≤n∧i=.int .i64 k∧Below w.heap.size w wr∧Own wr w.heap.size 61 #[.slice (some ⟨b0,off0,none⟩) n c]∧Hid ((List.range k).all (sameW zs ts)=true)) (fun i _=>n - (intOf i).toNat)
   case atStart=>exact ⟨1,Nat.le_refl _,hpos,rfl,hb01,hF1,HS1.out⟩
   case round=>
    clear hb01 hF1 HS1;obtain ⟨k,hk1,hk,rfl,hb,hF,H⟩:=hrel;have c0:=hF.cell 0;by_cases hlt:k<n
    · obtain ⟨b,off,t,he2,hbl,hr,ht,hx⟩:=(h.keep hb).at_ hlt;obtain ⟨rfl,rfl⟩:b0=b∧off0=off:=(by injection he2 with he2;injection he2 with h1 h2;exact ⟨h1,h2⟩);obtain ⟨mt,ft⟩:=t;have hmt:IsMono mt:=ht.1;obtain ⟨p0,p1,p2,p3,p4,p5,p6,p7,rfl⟩:=mono8 hmt;obtain ⟨y0,y1,y2,y3,y4,y5,y6,y7,y8⟩:=nine hr;have HSW:=Lib.hid (sameW_of (zs:=zs) hx.out);by_cases heq:wt zs [p0,p1,p2,p3,p4,p5,p6,p7]=headW zs ts
      · have hne2:(headW zs ts != headW zs ts)=false:=(by simp);go_wp2_with fail
        refine (l01Weight8 dc (hd.keep hb) hdn hz hmt heq).mono ?_;rintro e w2 ⟨rfl,hb2⟩;go_wp2_with fail
        go_roundw
        case rel=>exact ⟨k+1,by omega,by omega,by go_num,bT' hb hb2 hb.size,hF.keep hb2 hF.lt,range_all_step H.out (by rw [HSW.out];exact decide_eq_true heq)⟩
        case measure=>simp [intOf] <;> omega
      · have HN:=Lib.hid (allW_no HL.out hlt (by rw [HSW.out];exact decide_eq_false heq));obtain ⟨v,hv⟩:∃v,wt zs [p0,p1,p2,p3,p4,p5,p6,p7]=v:=⟨_,rfl⟩;have hne3:¬v=headW zs ts:=(by rw [←hv];exact heq);have hne2:(v != headW zs ts)=true:=(by simpa using hne3);have HV:=Lib.hid hv;clear hv heq HSW hx;generalize headW zs ts=hw at *;go_wp2_with fail
        refine (l01Weight8 dc (hd.keep hb) hdn hz hmt HV.out).mono ?_;rintro e w2 ⟨rfl,hb2⟩;go_wp2_with fail
        go_ret2
        exact ⟨by rw [degA,HN.out];rfl,bT' hb hb2 hb.size⟩
    · have he:k=n:=(by omega);subst he;have HA:=Lib.hid (allW_end HL.out H.out);go_wp2_with fail
      go_ret2
      exact ⟨by rw [degA,HA.out];rfl,hb⟩
set_option maxHeartbeats 1000000 in
theorem DegreeOfForm_c {w : World} {da : Option Addr} {dn : Nat} {zs : List Int} {a : Option Addr} {n : Nat} {ts : List Tm} (dc c : Nat) (hd : Ints w da dn zs) (hdn : dn ≤ 1048576) (h : Terms w a n ts) (hn : n ≤ 1048576) :
    Calls Try.prog 106 #[.slice da dn dc,.agg #[.slice a n c]] w fun e w'=>e=.returned (.tuple #[.int .i64 (degF zs ts),.int .i64 (codF zs ts)])∧Below w.heap.size w w':=by
 have HL:=Lib.hid hd.len
 have HLt:=Lib.hid h.len
 have hb0:=bA1 w (.cells #[.slice a n c] 61)
 have hF0:=Own.new w 61 #[.slice a n c]
 have c0:=hF0.cell 0
 cases hif:isForm zs ts with
 | false =>
   have HIF:=Lib.hid hif;clear hif;go_enter Try.func106,Try.ntmps106
   go_upto_region 1 with fail
   generalize w.alloc (.cells #[.slice a n c] 61)=w0 at *;go_wp2_with fail
   refine (IsForm_c dc c (hd.keep hb0) hdn (h.keep hb0) hn).mono ?_;rintro e w1 ⟨rfl,hb1⟩;rw [HIF.out];go_wp2_with fail
   go_ret2
   exact ⟨by rw [degF,codF,HIF.out];rfl,bT' hb0 hb1 hb0.size⟩
 | true =>
   have HIF:=Lib.hid hif;have hd8:dn≤8:=(by have:=degsOk_len (isForm_degs hif);have:=HL.out;omega);have hz:=degsOk_mild (isForm_degs hif);clear hif;by_cases hn0:n=0
   · subst hn0;have he:ts=[]:=List.length_eq_zero_iff.1 HLt.out;have HE:=Lib.hid he;clear he;go_enter Try.func106,Try.ntmps106
     go_upto_region 1 with fail
     generalize w.alloc (.cells #[.slice a 0 c] 61)=w0 at *;go_wp2_with fail
     refine (IsForm_c dc c (hd.keep hb0) hdn (h.keep hb0) hn).mono ?_;rintro e w1 ⟨rfl,hb1⟩;rw [HIF.out];have c1:=(hF0.keep hb1 hF0.lt).cell 0;have hb01:=bT' hb0 hb1 hb0.size;clear c0 hF0 hb0 hb1;go_wp2_with fail
     go_ret2
     exact ⟨by rw [degF,codF,HIF.out,HE.out];rfl,hb01⟩
   · have hpos:0<n:=(by omega);have hne:((n:Int)==0)=false:=(by simp;omega);have hne':¬(n:Int)=0:=(by omega);have hnz:(0:Int)<(n:Int):=(by omega);go_enter Try.func106,Try.ntmps106
     go_upto_region 1 with fail
     generalize w.alloc (.cells #[.slice a n c] 61)=w0 at *;go_wp2_with fail
     refine (IsForm_c dc c (hd.keep hb0) hdn (h.keep hb0) hn).mono ?_;rintro e w1 ⟨rfl,hb1⟩;rw [HIF.out];have hF1:=hF0.keep hb1 hF0.lt;have c1:=hF1.cell 0;have hb01:=bT' hb0 hb1 hb0.size;clear c0 hF0 hb0 hb1;obtain ⟨b0,off0,t0,rfl,hbl0,hr0,ht0,hx0⟩:=(h.keep hb01).at_ (k:=0) hpos;obtain ⟨m,f⟩:=t0;have hm:IsMono m:=ht0.1;obtain ⟨m0,m1,m2,m3,m4,m5,m6,m7,rfl⟩:=mono8 hm;have HH:=Lib.hid (headW_of (zs:=zs) hx0.out);rw [Nat.zero_mul,Nat.add_zero] at hr0;obtain ⟨x0,x1,x2,x3,x4,x5,x6,x7,x8⟩:=nine hr0;go_wp2_with fail
     refine (degreeOf8 dc (hd.keep hb01) hd8 hz hm rfl).mono ?_;rintro e w2 ⟨rfl,hb2⟩;have hF2:=hF1.keep hb2 hF1.lt;have hb02:=bT' hb01 hb2 hb01.size;clear x0 x1 x2 x3 x4 x5 x6 x7 x8 c1 hr0 hbl0 hF1 hb01 hb2;have c2:=hF2.cell 0;rw [←HH.out];go_wp2_with fail
     clear hF2 c2
     go_loopw [27] (fun i wr=>∃k:Nat,k≤n∧i=.int .i64 k∧Below w.heap.size w wr∧Hid ((List.range k).all (sameW zs ts)=true)) (fun i _=>n - (intOf i).toNat)
     case atStart=>exact ⟨0,Nat.zero_le _,rfl,hb02,rfl⟩
     case round=>
      clear hb02;obtain ⟨k,hk,rfl,hb,H⟩:=hrel;by_cases hlt:k<n
      · obtain ⟨b,off,t,he2,hbl,hr,ht,hx⟩:=(h.keep hb).at_ hlt;obtain ⟨rfl,rfl⟩:b0=b∧off0=off:=(by injection he2 with he2;injection he2 with h1 h2;exact ⟨h1,h2⟩);obtain ⟨mt,ft⟩:=t;have hmt:IsMono mt:=ht.1;obtain ⟨p0,p1,p2,p3,p4,p5,p6,p7,rfl⟩:=mono8 hmt;obtain ⟨y0,y1,y2,y3,y4,y5,y6,y7,y8⟩:=nine hr;have HSW:=Lib.hid (sameW_of (zs:=zs) hx.out);have hba:=bA1 wr (.cells #[.int .u8 p0,.int .u8 p1,.int .u8 p2,.int .u8 p3,.int .u8 p4,.int .u8 p5,.int .u8 p6,.int .u8 p7,.int .i64 ft] 88);have hb3:=bT' hb hba hb.size;by_cases heq:wt zs [p0,p1,p2,p3,p4,p5,p6,p7]=headW zs ts
        · have hne2:(headW zs ts != headW zs ts)=false:=(by simp);go_wp2_with fail
          generalize wr.alloc (.cells #[.int .u8 p0,.int .u8 p1,.int .u8 p2,.int .u8 p3,.int .u8 p4,.int .u8 p5,.int .u8 p6,.int .u8 p7,.int .i64 ft] 88)=w4 at *;refine (degreeOf8 dc (hd.keep hb3) hd8 hz hmt heq).mono ?_;rintro e w5 ⟨rfl,hb5⟩;go_wp2_with fail
          go_roundw
          case rel=>exact ⟨k+1,by omega,by go_num,bT' hb3 hb5 hb3.size,range_all_step H.out (by rw [HSW.out];exact decide_eq_true heq)⟩
          case measure=>simp [intOf] <;> omega
        · have HN:=Lib.hid (allW_no HLt.out hlt (by rw [HSW.out];exact decide_eq_false heq));have hne2:(wt zs [p0,p1,p2,p3,p4,p5,p6,p7] != headW zs ts)=true:=(by simp [heq]);go_wp2_with fail
          generalize wr.alloc (.cells #[.int .u8 p0,.int .u8 p1,.int .u8 p2,.int .u8 p3,.int .u8 p4,.int .u8 p5,.int .u8 p6,.int .u8 p7,.int .i64 ft] 88)=w4 at *;refine (degreeOf8 dc (hd.keep hb3) hd8 hz hmt rfl).mono ?_;rintro e w5 ⟨rfl,hb5⟩;go_wp2_with fail
          go_ret2
          exact ⟨by rw [degF,codF,HIF.out,HN.out];rfl,bT' hb3 hb5 hb3.size⟩
      · have he:k=n:=(by omega);subst he;have HA:=Lib.hid (allW_end HLt.out H.out);go_wp2_with fail
        go_ret2
        exact ⟨by rw [degF,codF,HIF.out,HA.out];rfl,hb⟩
def OwnForm (w:World) (base:Nat) (v:Value) (ts:List Tm):Prop:=w.ownsRow base 88 9 v ts.length (rcells ts)∧(v=.slice none 0 0↔ts.length=0)
theorem grown_below {B:Nat} {a w w':World} {row:Option Nat} (h:Below B a w) (hg:w.grownBy w' row) (hr:∀k,row=some k→B≤k) (hB:B≤w.heap.size):Below B a w':=
 h.trans ⟨hg.os,hg.tape,hg.output,hg.size,fun k hk=>hg.block k (by omega) (fun e=>by have:=hr k e.symm;omega)⟩
theorem Try.info_termA:∃i z,Try.prog.info? 88=some i∧i.zero=some z∧i.size=9∧i.bytes=16∧z.cells.size=9:=by
 obtain ⟨i,hi,hzz⟩:=Option.map_eq_some_iff.1 Try.info_term3
 simp only [Prod.mk.injEq] at hzz
 obtain ⟨hz,hs,hb⟩:=hzz
 exact ⟨i,_,hi,hz,hs,hb,rfl⟩
theorem OwnForm.set {w:World} {base:Nat} {v:Value} {ts:List Tm} (h:OwnForm w base v ts) {p:Addr} (hp:p.block<base) (u:Value):OwnForm (w.setCell p u) base v ts:=by
 have hb:=(Below.refl p.block w).setCell (p:=p) (Nat.le_refl _) u
 exact ⟨h.1.kept (row:=some p.block) ⟨hb.os,hb.tape,hb.output,hb.size,fun k _ hk=>Below.heap_setCell w p u k (fun e=>hk (by rw [e]))⟩ (Or.inr (fun e=>by have:=(h.1.lt _ e).1;omega)),h.2⟩
theorem OwnForm.weaken {w:World} {B B':Nat} {v:Value} {ts:List Tm} (h:OwnForm w B v ts) (hB:B'≤B):OwnForm w B' v ts:=by
 obtain ⟨⟨hl,h1⟩,h2⟩:=h
 refine ⟨⟨hl,?_⟩,h2⟩
 rcases h1 with h0 | ⟨g,cap,cur,hv,hb,r⟩
 · exact Or.inl h0
 · exact Or.inr ⟨g,cap,cur,hv,by omega,r⟩
theorem OwnForm.keep {w w':World} {B:Nat} {v:Value} {ts:List Tm} (h:OwnForm w B v ts) (hb:Below w.heap.size w w'):OwnForm w' B v ts:=
 ⟨h.1.kept (row:=none) ⟨hb.os,hb.tape,hb.output,hb.size,fun k hk _=>hb.block k hk⟩ (by cases h0:v.ownBlock <;> simp),h.2⟩
theorem OwnForm.isSlice {w:World} {B:Nat} {v:Value} {ts:List Tm} (h:OwnForm w B v ts):∃a n c,v=.slice a n c:=by
 rcases h.1.2 with ⟨h0,_⟩ | ⟨g,cap,cur,hv,_⟩
 · exact ⟨_,_,_,h0⟩
 · exact ⟨_,_,_,hv⟩
theorem OwnForm.of {w:World} {B:Nat} {v:Value} {n:Nat} {ts:List Tm} {xs:List Value} (h:w.ownsRow B 88 9 v n xs) (hn:ts.length=n) (hx:rcells ts=xs) (hv:v=.slice none 0 0↔n=0):OwnForm w B v ts:=by
 subst hn
 subst hx
 exact ⟨h,hv⟩
structure Only (g:Nat) (w w':World):Prop where
 below:∀B,B≤g→Below B w w'
 size:w'.heap.size=w.heap.size
 other:∀b,b≠g→w'.heap[b]? = w.heap[b]?
theorem Only.refl (g:Nat) (w:World):Only g w w:=⟨fun B _=>Below.refl B w,rfl,fun _ _=>rfl⟩
theorem Only.set {g:Nat} {w w':World} (h:Only g w w') (i:Nat) (v:Value):Only g w (w'.setCell ⟨g,i,none⟩ v):=
 ⟨fun B hB=>(h.below B hB).setCell (p:=⟨g,i,none⟩) hB v,by rw [←h.size];simp,fun b hb=>(Below.heap_setCell w' ⟨g,i,none⟩ v b hb).trans (h.other b hb)⟩
theorem Only.own {g g':Nat} {w w':World} {t:TypeId} {cs:Array Value} (h:Only g w w') (o:Own w g' t cs) (hg:g'≠g):Own w' g' t cs:=(h.other g' hg).trans o
def markA (mk:Nat→Value) (cs:Array Value) (p:Nat):Array Value:=(Array.range cs.size).map fun i=>if i<p then mk i else cs.getD i undef
theorem markA_size (mk:Nat→Value) (cs:Array Value) (p:Nat):(markA mk cs p).size=cs.size:=by simp [markA]
theorem markA_get {mk:Nat→Value} {cs:Array Value} {p i:Nat} (hi:i<cs.size):(markA mk cs p)[i]? = some (if i<p then mk i else cs.getD i undef):=by
 simp [markA,hi]
theorem markA_zero (mk:Nat→Value) (cs:Array Value):markA mk cs 0=cs:=by
 apply Array.ext_getElem?
 intro i
 by_cases hi:i<cs.size
 · rw [markA_get hi];simp [hi]
 · rw [Array.getElem?_eq_none (by rw [markA_size];omega),Array.getElem?_eq_none (by omega)]
theorem markA_step (mk:Nat→Value) (cs:Array Value) (p:Nat):(markA mk cs p).setIfInBounds p (mk p)=markA mk cs (p+1):=by
 apply Array.ext_getElem?
 intro i
 by_cases hi:i<cs.size
 · rw [markA_get hi];by_cases hp:i=p
   · subst hp;rw [Array.getElem?_setIfInBounds_self_of_lt (by rw [markA_size];exact hi),if_pos (by omega)]
   · rw [Array.getElem?_setIfInBounds_ne (by omega),markA_get hi];by_cases h1:i<p
     · rw [if_pos h1,if_pos (by omega)]
     · rw [if_neg h1,if_neg (by omega)]
 · rw [Array.getElem?_eq_none (by simp [markA_size];omega),Array.getElem?_eq_none (by rw [markA_size];omega)]
def mkI (K:Int) (i:Nat):Value:=.int .i64 (K+i)
def mkT (K:Int) (i:Nat):Value:=if i % 9=8 then .int .i64 (K+i) else .int .u8 ((K+i) % 256)
theorem markInt64S_c {w : World} {g n : Nat} {t : TypeId} {cs : Array Value} {a : Option Addr} {K : Int} (c : Nat) (h : Own w g t cs) (hs : n ≤ cs.size) (ha : 0 < n → a = some ⟨g, 0, none⟩) (hn : n ≤ 1048576) (hK : 0 ≤ K) (hK2 : K ≤ 100000000) :
    Calls Try.prog 47 #[.slice a n c,.int .i64 K] w fun e w'=>e=.returned (.int .i64 (K+n))∧Own w' g t (markA (mkI K) cs n)∧Only g w w':=by
 go_enter Try.func47,Try.ntmps47
 go_wp2
 go_loopw [5,1] (fun i v wr=>∃k:Nat,k≤n∧i=.int .i64 k∧v=.int .i64 (K+k)∧Own wr g t (markA (mkI K) cs k)∧Only g w wr) (fun i _ _=>n - (intOf i).toNat)
 case atStart=>exact ⟨0,Nat.zero_le _,rfl,by simp,by rw [markA_zero];exact h,Only.refl _ _⟩
 case round=>
  obtain ⟨k,hk,rfl,rfl,o,ho⟩:=hrel;by_cases hlt:k<n
  · obtain rfl:=ha (by omega);have f0:=o.frozen k;obtain ⟨u,hu⟩:=o.has (i:=k) (by rw [markA_size];omega);have s1:IntKind.i64.wrap (K+(k:Int)+1)=K+(k:Int)+1:=IntWalk.i64_in _ (by omega)
    go_wp2
    go_roundw
    case rel=>exact ⟨k+1,by omega,by go_num,by congr 1;omega,by have:=o.set k (mkI K k);rw [markA_step] at this;exact this,ho.set k _⟩
    case measure=>simp [intOf] <;> omega
  · have he:k=n:=(by omega);subst he
    go_wp2
    go_ret
    exact ⟨rfl,o,ho⟩
theorem mkT_byte (K:Int) (k j:Nat) (hj:j<8):mkT K (k * 9+j)=.int .u8 ((K+(k * 9+j:Nat)) % 256):=by
 rw [mkT,if_neg (by omega)]
theorem mkT_last (K:Int) (k:Nat):mkT K (k * 9+8)=.int .i64 (K+(k * 9+8:Nat)):=by
 rw [mkT,if_pos (by omega)]
theorem markTermS_c {w : World} {g n : Nat} {t : TypeId} {cs : Array Value} {a : Option Addr} {K : Int} (c : Nat) (h : Own w g t cs) (hs : n * 9 ≤ cs.size) (ha : 0 < n → a = some ⟨g, 0, none⟩) (hn : n ≤ 1048576) (hK : 0 ≤ K) (hK2 : K ≤ 100000000) :
    Calls Try.prog 92 #[.slice a n c,.int .i64 K] w fun e w'=>e=.returned (.int .i64 (K+(n * 9:Nat)))∧Own w' g t (markA (mkT K) cs (n * 9))∧Only g w w':=by
 go_enter Try.func92,Try.ntmps92
 go_wp2
 go_loopw [5,1] (fun i v wr=>∃k:Nat,k≤n∧i=.int .i64 k∧v=.int .i64 (K+(k * 9:Nat))∧Own wr g t (markA (mkT K) cs (k * 9))∧Only g w wr) (fun i _ _=>n - (intOf i).toNat)
 case atStart=>exact ⟨0,Nat.zero_le _,rfl,by simp,by rw [Nat.zero_mul,markA_zero];exact h,Only.refl _ _⟩
 case round=>
  obtain ⟨k,hk,rfl,rfl,o,ho⟩:=hrel;by_cases hlt:k<n
  · obtain rfl:=ha (by omega)
    go_wp2
    go_loopw [6,1] (fun i v wx=>∃j:Nat,j≤8∧i=.int .i64 j∧v=.int .i64 (K+(k * 9+j:Nat))∧Own wx g t (markA (mkT K) cs (k * 9+j))∧Only g w wx) (fun i _ _=>8 - (intOf i).toNat)
    case atStart=>exact ⟨0,Nat.zero_le _,rfl,by simp,by simpa using o,ho⟩
    case round=>
     clear o ho;obtain ⟨j,hj,rfl,rfl,o,ho⟩:=hrel;have HB:=Lib.hid (mkT_byte K k j);by_cases hl8:j<8
     · have f0:=o.frozen (k * 9+j);obtain ⟨u,hu⟩:=o.has (i:=k * 9+j) (by rw [markA_size];omega);have s1:IntKind.i64.wrap (K+(k * 9+j:Nat)+1)=K+(k * 9+j:Nat)+1:=IntWalk.i64_in _ (by omega);generalize hx:K+((k * 9+j:Nat):Int)=x at *
       go_wp2
       go_roundw
       case rel=>exact ⟨j+1,by omega,by go_num,by rw [←hx];congr 1;omega,by have:=o.set (k * 9+j) (mkT K (k * 9+j));rw [markA_step,HB.out hl8] at this;exact this,ho.set _ _⟩
       case measure=>simp [intOf] <;> omega
     · have he:j=8:=(by omega);subst he;clear HB;have HB:=Lib.hid (mkT_last K k);have f0:=o.frozen (k * 9+8);obtain ⟨u,hu⟩:=o.has (i:=k * 9+8) (by rw [markA_size];omega);have s1:IntKind.i64.wrap (K+(k * 9+8:Nat)+1)=K+(k * 9+8:Nat)+1:=IntWalk.i64_in _ (by omega);generalize hx:K+((k * 9+8:Nat):Int)=x at *
       go_wp2
       go_roundw
       case rel=>exact ⟨k+1,by omega,by go_num,by rw [←hx];congr 1;omega,by have:=o.set (k * 9+8) (mkT K (k * 9+8));rw [markA_step,HB.out,show k * 9+8+1=(k+1) * 9 by omega] at this;exact this,ho.set _ _⟩
       case measure=>simp [intOf] <;> omega
  · have he:k=n:=(by omega);subst he
    go_wp2
    go_ret
    exact ⟨rfl,o,ho⟩
def OwnR (w:World) (base:Nat) (v:Value) (ts:List Tm):Prop:=w.ownsRow base 88 9 v ts.length (rcells ts)
theorem OwnForm.r {w:World} {B:Nat} {v:Value} {ts:List Tm} (h:OwnForm w B v ts):OwnR w B v ts:=h.1
theorem OwnR.keep {w w':World} {B:Nat} {v:Value} {ts:List Tm} (h:OwnR w B v ts) (hb:Below w.heap.size w w'):OwnR w' B v ts:=
 World.ownsRow.kept h (row:=none) ⟨hb.os,hb.tape,hb.output,hb.size,fun k hk _=>hb.block k hk⟩ (by cases h0:v.ownBlock <;> simp)
theorem OwnR.weaken {w:World} {B B':Nat} {v:Value} {ts:List Tm} (h:OwnR w B v ts) (hB:B'≤B):OwnR w B' v ts:=by
 obtain ⟨hl,h1⟩:=h
 refine ⟨hl,?_⟩
 rcases h1 with h0 | ⟨g,cap,cur,hv,hb,r⟩
 · exact Or.inl h0
 · exact Or.inr ⟨g,cap,cur,hv,by omega,r⟩
theorem OwnR.isSlice {w:World} {B:Nat} {v:Value} {ts:List Tm} (h:OwnR w B v ts):∃a n c,v=.slice a n c:=by
 rcases h.2 with ⟨h0,_⟩ | ⟨g,cap,cur,hv,_⟩
 · exact ⟨_,_,_,h0⟩
 · exact ⟨_,_,_,hv⟩
theorem OwnR.at_ {w:World} {B q:Nat} {v:Value} {ts:List Tm} (h:OwnR w B v ts) (e:v.ownBlock=some q):B≤q∧q<w.heap.size:=World.ownsRow.lt h q e
theorem OwnR.far {w:World} {B:Nat} {v:Value} {ts:List Tm} (h:OwnR w B v ts) {p:Addr} (hp:v.ownBlock≠some p.block) (u:Value):OwnR (w.setCell p u) B v ts:=by
 have hb:=(Below.refl p.block w).setCell (p:=p) (Nat.le_refl _) u
 exact World.ownsRow.kept h (row:=some p.block) ⟨hb.os,hb.tape,hb.output,hb.size,fun k _ hk=>Below.heap_setCell w p u k (fun e=>hk (by rw [e]))⟩ (Or.inr hp)
theorem OwnR.set {w:World} {B:Nat} {v:Value} {ts:List Tm} (h:OwnR w B v ts) {p:Addr} (hp:p.block<B) (u:Value):OwnR (w.setCell p u) B v ts:=
 h.far (fun e=>by have:=(h.at_ e).1;omega) u
theorem OwnR.terms {w:World} {B n:Nat} {v:Value} {ts:List Tm} (h:OwnR w B v ts) (hT:∀t∈ts,IsTm t) (hn:ts.length=n):∃a c,v=.slice a n c∧Terms w a n ts:=by
 subst hn
 have hc:=fun g=>World.ownsRow.cells (g:=g) h
 rcases h.2 with ⟨hv,h0⟩ | ⟨g,cap,cur,hv,hb,hg,hn,_,hs,_⟩
 · rw [h0,hv];exact ⟨none,0,rfl,h0,hT,fun hp=>absurd hp (by omega)⟩
 · refine ⟨some ⟨g,0,none⟩,cap,hv,rfl,hT,fun _=>⟨g,0,rfl,(Array.getElem?_eq_some_iff.1 hg).1,fun j u hu=>?_⟩⟩;have:=hc g (by rw [hv];rfl) j u hu
   rwa [Addr.add_mid] at this
theorem OwnR.read {w:World} {B n c:Nat} {a:Option Addr} {ts:List Tm} (h:OwnR w B (.slice a n c) ts) (hT:∀t∈ts,IsTm t):Terms w a n ts:=by
 obtain ⟨a',c',he,hx⟩:=h.terms hT rfl
 simp only [Value.slice.injEq] at he
 obtain ⟨rfl,rfl,rfl⟩:=he
 exact hx
theorem OwnR.block {w : World} {B n c gx : Nat} {a : Option Addr} {ts : List Tm} {tx : TypeId} {csx : Array Value} (h : OwnR w B (.slice a n c) ts) (hx : Own w gx tx csx) :
    ∃g t cs,Own w g t cs∧n * 9≤cs.size∧(0<n→a=some ⟨g,0,none⟩)∧(g=gx∨B≤g):=by
 rcases h.2 with ⟨hv,h0⟩ | ⟨g,cap,cur,hv,hb,hg,hn,_,hs,_⟩
 · simp only [Value.slice.injEq] at hv;exact ⟨gx,tx,csx,hx,by omega,fun hp=>absurd hp (by omega),Or.inl rfl⟩
 · simp only [Value.slice.injEq] at hv;obtain ⟨rfl,rfl,rfl⟩:=hv;refine ⟨g,_,cur,hg,?_,fun _=>rfl,Or.inr hb⟩;rw [hs];exact Nat.mul_le_mul_right 9 hn
section
variable {B:Nat} {a c d:World} {o:Obj} {t:TypeId} {cs:Array Value}
theorem below_pl (h:Below B a c) (k:Below c.heap.size c d) (hB:B≤c.heap.size):Below B a d:=bT' h k hB
theorem below_alw (h:Below B a c) (hB:B≤c.heap.size) (o:Obj):Below B a (c.alloc o):=bT' h (bA1 c o) hB
theorem below_ahw (w:World) (o:Obj):Below w.heap.size w (w.alloc o).drew:=(bA1 w o).drew
theorem below_al (h:Below B a c) (k:Below (c.alloc o).heap.size (c.alloc o) d) (hB:B≤c.heap.size):Below B a d:=
 bT' (below_alw h hB o) k (by rw [sAl];omega)
theorem below_ah (k:Below (a.alloc o).drew.heap.size (a.alloc o).drew d):Below a.heap.size a d:=
 bT' (below_ahw a o) k (Nat.le_trans (Nat.le_succ _) (Nat.le_of_eq (sAl a o).symm))
theorem own_al (k:Below (c.alloc (.cells cs t)).heap.size (c.alloc (.cells cs t)) d):Own d c.heap.size t cs:=(Own.new c t cs).keep k (Own.new c t cs).lt
theorem own_ah (k:Below (a.alloc (.cells cs t)).drew.heap.size (a.alloc (.cells cs t)).drew d):Own d a.heap.size t cs:=(Own.new a t cs).drew.keep k (Own.new a t cs).lt
end
end Go.Proofs.Ytikldofmpkidbaa
