
import Derived.Test.YtfpniioegjpfeaaGreatDoorTxtN
import Derived.Lib.AppendIntMem
namespace Go.Proofs.YtfpniioegjpfeaaGreatDoor
set_option maxRecDepth 100000
open Go.RowKit Go.Deep
def termX (t:Tm):List UInt8:=Lib.decDigits t.f.toNat++[42]++nameM t.m
def part (k:Nat) (t:Tm):List UInt8:=(if 0<k then [43] else [])++termX t
def txtTo (ts:List Tm):Nat→List UInt8
 | 0=>[]
 | k+1=>txtTo ts k++(match ts[k]? with | some t=>part k t | none=>[])
def textF (ts:List Tm):List UInt8:=if ts=[] then [48] else txtTo ts ts.length
def Fine (ts:List Tm):Prop:=∀t∈ts,IsMono t.m∧(∀x∈t.m,x≤20)∧1≤t.f∧t.f≤10006
theorem part_len {k:Nat} {t:Tm} (hm:IsMono t.m) (hf:t.f≤10006):(part k t).length≤40:=by
 have h1:=dec_len t.f.toNat 4 (by omega)
 have h2:=nameM_len hm
 unfold part termX
 split <;> simp <;> omega
theorem txtTo_len {ts:List Tm} (h:Fine ts):∀k,(txtTo ts k).length≤40 * k:=by
 intro k
 induction k with
 | zero=>simp [txtTo]
 | succ k ih =>
   rw [txtTo,List.length_append]
   cases hk:ts[k]? with
   | none=>simp;omega
   | some t =>
     have:=h t (List.mem_of_getElem? hk);have:=part_len (k:=k) this.1 this.2.2.2;simp only;omega
theorem txtTo_step {ts:List Tm} {k:Nat} {t:Tm} (h:ts[k]? = some t):txtTo ts (k+1)=txtTo ts k++part k t:=by
 rw [txtTo,h]
abbrev Tab (w : World) : Prop := Lib.TabIs Tryz.prog w "internal/strconv.uint64pow10" .u64 Lib.pow10Tab
theorem Tab.keep {w w':World} (h:Tab w) {B:Nat} (hb:Below B w w') (hB:w.heap.size≤B):Tab w':=Lib.tabBelow_of_tabIs h w' (hb.mono hB)
theorem FormatInt_c {x:Int} (w:World) (h0:0≤x) (h1:x≤10006) (ht:Tab w):Calls Tryz.prog 48 #[.int .i64 x,.int .i64 10] w fun e w'=>e=.returned (str (Lib.decDigits x.toNat))∧Below w.heap.size w w':=by
 refine (Tryz.strconv_FormatInt_10 x (by omega) (by omega) w ht).mono ?_
 rintro e w' ⟨rfl,k,os,rfl⟩
 refine ⟨?_,Lib.below_grow _ w (Nat.le_refl _) k os⟩
 have:=Lib.itoa_nonneg x.toNat
 rw [show ((x.toNat:Nat):Int)=x by omega] at this
 rw [this]
theorem builder_below {T e:TypeId} {B b:Nat} {bs:List Value} {W W':World} (h:Lib.IsBuilderF T e B b bs W) (hb:Below W.heap.size W W'):Lib.IsBuilderF T e B b bs W':=by
 have one:∀p,Lib.BuilderAtF T e B b p bs W→Lib.BuilderAtF T e B b p bs W':=fun p h=>by
  have hlt:=h.lt;obtain ⟨hB,v,hh,hown,hne⟩:=h;exact ⟨hB,v,(hb.block b hlt).trans hh,hown.kept (row:=none) ⟨hb.os,hb.tape,hb.output,hb.size,fun k hk _=>hb.block k hk⟩ (by cases hv:v.ownBlock <;> simp),hne⟩
 rcases h with h | h
 · exact Or.inl (one _ h)
 · exact Or.inr (one _ h)
theorem builder_lt {T e:TypeId} {B b:Nat} {bs:List Value} {W:World} (h:Lib.IsBuilderF T e B b bs W):b<W.heap.size:=by
 rcases h with h | h <;> exact h.lt
set_option maxHeartbeats 4000000 in
theorem textOfForm_c {w : World} {a : Option Addr} {n : Nat} {ts : List Tm} (c : Nat) (h : Terms w a n ts) (hn : n ≤ 400) (hf : Fine ts) (htab : Tab w) :
    Calls Tryz.prog 23 #[.agg #[.slice a n c]] w fun e w'=>e=.returned (str (textF ts))∧Below w.heap.size w w':=by
 have hl:=h.len
 have HL:=Lib.hid hl
 have hb:=bA1 w (.cells #[.slice a n c] 25)
 have hO0:=Own.new w 25 #[.slice a n c]
 have c0:=hO0.cell 0
 by_cases h0:n=0
 · subst h0;have hts:ts=[]:=List.length_eq_zero_iff.1 hl;clear hl;go_enter Tryz.func23,Tryz.ntmps23
   go_wp2_with fail
   go_ret
   exact ⟨by rw [hts];rfl,hb⟩
 · have hts : textF ts = txtTo ts n := by
     rw [textF,if_neg (by intro e;subst e;simp at hl;omega),hl]
   have HT:=Lib.hid hts;have HP:=Lib.hid (txtTo_len hf);clear hl hts;have hn0:¬(n:Int)=0:=(by omega);have hnb:((n:Int)==0)=false:=(by simpa using h0);have hI0:=Lib.IsBuilderF.of (Lib.fresh_isBuilder 75 5 (w.alloc (.cells #[.slice a n c] 25)));have hb0:=bTn hb (bA1 (w.alloc (.cells #[.slice a n c] 25)) (.cells #[.pointer none,.slice none 0 0] 75));have hO:=hO0.alloc (.cells #[.pointer none,.slice none 0 0] 75);have c1:=hO.cell 0;go_enter Tryz.func23,Tryz.ntmps23
   go_wp2_with fail
   generalize hw2:(w.alloc (.cells #[.slice a n c] 25)).alloc (.cells #[.pointer none,.slice none 0 0] 75)=w2 at *;generalize hg1:(w.alloc (.cells #[.slice a n c] 25)).heap.size=g at *;have hg2:w.heap.size≤g:=(by rw [←hg1,sAl];omega);have hg3:g≤w2.heap.size:=(by rw [←hw2,sAl,hg1];omega);have hg4:w.heap.size+1=g:=by rw [←hg1,sAl]
   try rw [hg4]
   have HG2:=Lib.hid hg2;have HG3:=Lib.hid hg3;clear hw2 hg1 hO hO0 hb hg2 hg3 hg4 c0 c1
   go_loopw [13] (fun i wr=>∃k:Nat,k≤n∧i=.int .i64 k∧Lib.IsBuilderF 75 5 g g (Lib.byteCells (txtTo ts k)) wr∧Below g w2 wr) (fun i _=>n - (intOf i).toNat)
   case atStart=>exact ⟨0,Nat.zero_le _,rfl,hI0,Below.refl _ _⟩
   case round=>
    obtain ⟨k,hk,rfl,hI,hbr⟩:=hrel;have HR:=Lib.hid (Nat.le_trans HG3.out hbr.size);have hbw:Below w.heap.size w wr:=hb0.trans (hbr.mono HG2.out);by_cases hlt:k<n
    · obtain ⟨b,off,t,rfl,hbl,hr0,ht,hx⟩:=(h.keep hbw).at_ hlt;have hF:=hf t (List.mem_of_getElem? hx.out);have HSt:=Lib.hid (txtTo_step hx.out);have hlp:=HP.out k;obtain ⟨m,f⟩:=t;have hm:IsMono m:=hF.1;have hm20:∀x∈m,x≤20:=hF.2.1;have hf1:1≤f∧f≤10006:=hF.2.2;obtain ⟨m0,m1,m2,m3,m4,m5,m6,m7,rfl⟩:=mono8 hm;obtain ⟨x0,x1,x2,x3,x4,x5,x6,x7,x8⟩:=nine hr0;clear hr0;obtain ⟨p,hp⟩:∃p,txtTo ts k=p:=⟨_,rfl⟩;rw [hp] at HSt hlp hI;clear hp;have HLP:=Lib.hid hlp;have HF1:=Lib.hid hf1;have hT0:=Own.new wr 65 #[.int .u8 m0,.int .u8 m1,.int .u8 m2,.int .u8 m3,.int .u8 m4,.int .u8 m5,.int .u8 m6,.int .u8 m7,.int .i64 f];have hba:=bA1 wr (.cells #[.int .u8 m0,.int .u8 m1,.int .u8 m2,.int .u8 m3,.int .u8 m4,.int .u8 m5,.int .u8 m6,.int .u8 m7,.int .i64 f] 65);have hIa:=Lib.IsBuilderF.alloc hI (.cells #[.int .u8 m0,.int .u8 m1,.int .u8 m2,.int .u8 m3,.int .u8 m4,.int .u8 m5,.int .u8 m6,.int .u8 m7,.int .i64 f] 65);have hgr:wr.heap.size≠g:=(by have:=builder_lt hI;omega);have HGR:=Lib.hid hgr;clear hlp hf1 hgr hI;by_cases hk0:0<k
      · have hkp:(0:Int)<(k:Int):=(by omega);go_wp2_with fail
        have hra:=Nat.le_trans HR.out hba.size;have hbra:=hbr.trans (hba.mono HR.out);clear hba hbr hbw;generalize wr.alloc (.cells #[.int .u8 m0,.int .u8 m1,.int .u8 m2,.int .u8 m3,.int .u8 m4,.int .u8 m5,.int .u8 m6,.int .u8 m7,.int .i64 f] 65)=wa at *;refine (WriteByte_c g g _ _ _ hIa (by rw [Lib.byteCells_length];have:=HLP.out;omega) hra).mono ?_;rintro e3 w1 ⟨rfl,hI1',hb1,hk1⟩;rw [byteCells_one 43 rfl (by omega) (by omega)] at hI1';obtain ⟨q,hq⟩:∃q,p++[43]=q:=⟨_,rfl⟩;have HQL:Hid (q.length≤40 * 400+1):=Lib.hid (by have:=HLP.out;rw [←hq];simp;omega);have HQ:=Lib.hid hq;rw [hq] at hI1';clear hq;have hI1:Lib.IsBuilderF 75 5 g g (Lib.byteCells q) w1:=Or.inr hI1';have hT1:=hT0.others hk1 HGR.out (by decide);have hbr1:Below g w2 w1:=hbra.trans hb1;clear hI1' hb1 hk1 hIa hbra hT0;have hfs:=hT1.cell 8;go_wp2_with fail
        refine (FormatInt_c _ (by have:=HF1.out;omega) (by have:=HF1.out;omega) (htab.keep (hb0.trans (hbr1.mono HG2.out)) (Nat.le_refl _))).mono ?_;rintro e5 wb ⟨rfl,hbb⟩;have hI2:=builder_below hI1 hbb;have hT2:=hT1.keep hbb hT1.lt;have hbr2:=hbr1.trans (hbb.mono (Nat.le_trans HG3.out hbr1.size));clear hI1 hT1 hbb hfs;go_wp2_with fail
        refine (WriteString_c g g _ _ _ hI2 (by rw [Lib.byteCells_length];have:=HQL.out;have:=HF1.out;have:=dec_len f.toNat 4 (by omega);show _+(Lib.decDigits f.toNat).toArray.size≤_;simp;omega) (Nat.le_trans HG3.out hbr2.size)).mono ?_;rintro e6 wc ⟨rfl,hI3,hbc,hkc⟩;rw [strCells_str,←Lib.byteCells_append] at hI3;have hT3:=hT2.others hkc HGR.out (by decide);have hbr3:=hbr2.trans hbc;clear hI2 hT2 hbc hkc hbr2;go_wp2_with fail
        refine (WriteByte_c g g _ _ _ (Or.inr hI3) (by rw [Lib.byteCells_length,List.length_append];have:=HQL.out;have:=HF1.out;have:=dec_len f.toNat 4 (by omega);omega) (Nat.le_trans HG3.out hbr3.size)).mono ?_;rintro e7 wd ⟨rfl,hI4,hbd,hkd⟩;rw [byteCells_one 42 rfl (by omega) (by omega)] at hI4;have hT4:=hT3.others hkd HGR.out (by decide);have hbr4:=hbr3.trans hbd;clear hI3 hT3 hbd hkd hbr3;have y0:=hT4.cell 0;have y1:=hT4.cell 1;have y2:=hT4.cell 2;have y3:=hT4.cell 3;have y4:=hT4.cell 4;have y5:=hT4.cell 5;have y6:=hT4.cell 6;have y7:=hT4.cell 7;go_wp2_with fail
        clear y0 y1 y2 y3 y4 y5 y6 y7;refine (textOfMonomial_c hm hm20).mono ?_;rintro e8 wf ⟨rfl,hbf⟩;have hI5:=builder_below (Or.inr hI4) hbf;have hbr5:=hbr4.trans (hbf.mono (Nat.le_trans HG3.out hbr4.size));clear hI4 hT4 hbf hbr4;go_wp2_with fail
        refine (WriteString_c g g _ _ _ hI5 (by rw [Lib.byteCells_length,List.length_append,List.length_append];have:=HQL.out;have:=HF1.out;have:=dec_len f.toNat 4 (by omega);have:=nameM_len hm;show _+(nameM _).toArray.size≤_;simp;omega) (Nat.le_trans HG3.out hbr5.size)).mono ?_;rintro e9 wh ⟨rfl,hI6,hbh,-⟩;rw [strCells_str,←Lib.byteCells_append] at hI6;have hbr6:=hbr5.trans hbh;clear hI5 hbh hbr5;go_wp2_with fail
        go_roundw
        case rel=>exact ⟨k+1,by omega,by go_num,by rw [HSt.out,show part k ⟨[m0,m1,m2,m3,m4,m5,m6,m7],f⟩=[43]++(Lib.decDigits f.toNat++[42]++nameM [m0,m1,m2,m3,m4,m5,m6,m7]) by rw [part,if_pos hk0];rfl,←List.append_assoc,HQ.out,←List.append_assoc,←List.append_assoc];exact Or.inr hI6,hbr6⟩
        case measure=>simp [intOf];omega
      · have hkp:¬(0:Int)<(k:Int):=(by omega);go_upto_region 9 with fail
        have hra:=Nat.le_trans HR.out hba.size;have hbra:=hbr.trans (hba.mono HR.out);clear hba hbr hbw;generalize wr.alloc (.cells #[.int .u8 m0,.int .u8 m1,.int .u8 m2,.int .u8 m3,.int .u8 m4,.int .u8 m5,.int .u8 m6,.int .u8 m7,.int .i64 f] 65)=w1 at *;have hI1:=hIa;have hT1:=hT0;have hbr1:Below g w2 w1:=hbra;obtain ⟨q,hq⟩:∃q,p=q:=⟨_,rfl⟩;have HQL:Hid (q.length≤40 * 400+1):=Lib.hid (by have:=HLP.out;rw [←hq];omega);have HQ:=Lib.hid hq;rw [hq] at hI1;clear hq;clear hIa hbra hT0;have hfs:=hT1.cell 8;go_wp2_with fail
        refine (FormatInt_c _ (by have:=HF1.out;omega) (by have:=HF1.out;omega) (htab.keep (hb0.trans (hbr1.mono HG2.out)) (Nat.le_refl _))).mono ?_;rintro e5 wb ⟨rfl,hbb⟩;have hI2:=builder_below hI1 hbb;have hT2:=hT1.keep hbb hT1.lt;have hbr2:=hbr1.trans (hbb.mono (Nat.le_trans HG3.out hbr1.size));clear hI1 hT1 hbb hfs;go_wp2_with fail
        refine (WriteString_c g g _ _ _ hI2 (by rw [Lib.byteCells_length];have:=HQL.out;have:=HF1.out;have:=dec_len f.toNat 4 (by omega);show _+(Lib.decDigits f.toNat).toArray.size≤_;simp;omega) (Nat.le_trans HG3.out hbr2.size)).mono ?_;rintro e6 wc ⟨rfl,hI3,hbc,hkc⟩;rw [strCells_str,←Lib.byteCells_append] at hI3;have hT3:=hT2.others hkc HGR.out (by decide);have hbr3:=hbr2.trans hbc;clear hI2 hT2 hbc hkc hbr2;go_wp2_with fail
        refine (WriteByte_c g g _ _ _ (Or.inr hI3) (by rw [Lib.byteCells_length,List.length_append];have:=HQL.out;have:=HF1.out;have:=dec_len f.toNat 4 (by omega);omega) (Nat.le_trans HG3.out hbr3.size)).mono ?_;rintro e7 wd ⟨rfl,hI4,hbd,hkd⟩;rw [byteCells_one 42 rfl (by omega) (by omega)] at hI4;have hT4:=hT3.others hkd HGR.out (by decide);have hbr4:=hbr3.trans hbd;clear hI3 hT3 hbd hkd hbr3;have y0:=hT4.cell 0;have y1:=hT4.cell 1;have y2:=hT4.cell 2;have y3:=hT4.cell 3;have y4:=hT4.cell 4;have y5:=hT4.cell 5;have y6:=hT4.cell 6;have y7:=hT4.cell 7;go_wp2_with fail
        clear y0 y1 y2 y3 y4 y5 y6 y7;refine (textOfMonomial_c hm hm20).mono ?_;rintro e8 wf ⟨rfl,hbf⟩;have hI5:=builder_below (Or.inr hI4) hbf;have hbr5:=hbr4.trans (hbf.mono (Nat.le_trans HG3.out hbr4.size));clear hI4 hT4 hbf hbr4;go_wp2_with fail
        refine (WriteString_c g g _ _ _ hI5 (by rw [Lib.byteCells_length,List.length_append,List.length_append];have:=HQL.out;have:=HF1.out;have:=dec_len f.toNat 4 (by omega);have:=nameM_len hm;show _+(nameM _).toArray.size≤_;simp;omega) (Nat.le_trans HG3.out hbr5.size)).mono ?_;rintro e9 wh ⟨rfl,hI6,hbh,-⟩;rw [strCells_str,←Lib.byteCells_append] at hI6;have hbr6:=hbr5.trans hbh;clear hI5 hbh hbr5;go_wp2_with fail
        go_roundw
        case rel=>exact ⟨k+1,by omega,by go_num,by rw [HSt.out,show part k ⟨[m0,m1,m2,m3,m4,m5,m6,m7],f⟩=(Lib.decDigits f.toNat++[42]++nameM [m0,m1,m2,m3,m4,m5,m6,m7]) by rw [part,if_neg hk0];rfl,HQ.out,←List.append_assoc,←List.append_assoc];exact Or.inr hI6,hbr6⟩
        case measure=>simp [intOf];omega
    · have hkn:k=n:=(by omega);subst hkn;go_wp2_with (go_at_call 50;refine (Tryz.Builder_String_any_k g g _ _ hI HR.out).mono ?_;rintro e2 w3 ⟨rfl,-,hb2,-⟩)
      go_ret
      exact ⟨by rw [HT.out];rfl,hb0.trans ((hbr.trans hb2).mono HG2.out)⟩
end Go.Proofs.YtfpniioegjpfeaaGreatDoor
