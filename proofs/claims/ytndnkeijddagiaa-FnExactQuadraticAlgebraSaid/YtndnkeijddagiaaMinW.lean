
import Derived.Test.YtndnkeijddagiaaAlgS
import Derived.Test.YtndnkeijddagiaaLawForm
import Derived.Test.YtndnkeijddagiaaIsAlg
import Derived.Test.YtndnkeijddagiaaClosed
namespace Go.Proofs.Ytndnkeijddagiaa
set_option maxRecDepth 100000
open Go.RowKit Go.Deep
def notOne (t:Tm):Bool:=wlen t.m != 1
def noLin (ims:List (List Tm)) (i:Nat):Bool:=(ims.getD i []).all notOne
def allLin (ims:List (List Tm)):Bool:=(List.range ims.length).all (noLin ims)
def minV (zs:List Int) (ims:List (List Tm)):Bool:=isAlg zs ims && allLin ims
def minE (zs:List Int) (ims:List (List Tm)):Int:=if isAlg zs ims=true then 0 else 1
theorem min_no {zs:List Int} {ims:List (List Tm)} (h:isAlg zs ims=false):minV zs ims=false∧minE zs ims=1:=by simp [minV,minE,h]
theorem min_yes {zs:List Int} {ims:List (List Tm)} (h:isAlg zs ims=true):minV zs ims=allLin ims∧minE zs ims=0:=by simp [minV,minE,h]
theorem wlTo_zero {m:List Int} (hm:IsMono m):∀k:Nat,wlTo m k=0→∀i,i<k→m.getD i 0=0
 | 0,_,i,hi=>absurd hi (by omega)
 | k + 1, h, i, hi => by
   have h1:=(wlTo_bd hm k).1;have h2:=(getD_mono hm k).1;rw [wlTo] at h;by_cases e:i=k
   · subst e;omega
   · exact wlTo_zero hm k (by omega) i (by omega)
theorem wtTo_nil {zs m:List Int} (h:∀i,i<8→m.getD i 0=0):∀k:Nat,k≤8→wtTo zs m k=0
 | 0,_=>rfl
 | k+1,hk=>by rw [wtTo,wtTo_nil h k (by omega),h k (by omega)];simp
theorem wlen_pos {zs m:List Int} (hm:IsMono m) (h8:zs.length≤8) (h:¬wt zs m=0):1≤wlen m:=by
 have h1:=(wlen_bd hm).1
 by_cases h0:wlen m=0
 · exact absurd (wtTo_nil (wlTo_zero hm 8 h0) zs.length h8) h
 · omega
theorem isAlg_im {zs:List Int} {ims:List (List Tm)} (h:isAlg zs ims=true) (ht:∀im∈ims,∀u∈im,IsTm u) {i:Nat} {ts:List Tm} (hx:ims[i]? = some ts):∀t∈ts,1≤wlen t.m:=by
 intro t hts
 simp only [isAlg,Bool.and_eq_true,decide_eq_true_eq] at h
 obtain ⟨h1,h2,h3,-⟩:=h
 have hi:=(List.getElem?_eq_some_iff.1 hx).1
 have h4:okIm zs ims i=true:=List.all_eq_true.1 h3 i (by simpa using hi)
 have hz:zs[i]? = some zs[i]:=List.getElem?_eq_getElem (by omega)
 have hd:=degsOk_at h1 hz
 rw [okIm,List.getD_eq_getElem?_getD,List.getD_eq_getElem?_getD,hx,hz] at h4
 simp only [Option.getD_some,zeroOr,Bool.and_eq_true,Bool.or_eq_true,beq_iff_eq] at h4
 obtain ⟨h5,h6⟩:=h4
 obtain ⟨k,hk,rfl⟩:=List.mem_iff_getElem.1 hts
 have hc:isForm zs ts=true∧allW zs ts=true:=by
  unfold codF at h5;split at h5
  · rename_i a;split at h5
    · rename_i b;exact ⟨a,b⟩
    · simp at h5
  · simp at h5
 have hw:wt zs ts[k].m=headW zs ts:=by
  have:=List.all_eq_true.1 hc.2 k (by simpa using hk);rw [sameW_of (List.getElem?_eq_getElem hk)] at this;simpa using this
 rcases h6 with h6 | h6
 · rw [degF,if_pos hc] at h6;refine wlen_pos (zs:=zs) (ht ts (List.mem_of_getElem? hx) _ (List.getElem_mem hk)).1 (degsOk_len h1) ?_;rw [hw,h6];omega
 · omega
theorem leastTo_le {fs:List Tm}:∀(k i:Nat),i<k→leastTo fs k≤wlAt fs i
 | 0,i,h=>absurd h (by omega)
 | k + 1, i, h => by
   rw [leastTo];split
   · rename_i h0;have:i=0:=(by omega);rw [this];omega
   · by_cases e:i=k
     · subst e;omega
     · have:=leastTo_le (fs:=fs) k i (by omega);omega
theorem leastTo_ex {fs:List Tm}:∀k:Nat,0<k→∃i,i<k∧leastTo fs k=wlAt fs i
 | 0,h=>absurd h (by omega)
 | k + 1, _ => by
   rw [leastTo];split
   · exact ⟨0,by omega,rfl⟩
   · rename_i h0;obtain ⟨i,hi,e⟩:=leastTo_ex (fs:=fs) k (by omega);by_cases h1:leastTo fs k≤wlAt fs k
     · exact ⟨i,by omega,by omega⟩
     · exact ⟨k,by omega,by omega⟩
theorem least_one {fs:List Tm} (h:∀t∈fs,1≤wlen t.m):(leastW fs==1)=!(fs.all notOne):=by
 cases ha:fs.all notOne with
 | true =>
   have:¬leastW fs=1:=by
    intro h1;rw [leastW] at h1;by_cases h0:0<fs.length
    · obtain ⟨i,hi,e⟩:=leastTo_ex (fs:=fs) fs.length h0;rw [e,wlAt_of (List.getElem?_eq_getElem hi)] at h1;have:=List.all_eq_true.1 ha _ (List.getElem_mem hi);simp [notOne,h1] at this
    · have:fs.length=0:=(by omega);rw [this] at h1;simp [leastTo] at h1
   simpa using this
 | false =>
   obtain ⟨t,ht,h1⟩:=List.all_eq_false.1 ha;have e1:wlen t.m=1:=(by simpa [notOne] using h1);obtain ⟨i,hi,rfl⟩:=List.mem_iff_getElem.1 ht;have h2:=leastTo_le (fs:=fs) fs.length i hi;rw [wlAt_of (List.getElem?_eq_getElem hi),e1] at h2;obtain ⟨j,hj,e⟩:=leastTo_ex (fs:=fs) fs.length (by omega);rw [wlAt_of (List.getElem?_eq_getElem hj)] at e;have:=h _ (List.getElem_mem hj);have:leastW fs=1:=(by rw [leastW];omega);simpa using this
theorem noLin_of {ims:List (List Tm)} {i:Nat} {ts:List Tm} {B:Bool} (hx:ims[i]? = some ts) (h:ts.all notOne=B):noLin ims i=B:=by
 rw [noLin,List.getD_eq_getElem?_getD,hx]
 exact h
theorem take_allT {p:Tm→Bool} {ts:List Tm} {k:Nat} {t:Tm} (h:ts[k]? = some t) (h1:(ts.take k).all p=true) (hx:p t=true):(ts.take (k+1)).all p=true:=by
 rw [List.take_add_one,h]
 simp [h1,hx]
theorem all_noT {p:Tm→Bool} {ts:List Tm} {k:Nat} {t:Tm} (h:ts[k]? = some t) (hx:p t=false):ts.all p=false:=by
 rw [List.all_eq_false]
 exact ⟨t,List.mem_of_getElem? h,by simp [hx]⟩
set_option maxHeartbeats 2000000 in
theorem IsMinimal_c {w : World} {da : Option Addr} {dn : Nat} {zs : List Int} {a : Option Addr} {n : Nat} {ims : List (List Tm)} (dc c : Nat) (hd : Ints w da dn zs) (hdn : dn ≤ 1048576) (hF : Frms w a n ims) (hn : n ≤ 1048576) (hL : ∀ im ∈ ims, (im.length : Int) ≤ 1048576) :
    Calls Try.prog 100 #[.agg #[.slice da dn dc,.slice a n c]] w fun e w'=>e=.returned (.tuple #[.bool (minV zs ims),.int .i64 (minE zs ims)])∧Below w.heap.size w w':=by
 have HLL:=Lib.hid hL
 have HLn:=Lib.hid hF.len
 have HFF:=Lib.hid hF
 clear hL
 have hA:=Own.new w 29 #[.slice da dn dc,.slice a n c]
 have hb:=bA1 w (.cells #[.slice da dn dc,.slice a n c] 29)
 have c0:=hA.cell 0
 have c1:=hA.cell 1
 cases hal:isAlg zs ims
 all_goals
  have HA:=Lib.hid hal;clear hal;go_enter Try.func100,Try.ntmps100
  go_upto_region 1 with fail
  generalize w.alloc (.cells #[.slice da dn dc,.slice a n c] 29)=w0 at *;go_wp2_with fail
  refine (IsAlgebra_c dc c (hd.keep hb) hdn (hF.keep hb) hn HLL.out).mono ?_;rintro e w1 ⟨rfl,hb1⟩;rw [HA.out];have hA1:=hA.keep hb1 hA.lt;have hb2:=bT' hb hb1 hb.size;clear hA hb hb1 c0 c1;have c1:=hA1.cell 1
 · go_wp2_with fail
   go_ret2
   exact ⟨by rw [(min_no HA.out).1,(min_no HA.out).2];rfl,hb2⟩
 · go_wp2_with fail
   clear c1 hA1
   go_loopw [14] (fun y wr=>∃i:Nat,i≤n∧y=.int .i64 i∧Below w.heap.size w wr∧Hid ((List.range i).all (noLin ims)=true)) (fun y _=>n - (intOf y).toNat)
   case atStart=>exact ⟨0,Nat.zero_le _,rfl,hb2,rfl⟩
   case round=>
    clear hb2;obtain ⟨i,hi,rfl,hb,H⟩:=hrel;by_cases hlt:i<n
    · obtain ⟨b,off,ts,ai,ni,ci,rfl,hbl,hc0,hT0,hni,hx⟩:=HFF.out.at_ hlt;have hc:=(World.cell?_of_block (a:=⟨b,off+i,none⟩) (hb.block b hbl)).trans hc0;have HT0:=Lib.hid hT0;have HTL:=Lib.hid hT0.len;have hE:=Own.new wr 47 #[.slice ai ni ci];have hba:=bA1 wr (.cells #[.slice ai ni ci] 47);have hb3:=bT' hb hba hb.size;have hi0:(0:Int)≤(i:Int):=(by omega);have hin:(i:Int)<(n:Int):=(by omega);go_upto_region 6 with fail
      generalize wr.alloc (.cells #[.slice ai ni ci] 47)=wu at *;generalize wr.heap.size=gE at *;clear hc hc0 hba hb hT0;have cE:=hE.cell 0;go_wp2_with fail
      clear cE hE
      go_loopw [21] (fun y wx=>∃j:Nat,j≤ni∧y=.int .i64 j∧Below w.heap.size w wx∧Hid ((ts.take j).all notOne=true)) (fun y _=>ni - (intOf y).toNat)
      case atStart=>exact ⟨0,Nat.zero_le _,rfl,hb3,rfl⟩
      case round=>
       clear hb3;obtain ⟨j,hj,rfl,hb,H2⟩:=hrel;by_cases hlt2:j<ni
       · obtain ⟨b2,off2,t,rfl,hbl2,hr,ht,hx2⟩:=(HT0.out.keep hb).at_ hlt2;obtain ⟨mt,ft⟩:=t;have hmt:IsMono mt:=ht.1;obtain ⟨p0,p1,p2,p3,p4,p5,p6,p7,rfl⟩:=mono8 hmt;obtain ⟨y0,y1,y2,y3,y4,y5,y6,y7,y8⟩:=nine hr;obtain ⟨x,hxe⟩:∃x,wlen [p0,p1,p2,p3,p4,p5,p6,p7]=x:=⟨_,rfl⟩;have HX:=Lib.hid hxe;clear hxe;have hba:=bA1 wr (.cells #[.int .u8 p0,.int .u8 p1,.int .u8 p2,.int .u8 p3,.int .u8 p4,.int .u8 p5,.int .u8 p6,.int .u8 p7,.int .i64 ft] 76);have hb3:=bT' hb hba hb.size;have hj0:(0:Int)≤(j:Int):=(by omega);have hjn:(j:Int)<(ni:Int):=(by omega);by_cases hx1:x=1
         · subst hx1;go_wp2_with fail
           generalize wr.alloc (.cells #[.int .u8 p0,.int .u8 p1,.int .u8 p2,.int .u8 p3,.int .u8 p4,.int .u8 p5,.int .u8 p6,.int .u8 p7,.int .i64 ft] 76)=w4 at *;refine (wordLength8 hmt HX.out).mono ?_;rintro e w5 ⟨rfl,hb5⟩;go_wp2_with fail
           go_ret2
           refine ⟨?_,bT' hb3 hb5 hb3.size⟩;have hno:noLin ims i=false:=noLin_of hx.out (all_noT hx2.out (by simp [notOne,HX.out]));rw [(min_yes HA.out).1,(min_yes HA.out).2,show allLin ims=false by rw [allLin,HLn.out];exact range_all_no hlt hno];rfl
         · have hxb:(x==1)=false:=(by simpa using hx1);go_wp2_with fail
           generalize wr.alloc (.cells #[.int .u8 p0,.int .u8 p1,.int .u8 p2,.int .u8 p3,.int .u8 p4,.int .u8 p5,.int .u8 p6,.int .u8 p7,.int .i64 ft] 76)=w4 at *;refine (wordLength8 hmt HX.out).mono ?_;rintro e w5 ⟨rfl,hb5⟩;go_wp2_with fail
           go_roundw
           case rel=>exact ⟨j+1,by omega,by go_num,bT' hb3 hb5 hb3.size,take_allT hx2.out H2.out (by simpa [notOne,HX.out] using hx1)⟩
           case measure=>simp [intOf] <;> omega
       · have hnl:¬(j:Int)<(ni:Int):=by omega
         have HAL:Hid (ts.all notOne=true):=by
          have:=H2.out;rw [List.take_of_length_le (by have:=HTL.out;omega)] at this;exact Lib.hid this
         go_wp2_with fail
         go_roundw
         case rel=>exact ⟨i+1,by omega,by go_num,hb,range_all_step H.out (noLin_of hx.out HAL.out)⟩
         case measure=>simp [intOf] <;> omega
    · have he:i=n:=(by omega);subst he;go_wp2_with fail
      go_ret2
      refine ⟨?_,hb⟩;rw [(min_yes HA.out).1,(min_yes HA.out).2,show allLin ims=true by rw [allLin,HLn.out];exact H.out];rfl
set_option maxHeartbeats 1000000 in
theorem l02Minimal_c {w : World} {da : Option Addr} {dn : Nat} {zs : List Int} {a : Option Addr} {n : Nat} {ims : List (List Tm)} (dc c : Nat) (hF : Frms w a n ims) (hn : n ≤ 1048576) (hL : ∀ im ∈ ims, (im.length : Int) ≤ 1048576) (hal : isAlg zs ims = true) :
    Calls Try.prog 99 #[.agg #[.slice da dn dc,.slice a n c]] w fun e w'=>e=.returned (.bool (allLin ims))∧Below w.heap.size w w':=by
 have HLL:=Lib.hid hL
 have HLn:=Lib.hid hF.len
 have HFF:=Lib.hid hF
 have HT:=Lib.hid hF.tm
 have HA:=Lib.hid hal
 clear hL hal
 have hA:=Own.new w 29 #[.slice da dn dc,.slice a n c]
 have hb:=bA1 w (.cells #[.slice da dn dc,.slice a n c] 29)
 go_enter Try.func99,Try.ntmps99
 go_wp2_with fail
 generalize w.alloc (.cells #[.slice da dn dc,.slice a n c] 29)=w0 at *
 go_loopw [3] (fun y wr=>∃i:Nat,i≤n∧y=.int .i64 i∧Below w.heap.size w wr∧Own wr w.heap.size 29 #[.slice da dn dc,.slice a n c]∧Hid ((List.range i).all (noLin ims)=true)) (fun y _=>n - (intOf y).toNat)
 case atStart=>exact ⟨0,Nat.zero_le _,rfl,hb,hA,rfl⟩
 case round=>
  clear hb hA;obtain ⟨i,hi,rfl,hb,hA,H⟩:=hrel;have c1:=hA.cell 1;by_cases hlt:i<n
  · obtain ⟨b,off,ts,ai,ni,ci,rfl,hbl,hc,hT,hni,hx⟩:=(HFF.out.keep hb).at_ hlt;have hni2:ni≤1048576:=(by have:=HLL.out ts (List.mem_of_getElem? hx.out);have:=hT.len;omega);have HLO:=Lib.hid (least_one (isAlg_im HA.out HT.out hx.out));obtain ⟨l,hl⟩:∃l,leastW ts=l:=⟨_,rfl⟩;have HLE:=Lib.hid hl;clear hl;have hi0:(0:Int)≤(i:Int):=(by omega);have hin:(i:Int)<(n:Int):=(by omega);by_cases hl1:l=1
    · subst hl1;go_wp2_with fail
      refine (l02Least_c ci hT hni2).mono ?_;rintro e w1 ⟨rfl,hb1⟩;rw [HLE.out];go_wp2_with fail
      go_ret
      have hno:noLin ims i=false:=noLin_of hx.out (by have:=HLO.out;rw [HLE.out] at this;cases hh:ts.all notOne with | false=>rfl | true=>rw [hh] at this;simp at this);exact ⟨ret_b (show false=allLin ims by rw [allLin,HLn.out];exact (range_all_no hlt hno).symm),bT' hb hb1 hb.size⟩
    · have hlb:(l==1)=false:=(by simpa using hl1);go_wp2_with fail
      refine (l02Least_c ci hT hni2).mono ?_;rintro e w1 ⟨rfl,hb1⟩;rw [HLE.out];go_wp2_with fail
      go_roundw
      case rel=>exact ⟨i+1,by omega,by go_num,bT' hb hb1 hb.size,hA.keep hb1 hA.lt,range_all_step H.out (noLin_of hx.out (by have:=HLO.out;rw [HLE.out,hlb] at this;cases hh:ts.all notOne with | true=>rfl | false=>rw [hh] at this;simp at this))⟩
      case measure=>simp [intOf] <;> omega
  · have he:i=n:=(by omega);subst he;go_wp2_with fail
    go_ret
    exact ⟨ret_b (by rw [allLin,HLn.out];exact H.out.symm),hb⟩
end Go.Proofs.Ytndnkeijddagiaa
