
import Derived.Test.YtfpniioegjpfeaaGreatDoorTxtJ
import Derived.Test.YtfpniioegjpfeaaGreatDoorTxtG
import Derived.Test.YtfpniioegjpfeaaGreatDoorAlgS
import Derived.Deep.DeepAppendWide
import Derived.Deep.RegionWith
namespace Go.Proofs.YtfpniioegjpfeaaGreatDoor
set_option maxRecDepth 100000
open Go.RowKit Go.Deep
def tailT (xs:List (List UInt8)) (k:Nat):List UInt8:=Lib.joinTail [59] (xs.take k)
set_option maxHeartbeats 4000000 in
theorem Join_many {w : World} {g n c : Nat} {x0 : List UInt8} {r : List (List UInt8)} (hn : r.length = n + 1) (h8 : n ≤ 8) (hO : ∀ j x, (x0 :: r)[j]? = some x → w.cell? ⟨g, j, none⟩ = some (str x)) (hg : g < w.heap.size) (hlen : ∀ x ∈ x0 :: r, x.length ≤ 20000) (hc : n + 2 ≤ c) :
    Calls Tryz.prog 59 #[.slice (some ⟨g,0,none⟩) (n+2) c,str [59]] w fun e w'=>e=.returned (str (x0++Lib.joinTail [59] r))∧Below w.heap.size w w':=by
 have HO:=Lib.hid hO
 have HLN:=Lib.hid hlen
 have hlens:∀k,Lib.lens ((x0::r).take k)≤20000 * k:=by
  intro k
  induction k with
  | zero=>simp [Lib.lens]
  | succ k ih =>
    cases hx:(x0::r)[k]? with
    | none =>
      have hk:(x0::r).length≤k:=List.getElem?_eq_none_iff.1 hx;rw [List.take_of_length_le (by omega)];rw [List.take_of_length_le hk] at ih;omega
    | some y =>
      have h1:=hlen y (List.mem_of_getElem? hx);rw [Lib.lens_take_succ _ k y hx];omega
 have HLS:=Lib.hid hlens
 have htl:∀k,k≤n+1→(tailT r k).length≤20001 * k:=by
  intro k
  induction k with
  | zero=>intro _;simp [tailT,Lib.joinTail]
  | succ k ih =>
    intro hk;have hkr:k<r.length:=(by omega);have h1:=hlen r[k] (by simp);have h2:=ih (by omega);rw [tailT,Lib.joinTail_take_succ [59] r k r[k] (List.getElem?_eq_getElem hkr),List.length_append,List.length_append];simp only [tailT] at h2;simp only [List.length_cons,List.length_nil];omega
 have HTL:=Lib.hid htl
 have h00:w.cell? ⟨g,0,none⟩=some (str x0):=hO 0 x0 rfl
 have HN:=Lib.hid hn
 have hx0l:x0.length≤20000:=hlen x0 (by simp)
 clear hO hlen hlens htl hn
 have hne0:(((n+2:Nat):Int)==0)=false:=beq_eq_false_iff_ne.2 (by omega)
 have hne1:(((n+2:Nat):Int)==1)=false:=beq_eq_false_iff_ne.2 (by omega)
 have hcast:((n+2:Nat):Int)=(n:Int)+2:=by omega
 have hdv:¬(9223372036854775807 / ((n:Int)+2 - 1)≤1):=by
  have:n=0∨n=1∨n=2∨n=3∨n=4∨n=5∨n=6∨n=7∨n=8:=by omega
  rcases this with rfl | rfl | rfl | rfl | rfl | rfl | rfl | rfl | rfl <;> decide
 go_enter Tryz.func59,Tryz.ntmps59
 go_wp2_with fail
 go_loop [5,41] (fun v i=>∃(k S:Nat),k≤n+2∧i=.int .i64 k∧v=.int .i64 S∧S≤10+20000 * k) (fun _ i=>n+2 - (intOf i).toNat)
 case atStart=>exact ⟨0,n+1,Nat.zero_le _,rfl,by congr 1;omega,by omega⟩
 case round=>
  obtain ⟨k,S,hk,rfl,rfl,hS⟩:=hrel;by_cases hkn:k<n+2
  · obtain ⟨x,hx⟩:∃x,(x0::r)[k]? = some x:=⟨(x0::r)[k]'(by have:=HN.out;simp;omega),List.getElem?_eq_getElem _⟩;have hcx:=HO.out k x hx;have hxl:=HLN.out x (List.mem_of_getElem? hx);have hkn':(k:Int)<(n:Int)+2:=(by omega);clear hx;go_wp2_with fail
    go_round
    case rel=>exact ⟨k+1,S+x.length,by omega,by go_num,by congr 1,by omega⟩
    case measure=>simp [intOf];omega
  · have hke:k=n+2:=(by omega);have hkn':¬(k:Int)<(n:Int)+2:=(by omega);have hb0:=bA1 w (.cells #[.pointer none,.slice none 0 0] 75);go_wp2_with fail
    refine (Grow_c w.heap.size w.heap.size S _ (Nat.le_refl _) (heap_alloc_new w _) (by simp) (by omega)).mono ?_;rintro e w1 ⟨rfl,h1,hb1⟩;have hbw:=hb0.trans hb1;have hI1:Lib.IsBuilderF 75 5 w.heap.size w.heap.size [] w1:=Lib.IsBuilderF.of (Or.inr h1);have hc1:w1.cell? ⟨g,0,none⟩=some (str x0):=(hbw.cell (p:=⟨g,0,none⟩) hg).trans h00;clear hb0 h1 hb1;go_wp2_with fail
    refine (WriteString_c w.heap.size w.heap.size [] _ w1 hI1 (by show 0+x0.toArray.size≤_;simp;omega) hbw.size).mono ?_;rintro e w2 ⟨rfl,hI2,hb2,-⟩;rw [strCells_str,List.nil_append] at hI2;have hbw2:=hbw.trans hb2
    have hI2':Lib.IsBuilderF 75 5 w.heap.size w.heap.size (Lib.byteCells (x0++tailT r 0)) w2:=by
     rw [tailT,List.take_zero,show Lib.joinTail [59] []=[] from rfl,List.append_nil];exact Or.inr hI2
    clear hbw hI1 hc1 hI2 hb2 hne0 hne1 hdv hkn hkn' hS hk hke;go_wp2_with fail
    go_loopw [65] (fun i wr=>∃k:Nat,k≤n+1∧i=.int .i64 k∧Lib.IsBuilderF 75 5 w.heap.size w.heap.size (Lib.byteCells (x0++tailT r k)) wr∧Below w.heap.size w wr) (fun i _=>n+1 - (intOf i).toNat)
    case atStart=>exact ⟨0,Nat.zero_le _,rfl,hI2',hbw2⟩
    case round=>
     clear hI2' hbw2;obtain ⟨k,hk,rfl,hI,hb⟩:=hrel;by_cases hkn:k<n+1
     · have hkr:k<r.length:=(by have:=HN.out;omega);obtain ⟨y,hy⟩:∃y,r[k]? = some y:=⟨r[k],List.getElem?_eq_getElem hkr⟩;have hyl:=HLN.out y (List.mem_cons_of_mem _ (List.mem_of_getElem? hy))
       have hcy:wr.cell? ⟨g,1+k,none⟩=some (str y):=by
        rw [hb.cell (p:=⟨g,1+k,none⟩) hg];exact HO.out (1+k) y (by rw [Nat.add_comm,List.getElem?_cons_succ];exact hy)
       have hstep:tailT r (k+1)=tailT r k++[59]++y:=Lib.joinTail_take_succ [59] r k y hy;have HST:=Lib.hid hstep;have htk:=HTL.out k (by omega);obtain ⟨t,ht⟩:∃t,tailT r k=t:=⟨_,rfl⟩;rw [ht] at HST htk hI;have hbs:=Lib.hid hb.size;have hkn':(k:Int)<(n:Int)+2 - 1:=(by omega);clear hy ht hstep hkr;go_wp2_with fail
       refine (WriteString_c w.heap.size w.heap.size _ _ wr hI (by rw [Lib.byteCells_length,List.length_append];show _+1≤_;omega) hbs.out).mono ?_;rintro e w3 ⟨rfl,hI3,hb3,-⟩;have hs3:Lib.strCells ⟨[59].toArray⟩=Lib.byteCells [59]:=strCells_str [59];rw [hs3,←Lib.byteCells_append] at hI3;have hb3':=hb.trans hb3;have hbs3:=Lib.hid hb3'.size;clear hI hb hb3 hcy hs3;go_wp2_with fail
       refine (WriteString_c w.heap.size w.heap.size _ _ w3 (Or.inr hI3) (by rw [Lib.byteCells_length,List.length_append,List.length_append];show _+y.toArray.size≤_;simp;omega) hbs3.out).mono ?_;rintro e w4 ⟨rfl,hI4,hb4,-⟩;rw [strCells_str,←Lib.byteCells_append] at hI4;have hb4':=hb3'.trans hb4;clear hI3 hb3' hb4;go_wp2_with fail
       go_roundw
       case rel=>exact ⟨k+1,by omega,by go_num,by rw [HST.out,←List.append_assoc,←List.append_assoc];exact Or.inr hI4,hb4'⟩
       case measure=>simp [intOf];omega
     · have hke:k=n+1:=(by omega);have hkn':¬(k:Int)<(n:Int)+2 - 1:=(by omega);have htl:tailT r (n+1)=Lib.joinTail [59] r:=(by rw [tailT,List.take_of_length_le (by have:=HN.out;omega)]);subst hke;rw [htl] at hI;have hbs:=Lib.hid hb.size;go_wp2_with (go_at_call 50;refine (Tryz.Builder_String_any_k w.heap.size w.heap.size _ _ hI hbs.out).mono ?_;rintro e2 w3 ⟨rfl,-,hb2,-⟩)
       go_ret
       exact ⟨rfl,hb.trans hb2⟩
def jt (ps:List (List UInt8)):Nat→List UInt8
 | 0=>[]
 | k+1=>jt ps k++((if 0<k then [59] else [])++(ps[k]?.getD []))
theorem jt_step {ps:List (List UInt8)} {k:Nat} {x:List UInt8} (h:ps[k]? = some x):jt ps (k+1)=jt ps k++((if 0<k then [59] else [])++x):=by
 rw [jt,h];rfl
theorem jt_join {x:List UInt8} {r:List (List UInt8)}:∀k,k≤r.length→jt (x::r) (k+1)=x++Lib.joinTail [59] (r.take k):=by
 intro k
 induction k with
 | zero=>intro _;rw [jt_step (x:=x) rfl];simp [jt,Lib.joinTail]
 | succ k ih =>
   intro hk;have hr:r[k]? = some r[k]:=List.getElem?_eq_getElem (by omega);rw [jt_step (k:=k+1) (x:=r[k]) (by rw [List.getElem?_cons_succ];exact hr),ih (by omega),if_pos (by omega),Lib.joinTail_take_succ [59] r k r[k] hr];simp [List.append_assoc]
set_option maxHeartbeats 2000000 in
theorem Join_c {w : World} {g n c : Nat} {ps : List (List UInt8)} (hn : ps.length = n) (h8 : n ≤ 10) (hO : ∀ j x, ps[j]? = some x → w.cell? ⟨g, j, none⟩ = some (str x)) (hg : g < w.heap.size) (hlen : ∀ x ∈ ps, x.length ≤ 20000) (hc : n ≤ c) :
    Calls Tryz.prog 59 #[.slice (some ⟨g,0,none⟩) n c,str [59]] w fun e w'=>e=.returned (str (jt ps n))∧Below w.heap.size w w':=by
 match ps,hn with
 | [], hn =>
   simp only [List.length_nil] at hn;subst hn;go_enter Tryz.func59,Tryz.ntmps59
   go_wp2_with fail
   go_ret
   exact ⟨rfl,Below.refl _ _⟩
 | [x], hn =>
   simp only [List.length_cons,List.length_nil] at hn;subst hn;have h0:=hO 0 x rfl;have hJ:jt [x] 1=x:=(by rw [jt_step (x:=x) rfl];simp [jt]);have HJ:=Lib.hid hJ;clear hJ hO;go_enter Tryz.func59,Tryz.ntmps59
   go_wp2_with fail
   go_ret
   exact ⟨by rw [HJ.out];rfl,Below.refl _ _⟩
 | x :: y :: r, hn =>
   simp only [List.length_cons] at hn;have hr:(y::r).length=(n - 2)+1:=(by simp;omega);have hj:=jt_join (x:=x) (r:=y::r) (n - 1) (by simp;omega);rw [show n - 1+1=n by omega,List.take_of_length_le (by simp;omega)] at hj;have:=Join_many (c:=c) hr (by omega) hO hg hlen (by omega);rw [show n - 2+2=n by omega] at this;rw [hj];exact this
def partA (z:Int) (im:List Tm):List UInt8:=Lib.decDigits z.toNat++[58]++textF im
def partsA (zs:List Int) (ims:List (List Tm)):List (List UInt8):=List.zipWith partA zs ims
def textA (zs:List Int) (ims:List (List Tm)):List UInt8:=jt (partsA zs ims) zs.length
structure FineA (zs:List Int) (ims:List (List Tm)):Prop where
 len:ims.length=zs.length
 few:zs.length≤8
 degs:∀z∈zs,1≤z∧z≤12
 form:∀im∈ims,Fine im∧im.length≤400
theorem partsA_at {zs:List Int} {ims:List (List Tm)} {k:Nat} {z:Int} {im:List Tm} (hz:zs[k]? = some z) (hi:ims[k]? = some im):(partsA zs ims)[k]? = some (partA z im):=by
 simp [partsA,List.getElem?_zipWith,hz,hi]
theorem partsA_len {zs:List Int} {ims:List (List Tm)} (h:FineA zs ims):(partsA zs ims).length=zs.length:=by
 simp [partsA,h.len]
theorem textF_len {ts:List Tm} (h:Fine ts) (h4:ts.length≤400):(textF ts).length≤16000:=by
 unfold textF
 split
 · simp
 · have:=txtTo_len h ts.length;omega
theorem partA_len {z:Int} {im:List Tm} (h1:z≤12) (h:Fine im) (h4:im.length≤400):(partA z im).length≤16010:=by
 have h2:=dec_len z.toNat 1 (by omega)
 have h3:=textF_len h h4
 simp only [partA,List.length_append,List.length_cons,List.length_nil]
 omega
theorem partsA_all {zs:List Int} {ims:List (List Tm)} (h:FineA zs ims):∀x∈partsA zs ims,x.length≤20000:=by
 intro x hx
 obtain ⟨k,hk,he⟩:=List.getElem_of_mem hx
 rw [partsA_len h] at hk
 have hz:zs[k]? = some zs[k]:=List.getElem?_eq_getElem hk
 have hi:ims[k]? = some (ims[k]'(by rw [h.len];exact hk)):=List.getElem?_eq_getElem _
 have:=partsA_at hz hi
 rw [List.getElem?_eq_getElem (by rw [partsA_len h];exact hk),he] at this
 have e:=Option.some.inj this
 rw [e]
 have d:=h.degs zs[k] (by simp)
 have f:=h.form (ims[k]'(by rw [h.len];exact hk)) (by simp)
 have:=partA_len d.2 f.1 f.2
 omega
theorem Tryz.info_str:(Tryz.prog.info? 9).map (fun i=>(i.zero,i.size,i.bytes))=some (some (.string ⟨#[]⟩),1,16):=by kernel_rfl
theorem make_strs (n : Nat) (hn : n ≤ 1048576) (w : World) :
    (Instr.makeSlice 57 (.int .i64 (n:Int)) (.int .i64 (n:Int))).run Tryz.prog w=.ok (.slice (some ⟨w.heap.size,0,none⟩) n n) (w.alloc (.cells (Array.replicate n (str [])) 9)):=by
 have h:=run_make_row' (P:=Tryz.prog) 57 9 (.string ⟨#[]⟩) 16 Tryz.underlying57 Tryz.info_str rfl .i64 .i64 n (by omega) (by omega) w
 rwa [show madeCells #[Value.string ⟨#[]⟩] n=Array.replicate n (str []) by (apply Array.ext';rw [toList_madeCells_one];simp)] at h
def strsOf (n:Nat) (ps:List (List UInt8)):List Value:=ps.map (fun p=>str p)++List.replicate (n - ps.length) (str [])
theorem strsOf_step {n k:Nat} {ps:List (List UInt8)} {p:List UInt8} (hk:ps.length=k) (hn:k<n):((strsOf n ps).toArray).setIfInBounds k (str p)=(strsOf n (ps++[p])).toArray:=by
 apply Array.ext'
 rw [Array.toList_setIfInBounds]
 simp only [strsOf,List.map_append,List.length_append,List.map_cons,List.map_nil,List.length_cons,List.length_nil]
 rw [List.set_append_right _ _ (by rw [List.length_map];omega),List.length_map,hk,Nat.sub_self]
 rw [show n - k=(n - (k+1))+1 by omega,List.replicate_succ,List.set_cons_zero]
 simp
theorem strsOf_len {n:Nat} {ps:List (List UInt8)} (h:ps.length≤n):(strsOf n ps).toArray.size=n:=by
 simp [strsOf];omega
theorem strsOf_at {n j:Nat} {ps:List (List UInt8)} {p:List UInt8} (h:ps[j]? = some p):(strsOf n ps).toArray[j]? = some (str p):=by
 have hj:=(List.getElem?_eq_some_iff.1 h).1
 rw [List.getElem?_toArray,strsOf,List.getElem?_append_left (by rw [List.length_map];exact hj),List.getElem?_map,h]
 rfl
set_option maxHeartbeats 4000000 in
theorem textOfAlgebra_c {w : World} {da : Option Addr} {n : Nat} {zs : List Int} {a : Option Addr} {ims : List (List Tm)} (dc c : Nat) (hd : Ints w da n zs) (hF : Frms w a n ims) (hA : FineA zs ims) (htab : Tab w) :
    Calls Tryz.prog 30 #[.agg #[.slice da n dc,.slice a n c]] w fun e w'=>e=.returned (str (textA zs ims))∧Below w.heap.size w w':=by
 have HL:=Lib.hid hd.len
 have HFA:=Lib.hid hA
 have hn8:n≤8:=by have:=hA.few;have:=hd.len;omega
 have hP:=Own.new w 36 #[.slice da n dc,.slice a n c]
 have hb0:=bA1 w (.cells #[.slice da n dc,.slice a n c] 36)
 have p0:=hP.cell 0
 have p1:=hP.cell 1
 go_enter Tryz.func30,Tryz.ntmps30
 go_upto_region 1 with fail
 generalize w.alloc (.cells #[.slice da n dc,.slice a n c] 36)=w1 at *
 have hmk:=make_strs n (by omega) w1
 have hS:=Own.new w1 9 (Array.replicate n (str []))
 have hb1:=bTn hb0 (bA1 w1 (.cells (Array.replicate n (str [])) 9))
 have hP1:=hP.alloc (.cells (Array.replicate n (str [])) 9)
 have q0:=hP1.cell 0
 go_wp2_with fail
 clear hmk p0 p1 q0
 generalize w1.alloc (.cells (Array.replicate n (str [])) 9)=w2 at *
 have hg1:w.heap.size<w1.heap.size:=hP.lt
 generalize w1.heap.size=gS at *
 have HG1:=Lib.hid hg1
 clear hg1 hb0 hP
 have hS0:Own w2 gS 9 (strsOf n ((partsA zs ims).take 0)).toArray:=by
  rw [List.take_zero,strsOf,List.map_nil,List.nil_append,List.length_nil,Nat.sub_zero]
  rwa [show (List.replicate n (str [])).toArray=Array.replicate n (str []) by simp]
 clear hS
 go_loopw [13] (fun y wr=>∃k:Nat,k≤n∧y=.int .i64 k∧Below w.heap.size w wr∧Own wr w.heap.size 36 #[.slice da n dc,.slice a n c]∧Own wr gS 9 (strsOf n ((partsA zs ims).take k)).toArray) (fun y _=>n - (intOf y).toNat)
 case atStart=>exact ⟨0,Nat.zero_le _,rfl,hb1,hP1,hS0⟩
 case round=>
  clear hb1 hP1 hS0;obtain ⟨k,hk,rfl,hb,hP,hS⟩:=hrel;have hps:=partsA_len HFA.out;rw [HL.out] at hps;have HPS:=Lib.hid hps;by_cases hlt:k<n
  · obtain ⟨b1,o1,z,rfl,hbl1,hc1,hz⟩:=hd.at_ hlt;obtain ⟨b2,o2,im,ai,ni,ci,rfl,hbl2,hc2,hT,hni,hx⟩:=hF.at_ hlt;have hzb:=HFA.out.degs z (List.mem_of_getElem? hz.out);obtain ⟨hfi,h4⟩:=HFA.out.form im (List.mem_of_getElem? hx.out);have hpa:=partsA_at hz.out hx.out;have HZB:=Lib.hid hzb;have HFI:=Lib.hid hfi;have HT:=Lib.hid hT;have HNI:Hid (ni≤400):=Lib.hid (by have:=hT.len;omega);have HB2:=Lib.hid hbl2;have HC2:=Lib.hid hc2
    have htk:(partsA zs ims).take (k+1)=(partsA zs ims).take k++[partA z im]:=by
     rw [List.take_add_one,hpa];rfl
    have hlk:((partsA zs ims).take k).length=k:=(by rw [List.length_take];omega);have HTK:=Lib.hid htk;have HLK:=Lib.hid hlk;have h2:=dec_len z.toNat 1 (by omega);have h3:=textF_len hfi h4;obtain ⟨d,hdd⟩:∃d,Lib.decDigits z.toNat=d:=⟨_,rfl⟩;obtain ⟨t,htt⟩:∃t,textF im=t:=⟨_,rfl⟩;rw [hdd] at h2;rw [htt] at h3;have e1:=fun (w:World)=>cat (w:=w) d [58] (by simp;omega);have e2:=fun (w:World)=>cat (w:=w) (d++[58]) t (by simp;omega);have hpr:partA z im=d++[58]++t:=(by rw [partA,hdd,htt]);rw [←hpr] at e2;obtain ⟨r2,hr2⟩:∃r,partA z im=r:=⟨_,rfl⟩;rw [hr2] at e2 HTK;obtain ⟨r1,hr1⟩:∃r,d++[58]=r:=⟨_,rfl⟩;rw [hr1] at e1 e2;have HDD:=Lib.hid hdd;have HTT:=Lib.hid htt;have hc1':=(World.cell?_of_block (a:=⟨b1,o1+k,none⟩) (hb.block b1 hbl1)).trans hc1;clear hzb hfi h4 hT hni hpa htk hlk hps h2 h3 hdd htt hpr hr2 hr1 hbl1 hc1 hbl2 hc2;go_upto_region 5 with fail
    clear hc1';replace hb:=Below.drew hb;replace hP:Own wr.drew w.heap.size 36 #[.slice (some ⟨b1,o1,none⟩) n dc,.slice (some ⟨b2,o2,none⟩) n c]:=hP;replace hS:Own wr.drew gS 9 (strsOf n ((partsA zs ims).take k)).toArray:=hS;have x1:=hP.cell 1;have x2:=(World.cell?_of_block (a:=⟨b2,o2+k,none⟩) (hb.block b2 HB2.out)).trans HC2.out;have HTD:=Lib.hid (htab.keep hb (Nat.le_refl _))
    go_region_with (first
     | (go_at_call 48
        with_reducible refine (FormatInt_c _ (by have:=HZB.out;omega) (by have:=HZB.out;omega) HTD.out).mono ?_
        rw [HDD.out];rintro e w5 ⟨rfl,hb5⟩;have hP5:=hP.keep hb5 hP.lt;have hS5:=hS.keep hb5 hS.lt;have hbb:=bT' hb hb5 hb.size;have y1:=hP5.cell 1;have y2:=(World.cell?_of_block (a:=⟨b2,o2+k,none⟩) (hbb.block b2 HB2.out)).trans HC2.out
        clear hP hS hb x1 x2 hb5)
     | (go_at_call 23
        with_reducible refine (textOfForm_c ci (HT.out.keep hbb) HNI.out HFI.out (htab.keep hbb (Nat.le_refl _))).mono ?_
        rw [HTT.out];rintro e w6 ⟨rfl,hb6⟩;have hP6:=hP5.keep hb6 hP5.lt;have hS6:=hS5.keep hb6 hS5.lt;have hbc:=bT' hbb hb6 hbb.size;have hfz:=hS6.frozen k;obtain ⟨ov,hcv⟩:=hS6.has (i:=k) (by rw [strsOf_len (by have:=HLK.out;omega)];exact hlt)
        clear hP5 hS5 hbb y1 y2 hb6))
    all_goals go_wp2_with fail
    all_goals go_roundw
    all_goals first
     | (case measure=>simp [intOf];omega)
     | skip
    all_goals (
     refine ⟨k+1,by omega,by go_num,hbc.setCell (p:=⟨gS,k,none⟩) (by dsimp only;have:=HG1.out;omega) _,hP6.far (p:=⟨gS,k,none⟩) (by dsimp only;have:=HG1.out;omega) _,?_⟩;have e:=hS6.set k (str r2);rw [strsOf_step HLK.out hlt,←HTK.out] at e
     exact e)
  · have hke:k=n:=(by omega);subst hke;have hfull:(partsA zs ims).take k=partsA zs ims:=List.take_of_length_le (by omega);rw [hfull] at hS;have hS':=fun j x (hj:(partsA zs ims)[j]? = some x)=>(hS.cell j).trans (strsOf_at (n:=k) hj);have HJ:=Lib.hid hS';have HSL:=Lib.hid hS.lt;have HTX:Hid (textA zs ims=jt (partsA zs ims) k):=Lib.hid (by rw [textA,HL.out]);clear hS' hfull hS hlt;go_wp2_with fail
    refine (Join_c HPS.out (by omega) HJ.out HSL.out (partsA_all HFA.out) (Nat.le_refl _)).mono ?_;rintro e w5 ⟨rfl,hb5⟩;go_wp2_with fail
    go_ret
    exact ⟨by rw [HTX.out];rfl,bT' hb hb5 hb.size⟩
end Go.Proofs.YtfpniioegjpfeaaGreatDoor
