
import Derived.Test.YtifcfoijcodjbaaGreatIsAlg
import Derived.Test.YtifcfoijcodjbaaGreatDiffD
import Derived.Test.YtifcfoijcodjbaaGreatAlgS
import Derived.Test.YtifcfoijcodjbaaGreatSingle
import Derived.Deep.RegionWith
import Derived.Test.YtifcfoijcodjbaaGreatNewA
import Derived.Deep.DeepAppendWide
import Derived.Test.YtifcfoijcodjbaaGreatRows3
namespace Go.Proofs.YtifcfoijcodjbaaGreat
set_option maxRecDepth 100000
open Go.RowKit Go.Deep
theorem zeroOr_eq {zs:List Int} {ts:List Tm} {x:Int} (hd:degsOk zs=true):zeroOr zs ts x=((listOk zs ts && decide (ts.length≤400)) && (allW zs ts && (degA zs ts==x || ts.length==0))):=by
 have hf:isForm zs ts=(listOk zs ts && decide (ts.length≤400)):=by rw [isForm,hd,Bool.true_and]
 unfold zeroOr codF degF degA
 rw [←hf]
 cases isForm zs ts <;> cases allW zs ts <;> simp
theorem field_form (a:Option Addr) (n c:Nat) (w:World):(Instr.field 39 (.agg #[.slice a n c]) 0).run Tryz.prog w=.ok (.slice a n c) w:=by kernel_rfl
set_option maxHeartbeats 8000000 in
theorem l02Is_c {w : World} {da : Option Addr} {dn : Nat} {zs : List Int} {a : Option Addr} {n : Nat} {ims : List (List Tm)} (dc c : Nat) (hd : Ints w da dn zs) (hdn : dn ≤ 1048576) (hF : Frms w a n ims) (hn : n ≤ 1048576) (hL : ∀ im ∈ ims, (im.length : Int) ≤ 1048576) :
    Calls Tryz.prog 79 #[.agg #[.slice da dn dc,.slice a n c]] w fun e w'=>e=.returned (.bool (isAlg zs ims))∧Below w.heap.size w w':=by
 have HL:=Lib.hid hd.len
 have HLn:=Lib.hid hF.len
 have HFF:=Lib.hid hF
 have HD:=Lib.hid hd
 have HLL:=Lib.hid hL
 have HT:=Lib.hid hF.tm
 clear hL
 have hb0:=bA1 w (.cells #[.slice da dn dc,.slice a n c] 35)
 have hA0:=Own.new w 35 #[.slice da dn dc,.slice a n c]
 have c0:=hA0.cell 0
 have c1:=hA0.cell 1
 cases hdg:degsOk zs with
 | false =>
   have HDG:=Lib.hid hdg;clear hdg;go_enter Tryz.func79,Tryz.ntmps79
   go_upto_region 1 with fail
   generalize w.alloc (.cells #[.slice da dn dc,.slice a n c] 35)=w0 at *;go_wp2_with fail
   refine (l01Degrees_c dc (hd.keep hb0) hdn).mono ?_;rintro e w' ⟨rfl,rfl⟩;rw [HDG.out];go_wp2_with fail
   go_ret
   exact ⟨ret_b (isAlg_no1 HDG.out).symm,hb0⟩
 | true =>
   have HDG:=Lib.hid hdg;clear hdg;by_cases hnd:n=dn
   · subst hnd;have h8:n≤8:=(by have:=degsOk_len HDG.out;have:=HL.out;omega);have hnn:((n:Int) != (n:Int))=false:=(by simp);have HMI:=Lib.hid (degsOk_mild HDG.out);go_enter Tryz.func79,Tryz.ntmps79
     go_upto_region 1 with fail
     generalize w.alloc (.cells #[.slice da n dc,.slice a n c] 35)=w0 at *;generalize hg0:w.heap.size=g0 at *;go_wp2_with fail
     refine (l01Degrees_c dc (hd.keep (by rw [hg0];exact hb0)) hdn).mono ?_;rintro e w' ⟨rfl,rfl⟩;rw [HDG.out];have HG:=Lib.hid hg0;clear hg0;go_wp2_with fail
     clear hnn
     go_loopw [3] (fun y wr=>∃i:Nat,i≤n∧y=.int .i64 i∧Below g0 w wr∧Own wr g0 35 #[.slice da n dc,.slice a n c]∧Hid ((List.range i).all (okIm zs ims)=true)) (fun y _=>n - (intOf y).toNat)
     case atStart=>exact ⟨0,Nat.zero_le _,rfl,hb0,hA0,rfl⟩
     case round=>
      clear hb0 hA0 c0 c1;obtain ⟨i,hi,rfl,hb,hA,H⟩:=hrel;have hbw:Below w.heap.size w wr:=(by rw [HG.out];exact hb);have c0:=hA.cell 0;have c1:=hA.cell 1;by_cases hlt:i<n
      · obtain ⟨b,off,ts,ai,ni,ci,rfl,hbl,hc,hT,hni,hx⟩:=(HFF.out.keep hbw).at_ hlt;obtain ⟨bd,od,z,rfl,hbd,hcd,hz⟩:=(HD.out.keep hbw).at_ hlt;have hz1:=(degsOk_at HDG.out hz.out).1;have hz2:=(degsOk_at HDG.out hz.out).2;have hni2:ni≤1048576:=(by have:=HLL.out ts (List.mem_of_getElem? hx.out);have:=hT.len;omega);have HTL:=Lib.hid hT.len;have HZO:=Lib.hid (zeroOr_eq (ts:=ts) (x:=z+1) HDG.out);have hgw:g0<wr.heap.size:=hA.lt;have hi0:(0:Int)≤(i:Int):=(by omega);have hin:(i:Int)<(n:Int):=(by omega);generalize hQ1:(listOk zs ts && decide (ts.length≤400))=Q1 at *;have HQ1:=Lib.hid hQ1;clear hQ1;go_upto_region 6 with fail
        have hT1:=hT.keep ((Below.refl _ _).drew:Below wr.heap.size wr wr.drew);have hDn:=(HD.out.keep hbw).keep ((Below.refl _ _).drew:Below wr.heap.size wr wr.drew);have hAd:Own wr.drew g0 35 #[.slice (some ⟨bd,od,none⟩) n dc,.slice (some ⟨b,off,none⟩) n c]:=hA;have hbd2:Below g0 w wr.drew:=hb.drew;have hcw:wr.drew.cell? ⟨b,off+i,none⟩=some (.slice ai ni ci):=hc;clear hA hb c0 c1 hT;cases Q1
        case false=>
         go_region_held3 (fun w'=>w'.cell? ⟨g0,0,none⟩=some (.slice (some ⟨bd,od,none⟩) n dc)∧w'.cell? ⟨g0,1,none⟩=some (.slice (some ⟨b,off,none⟩) n c)∧w'.cell? ⟨b,off+i,none⟩=some (.slice ai ni ci)) (exact ⟨hAd.cell 0,hAd.cell 1,hcw⟩)
          (first | (go_at_call 104;refine (l01Is_c dc ci hDn (by omega) hT1 hni2).mono ?_;rintro e wv ⟨rfl,hbv⟩;rw [HQ1.out];have hb':=bT' hbd2 hbv (Nat.le_of_lt hAd.lt);have hA1:=hAd.keep hbv hAd.lt;have hc2:=(World.cell?_of_block (a:=⟨b,off+i,none⟩) (hbv.block b hbl)).trans hcw;clear hAd hcw;have hAd:=hA1;have hcw:=hc2))
         go_wp2_with fail
         go_ret
         exact ⟨ret_b (isAlg_no3 HLn.out hlt (okIm_of hz.out hx.out (by rw [HZO.out];rfl))).symm,by rw [HG.out];exact hb'⟩
        case true=>
         go_region_held3 (fun w'=>w'.cell? ⟨g0,0,none⟩=some (.slice (some ⟨bd,od,none⟩) n dc)∧w'.cell? ⟨g0,1,none⟩=some (.slice (some ⟨b,off,none⟩) n c)∧w'.cell? ⟨b,off+i,none⟩=some (.slice ai ni ci)) (exact ⟨hAd.cell 0,hAd.cell 1,hcw⟩)
          (first | (go_at_call 104;refine (l01Is_c dc ci hDn (by omega) hT1 hni2).mono ?_;rintro e wv ⟨rfl,hbv⟩;rw [HQ1.out];have hb1:=bT' hbd2 hbv (Nat.le_of_lt hAd.lt);have hA1:=hAd.keep hbv hAd.lt;have hT2:=hT1.keep hbv;have hD2:=hDn.keep hbv;have hc2:=(World.cell?_of_block (a:=⟨b,off+i,none⟩) (hbv.block b hbl)).trans hcw;have hd2:=(World.cell?_of_block (a:=⟨bd,od+i,none⟩) (hbv.block bd hbd)).trans (show wr.drew.cell? ⟨bd,od+i,none⟩=some (.int .i64 z) from hcd);clear hAd hcw;have hAd:=hA1;have hcw:=hc2))
         clear hT1 hDn hAd hbd2 hcw hbv;go_upto_region 8 with fail
         generalize hDv:degA zs ts=D at *;generalize hWv:allW zs ts=W at *;have HDV:=Lib.hid hDv;have HWV:=Lib.hid hWv;clear hDv hWv;have hT3:=hT2.keep ((Below.refl _ _).drew:Below wv.heap.size wv wv.drew);have hD3:=hD2.keep ((Below.refl _ _).drew:Below wv.heap.size wv wv.drew);have hA3:Own wv.drew g0 35 #[.slice (some ⟨bd,od,none⟩) n dc,.slice (some ⟨b,off,none⟩) n c]:=hA1;have hb3:Below g0 w wv.drew:=hb1.drew;have hc3:wv.drew.cell? ⟨b,off+i,none⟩=some (.slice ai ni ci):=hc2;have hd3:wv.drew.cell? ⟨bd,od+i,none⟩=some (.int .i64 z):=hd2;have hbl3:b<wv.drew.heap.size:=World.block_lt_of_cell? _ _ hc3;have hbd3:bd<wv.drew.heap.size:=World.block_lt_of_cell? _ _ hd3;clear hT2 hD2 hA1 hb1 hc2 hd2 hc hcd
         go_region_held3 (fun w'=>w'.cell? ⟨g0,0,none⟩=some (.slice (some ⟨bd,od,none⟩) n dc)∧w'.cell? ⟨g0,1,none⟩=some (.slice (some ⟨b,off,none⟩) n c)∧w'.cell? ⟨b,off+i,none⟩=some (.slice ai ni ci)) (exact ⟨hA3.cell 0,hA3.cell 1,hc3⟩)
          (first | (go_at_call 105;refine (l01Degree_c dc ci hD3 h8 HMI.out hT3 hni2).mono ?_;rintro e wx ⟨rfl,hbx⟩;rw [HDV.out,HWV.out];have hb4:=bT' hb3 hbx (Nat.le_of_lt hA3.lt);have hA4:=hA3.keep hbx hA3.lt;have hc4:=(World.cell?_of_block (a:=⟨b,off+i,none⟩) (hbx.block b hbl3)).trans hc3;have hd4:=(World.cell?_of_block (a:=⟨bd,od+i,none⟩) (hbx.block bd hbd3)).trans hd3;clear hA3 hb3 hc3 hd3;have hA3:=hA4;have hc3:=hc4;have hd3:=hd4))
         clear hT3 hD3 hA3 hc3 hd3 hbx;have c0:=hA4.cell 0;have c1:=hA4.cell 1
         cases W with
         | false =>
           go_wp2_with fail
           go_ret
           exact ⟨ret_b (isAlg_no3 HLn.out hlt (okIm_of hz.out hx.out (by rw [HZO.out];rfl))).symm,by rw [HG.out];exact hb4⟩
         | true =>
           by_cases hn0:ni=0
           · subst hn0;go_wp2_with fail
             go_roundw
             case rel=>exact ⟨i+1,by omega,by go_num,hb4,hA4,range_all_step H.out (okIm_of hz.out hx.out (by rw [HZO.out,HTL.out];simp))⟩
             case measure=>simp [intOf] <;> omega
           · have hnp:(0:Int)<(ni:Int):=(by omega);have HN0:=Lib.hid hn0;clear hn0;by_cases hDz:D=z+1
             · subst hDz;have hzz:((z+1) != (z+1))=false:=(by simp);go_wp2_with fail
               go_roundw
               case rel=>exact ⟨i+1,by omega,by go_num,hb4,hA4,range_all_step H.out (okIm_of hz.out hx.out (by rw [HZO.out];simp))⟩
               case measure=>simp [intOf] <;> omega
             · have hzb:(D != (z+1))=true:=(by simpa using hDz);go_wp2_with fail
               go_ret
               exact ⟨ret_b (isAlg_no3 HLn.out hlt (okIm_of hz.out hx.out (by rw [HZO.out,HTL.out];simp [hDz,HN0.out]))).symm,by rw [HG.out];exact hb4⟩
      · have he:i=n:=(by omega);subst he
        have HI:Hid (allIm zs ims=true):=by
         have:=H.out;exact Lib.hid (show allIm zs ims=true by rw [allIm,HLn.out];exact this)
        have HOK:Hid (AlgOk zs ims):=Lib.hid (algOk_of HDG.out (HLn.out.trans HL.out.symm) HI.out HT.out);clear H;go_wp2_with fail
        go_loopw [6] (fun y wx=>∃k:Nat,k≤i∧y=.int .i64 k∧Below g0 w wx∧Own wx g0 35 #[.slice da i dc,.slice a i c]∧Hid ((List.range k).all (okD zs ims)=true)) (fun y _=>i - (intOf y).toNat)
        case atStart=>exact ⟨0,Nat.zero_le _,rfl,hb,hA,rfl⟩
        case round=>
         clear hb hA c0 c1 hbw;obtain ⟨k,hk,rfl,hb,hA,H⟩:=hrel;have hbw:Below w.heap.size w wr:=(by rw [HG.out];exact hb);have c0:=hA.cell 0;have c1:=hA.cell 1;by_cases hlt2:k<i
         · obtain ⟨b,off,ts,ai,ni,ci,rfl,hbl,hc,hT,hni,hx⟩:=(HFF.out.keep hbw).at_ hlt2;have hmem:=List.mem_of_getElem? hx.out;have hfm:=HOK.out.fm ts hmem;have hk1:=isForm_fit hfm;have hf1:=isForm_f hfm;have hn4:ni≤400:=(by have:=isForm_400 hfm;have:=hT.len;omega);have HKF:=Lib.hid hk1;have HFM:=Lib.hid hf1;have HS:=Lib.hid (HOK.out.diff ts [] 0 (HT.out ts hmem) hk1 sum9_nil);obtain ⟨N,hN⟩:∃N,(diffT zs ims [] ts).length=N:=⟨_,rfl⟩;have HN:=Lib.hid hN;have HCL:=Lib.hid (show closedB zs ims ts=(N==0) by rw [closedB,hN]);clear hmem hfm hk1 hf1 hN;have hgw:g0<wr.heap.size:=hA.lt;have hi0:(0:Int)≤(k:Int):=(by omega);have hin:(k:Int)<(i:Int):=(by omega);have hfld:=field_form;go_upto_region 14 with fail
           have hT1:=hT.keep ((Below.refl _ _).drew:Below wr.heap.size wr wr.drew);have hDn:=(HD.out.keep hbw).keep ((Below.refl _ _).drew:Below wr.heap.size wr wr.drew);have hFn:=(HFF.out.keep hbw).keep ((Below.refl _ _).drew:Below wr.heap.size wr wr.drew);have hAd:Own wr.drew g0 35 #[.slice da i dc,.slice (some ⟨b,off,none⟩) i c]:=hA;have hbd2:Below g0 w wr.drew:=hb.drew;have hcw:wr.drew.cell? ⟨b,off+k,none⟩=some (.slice ai ni ci):=hc;clear hA hb c0 c1 hT;by_cases hN0:N=0
           · subst hN0
             go_region_held3 (fun w'=>w'.cell? ⟨g0,0,none⟩=some (.slice da i dc)∧w'.cell? ⟨g0,1,none⟩=some (.slice (some ⟨b,off,none⟩) i c)∧w'.cell? ⟨b,off+k,none⟩=some (.slice ai ni ci)) (exact ⟨hAd.cell 0,hAd.cell 1,hcw⟩)
              (first | (go_at_call 106;refine (l02D_c dc c ci hDn hFn hT1 HOK.out HMI.out HKF.out HFM.out hn4).mono ?_;rintro e wv ⟨v,rfl,hO,hbv⟩;obtain ⟨va,vc,rfl,hvT⟩:=hO.r.terms HS.out.tm HN.out;have hb4:=bT' hbd2 hbv (Nat.le_of_lt hAd.lt);have hA4:=hAd.keep hbv hAd.lt;have hc4:=(World.cell?_of_block (a:=⟨b,off+k,none⟩) (hbv.block b hbl)).trans hcw;clear hO hvT hAd hcw hbd2;have hAd:=hA4;have hcw:=hc4))
             go_wp2_with fail
             go_roundw
             case rel=>exact ⟨k+1,by omega,by go_num,hb4,hA4,range_all_step H.out (okD_of hx.out (by rw [HCL.out];rfl))⟩
             case measure=>simp [intOf] <;> omega
           · have hNp:(0:Int)<(N:Int):=(by omega);have HN0:=Lib.hid hN0;clear hN0
             go_region_held3 (fun w'=>w'.cell? ⟨g0,0,none⟩=some (.slice da i dc)∧w'.cell? ⟨g0,1,none⟩=some (.slice (some ⟨b,off,none⟩) i c)∧w'.cell? ⟨b,off+k,none⟩=some (.slice ai ni ci)) (exact ⟨hAd.cell 0,hAd.cell 1,hcw⟩)
              (first | (go_at_call 106;refine (l02D_c dc c ci hDn hFn hT1 HOK.out HMI.out HKF.out HFM.out hn4).mono ?_;rintro e wv ⟨v,rfl,hO,hbv⟩;obtain ⟨va,vc,rfl,hvT⟩:=hO.r.terms HS.out.tm HN.out;have hb4:=bT' hbd2 hbv (Nat.le_of_lt hAd.lt);have hA4:=hAd.keep hbv hAd.lt;have hc4:=(World.cell?_of_block (a:=⟨b,off+k,none⟩) (hbv.block b hbl)).trans hcw;clear hO hvT hAd hcw hbd2;have hAd:=hA4;have hcw:=hc4))
             go_wp2_with fail
             go_ret
             exact ⟨ret_b (isAlg_no4 HLn.out hlt2 (okD_of hx.out (by rw [HCL.out];simpa using HN0.out))).symm,by rw [HG.out];exact hb4⟩
         · have he:k=i:=(by omega);subst he;go_wp2_with fail
           go_ret
           exact ⟨ret_b (isAlg_yes HDG.out (HLn.out.trans HL.out.symm) HI.out (by rw [allD,HLn.out];exact H.out)).symm,by rw [HG.out];exact hb⟩
   · have hnb:((n:Int) != (dn:Int))=true:=(by simp;omega);have hnc:¬(n:Int)=(dn:Int):=(by omega);go_enter Tryz.func79,Tryz.ntmps79
     go_upto_region 1 with fail
     generalize w.alloc (.cells #[.slice da dn dc,.slice a n c] 35)=w0 at *;go_wp2_with fail
     refine (l01Degrees_c dc (hd.keep hb0) hdn).mono ?_;rintro e w' ⟨rfl,rfl⟩;rw [HDG.out];go_wp2_with fail
     go_ret
     exact ⟨ret_b (isAlg_no2 (by rw [HLn.out,HL.out];exact hnd)).symm,hb0⟩
def Tab (w:World) (a:Option Addr) (n:Nat) (T:List (List Int)):Prop:=
 T.length=n∧(0<n→∃b off,a=some ⟨b,off,none⟩∧b<w.heap.size∧∀i r,T[i]? = some r→∃ai ci,w.cell? ⟨b,off+i,none⟩=some (.slice ai r.length ci)∧Ints w ai r.length r)
theorem Tab.keep {w w':World} {a:Option Addr} {n:Nat} {T:List (List Int)} (h:Tab w a n T) (hb:Below w.heap.size w w'):Tab w' a n T:=
 ⟨h.1,fun hn=>by
  obtain ⟨b,off,ha,hlt,hc⟩:=h.2 hn;refine ⟨b,off,ha,Nat.lt_of_lt_of_le hlt hb.size,fun i r hi=>?_⟩;obtain ⟨ai,ci,h1,h2⟩:=hc i r hi
  exact ⟨ai,ci,(hb.cell (p:=⟨b,off+i,none⟩) hlt).trans h1,h2.keep hb⟩⟩
theorem Tab.at_ {w : World} {a : Option Addr} {n : Nat} {T : List (List Int)} (h : Tab w a n T) {k : Nat} (hk : k < n) :
    ∃b off r ai mi ci,a=some ⟨b,off,none⟩∧b<w.heap.size∧w.cell? ⟨b,off+k,none⟩=some (.slice ai mi ci)∧Ints w ai mi r∧Hid (T[k]? = some r):=by
 obtain ⟨b,off,ha,hlt,hc⟩:=h.2 (by omega)
 have hk2:k<T.length:=by have:=h.1;omega
 have hx:T[k]? = some T[k]:=List.getElem?_eq_getElem hk2
 obtain ⟨ai,ci,h1,h2⟩:=hc k _ hx
 exact ⟨b,off,_,ai,_,ci,ha,hlt,h1,h2,hx⟩
structure Rw where
 a:Option Addr
 m:Nat
 c:Nat
 g:Nat
 cs:Array Value
structure Tbl (w:World) (g n:Nat) (R:List Rw):Prop where
 len:R.length=n
 own:∃os:Array Value,Own w g 22 os∧∀(i:Nat) r,R[i]? = some r→os[i]? = some (Value.slice r.a r.m r.c)
 each:∀(i:Nat) r,R[i]? = some r→0<r.m→r.a=some ⟨r.g,0,none⟩∧Own w r.g 2 r.cs∧r.m≤r.cs.size
 apart:∀(i j:Nat) r s,i<j→R[i]? = some r→R[j]? = some s→0<r.m→0<s.m→r.g≠s.g
theorem Tbl.keep {w w':World} {g n:Nat} {R:List Rw} (h:Tbl w g n R) (hb:Below w.heap.size w w'):Tbl w' g n R:=
 ⟨h.len,by obtain ⟨os,h1,h2⟩:=h.own;exact ⟨os,h1.keep hb h1.lt,h2⟩,fun i r h1 h2=>by obtain ⟨h3,h4,h5⟩:=h.each i r h1 h2;exact ⟨h3,h4.keep hb h4.lt,h5⟩,h.apart⟩
theorem Tbl.touch {p:Nat→Prop} {w w':World} {g n:Nat} {R:List Rw} (h:Tbl w g n R) (ht:Touch p w w') (hg:¬p g) (hp:∀r∈R,0<r.m→¬p r.g):Tbl w' g n R:=
 ⟨h.len,by obtain ⟨os,h1,h2⟩:=h.own;exact ⟨os,ht.own h1 hg,h2⟩,fun i r h1 h2=>by obtain ⟨h3,h4,h5⟩:=h.each i r h1 h2;exact ⟨h3,ht.own h4 (hp r (List.mem_of_getElem? h1) h2),h5⟩,h.apart⟩
def totR (R:List Rw):Nat:=(R.map Rw.m).sum
def mkR (K:Int) (r:Rw):Rw:={ r with cs:=markA (mkI K) r.cs r.m }
def markT (K:Int) (R:List Rw):Nat→List Rw
 | 0=>R
 | k + 1 => match R[k]? with
   | some r=>(markT K R k).set k (mkR (K+totR (R.take k)) r)
   | none=>markT K R k
theorem Tbl.row {w:World} {g n:Nat} {R:List Rw} (h:Tbl w g n R) {k:Nat} {r:Rw} (hr:R[k]? = some r):w.cell? ⟨g,k,none⟩=some (.slice r.a r.m r.c):=by
 obtain ⟨os,h1,h2⟩:=h.own
 rw [h1.cell k]
 exact h2 k r hr
def OwnT (w:World) (lo hi:Nat) (a:Option Addr) (n:Nat) (V:List (List Int)):Prop:=
 V.length=n∧(0<n→∃g R,a=some ⟨g,0,none⟩∧lo≤g∧g<hi∧Tbl w g n R∧(∀r∈R,0<r.m→lo≤r.g∧r.g<hi)∧R.map Rw.m=V.map List.length∧∀(i:Nat) r row,R[i]? = some r→V[i]? = some row→Ints w r.a r.m row)
section
variable {w w':World} {lo hi n:Nat} {a:Option Addr} {V:List (List Int)}
theorem OwnT.none_:OwnT w lo hi none 0 []:=⟨rfl,fun h=>absurd h (by omega)⟩
theorem OwnT.keep (h:OwnT w lo hi a n V) (hb:Below w.heap.size w w'):OwnT w' lo hi a n V:=
 ⟨h.1,fun hn=>by
  obtain ⟨g,R,h1,h2,h3,h4,h5,h6,h7⟩:=h.2 hn
  exact ⟨g,R,h1,h2,h3,h4.keep hb,h5,h6,fun i r row hr hv=>(h7 i r row hr hv).keep hb⟩⟩
theorem OwnT.weaken {lo' hi':Nat} (h:OwnT w lo hi a n V) (k1:lo'≤lo) (k2:hi≤hi'):OwnT w lo' hi' a n V:=
 ⟨h.1,fun hn=>by
  obtain ⟨g,R,h1,h2,h3,h4,h5,h6⟩:=h.2 hn
  exact ⟨g,R,h1,by omega,by omega,h4,fun r hr hm=>by have:=h5 r hr hm;omega,h6⟩⟩
theorem OwnT.touch {p:Nat→Prop} (h:OwnT w lo hi a n V) (ht:Touch p w w') (hp:∀g,lo≤g→g<hi→¬p g):OwnT w' lo hi a n V:=
 ⟨h.1,fun hn=>by
  obtain ⟨g,R,h1,h2,h3,h4,h5,h6,h7⟩:=h.2 hn;refine ⟨g,R,h1,h2,h3,h4.touch ht (hp g h2 h3) (fun r hr hm=>hp r.g (h5 r hr hm).1 (h5 r hr hm).2),h5,h6,fun i r row hr hv=>?_⟩;have hI:=h7 i r row hr hv;refine ⟨hI.1,fun hm=>?_⟩;obtain ⟨b,off,e,hb,hc⟩:=hI.2 hm;obtain ⟨e2,h8,-⟩:=h4.each i r hr hm;have hbg:b=r.g:=(by rw [e] at e2;injection e2 with e2;injection e2);have hq:=h5 r (List.mem_of_getElem? hr) hm
  exact ⟨b,off,e,Nat.lt_of_lt_of_le hb ht.below.size,fun k hk=>(World.cell?_of_block (a:=⟨b,off+k,none⟩) (ht.other b hb (by rw [hbg];exact hp r.g hq.1 hq.2))).trans (hc k hk)⟩⟩
theorem OwnT.tab (h:OwnT w lo hi a n V):Tab w a n V:=
 ⟨h.1,fun hn=>by
  obtain ⟨g,R,rfl,h2,h3,h4,h5,h6,h7⟩:=h.2 hn;obtain ⟨os,ho,-⟩:=h4.own;refine ⟨g,0,rfl,ho.lt,fun i row hi=>?_⟩;have hl:R.length=V.length:=(by rw [h4.len,h.1]);have hiv:=(List.getElem?_eq_some_iff.1 hi).1;have hr:R[i]? = some (R[i]'(by omega)):=List.getElem?_eq_getElem (by omega)
  have hm:(R[i]'(by omega)).m=row.length:=by
   have e:=congrArg (fun l=>l[i]?) h6;simp only [List.getElem?_map,hr,hi,Option.map_some] at e
   injection e
  refine ⟨_,(R[i]'(by omega)).c,?_,hm ▸ h7 i _ row hr hi⟩
  rw [Nat.zero_add,h4.row hr,hm]⟩
end
def MarkedT (w:World) (a:Option Addr) (n:Nat) (K:Int) (tot:Nat):Prop:=
 (n=0∧tot=0)∨∃g R,a=some ⟨g,0,none⟩∧Tbl w g n (markT K R n)∧R.length=n∧(∀(i:Nat) r,R[i]? = some r→r.m≤r.cs.size)∧(∀r∈R,r.m≤1048576)∧totR R=tot
theorem MarkedT.keep {w w':World} {a:Option Addr} {n:Nat} {K:Int} {tot:Nat} (h:MarkedT w a n K tot) (hb:Below w.heap.size w w'):MarkedT w' a n K tot:=by
 rcases h with h | ⟨g,R,h1,h2,h3⟩
 · exact Or.inl h
 · exact Or.inr ⟨g,R,h1,h2.keep hb,h3⟩
def oneFrom (m:List Int):Nat→Nat→Nat
 | 0,k=>k
 | d+1,k=>if m.getD k 0=1 then k else oneFrom m d (k+1)
def oneAt (m:List Int):Nat:=oneFrom m 8 0
def linTo (m:Nat) (fs:List Tm):Nat→List Int
 | 0=>List.replicate m 0
 | k + 1 => match fs[k]? with
   | some t=>if wlen t.m=1 then (linTo m fs k).set (oneAt t.m) t.f else linTo m fs k
   | none=>linTo m fs k
def linRow (m:Nat) (fs:List Tm):List Int:=linTo m fs fs.length
theorem Tryz.info_ints:(Tryz.prog.info? 22).map (fun i=>(i.zero,i.size,i.bytes))=some (some (.slice none 0 0),1,24):=by kernel_rfl
theorem pair_snoc {gs:List Nat} {b g:Nat} (h:(b::gs).Pairwise (· < ·)) (hb:b<g) (hg:∀x∈gs,x<g):(b::(gs++[g])).Pairwise (· < ·):=by
 rw [←List.cons_append]
 refine List.pairwise_append.2 ⟨h,List.pairwise_singleton _ _,fun x hx y hy=>?_⟩
 obtain rfl:y=g:=by simpa using hy
 rcases List.mem_cons.1 hx with rfl | hx
 · exact hb
 · exact hg x hx
def Rows (w:World) (gO dn:Nat) (ims:List (List Tm)) (k:Nat) (gs:List Nat):Prop:=
 gs.length=k∧(∀(i g:Nat) ts,gs[i]? = some g→ims[i]? = some ts→Own w g 2 (((linRow dn ts).map (Value.int .i64)).toArray))∧(gO::gs).Pairwise (· < ·)∧∀x∈gs,x<w.heap.size
theorem Rows.keep {w w':World} {gO dn k:Nat} {ims:List (List Tm)} {gs:List Nat} (h:Rows w gO dn ims k gs) (hb:Below w.heap.size w w'):Rows w' gO dn ims k gs:=
 ⟨h.1,fun i g ts h1 h2=>(h.2.1 i g ts h1 h2).keep hb (h.2.1 i g ts h1 h2).lt,h.2.2.1,fun x hx=>Nat.lt_of_lt_of_le (h.2.2.2 x hx) hb.size⟩
theorem Rows.snoc {w : World} {gO dn k g : Nat} {ims : List (List Tm)} {gs : List Nat} {ts : List Tm} {v : Value} (h : Rows w gO dn ims k gs) (hx : ims[k]? = some ts) (hlt : ∀ x ∈ gs, x < g) (hO : gO < g)
    (hg:Own w g 2 (((linRow dn ts).map (Value.int .i64)).toArray)):Rows (w.setCell ⟨gO,k,none⟩ v) gO dn ims (k+1) (gs++[g]):=by
 have hup:=h.2.2.1
 refine ⟨by rw [List.length_append,h.1];rfl,fun i g' ts' h1 h2=>?_,pair_snoc hup hO hlt,fun x hx=>?_⟩
 · by_cases hi:i<k
   · rw [List.getElem?_append_left (by rw [h.1];exact hi)] at h1;have h3:=(List.pairwise_cons.1 hup).1 g' (List.mem_of_getElem? h1);exact (h.2.1 i g' ts' h1 h2).far (by dsimp only;omega) _
   · have hik : i = k := by
       have:=(List.getElem?_eq_some_iff.1 h1).1;rw [List.length_append,h.1] at this;simp at this
       omega
     subst hik;rw [List.getElem?_append_right (by rw [h.1];omega),h.1,Nat.sub_self] at h1
     injection h1 with h1
     subst h1;rw [hx] at h2
     injection h2 with h2
     subst h2;exact hg.far (by dsimp only;omega) _
 · rcases List.mem_append.1 hx with hx | hx
   · have:=h.2.2.2 x hx;simpa using this
   · obtain rfl:x=g:=(by simpa using hx);have:=hg.lt;simpa using this
theorem Tryz.info_intsA:∃i z,Tryz.prog.info? 22=some i∧i.zero=some z∧i.size=1∧i.bytes=24∧z.cells.size=1:=by
 obtain ⟨i,hi,hzz⟩:=Option.map_eq_some_iff.1 Tryz.info_ints
 simp only [Prod.mk.injEq] at hzz
 obtain ⟨hz,hs,hb⟩:=hzz
 exact ⟨i,_,hi,hz,hs,hb,rfl⟩
theorem empty_rowG (w:World) (t:TypeId) {B:Nat} (hB:B≤w.heap.size):(w.alloc (.cells #[] t)).ownsRow B t 1 (.slice (some ⟨w.heap.size,0,none⟩) 0 0) 0 []:=
 ⟨rfl,Or.inr ⟨w.heap.size,0,#[],rfl,hB,heap_alloc_new w _,Nat.le_refl _,by simp [maxLen],rfl,rfl⟩⟩
theorem made_ints2 (n : Nat) (hn : n ≤ 1048576) (w : World) :
    (Instr.makeSlice 22 (.int .i64 (n:Int)) (.int .i64 (n:Int))).run Tryz.prog w=.ok (.slice (some ⟨w.heap.size,0,none⟩) n n) (w.alloc (.cells (Array.replicate n (Value.int .i64 0)) 2)):=by
 have h:=run_make_row' (P:=Tryz.prog) 22 2 (.int .i64 0) 8 Tryz.underlying22 Tryz.info_int64 rfl .i64 .i64 n (by omega) (by omega) w
 rwa [show madeCells #[Value.int .i64 0] n=Array.replicate n (Value.int .i64 0) by (apply Array.ext';rw [toList_madeCells_one];simp)] at h
def rowSl (m:Nat) (gs:List Nat):List Value:=gs.map (fun g=>Value.slice (some ⟨g,0,none⟩) m m)
def RowsB (w:World) (lo dn:Nat) (ims:List (List Tm)) (k:Nat) (gs:List Nat):Prop:=
 gs.length=k∧(∀(i g:Nat) ts,gs[i]? = some g→ims[i]? = some ts→Own w g 2 (((linRow dn ts).map (Value.int .i64)).toArray))∧gs.Pairwise (· < ·)∧∀x∈gs,lo≤x∧x<w.heap.size
theorem RowsB.keep {w w':World} {lo dn k:Nat} {ims:List (List Tm)} {gs:List Nat} (h:RowsB w lo dn ims k gs) (hb:Below w.heap.size w w'):RowsB w' lo dn ims k gs:=
 ⟨h.1,fun i g ts h1 h2=>(h.2.1 i g ts h1 h2).keep hb (h.2.1 i g ts h1 h2).lt,h.2.2.1,fun x hx=>⟨(h.2.2.2 x hx).1,Nat.lt_of_lt_of_le (h.2.2.2 x hx).2 hb.size⟩⟩
theorem RowsB.grown {w w':World} {lo dn k B m n:Nat} {ims:List (List Tm)} {gs:List Nat} {v:Value} {xs:List Value} (h:RowsB w lo dn ims k gs) (ho:w.ownsRow B 22 m v n xs) (hg:w.grownBy w' v.ownBlock):RowsB w' lo dn ims k gs:=
 ⟨h.1,fun i g ts h1 h2=>(h.2.1 i g ts h1 h2).grown hg (own_ne_row (h.2.1 i g ts h1 h2) ho (by decide)),h.2.2.1,fun x hx=>⟨(h.2.2.2 x hx).1,Nat.lt_of_lt_of_le (h.2.2.2 x hx).2 hg.size⟩⟩
theorem RowsB.snoc {w : World} {lo dn k g : Nat} {ims : List (List Tm)} {gs : List Nat} {ts : List Tm} (h : RowsB w lo dn ims k gs) (hx : ims[k]? = some ts) (hlt : ∀ x ∈ gs, x < g) (hlo : lo ≤ g)
    (hg:Own w g 2 (((linRow dn ts).map (Value.int .i64)).toArray)):RowsB w lo dn ims (k+1) (gs++[g]):=by
 refine ⟨by rw [List.length_append,h.1];rfl,fun i g' ts' h1 h2=>?_,?_,fun x hx=>?_⟩
 · by_cases hi:i<k
   · rw [List.getElem?_append_left (by rw [h.1];exact hi)] at h1;exact h.2.1 i g' ts' h1 h2
   · have hik : i = k := by
       have:=(List.getElem?_eq_some_iff.1 h1).1;rw [List.length_append,h.1] at this;simp at this
       omega
     subst hik;rw [List.getElem?_append_right (by rw [h.1];omega),h.1,Nat.sub_self] at h1
     injection h1 with h1
     subst h1;rw [hx] at h2
     injection h2 with h2
     subst h2;exact hg
 · refine List.pairwise_append.2 ⟨h.2.2.1,List.pairwise_singleton _ _,fun x hx y hy=>?_⟩;obtain rfl:y=g:=(by simpa using hy);exact hlt x hx
 · rcases List.mem_append.1 hx with hx | hx
   · exact h.2.2.2 x hx
   · obtain rfl:x=g:=(by simpa using hx);exact ⟨hlo,hg.lt⟩
theorem ownT_row {w : World} {lo m n : Nat} {gs : List Nat} {V : List (List Int)} {v : Value} (hV : V.length = n) (hgs : gs.length = n) (hm : ∀ row ∈ V, row.length = m) (ho : w.ownsRow lo 22 1 v n (rowSl m gs))
    (hr:∀(i g:Nat) row,gs[i]? = some g→V[i]? = some row→Own w g 2 ((row.map (Value.int .i64)).toArray)) (hlg:∀g∈gs,lo≤g) (hup:gs.Pairwise (· < ·)):∃a c,v=.slice a n c∧OwnT w lo w.heap.size a n V:=by
 rcases ho.2 with ⟨hv,h0⟩ | ⟨gO,cap,cur,hv,hb,hg,hn,hmx,hs,ht⟩
 · subst h0;have hV0:V=[]:=List.eq_nil_of_length_eq_zero hV;subst hV0;exact ⟨none,0,hv,OwnT.none_⟩
 refine ⟨some ⟨gO,0,none⟩,cap,hv,hV,fun _=>⟨gO,(List.zipWith (fun g row=>(⟨some ⟨g,0,none⟩,m,m,g,((row.map (Value.int .i64)).toArray)⟩:Rw)) gs V),rfl,hb,(show Own w gO 22 cur from hg).lt,⟨by simp [hgs,hV],⟨cur,hg,?_⟩,?_,?_⟩,?_,?_,?_⟩⟩
 · intro i r hr0;rw [List.getElem?_zipWith] at hr0
   cases hg:gs[i]? with
   | none=>rw [hg] at hr0;simp at hr0
   | some g =>
     cases hv:V[i]? with
     | none=>rw [hg,hv] at hr0;simp at hr0
     | some row =>
       rw [hg,hv] at hr0
       injection hr0 with hr0
       subst hr0;have h1:(rowSl m gs)[i]? = some (Value.slice (some ⟨g,0,none⟩) m m):=(by rw [rowSl,List.getElem?_map,hg];rfl);have hi:=(List.getElem?_eq_some_iff.1 hg).1;rw [←ht,Nat.mul_one,List.getElem?_take,if_pos (by omega),Array.getElem?_toList] at h1;exact h1
 · intro i r hr0 hp;rw [List.getElem?_zipWith] at hr0
   cases hg:gs[i]? with
   | none=>rw [hg] at hr0;simp at hr0
   | some g =>
     cases hv:V[i]? with
     | none=>rw [hg,hv] at hr0;simp at hr0
     | some row =>
       rw [hg,hv] at hr0
       injection hr0 with hr0
       subst hr0;exact ⟨rfl,hr i g row hg hv,by have:=hm row (List.mem_of_getElem? hv);simp;omega⟩
 · intro i j r s hij hr0 hs0 _ _;rw [List.getElem?_zipWith] at hr0 hs0
   cases hg:gs[i]? with
   | none=>rw [hg] at hr0;simp at hr0
   | some g =>
     cases hv:V[i]? with
     | none=>rw [hg,hv] at hr0;simp at hr0
     | some row =>
       cases hg':gs[j]? with
       | none=>rw [hg'] at hs0;simp at hs0
       | some g' =>
         cases hv':V[j]? with
         | none=>rw [hg',hv'] at hs0;simp at hs0
         | some row' =>
           rw [hg,hv] at hr0;rw [hg',hv'] at hs0
           injection hr0 with hr0
           injection hs0 with hs0
           subst hr0;subst hs0;obtain ⟨h1,h2⟩:=List.getElem?_eq_some_iff.1 hg;obtain ⟨h3,h4⟩:=List.getElem?_eq_some_iff.1 hg';have:=List.pairwise_iff_getElem.1 hup i j h1 h3 hij;rw [h2,h4] at this;exact Nat.ne_of_lt this
 · intro r hr0 _;obtain ⟨i,hi,hri⟩:=List.mem_iff_getElem.1 hr0;have hr1:=List.getElem?_eq_getElem hi;rw [hri,List.getElem?_zipWith] at hr1
   cases hg:gs[i]? with
   | none=>rw [hg] at hr1;simp at hr1
   | some g =>
     cases hv:V[i]? with
     | none=>rw [hg,hv] at hr1;simp at hr1
     | some row =>
       rw [hg,hv] at hr1
       injection hr1 with hr1
       subst hr1;exact ⟨hlg g (List.mem_of_getElem? hg),(hr i g row hg hv).lt⟩
 · apply List.ext_getElem?
   intro i;rw [List.getElem?_map,List.getElem?_zipWith,List.getElem?_map]
   cases hv:V[i]? with
   | none=>cases gs[i]? <;> rfl
   | some row =>
     have hi:=(List.getElem?_eq_some_iff.1 hv).1;rw [List.getElem?_eq_getElem (show i<gs.length by omega)];simp [hm row (List.mem_of_getElem? hv)]
 · intro i r row hr0 hv;rw [List.getElem?_zipWith,hv] at hr0
   cases hg:gs[i]? with
   | none=>rw [hg] at hr0;simp at hr0
   | some g =>
     rw [hg] at hr0
     injection hr0 with hr0
     subst hr0;exact IntBlk.ints' (hr i g row hg hv) (hm row (List.mem_of_getElem? hv))
def copyTo (R:List Int) (k:Nat):List Int:=R.take k++List.replicate (R.length - k) 0
theorem copyTo_len {R:List Int} {k:Nat} (hk:k≤R.length):(copyTo R k).length=R.length:=by
 rw [copyTo,List.length_append,List.length_take,List.length_replicate]
 omega
theorem copyTo_set {R:List Int} {k:Nat} {x:Int} (h:R[k]? = some x):(copyTo R k).set k x=copyTo R (k+1):=by
 have hl:=(List.getElem?_eq_some_iff.1 h).1
 have h1:(R.take k).length=k:=by rw [List.length_take];omega
 rw [copyTo,List.set_append_right _ _ (by omega),h1,Nat.sub_self,show R.length - k=(R.length - (k+1))+1 by omega,List.replicate_succ,List.set_cons_zero,copyTo,List.take_add_one,h,Option.toList_some,List.append_assoc]
 rfl
def RowsV (w:World) (gO:Nat) (V:List (List Int)) (k:Nat) (gs:List Nat):Prop:=
 gs.length=k∧(∀(i g:Nat) row,gs[i]? = some g→V[i]? = some row→Own w g 2 (ofI row))∧(gO::gs).Pairwise (· < ·)∧∀x∈gs,x<w.heap.size
theorem RowsV.keep {w w':World} {gO k:Nat} {V:List (List Int)} {gs:List Nat} (h:RowsV w gO V k gs) (hb:Below w.heap.size w w'):RowsV w' gO V k gs:=
 ⟨h.1,fun i g row h1 h2=>(h.2.1 i g row h1 h2).keep hb (h.2.1 i g row h1 h2).lt,h.2.2.1,fun x hx=>Nat.lt_of_lt_of_le (h.2.2.2 x hx) hb.size⟩
theorem RowsV.snoc {w : World} {gO k g : Nat} {V : List (List Int)} {gs : List Nat} {row : List Int} {v : Value} (h : RowsV w gO V k gs) (hx : V[k]? = some row) (hlt : ∀ x ∈ gs, x < g) (hO : gO < g)
    (hg:Own w g 2 (ofI row)):RowsV (w.setCell ⟨gO,k,none⟩ v) gO V (k+1) (gs++[g]):=by
 have hup:=h.2.2.1
 refine ⟨by rw [List.length_append,h.1];rfl,fun i g' ts' h1 h2=>?_,pair_snoc hup hO hlt,fun x hx=>?_⟩
 · by_cases hi:i<k
   · rw [List.getElem?_append_left (by rw [h.1];exact hi)] at h1;have h3:=(List.pairwise_cons.1 hup).1 g' (List.mem_of_getElem? h1);exact (h.2.1 i g' ts' h1 h2).far (by dsimp only;omega) _
   · have hik : i = k := by
       have:=(List.getElem?_eq_some_iff.1 h1).1;rw [List.length_append,h.1] at this;simp at this
       omega
     subst hik;rw [List.getElem?_append_right (by rw [h.1];omega),h.1,Nat.sub_self] at h1
     injection h1 with h1
     subst h1;rw [hx] at h2
     injection h2 with h2
     subst h2;exact hg.far (by dsimp only;omega) _
 · rcases List.mem_append.1 hx with hx | hx
   · have:=h.2.2.2 x hx;simpa using this
   · obtain rfl:x=g:=(by simpa using hx);have:=hg.lt;simpa using this
end Go.Proofs.YtifcfoijcodjbaaGreat
