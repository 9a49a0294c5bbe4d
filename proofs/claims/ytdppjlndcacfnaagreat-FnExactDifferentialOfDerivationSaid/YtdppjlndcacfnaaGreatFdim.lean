
import Derived.Test.YtdppjlndcacfnaaGreatIsAlg
import Derived.Test.YtdppjlndcacfnaaGreatDiffD
import Derived.Test.YtdppjlndcacfnaaGreatSumF
import Derived.Test.YtdppjlndcacfnaaGreatIsFormB
import Derived.Test.YtdppjlndcacfnaaGreatAlgS
import Derived.Test.YtdppjlndcacfnaaGreatDerR
import Derived.Deep.DeepCutAuto
namespace Go.Proofs.YtdppjlndcacfnaaGreat
set_option maxRecDepth 100000
open Go.RowKit Go.Deep
theorem zeroOr_eq {zs:List Int} {ts:List Tm} {x:Int} (hd:degsOk zs=true):zeroOr zs ts x=((listOk zs ts && decide (ts.length≤400)) && (allW zs ts && (degA zs ts==x || ts.length==0))):=by
 have hf:isForm zs ts=(listOk zs ts && decide (ts.length≤400)):=by rw [isForm,hd,Bool.true_and]
 unfold zeroOr codF degF degA
 rw [←hf]
 cases isForm zs ts <;> cases allW zs ts <;> simp
theorem field_form (a:Option Addr) (n c:Nat) (w:World):(Instr.field 59 (.agg #[.slice a n c]) 0).run Tryz.prog w=.ok (.slice a n c) w:=by kernel_rfl
set_option maxHeartbeats 8000000 in
theorem l02Is_c {w : World} {da : Option Addr} {dn : Nat} {zs : List Int} {a : Option Addr} {n : Nat} {ims : List (List Tm)} (dc c : Nat) (hd : Ints w da dn zs) (hdn : dn ≤ 1048576) (hF : Frms w a n ims) (hn : n ≤ 1048576) (hL : ∀ im ∈ ims, (im.length : Int) ≤ 1048576) :
    Calls Tryz.prog 53 #[.agg #[.slice da dn dc,.slice a n c]] w fun e w'=>e=.returned (.bool (isAlg zs ims))∧Below w.heap.size w w':=by
 have HL:=Lib.hid hd.len
 have HLn:=Lib.hid hF.len
 have HFF:=Lib.hid hF
 have HD:=Lib.hid hd
 have HLL:=Lib.hid hL
 have HT:=Lib.hid hF.tm
 clear hL
 have hb0:=bA1 w (.cells #[.slice da dn dc,.slice a n c] 36)
 have hA0:=Own.new w 36 #[.slice da dn dc,.slice a n c]
 have c0:=hA0.cell 0
 have c1:=hA0.cell 1
 cases hdg:degsOk zs with
 | false =>
   have HDG:=Lib.hid hdg;clear hdg;go_enter Tryz.func53,Tryz.ntmps53
   go_upto_region 1 with fail
   generalize w.alloc (.cells #[.slice da dn dc,.slice a n c] 36)=w0 at *;go_wp2_with fail
   refine (l01Degrees_c dc (hd.keep hb0) hdn).mono ?_;rintro e w' ⟨rfl,rfl⟩;rw [HDG.out];go_wp2_with fail
   go_ret
   exact ⟨ret_b (isAlg_no1 HDG.out).symm,hb0⟩
 | true =>
   have HDG:=Lib.hid hdg;clear hdg;by_cases hnd:n=dn
   · subst hnd;have h8:n≤8:=(by have:=degsOk_len HDG.out;have:=HL.out;omega);have hnn:((n:Int) != (n:Int))=false:=(by simp);have HMI:=Lib.hid (degsOk_mild HDG.out);go_enter Tryz.func53,Tryz.ntmps53
     go_upto_region 1 with fail
     generalize w.alloc (.cells #[.slice da n dc,.slice a n c] 36)=w0 at *;generalize hg0:w.heap.size=g0 at *;go_wp2_with fail
     refine (l01Degrees_c dc (hd.keep (by rw [hg0];exact hb0)) hdn).mono ?_;rintro e w' ⟨rfl,rfl⟩;rw [HDG.out];have HG:=Lib.hid hg0;clear hg0;go_wp2_with fail
     clear hnn
     go_loopw [3] (fun y wr=>∃i:Nat,i≤n∧y=.int .i64 i∧Below g0 w wr∧Own wr g0 36 #[.slice da n dc,.slice a n c]∧Hid ((List.range i).all (okIm zs ims)=true)) (fun y _=>n - (intOf y).toNat)
     case atStart=>exact ⟨0,Nat.zero_le _,rfl,hb0,hA0,rfl⟩
     case round=>
      clear hb0 hA0 c0 c1;obtain ⟨i,hi,rfl,hb,hA,H⟩:=hrel;have hbw:Below w.heap.size w wr:=(by rw [HG.out];exact hb);have c0:=hA.cell 0;have c1:=hA.cell 1;by_cases hlt:i<n
      · obtain ⟨b,off,ts,ai,ni,ci,rfl,hbl,hc,hT,hni,hx⟩:=(HFF.out.keep hbw).at_ hlt;obtain ⟨bd,od,z,rfl,hbd,hcd,hz⟩:=(HD.out.keep hbw).at_ hlt;have hz1:=(degsOk_at HDG.out hz.out).1;have hz2:=(degsOk_at HDG.out hz.out).2;have hni2:ni≤1048576:=(by have:=HLL.out ts (List.mem_of_getElem? hx.out);have:=hT.len;omega);have HTL:=Lib.hid hT.len;have HZO:=Lib.hid (zeroOr_eq (ts:=ts) (x:=z+1) HDG.out);have hgw:g0<wr.heap.size:=hA.lt;have hi0:(0:Int)≤(i:Int):=(by omega);have hin:(i:Int)<(n:Int):=(by omega);generalize hQ1:(listOk zs ts && decide (ts.length≤400))=Q1 at *;have HQ1:=Lib.hid hQ1;clear hQ1;go_upto_region 6 with fail
        have hT1:=hT.keep ((Below.refl _ _).drew:Below wr.heap.size wr wr.drew);have hDn:=(HD.out.keep hbw).keep ((Below.refl _ _).drew:Below wr.heap.size wr wr.drew);have hAd:Own wr.drew g0 36 #[.slice (some ⟨bd,od,none⟩) n dc,.slice (some ⟨b,off,none⟩) n c]:=hA;have hbd2:Below g0 w wr.drew:=hb.drew;have hcw:wr.drew.cell? ⟨b,off+i,none⟩=some (.slice ai ni ci):=hc;clear hA hb c0 c1 hT;cases Q1
        case false=>
         go_region_held3 (fun w'=>w'.cell? ⟨g0,0,none⟩=some (.slice (some ⟨bd,od,none⟩) n dc)∧w'.cell? ⟨g0,1,none⟩=some (.slice (some ⟨b,off,none⟩) n c)∧w'.cell? ⟨b,off+i,none⟩=some (.slice ai ni ci)) (exact ⟨hAd.cell 0,hAd.cell 1,hcw⟩)
          (first | (go_at_call 56;refine (l01Is_c dc ci hDn (by omega) hT1 hni2).mono ?_;rintro e wv ⟨rfl,hbv⟩;rw [HQ1.out];have hb':=bT' hbd2 hbv (Nat.le_of_lt hAd.lt);have hA1:=hAd.keep hbv hAd.lt;have hc2:=(World.cell?_of_block (a:=⟨b,off+i,none⟩) (hbv.block b hbl)).trans hcw;clear hAd hcw;have hAd:=hA1;have hcw:=hc2))
         go_wp2_with fail
         go_ret
         exact ⟨ret_b (isAlg_no3 HLn.out hlt (okIm_of hz.out hx.out (by rw [HZO.out];rfl))).symm,by rw [HG.out];exact hb'⟩
        case true=>
         go_region_held3 (fun w'=>w'.cell? ⟨g0,0,none⟩=some (.slice (some ⟨bd,od,none⟩) n dc)∧w'.cell? ⟨g0,1,none⟩=some (.slice (some ⟨b,off,none⟩) n c)∧w'.cell? ⟨b,off+i,none⟩=some (.slice ai ni ci)) (exact ⟨hAd.cell 0,hAd.cell 1,hcw⟩)
          (first | (go_at_call 56;refine (l01Is_c dc ci hDn (by omega) hT1 hni2).mono ?_;rintro e wv ⟨rfl,hbv⟩;rw [HQ1.out];have hb1:=bT' hbd2 hbv (Nat.le_of_lt hAd.lt);have hA1:=hAd.keep hbv hAd.lt;have hT2:=hT1.keep hbv;have hD2:=hDn.keep hbv;have hc2:=(World.cell?_of_block (a:=⟨b,off+i,none⟩) (hbv.block b hbl)).trans hcw;have hd2:=(World.cell?_of_block (a:=⟨bd,od+i,none⟩) (hbv.block bd hbd)).trans (show wr.drew.cell? ⟨bd,od+i,none⟩=some (.int .i64 z) from hcd);clear hAd hcw;have hAd:=hA1;have hcw:=hc2))
         clear hT1 hDn hAd hbd2 hcw hbv;go_upto_region 8 with fail
         generalize hDv:degA zs ts=D at *;generalize hWv:allW zs ts=W at *;have HDV:=Lib.hid hDv;have HWV:=Lib.hid hWv;clear hDv hWv;have hT3:=hT2.keep ((Below.refl _ _).drew:Below wv.heap.size wv wv.drew);have hD3:=hD2.keep ((Below.refl _ _).drew:Below wv.heap.size wv wv.drew);have hA3:Own wv.drew g0 36 #[.slice (some ⟨bd,od,none⟩) n dc,.slice (some ⟨b,off,none⟩) n c]:=hA1;have hb3:Below g0 w wv.drew:=hb1.drew;have hc3:wv.drew.cell? ⟨b,off+i,none⟩=some (.slice ai ni ci):=hc2;have hd3:wv.drew.cell? ⟨bd,od+i,none⟩=some (.int .i64 z):=hd2;have hbl3:b<wv.drew.heap.size:=World.block_lt_of_cell? _ _ hc3;have hbd3:bd<wv.drew.heap.size:=World.block_lt_of_cell? _ _ hd3;clear hT2 hD2 hA1 hb1 hc2 hd2 hc hcd
         go_region_held3 (fun w'=>w'.cell? ⟨g0,0,none⟩=some (.slice (some ⟨bd,od,none⟩) n dc)∧w'.cell? ⟨g0,1,none⟩=some (.slice (some ⟨b,off,none⟩) n c)∧w'.cell? ⟨b,off+i,none⟩=some (.slice ai ni ci)) (exact ⟨hA3.cell 0,hA3.cell 1,hc3⟩)
          (first | (go_at_call 55;refine (l01Degree_c dc ci hD3 h8 HMI.out hT3 hni2).mono ?_;rintro e wx ⟨rfl,hbx⟩;rw [HDV.out,HWV.out];have hb4:=bT' hb3 hbx (Nat.le_of_lt hA3.lt);have hA4:=hA3.keep hbx hA3.lt;have hc4:=(World.cell?_of_block (a:=⟨b,off+i,none⟩) (hbx.block b hbl3)).trans hc3;have hd4:=(World.cell?_of_block (a:=⟨bd,od+i,none⟩) (hbx.block bd hbd3)).trans hd3;clear hA3 hb3 hc3 hd3;have hA3:=hA4;have hc3:=hc4;have hd3:=hd4))
         clear hT3 hD3 hA3 hc3 hd3 hbx;have c0:=hA4.cell 0;have c1:=hA4.cell 1
         cases W with
         | false =>
           go_wp2_with fail
           go_ret
           exact ⟨ret_b (isAlg_no3 HLn.out hlt (okIm_of hz.out hx.out (by rw [HZO.out];rfl))).symm,by rw [HG.out];exact hb4⟩
         | true =>
           by_cases hn0:ni=0
           · subst hn0;go_wp2_with fail
             go_roundw
             case rel=>exact ⟨i+1,by omega,by go_num,hb4,hA4,range_all_step H.out (okIm_of hz.out hx.out (by rw [HZO.out,HTL.out];simp))⟩
             case measure=>simp [intOf] <;> omega
           · have hnp:(0:Int)<(ni:Int):=(by omega);have HN0:=Lib.hid hn0;clear hn0;by_cases hDz:D=z+1
             · subst hDz;have hzz:((z+1) != (z+1))=false:=(by simp);go_wp2_with fail
               go_roundw
               case rel=>exact ⟨i+1,by omega,by go_num,hb4,hA4,range_all_step H.out (okIm_of hz.out hx.out (by rw [HZO.out];simp))⟩
               case measure=>simp [intOf] <;> omega
             · have hzb:(D != (z+1))=true:=(by simpa using hDz);go_wp2_with fail
               go_ret
               exact ⟨ret_b (isAlg_no3 HLn.out hlt (okIm_of hz.out hx.out (by rw [HZO.out,HTL.out];simp [hDz,HN0.out]))).symm,by rw [HG.out];exact hb4⟩
      · have he:i=n:=(by omega);subst he
        have HI:Hid (allIm zs ims=true):=by
         have:=H.out;exact Lib.hid (show allIm zs ims=true by rw [allIm,HLn.out];exact this)
        have HOK:Hid (AlgOk zs ims):=Lib.hid (algOk_of HDG.out (HLn.out.trans HL.out.symm) HI.out HT.out);clear H;go_wp2_with fail
        go_loopw [6] (fun y wx=>∃k:Nat,k≤i∧y=.int .i64 k∧Below g0 w wx∧Own wx g0 36 #[.slice da i dc,.slice a i c]∧Hid ((List.range k).all (okD zs ims)=true)) (fun y _=>i - (intOf y).toNat)
        case atStart=>exact ⟨0,Nat.zero_le _,rfl,hb,hA,rfl⟩
        case round=>
         clear hb hA c0 c1 hbw;obtain ⟨k,hk,rfl,hb,hA,H⟩:=hrel;have hbw:Below w.heap.size w wr:=(by rw [HG.out];exact hb);have c0:=hA.cell 0;have c1:=hA.cell 1;by_cases hlt2:k<i
         · obtain ⟨b,off,ts,ai,ni,ci,rfl,hbl,hc,hT,hni,hx⟩:=(HFF.out.keep hbw).at_ hlt2;have hmem:=List.mem_of_getElem? hx.out;have hfm:=HOK.out.fm ts hmem;have hk1:=isForm_fit hfm;have hf1:=isForm_f hfm;have hn4:ni≤400:=(by have:=isForm_400 hfm;have:=hT.len;omega);have HKF:=Lib.hid hk1;have HFM:=Lib.hid hf1;have HS:=Lib.hid (HOK.out.diff ts [] 0 (HT.out ts hmem) hk1 sum9_nil);obtain ⟨N,hN⟩:∃N,(diffT zs ims [] ts).length=N:=⟨_,rfl⟩;have HN:=Lib.hid hN;have HCL:=Lib.hid (show closedB zs ims ts=(N==0) by rw [closedB,hN]);clear hmem hfm hk1 hf1 hN;have hgw:g0<wr.heap.size:=hA.lt;have hi0:(0:Int)≤(k:Int):=(by omega);have hin:(k:Int)<(i:Int):=(by omega);have hfld:=field_form;go_upto_region 14 with fail
           have hT1:=hT.keep ((Below.refl _ _).drew:Below wr.heap.size wr wr.drew);have hDn:=(HD.out.keep hbw).keep ((Below.refl _ _).drew:Below wr.heap.size wr wr.drew);have hFn:=(HFF.out.keep hbw).keep ((Below.refl _ _).drew:Below wr.heap.size wr wr.drew);have hAd:Own wr.drew g0 36 #[.slice da i dc,.slice (some ⟨b,off,none⟩) i c]:=hA;have hbd2:Below g0 w wr.drew:=hb.drew;have hcw:wr.drew.cell? ⟨b,off+k,none⟩=some (.slice ai ni ci):=hc;clear hA hb c0 c1 hT;by_cases hN0:N=0
           · subst hN0
             go_region_held3 (fun w'=>w'.cell? ⟨g0,0,none⟩=some (.slice da i dc)∧w'.cell? ⟨g0,1,none⟩=some (.slice (some ⟨b,off,none⟩) i c)∧w'.cell? ⟨b,off+k,none⟩=some (.slice ai ni ci)) (exact ⟨hAd.cell 0,hAd.cell 1,hcw⟩)
              (first | (go_at_call 71;refine (l02D_c dc c ci hDn hFn hT1 HOK.out HMI.out HKF.out HFM.out hn4).mono ?_;rintro e wv ⟨v,rfl,hO,hbv⟩;obtain ⟨va,vc,rfl,hvT⟩:=hO.r.terms HS.out.tm HN.out;have hb4:=bT' hbd2 hbv (Nat.le_of_lt hAd.lt);have hA4:=hAd.keep hbv hAd.lt;have hc4:=(World.cell?_of_block (a:=⟨b,off+k,none⟩) (hbv.block b hbl)).trans hcw;clear hO hvT hAd hcw hbd2;have hAd:=hA4;have hcw:=hc4))
             go_wp2_with fail
             go_roundw
             case rel=>exact ⟨k+1,by omega,by go_num,hb4,hA4,range_all_step H.out (okD_of hx.out (by rw [HCL.out];rfl))⟩
             case measure=>simp [intOf] <;> omega
           · have hNp:(0:Int)<(N:Int):=(by omega);have HN0:=Lib.hid hN0;clear hN0
             go_region_held3 (fun w'=>w'.cell? ⟨g0,0,none⟩=some (.slice da i dc)∧w'.cell? ⟨g0,1,none⟩=some (.slice (some ⟨b,off,none⟩) i c)∧w'.cell? ⟨b,off+k,none⟩=some (.slice ai ni ci)) (exact ⟨hAd.cell 0,hAd.cell 1,hcw⟩)
              (first | (go_at_call 71;refine (l02D_c dc c ci hDn hFn hT1 HOK.out HMI.out HKF.out HFM.out hn4).mono ?_;rintro e wv ⟨v,rfl,hO,hbv⟩;obtain ⟨va,vc,rfl,hvT⟩:=hO.r.terms HS.out.tm HN.out;have hb4:=bT' hbd2 hbv (Nat.le_of_lt hAd.lt);have hA4:=hAd.keep hbv hAd.lt;have hc4:=(World.cell?_of_block (a:=⟨b,off+k,none⟩) (hbv.block b hbl)).trans hcw;clear hO hvT hAd hcw hbd2;have hAd:=hA4;have hcw:=hc4))
             go_wp2_with fail
             go_ret
             exact ⟨ret_b (isAlg_no4 HLn.out hlt2 (okD_of hx.out (by rw [HCL.out];simpa using HN0.out))).symm,by rw [HG.out];exact hb4⟩
         · have he:k=i:=(by omega);subst he;go_wp2_with fail
           go_ret
           exact ⟨ret_b (isAlg_yes HDG.out (HLn.out.trans HL.out.symm) HI.out (by rw [allD,HLn.out];exact H.out)).symm,by rw [HG.out];exact hb⟩
   · have hnb:((n:Int) != (dn:Int))=true:=(by simp;omega);have hnc:¬(n:Int)=(dn:Int):=(by omega);go_enter Tryz.func53,Tryz.ntmps53
     go_upto_region 1 with fail
     generalize w.alloc (.cells #[.slice da dn dc,.slice a n c] 36)=w0 at *;go_wp2_with fail
     refine (l01Degrees_c dc (hd.keep hb0) hdn).mono ?_;rintro e w' ⟨rfl,rfl⟩;rw [HDG.out];go_wp2_with fail
     go_ret
     exact ⟨ret_b (isAlg_no2 (by rw [HLn.out,HL.out];exact hnd)).symm,hb0⟩
theorem sum_okW {zs m k:List Int} (F:FitW zs m k) (hn:isNul zs m k=false):monoOk zs (addM m k)=within (addM m k):=by
 rw [Bool.eq_iff_iff]
 have hl:=addM_len F.hm.1 F.hk.1
 constructor
 · intro h;rw [within,List.all_eq_true];intro x hx;obtain ⟨i,hi,rfl⟩:=List.mem_iff_getElem.1 hx;have:=mono20 h (i:=i) (by omega) (List.getElem?_eq_getElem hi);simpa using this
 · intro h;rw [monoOk,List.all_eq_true];intro i hi;have hi8:i<8:=(by simpa using hi);obtain ⟨y,hy0,-,-,HY⟩:=mono_at F.hm hi8;obtain ⟨z,hz0,-,-,HZ⟩:=mono_at F.hk hi8;have hA:=addM_get HY.out HZ.out;rw [fits_eq hA];simp only [decide_eq_true_eq]
   cases hz:zs[i]? with
   | none =>
     have t1:=F.tm i (List.getElem?_eq_none_iff.1 hz) hi8;have t2:=F.tk i (List.getElem?_eq_none_iff.1 hz) hi8;rw [HY.out] at t1;rw [HZ.out] at t2
     injection t1 with t1
     injection t2 with t2
     rw [capAt,hz,t1,t2];decide
   | some d =>
     rw [capAt,hz]
     cases ho:odd d with
     | true =>
       have hb:bad3 (d,y,z)=false:=by
        have:=hn;rw [isNul,List.any_eq_false] at this;have:=this (d,y,z) (List.mem_of_getElem? (trip_get hz HY.out HZ.out));simpa using this
       simp only [bad3,ho,Bool.true_and,decide_eq_false_iff_not] at hb;simp;omega
     | false =>
       rw [within,List.all_eq_true] at h;have:=h _ (List.mem_of_getElem? hA);simpa [ho] using this
def WinOk (zs:List Int) (T:List Tm):Prop:=∀x∈T,monoOk zs x.m=within x.m
theorem Two.winOkW {zs:List Int} {fs gs:List Tm} (h:Two zs fs gs):WinOk zs (timesT zs gs [] fs):=
 times_all (p:=fun m=>monoOk zs m=within m) (by simp) (fun t ht u hu hj=>by
  have hn:isNul zs t.m u.m=false:=by
   unfold joinS at hj;split at hj
   · exact absurd rfl hj
   · rename_i h1;simpa using h1
  rw [join_ne hj]
  exact sum_okW (h.fit t ht u hu) hn)
theorem AlgOk.winBetween {zs m:List Int} {ims:List (List Tm)} (h:AlgOk zs ims) {i:Nat} (hm:IsMono m) (ok:monoOk zs m=true) (hi:i<zs.length) (hp:0<m.getD i 0):WinOk zs (_root_.Go.Proofs.YtdppjlndcacfnaaGreat.between zs (leftM m i) (backM m i) (ims.getD i [])):=by
 obtain ⟨h1,h2,h3,h4,h5⟩:=h.at_ i
 exact (two_back h.h8 hm ok hi hp h2 h3 h4 h5).winOkW
theorem AlgOk.winTerm {zs:List Int} {ims:List (List Tm)} (h:AlgOk zs ims) {t:Tm} {out:List Tm} (hm:IsMono t.m) (ok:monoOk zs t.m=true) (H:WinOk zs out):∀i:Nat,i≤zs.length→WinOk zs (termT zs ims t out i)
 | 0,_=>by rw [termT];exact H
 | i + 1, hi => by
   have ih:=h.winTerm hm ok H i (by omega);have hg:=getD_mono hm i;rw [termT];split
   · exact ih
   · exact addT_all (p:=fun x=>monoOk zs x.m=within x.m) _ _ ih (fun g hg' _ _=>h.winBetween hm ok (by omega) (by omega) g hg') (fun f hf _ _=>ih f hf)
theorem AlgOk.winDiff {zs:List Int} {ims:List (List Tm)} (h:AlgOk zs ims):∀(fs out:List Tm),(∀t∈fs,IsTm t)→(∀t∈fs,monoOk zs t.m=true)→WinOk zs out→WinOk zs (diffT zs ims out fs)
 | [],out,_,_,H=>H
 | t::fs,out,ht,hk,H=>h.winDiff fs _ (fun u hu=>ht u (by simp [hu])) (fun u hu=>hk u (by simp [hu])) (h.winTerm (ht t (by simp)).1 (hk t (by simp)) H zs.length (Nat.le_refl _))
def okT (zs:List Int) (T:List Tm):Bool:=listOk zs T && decide (T.length≤400)
theorem good_lsOk {zs:List Int} {T:List Tm} (hg:Good T) (hw:WinOk zs T):listOk zs T=T.all (fun x=>within x.m):=by
 rw [Bool.eq_iff_iff,List.all_eq_true]
 constructor
 · intro h1 x hx;have:=listOk_all h1 x hx;simp only [okTm,Bool.and_eq_true] at this;rw [←hw x hx];exact this.1
 · intro h1;refine listOk_of (fun x hx=>?_) hg.srt;have:=hg.nz x hx;exact okTm_yes (by rw [hw x hx];exact h1 x hx) (by simpa using this)
theorem len_nodup {α:Type} [DecidableEq α]:∀{K l:List α},K.Nodup→(∀x∈K,x∈l)→K.length≤l.length
 | [],_,_,_=>Nat.zero_le _
 | x :: K, l, hn, h => by
   rw [List.nodup_cons] at hn;have hx:=h x (by simp);have h1:=len_nodup (K:=K) (l:=l.erase x) hn.2 (fun y hy=>(List.mem_erase_of_ne (fun e=>hn.1 (by rw [←e];exact hy))).2 (h y (by simp [hy])));rw [List.length_erase_of_mem hx] at h1;have:=List.length_pos_of_mem hx;rw [List.length_cons];omega
theorem coef_nz {ts:List Tm} {m:List Int} (h:¬coef ts m=0):∃t∈ts,t.m=m:=by
 by_cases h1:∃t∈ts,t.m=m
 · exact h1
 · exact absurd (coef_none fun t ht e=>h1 ⟨t,ht,e⟩) h
theorem FormOf.told {w w' : World} {S : List Int → Int} {e : Ending} {zs : List Int} {T : List Tm} (h : FormOf w S e w') (hg : Good T) (ht : ∀ x ∈ T, IsTm x) (hw : WinOk zs T) (hc : ∀ m, S m = coef T m) :
    (okT zs T=true∧∃v,e=.returned (.tuple #[.agg #[v],.int .i64 0])∧OwnR w' w.heap.size v T)∨(okT zs T=false∧e=.returned (.tuple #[.agg #[.slice none 0 0],.int .i64 3])):=by
 rcases h with ⟨v,L,rfl,hO,hs,hT,hF,hW,hl,hco⟩ | ⟨rfl,hbad⟩
 · have hLR:L=T:=srt_ext L _ hs hg.srt (fun t h=>(hT t h).1) (fun x hx=>(ht x hx).1) (fun t h=>by have:=hF t h;omega) (fun t h=>by have:=hg.nz t h;omega) (fun m hm=>by rw [hco m hm,hc m]);subst hLR;left
   refine ⟨?_,v,rfl,hO⟩;rw [okT,good_lsOk hg hw,Bool.and_eq_true,decide_eq_true_eq,List.all_eq_true];exact ⟨hW,hl⟩
 · right
   refine ⟨?_,rfl⟩;rw [okT,Bool.and_eq_false_iff,decide_eq_false_iff_not]
   rcases hbad with ⟨m,hm,hne,hw2⟩ | ⟨K,hK,h4,hk⟩
   · left
     rw [hc m] at hne;obtain ⟨t,ht',rfl⟩:=coef_nz hne;rw [good_lsOk hg hw,List.all_eq_false];exact ⟨t,ht',by rw [hw2];simp⟩
   · right
     have hsub:∀m∈K,m∈T.map (·.m):=fun m hm=>by
      have h:=(hk m hm).2;rw [hc m] at h;obtain ⟨t,ht',rfl⟩:=coef_nz h;exact List.mem_map.2 ⟨t,ht',rfl⟩
     have:=len_nodup hK hsub;rw [List.length_map] at this;omega
theorem ownR_none (w:World) (B:Nat):OwnR w B (.slice none 0 0) []:=World.ownsRow_nil _ _ _ _
theorem isAlg_dz {zs:List Int} {ims:List (List Tm)} (h:isAlg zs ims=true):degsOk zs=true:=by
 simp only [isAlg,Bool.and_eq_true,decide_eq_true_eq] at h
 exact h.1
end Go.Proofs.YtdppjlndcacfnaaGreat
