
import Derived.Test.YtndnkeijddagiaaIsAlg
import Derived.Test.YtndnkeijddagiaaDiffD
namespace Go.Proofs.Ytndnkeijddagiaa
set_option maxRecDepth 100000
open Go.RowKit Go.Deep
theorem zeroOr_eq {zs:List Int} {ts:List Tm} {x:Int} (hd:degsOk zs=true):zeroOr zs ts x=((listOk zs ts && decide (ts.length≤400)) && (allW zs ts && (degA zs ts==x || ts.length==0))):=by
 have hf:isForm zs ts=(listOk zs ts && decide (ts.length≤400)):=by rw [isForm,hd,Bool.true_and]
 unfold zeroOr codF degF degA
 rw [←hf]
 cases isForm zs ts <;> cases allW zs ts <;> simp
theorem field_form (a:Option Addr) (n c:Nat) (w:World):(Instr.field 47 (.agg #[.slice a n c]) 0).run Try.prog w=.ok (.slice a n c) w:=by kernel_rfl
set_option maxHeartbeats 8000000 in
theorem l02Is_c {w : World} {da : Option Addr} {dn : Nat} {zs : List Int} {a : Option Addr} {n : Nat} {ims : List (List Tm)} (dc c : Nat) (hd : Ints w da dn zs) (hdn : dn ≤ 1048576) (hF : Frms w a n ims) (hn : n ≤ 1048576) (hL : ∀ im ∈ ims, (im.length : Int) ≤ 1048576) :
    Calls Try.prog 62 #[.agg #[.slice da dn dc,.slice a n c]] w fun e w'=>e=.returned (.bool (isAlg zs ims))∧Below w.heap.size w w':=by
 have HL:=Lib.hid hd.len
 have HLn:=Lib.hid hF.len
 have HFF:=Lib.hid hF
 have HD:=Lib.hid hd
 have HLL:=Lib.hid hL
 have HT:=Lib.hid hF.tm
 clear hL
 have hb0:=bA1 w (.cells #[.slice da dn dc,.slice a n c] 29)
 have hA0:=Own.new w 29 #[.slice da dn dc,.slice a n c]
 have c0:=hA0.cell 0
 have c1:=hA0.cell 1
 cases hdg:degsOk zs with
 | false =>
   have HDG:=Lib.hid hdg;clear hdg;go_enter Try.func62,Try.ntmps62
   go_upto_region 1 with fail
   generalize w.alloc (.cells #[.slice da dn dc,.slice a n c] 29)=w0 at *;go_wp2_with fail
   refine (l01Degrees_c dc (hd.keep hb0) hdn).mono ?_;rintro e w' ⟨rfl,rfl⟩;rw [HDG.out];go_wp2_with fail
   go_ret
   exact ⟨ret_b (isAlg_no1 HDG.out).symm,hb0⟩
 | true =>
   have HDG:=Lib.hid hdg;clear hdg;by_cases hnd:n=dn
   · subst hnd;have h8:n≤8:=(by have:=degsOk_len HDG.out;have:=HL.out;omega);have hnn:((n:Int) != (n:Int))=false:=(by simp);have HMI:=Lib.hid (degsOk_mild HDG.out);go_enter Try.func62,Try.ntmps62
     go_upto_region 1 with fail
     generalize w.alloc (.cells #[.slice da n dc,.slice a n c] 29)=w0 at *;generalize hg0:w.heap.size=g0 at *;go_wp2_with fail
     refine (l01Degrees_c dc (hd.keep (by rw [hg0];exact hb0)) hdn).mono ?_;rintro e w' ⟨rfl,rfl⟩;rw [HDG.out];have HG:=Lib.hid hg0;clear hg0;go_wp2_with fail
     clear hnn
     go_loopw [3] (fun y wr=>∃i:Nat,i≤n∧y=.int .i64 i∧Below g0 w wr∧Own wr g0 29 #[.slice da n dc,.slice a n c]∧Hid ((List.range i).all (okIm zs ims)=true)) (fun y _=>n - (intOf y).toNat)
     case atStart=>exact ⟨0,Nat.zero_le _,rfl,hb0,hA0,rfl⟩
     case round=>
      clear hb0 hA0 c0 c1;obtain ⟨i,hi,rfl,hb,hA,H⟩:=hrel;have hbw:Below w.heap.size w wr:=(by rw [HG.out];exact hb);have c0:=hA.cell 0;have c1:=hA.cell 1;by_cases hlt:i<n
      · obtain ⟨b,off,ts,ai,ni,ci,rfl,hbl,hc,hT,hni,hx⟩:=(HFF.out.keep hbw).at_ hlt;obtain ⟨bd,od,z,rfl,hbd,hcd,hz⟩:=(HD.out.keep hbw).at_ hlt;have hz1:=(degsOk_at HDG.out hz.out).1;have hz2:=(degsOk_at HDG.out hz.out).2;have hni2:ni≤1048576:=(by have:=HLL.out ts (List.mem_of_getElem? hx.out);have:=hT.len;omega);have HTL:=Lib.hid hT.len;have HZO:=Lib.hid (zeroOr_eq (ts:=ts) (x:=z+1) HDG.out);have hgw:g0<wr.heap.size:=hA.lt;have hi0:(0:Int)≤(i:Int):=(by omega);have hin:(i:Int)<(n:Int):=(by omega);generalize hQ1:(listOk zs ts && decide (ts.length≤400))=Q1 at *;have HQ1:=Lib.hid hQ1;clear hQ1;go_upto_region 6 with fail
        have hT1:=hT.keep ((Below.refl _ _).drew:Below wr.heap.size wr wr.drew);have hDn:=(HD.out.keep hbw).keep ((Below.refl _ _).drew:Below wr.heap.size wr wr.drew);have hAd:Own wr.drew g0 29 #[.slice (some ⟨bd,od,none⟩) n dc,.slice (some ⟨b,off,none⟩) n c]:=hA;have hbd2:Below g0 w wr.drew:=hb.drew;have hcw:wr.drew.cell? ⟨b,off+i,none⟩=some (.slice ai ni ci):=hc;clear hA hb c0 c1 hT;cases Q1
        case false=>
         go_region_held3 (fun w'=>w'.cell? ⟨g0,0,none⟩=some (.slice (some ⟨bd,od,none⟩) n dc)∧w'.cell? ⟨g0,1,none⟩=some (.slice (some ⟨b,off,none⟩) n c)∧w'.cell? ⟨b,off+i,none⟩=some (.slice ai ni ci)) (exact ⟨hAd.cell 0,hAd.cell 1,hcw⟩)
          (first | (go_at_call 104;refine (l01Is_c dc ci hDn (by omega) hT1 hni2).mono ?_;rintro e wv ⟨rfl,hbv⟩;rw [HQ1.out];have hb':=bT' hbd2 hbv (Nat.le_of_lt hAd.lt);have hA1:=hAd.keep hbv hAd.lt;have hc2:=(World.cell?_of_block (a:=⟨b,off+i,none⟩) (hbv.block b hbl)).trans hcw;clear hAd hcw;have hAd:=hA1;have hcw:=hc2))
         go_wp2_with fail
         go_ret
         exact ⟨ret_b (isAlg_no3 HLn.out hlt (okIm_of hz.out hx.out (by rw [HZO.out];rfl))).symm,by rw [HG.out];exact hb'⟩
        case true=>
         go_region_held3 (fun w'=>w'.cell? ⟨g0,0,none⟩=some (.slice (some ⟨bd,od,none⟩) n dc)∧w'.cell? ⟨g0,1,none⟩=some (.slice (some ⟨b,off,none⟩) n c)∧w'.cell? ⟨b,off+i,none⟩=some (.slice ai ni ci)) (exact ⟨hAd.cell 0,hAd.cell 1,hcw⟩)
          (first | (go_at_call 104;refine (l01Is_c dc ci hDn (by omega) hT1 hni2).mono ?_;rintro e wv ⟨rfl,hbv⟩;rw [HQ1.out];have hb1:=bT' hbd2 hbv (Nat.le_of_lt hAd.lt);have hA1:=hAd.keep hbv hAd.lt;have hT2:=hT1.keep hbv;have hD2:=hDn.keep hbv;have hc2:=(World.cell?_of_block (a:=⟨b,off+i,none⟩) (hbv.block b hbl)).trans hcw;have hd2:=(World.cell?_of_block (a:=⟨bd,od+i,none⟩) (hbv.block bd hbd)).trans (show wr.drew.cell? ⟨bd,od+i,none⟩=some (.int .i64 z) from hcd);clear hAd hcw;have hAd:=hA1;have hcw:=hc2))
         clear hT1 hDn hAd hbd2 hcw hbv;go_upto_region 8 with fail
         generalize hDv:degA zs ts=D at *;generalize hWv:allW zs ts=W at *;have HDV:=Lib.hid hDv;have HWV:=Lib.hid hWv;clear hDv hWv;have hT3:=hT2.keep ((Below.refl _ _).drew:Below wv.heap.size wv wv.drew);have hD3:=hD2.keep ((Below.refl _ _).drew:Below wv.heap.size wv wv.drew);have hA3:Own wv.drew g0 29 #[.slice (some ⟨bd,od,none⟩) n dc,.slice (some ⟨b,off,none⟩) n c]:=hA1;have hb3:Below g0 w wv.drew:=hb1.drew;have hc3:wv.drew.cell? ⟨b,off+i,none⟩=some (.slice ai ni ci):=hc2;have hd3:wv.drew.cell? ⟨bd,od+i,none⟩=some (.int .i64 z):=hd2;have hbl3:b<wv.drew.heap.size:=World.block_lt_of_cell? _ _ hc3;have hbd3:bd<wv.drew.heap.size:=World.block_lt_of_cell? _ _ hd3;clear hT2 hD2 hA1 hb1 hc2 hd2 hc hcd
         go_region_held3 (fun w'=>w'.cell? ⟨g0,0,none⟩=some (.slice (some ⟨bd,od,none⟩) n dc)∧w'.cell? ⟨g0,1,none⟩=some (.slice (some ⟨b,off,none⟩) n c)∧w'.cell? ⟨b,off+i,none⟩=some (.slice ai ni ci)) (exact ⟨hA3.cell 0,hA3.cell 1,hc3⟩)
          (first | (go_at_call 71;refine (l01Degree_c dc ci hD3 h8 HMI.out hT3 hni2).mono ?_;rintro e wx ⟨rfl,hbx⟩;rw [HDV.out,HWV.out];have hb4:=bT' hb3 hbx (Nat.le_of_lt hA3.lt);have hA4:=hA3.keep hbx hA3.lt;have hc4:=(World.cell?_of_block (a:=⟨b,off+i,none⟩) (hbx.block b hbl3)).trans hc3;have hd4:=(World.cell?_of_block (a:=⟨bd,od+i,none⟩) (hbx.block bd hbd3)).trans hd3;clear hA3 hb3 hc3 hd3;have hA3:=hA4;have hc3:=hc4;have hd3:=hd4))
         clear hT3 hD3 hA3 hc3 hd3 hbx;have c0:=hA4.cell 0;have c1:=hA4.cell 1
         cases W with
         | false =>
           go_wp2_with fail
           go_ret
           exact ⟨ret_b (isAlg_no3 HLn.out hlt (okIm_of hz.out hx.out (by rw [HZO.out];rfl))).symm,by rw [HG.out];exact hb4⟩
         | true =>
           by_cases hn0:ni=0
           · subst hn0;go_wp2_with fail
             go_roundw
             case rel=>exact ⟨i+1,by omega,by go_num,hb4,hA4,range_all_step H.out (okIm_of hz.out hx.out (by rw [HZO.out,HTL.out];simp))⟩
             case measure=>simp [intOf] <;> omega
           · have hnp:(0:Int)<(ni:Int):=(by omega);have HN0:=Lib.hid hn0;clear hn0;by_cases hDz:D=z+1
             · subst hDz;have hzz:((z+1) != (z+1))=false:=(by simp);go_wp2_with fail
               go_roundw
               case rel=>exact ⟨i+1,by omega,by go_num,hb4,hA4,range_all_step H.out (okIm_of hz.out hx.out (by rw [HZO.out];simp))⟩
               case measure=>simp [intOf] <;> omega
             · have hzb:(D != (z+1))=true:=(by simpa using hDz);go_wp2_with fail
               go_ret
               exact ⟨ret_b (isAlg_no3 HLn.out hlt (okIm_of hz.out hx.out (by rw [HZO.out,HTL.out];simp [hDz,HN0.out]))).symm,by rw [HG.out];exact hb4⟩
      · have he:i=n:=(by omega);subst he
        have HI:Hid (allIm zs ims=true):=by
         have:=H.out;exact Lib.hid (show allIm zs ims=true by rw [allIm,HLn.out];exact this)
        have HOK:Hid (AlgOk zs ims):=Lib.hid (algOk_of HDG.out (HLn.out.trans HL.out.symm) HI.out HT.out);clear H;go_wp2_with fail
        go_loopw [6] (fun y wx=>∃k:Nat,k≤i∧y=.int .i64 k∧Below g0 w wx∧Own wx g0 29 #[.slice da i dc,.slice a i c]∧Hid ((List.range k).all (okD zs ims)=true)) (fun y _=>i - (intOf y).toNat)
        case atStart=>exact ⟨0,Nat.zero_le _,rfl,hb,hA,rfl⟩
        case round=>
         clear hb hA c0 c1 hbw;obtain ⟨k,hk,rfl,hb,hA,H⟩:=hrel;have hbw:Below w.heap.size w wr:=(by rw [HG.out];exact hb);have c0:=hA.cell 0;have c1:=hA.cell 1;by_cases hlt2:k<i
         · obtain ⟨b,off,ts,ai,ni,ci,rfl,hbl,hc,hT,hni,hx⟩:=(HFF.out.keep hbw).at_ hlt2;have hmem:=List.mem_of_getElem? hx.out;have hfm:=HOK.out.fm ts hmem;have hk1:=isForm_fit hfm;have hf1:=isForm_f hfm;have hn4:ni≤400:=(by have:=isForm_400 hfm;have:=hT.len;omega);have HKF:=Lib.hid hk1;have HFM:=Lib.hid hf1;have HS:=Lib.hid (HOK.out.diff ts [] 0 (HT.out ts hmem) hk1 sum9_nil);obtain ⟨N,hN⟩:∃N,(diffT zs ims [] ts).length=N:=⟨_,rfl⟩;have HN:=Lib.hid hN;have HCL:=Lib.hid (show closedB zs ims ts=(N==0) by rw [closedB,hN]);clear hmem hfm hk1 hf1 hN;have hgw:g0<wr.heap.size:=hA.lt;have hi0:(0:Int)≤(k:Int):=(by omega);have hin:(k:Int)<(i:Int):=(by omega);have hfld:=field_form;go_upto_region 14 with fail
           have hT1:=hT.keep ((Below.refl _ _).drew:Below wr.heap.size wr wr.drew);have hDn:=(HD.out.keep hbw).keep ((Below.refl _ _).drew:Below wr.heap.size wr wr.drew);have hFn:=(HFF.out.keep hbw).keep ((Below.refl _ _).drew:Below wr.heap.size wr wr.drew);have hAd:Own wr.drew g0 29 #[.slice da i dc,.slice (some ⟨b,off,none⟩) i c]:=hA;have hbd2:Below g0 w wr.drew:=hb.drew;have hcw:wr.drew.cell? ⟨b,off+k,none⟩=some (.slice ai ni ci):=hc;clear hA hb c0 c1 hT;by_cases hN0:N=0
           · subst hN0
             go_region_held3 (fun w'=>w'.cell? ⟨g0,0,none⟩=some (.slice da i dc)∧w'.cell? ⟨g0,1,none⟩=some (.slice (some ⟨b,off,none⟩) i c)∧w'.cell? ⟨b,off+k,none⟩=some (.slice ai ni ci)) (exact ⟨hAd.cell 0,hAd.cell 1,hcw⟩)
              (first | (go_at_call 72;refine (l02D_c dc c ci hDn hFn hT1 HOK.out HMI.out HKF.out HFM.out hn4).mono ?_;rintro e wv ⟨v,rfl,hO,hbv⟩;obtain ⟨va,vc,rfl,hvT⟩:=hO.r.terms HS.out.tm HN.out;have hb4:=bT' hbd2 hbv (Nat.le_of_lt hAd.lt);have hA4:=hAd.keep hbv hAd.lt;have hc4:=(World.cell?_of_block (a:=⟨b,off+k,none⟩) (hbv.block b hbl)).trans hcw;clear hO hvT hAd hcw hbd2;have hAd:=hA4;have hcw:=hc4))
             go_wp2_with fail
             go_roundw
             case rel=>exact ⟨k+1,by omega,by go_num,hb4,hA4,range_all_step H.out (okD_of hx.out (by rw [HCL.out];rfl))⟩
             case measure=>simp [intOf] <;> omega
           · have hNp:(0:Int)<(N:Int):=(by omega);have HN0:=Lib.hid hN0;clear hN0
             go_region_held3 (fun w'=>w'.cell? ⟨g0,0,none⟩=some (.slice da i dc)∧w'.cell? ⟨g0,1,none⟩=some (.slice (some ⟨b,off,none⟩) i c)∧w'.cell? ⟨b,off+k,none⟩=some (.slice ai ni ci)) (exact ⟨hAd.cell 0,hAd.cell 1,hcw⟩)
              (first | (go_at_call 72;refine (l02D_c dc c ci hDn hFn hT1 HOK.out HMI.out HKF.out HFM.out hn4).mono ?_;rintro e wv ⟨v,rfl,hO,hbv⟩;obtain ⟨va,vc,rfl,hvT⟩:=hO.r.terms HS.out.tm HN.out;have hb4:=bT' hbd2 hbv (Nat.le_of_lt hAd.lt);have hA4:=hAd.keep hbv hAd.lt;have hc4:=(World.cell?_of_block (a:=⟨b,off+k,none⟩) (hbv.block b hbl)).trans hcw;clear hO hvT hAd hcw hbd2;have hAd:=hA4;have hcw:=hc4))
             go_wp2_with fail
             go_ret
             exact ⟨ret_b (isAlg_no4 HLn.out hlt2 (okD_of hx.out (by rw [HCL.out];simpa using HN0.out))).symm,by rw [HG.out];exact hb4⟩
         · have he:k=i:=(by omega);subst he;go_wp2_with fail
           go_ret
           exact ⟨ret_b (isAlg_yes HDG.out (HLn.out.trans HL.out.symm) HI.out (by rw [allD,HLn.out];exact H.out)).symm,by rw [HG.out];exact hb⟩
   · have hnb:((n:Int) != (dn:Int))=true:=(by simp;omega);have hnc:¬(n:Int)=(dn:Int):=(by omega);go_enter Try.func62,Try.ntmps62
     go_upto_region 1 with fail
     generalize w.alloc (.cells #[.slice da dn dc,.slice a n c] 29)=w0 at *;go_wp2_with fail
     refine (l01Degrees_c dc (hd.keep hb0) hdn).mono ?_;rintro e w' ⟨rfl,rfl⟩;rw [HDG.out];go_wp2_with fail
     go_ret
     exact ⟨ret_b (isAlg_no2 (by rw [HLn.out,HL.out];exact hnd)).symm,hb0⟩
end Go.Proofs.Ytndnkeijddagiaa
