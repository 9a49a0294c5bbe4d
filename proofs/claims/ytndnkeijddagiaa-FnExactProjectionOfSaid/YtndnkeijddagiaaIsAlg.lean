
import Derived.Test.YtndnkeijddagiaaAddD
import Derived.Test.YtndnkeijddagiaaDiffT
namespace Go.Proofs.Ytndnkeijddagiaa
set_option maxRecDepth 100000
open Go.RowKit Go.Deep Go.Maps
set_option maxHeartbeats 8000000 in
theorem differentialOf_c {w : World} {da : Option Addr} {dn : Nat} {zs : List Int} {a : Option Addr} {n : Nat} {ims : List (List Tm)} {a2 : Option Addr} {n2 : Nat} {fs : List Tm} (dc c c2 : Nat) (hd : Ints w da dn zs) (hF : Frms w a n ims) (h : Terms w a2 n2 fs) (HA : AlgOk zs ims) (hk : ∀ t ∈ fs, monoOk zs t.m = true) (hf : ∀ t ∈ fs, 1 ≤ t.f ∧ t.f ≤ 10006) (h400 : n2 ≤ 400) :
    Calls Try.prog 77 #[.agg #[.slice da dn dc,.slice a n c],.agg #[.slice a2 n2 c2]] w fun e w'=>∃b,e=.returned (.map (some b))∧w.heap.size≤b∧MapIs w' b (n2 * 3200) (diffS zs ims zeroL fs)∧Below w.heap.size w w':=by
 have HAA:=Lib.hid HA
 have HD:=Lib.hid hd
 have HFF:=Lib.hid hF
 have HT:=Lib.hid h
 have HK:=Lib.hid hk
 have HFB:=Lib.hid hf
 have hnd:n=dn:=by have:=hd.len;have:=hF.len;have:=HA.ln;omega
 have h8:n≤8:=by have:=hF.len;have:=HA.ln;have:=HA.h8;omega
 have HND:=Lib.hid hnd
 clear HA hk hf hnd
 have hA:=(Own.new w 29 #[.slice da dn dc,.slice a n c]).alloc (.cells #[.slice a2 n2 c2] 47)
 have hG:=Own.new (w.alloc (.cells #[.slice da dn dc,.slice a n c] 29)) 47 #[.slice a2 n2 c2]
 simp only [sAl] at hG
 have hb:=bTn (bA1 w (.cells #[.slice da dn dc,.slice a n c] 29)) (bA1 _ (.cells #[.slice a2 n2 c2] 47))
 generalize hg1:w.heap.size+1=gG at *
 generalize hg0:w.heap.size=gA at *
 go_enter Try.func77,Try.ntmps77
 go_upto_region 1 with fail
 generalize (w.alloc (.cells #[.slice da dn dc,.slice a n c] 29)).alloc (.cells #[.slice a2 n2 c2] 47)=w0 at *
 try simp only [hg0,hg1]
 have hmm:=@run_makeMap Try.prog
 have hM:=mapIs_made w0
 have hbb:gA≤w0.heap.size:=by have:=hA.lt;omega
 replace hA:=hA.alloc (.map #[] 0)
 replace hG:=hG.alloc (.map #[] 0)
 replace hb:=bT' hb (bA1 w0 (.map #[] 0)) hbb
 have cA0:=hA.cell 0
 have cA1:=hA.cell 1
 have cG:=hG.cell 0
 go_wp2_with fail
 clear cG cA0 cA1 hmm
 generalize w0.alloc (.map #[] 0)=w3 at *
 generalize hgb:w0.heap.size=b at *
 clear hgb
 subst hg0
 refine (ruleAdd_c true 1 dc c c2 hM (by omega) (fun _=>by simp) (HD.out.keep hb) (HFF.out.keep hb) HND.out h8 (HT.out.keep hb) h400 HK.out HFB.out (Or.inl rfl) (fun im hi=>isForm_400 (HAA.out.fm im hi)) (fun im hi u hu=>⟨(HAA.out.tm im hi u hu).1,isForm_fit (HAA.out.fm im hi) u hu,isForm_f (HAA.out.fm im hi) u hu⟩)).mono ?_
 rintro e wz ⟨rfl,hM2,hgr⟩
 have hbz:=bel_grown hb hgr hbb
 rw [diffR_odd,Nat.zero_add] at hM2
 go_wp2_with fail
 go_ret
 exact ⟨b,rfl,hbb,hM2,hbz⟩
theorem Frms.tm {w:World} {a:Option Addr} {n:Nat} {fss:List (List Tm)} (h:Frms w a n fss):∀ts∈fss,∀t∈ts,IsTm t:=by
 intro ts hts t ht
 obtain ⟨i,hi,rfl⟩:=List.mem_iff_getElem.1 hts
 have hl:=h.len
 obtain ⟨b,off,ts',ai,ni,ci,-,-,-,hT,-,hx⟩:=h.at_ (show i<n by omega)
 have:=hx.out
 rw [List.getElem?_eq_getElem hi] at this
 injection this with this
 exact hT.2.1 t (by rw [←this];exact ht)
theorem degsOk_at {zs:List Int} {i:Nat} {z:Int} (h:degsOk zs=true) (hz:zs[i]? = some z):1≤z∧z≤12:=by
 simp only [degsOk,Bool.and_eq_true] at h
 have:=List.all_eq_true.1 h.1 z (List.mem_of_getElem? hz)
 simpa [okDeg] using this
theorem okIm_of {zs:List Int} {ims:List (List Tm)} {i:Nat} {z:Int} {ts:List Tm} {B:Bool} (hz:zs[i]? = some z) (hx:ims[i]? = some ts) (h:zeroOr zs ts (z+1)=B):okIm zs ims i=B:=by
 rw [okIm,List.getD_eq_getElem?_getD,List.getD_eq_getElem?_getD,hz,hx]
 exact h
theorem okD_of {zs:List Int} {ims:List (List Tm)} {i:Nat} {ts:List Tm} {B:Bool} (hx:ims[i]? = some ts) (h:closedB zs ims ts=B):okD zs ims i=B:=by
 rw [okD,List.getD_eq_getElem?_getD,hx]
 exact h
theorem isAlg_no1 {zs:List Int} {ims:List (List Tm)} (h:degsOk zs=false):isAlg zs ims=false:=by rw [isAlg,h];rfl
theorem isAlg_no2 {zs:List Int} {ims:List (List Tm)} (h:¬ims.length=zs.length):isAlg zs ims=false:=by simp [isAlg,h]
theorem isAlg_no3 {zs:List Int} {ims:List (List Tm)} {k n:Nat} (hn:ims.length=n) (hk:k<n) (h:okIm zs ims k=false):isAlg zs ims=false:=by
 have:allIm zs ims=false:=by rw [allIm,hn];exact range_all_no hk h
 simp [isAlg,this]
theorem isAlg_no4 {zs:List Int} {ims:List (List Tm)} {k n:Nat} (hn:ims.length=n) (hk:k<n) (h:okD zs ims k=false):isAlg zs ims=false:=by
 have:allD zs ims=false:=by rw [allD,hn];exact range_all_no hk h
 simp [isAlg,this]
theorem isAlg_yes {zs:List Int} {ims:List (List Tm)} (h1:degsOk zs=true) (h2:ims.length=zs.length) (h3:allIm zs ims=true) (h4:allD zs ims=true):isAlg zs ims=true:=by simp [isAlg,h1,h2,h3,h4]
set_option maxHeartbeats 8000000 in
theorem IsAlgebra_c {w : World} {da : Option Addr} {dn : Nat} {zs : List Int} {a : Option Addr} {n : Nat} {ims : List (List Tm)} (dc c : Nat) (hd : Ints w da dn zs) (hdn : dn ≤ 1048576) (hF : Frms w a n ims) (hn : n ≤ 1048576) (hL : ∀ im ∈ ims, (im.length : Int) ≤ 1048576) :
    Calls Try.prog 64 #[.agg #[.slice da dn dc,.slice a n c]] w fun e w'=>e=.returned (.bool (isAlg zs ims))∧Below w.heap.size w w':=by
 have HL:=Lib.hid hd.len
 have HLn:=Lib.hid hF.len
 have HFF:=Lib.hid hF
 have HD:=Lib.hid hd
 have HLL:=Lib.hid hL
 have HT:=Lib.hid hF.tm
 clear hL
 have hb0:=bA1 w (.cells #[.slice da dn dc,.slice a n c] 29)
 have hA0:=Own.new w 29 #[.slice da dn dc,.slice a n c]
 have c0:=hA0.cell 0
 have c1:=hA0.cell 1
 cases hdg:degsOk zs with
 | false =>
   have HDG:=Lib.hid hdg;clear hdg;go_enter Try.func64,Try.ntmps64
   go_upto_region 1 with fail
   generalize w.alloc (.cells #[.slice da dn dc,.slice a n c] 29)=w0 at *;go_wp2_with fail
   refine (AreDegrees_c dc (hd.keep hb0) hdn).mono ?_;rintro e w' ⟨rfl,rfl⟩;rw [HDG.out];go_wp2_with fail
   go_ret
   exact ⟨ret_b (isAlg_no1 HDG.out).symm,hb0⟩
 | true =>
   have HDG:=Lib.hid hdg;clear hdg;by_cases hnd:n=dn
   · subst hnd;have h8:n≤8:=(by have:=degsOk_len HDG.out;have:=HL.out;omega);have hnn:((n:Int) != (n:Int))=false:=(by simp);go_enter Try.func64,Try.ntmps64
     go_upto_region 1 with fail
     generalize w.alloc (.cells #[.slice da n dc,.slice a n c] 29)=w0 at *;generalize hg0:w.heap.size=g0 at *;go_wp2_with fail
     refine (AreDegrees_c dc (hd.keep (by rw [hg0];exact hb0)) hdn).mono ?_;rintro e w' ⟨rfl,rfl⟩;rw [HDG.out];have HG:=Lib.hid hg0;clear hg0;go_wp2_with fail
     clear hnn
     go_loopw [23] (fun y wr=>∃i:Nat,i≤n∧y=.int .i64 i∧Below g0 w wr∧Own wr g0 29 #[.slice da n dc,.slice a n c]∧Hid ((List.range i).all (okIm zs ims)=true)) (fun y _=>n - (intOf y).toNat)
     case atStart=>exact ⟨0,Nat.zero_le _,rfl,hb0,hA0,rfl⟩
     case round=>
      clear hb0 hA0 c0 c1;obtain ⟨i,hi,rfl,hb,hA,H⟩:=hrel;have hbw:Below w.heap.size w wr:=(by rw [HG.out];exact hb);have c0:=hA.cell 0;have c1:=hA.cell 1;by_cases hlt:i<n
      · obtain ⟨b,off,ts,ai,ni,ci,rfl,hbl,hc,hT,hni,hx⟩:=(HFF.out.keep hbw).at_ hlt;obtain ⟨bd,od,z,rfl,hbd,hcd,hz⟩:=(HD.out.keep hbw).at_ hlt;have hz1:=(degsOk_at HDG.out hz.out).1;have hz2:=(degsOk_at HDG.out hz.out).2;have hsum:IntKind.i64.wrap (z+1)=z+1:=IntWalk.i64_in _ (by omega);have hni2:ni≤1048576:=(by have:=HLL.out ts (List.mem_of_getElem? hx.out);have:=hT.len;omega);have hE:=Own.new wr 47 #[.slice ai ni ci];have hba:=bA1 wr (.cells #[.slice ai ni ci] 47);have hgw:g0<wr.heap.size:=hA.lt;go_upto_region 6 with fail
        replace hcd:=(World.cell?_of_block (a:=⟨bd,od+i,none⟩) (hba.block bd hbd)).trans hcd;replace hT:=hT.keep hba;replace hA:=hA.keep hba hA.lt;replace hb:=bT' hb hba (by omega);have hDn:=(HD.out.keep hbw).keep hba;generalize wr.alloc (.cells #[.slice ai ni ci] 47)=wu at *;generalize hge:wr.heap.size=gE at *;clear hge hba c0 c1 hc hbl hbd;replace hE:Own wu.drew gE 47 #[.slice ai ni ci]:=hE;replace hA:Own wu.drew g0 29 #[.slice (some ⟨bd,od,none⟩) n dc,.slice (some ⟨b,off,none⟩) n c]:=hA;replace hcd:wu.drew.cell? ⟨bd,od+i,none⟩=some (.int .i64 z):=hcd;replace hT:=hT.keep ((Below.refl _ _).drew:Below wu.heap.size wu wu.drew);replace hDn:=hDn.keep ((Below.refl _ _).drew:Below wu.heap.size wu wu.drew);replace hb:Below g0 w wu.drew:=hb.drew;have hi0:(0:Int)≤(i:Int):=(by omega);have hin:(i:Int)<(n:Int):=(by omega);cases hq:zeroOr zs ts (z+1)
        all_goals
         have HQ:=Lib.hid hq;clear hq
         go_region_held3 (fun w'=>w'.cell? ⟨g0,0,none⟩=some (.slice (some ⟨bd,od,none⟩) n dc)∧w'.cell? ⟨gE,0,none⟩=some (.slice ai ni ci)∧w'.cell? ⟨bd,od+i,none⟩=some (.int .i64 z)) (exact ⟨hA.cell 0,hE.cell 0,hcd⟩)
          (first | (go_at_call 76;refine (isZeroOrOfDegree_c dc ci hDn (by omega) hT hni2).mono ?_;rintro e wv ⟨rfl,hbv⟩;rw [HQ.out];have hA':=hA.keep hbv hA.lt;have hb':=bT' hb hbv (Nat.le_of_lt hA.lt);have hE':=hE.keep hbv hE.lt;have hcd':=(World.cell?_of_block (a:=⟨bd,od+i,none⟩) (hbv.block bd (World.block_lt_of_cell? _ _ hcd))).trans hcd;clear hA hb hE hcd;have hA:=hA';have hb:=hb';have hE:=hE';have hcd:=hcd'))
        · go_wp2_with fail
          go_ret
          exact ⟨ret_b (isAlg_no3 HLn.out hlt (okIm_of hz.out hx.out HQ.out)).symm,by rw [HG.out];exact hb⟩
        · go_wp2_with fail
          go_roundw
          case rel=>exact ⟨i+1,by omega,by go_num,hb,hA,range_all_step H.out (okIm_of hz.out hx.out HQ.out)⟩
          case measure=>simp [intOf] <;> omega
      · have he:i=n:=(by omega);subst he
        have HI:Hid (allIm zs ims=true):=by
         have:=H.out;exact Lib.hid (show allIm zs ims=true by rw [allIm,HLn.out];exact this)
        have HOK:Hid (AlgOk zs ims):=Lib.hid (algOk_of HDG.out (HLn.out.trans HL.out.symm) HI.out HT.out);clear H;go_wp2_with fail
        go_loopw [43] (fun y wx=>∃k:Nat,k≤i∧y=.int .i64 k∧Below g0 w wx∧Own wx g0 29 #[.slice da i dc,.slice a i c]∧Hid ((List.range k).all (okD zs ims)=true)) (fun y _=>i - (intOf y).toNat)
        case atStart=>exact ⟨0,Nat.zero_le _,rfl,hb,hA,rfl⟩
        case round=>
         clear hb hA c0 c1 hbw;obtain ⟨k,hk,rfl,hb,hA,H⟩:=hrel;have hbw:Below w.heap.size w wr:=(by rw [HG.out];exact hb);have c0:=hA.cell 0;have c1:=hA.cell 1;by_cases hlt2:k<i
         · obtain ⟨b,off,ts,ai,ni,ci,rfl,hbl,hc,hT,hni,hx⟩:=(HFF.out.keep hbw).at_ hlt2;have hmem:=List.mem_of_getElem? hx.out;have hfm:=HOK.out.fm ts hmem;have hk1:=isForm_fit hfm;have hf1:=isForm_f hfm;have hn4:ni≤400:=(by have:=isForm_400 hfm;have:=hT.len;omega);have HKF:=Lib.hid hk1;have HFM:=Lib.hid hf1;have HCL:=Lib.hid (HOK.out.closed (HT.out ts hmem) hk1);clear hmem hfm hk1 hf1;have hE:=Own.new wr 47 #[.slice ai ni ci];have hba:=bA1 wr (.cells #[.slice ai ni ci] 47);have hgw:g0<wr.heap.size:=hA.lt;go_upto_region 12 with fail
           replace hT:=hT.keep hba;replace hA:=hA.keep hba hA.lt;replace hb:=bT' hb hba (by omega);have hDn:=(HD.out.keep hbw).keep hba;have hFn:=(HFF.out.keep hbw).keep hba;generalize wr.alloc (.cells #[.slice ai ni ci] 47)=wu at *;generalize hge:wr.heap.size=gE at *;clear hge hba c0 c1 hc hbl;have c0:=hA.cell 0;have c1:=hA.cell 1;have cE:=hE.cell 0;go_wp2_with fail
           refine (differentialOf_c dc c ci hDn hFn hT HOK.out HKF.out HFM.out hn4).mono ?_;rintro e w1 ⟨bm,rfl,hbm,hM,hb1⟩;have hA1:=hA.keep hb1 hA.lt;have hb2:=bT' hb hb1 (Nat.le_of_lt hA.lt);clear hA hb hE c0 c1 cE hDn hFn hT;go_wp2_with fail
           refine (isZero_c hM HCL.out).mono ?_;rintro e w2 ⟨rfl,hb3⟩;have hA2:=hA1.keep hb3 hA1.lt;have hb4:=bT' hb2 hb3 (Nat.le_of_lt hA1.lt);clear hA1 hb2 hb1 hb3;cases hq:closedB zs ims ts
           · have HQ:=Lib.hid hq;clear hq;go_wp2_with fail
             go_ret
             exact ⟨ret_b (isAlg_no4 HLn.out hlt2 (okD_of hx.out HQ.out)).symm,by rw [HG.out];exact hb4⟩
           · have HQ:=Lib.hid hq;clear hq;go_wp2_with fail
             go_roundw
             case rel=>exact ⟨k+1,by omega,by go_num,hb4,hA2,range_all_step H.out (okD_of hx.out HQ.out)⟩
             case measure=>simp [intOf] <;> omega
         · have he:k=i:=(by omega);subst he;go_wp2_with fail
           go_ret
           exact ⟨ret_b (isAlg_yes HDG.out (HLn.out.trans HL.out.symm) HI.out (by rw [allD,HLn.out];exact H.out)).symm,by rw [HG.out];exact hb⟩
   · have hnb:((n:Int) != (dn:Int))=true:=(by simp;omega);have hnc:¬(n:Int)=(dn:Int):=(by omega);go_enter Try.func64,Try.ntmps64
     go_upto_region 1 with fail
     generalize w.alloc (.cells #[.slice da dn dc,.slice a n c] 29)=w0 at *;go_wp2_with fail
     refine (AreDegrees_c dc (hd.keep hb0) hdn).mono ?_;rintro e w' ⟨rfl,rfl⟩;rw [HDG.out];go_wp2_with fail
     go_ret
     exact ⟨ret_b (isAlg_no2 (by rw [HLn.out,HL.out];exact hnd)).symm,hb0⟩
end Go.Proofs.Ytndnkeijddagiaa
