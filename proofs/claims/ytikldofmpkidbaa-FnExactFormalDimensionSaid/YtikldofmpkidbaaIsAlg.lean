
import Derived.Test.YtikldofmpkidbaaResult
import Derived.Test.YtikldofmpkidbaaDiffS
import Derived.Test.YtikldofmpkidbaaTimes
import Derived.Test.YtikldofmpkidbaaAddD
namespace Go.Proofs.Ytikldofmpkidbaa
set_option maxRecDepth 100000
open Go.RowKit Go.Deep
def zeroOr (zs:List Int) (ts:List Tm) (x:Int):Bool:=codF zs ts==0 && (degF zs ts==x || ts.length==0)
theorem isZeroOrOfDegree_c {w : World} {da : Option Addr} {dn : Nat} {zs : List Int} {a : Option Addr} {n : Nat} {ts : List Tm} {x : Int} (dc c : Nat) (hd : Ints w da dn zs) (hdn : dn ≤ 1048576) (h : Terms w a n ts) (hn : n ≤ 1048576) :
    Calls Try.prog 75 #[.slice da dn dc,.agg #[.slice a n c],.int .i64 x] w fun e w'=>e=.returned (.bool (zeroOr zs ts x))∧Below w.heap.size w w':=by
 have hl:=h.len
 obtain ⟨D,hD⟩:∃D,degF zs ts=D:=⟨_,rfl⟩
 obtain ⟨K,hK⟩:∃K,codF zs ts=K:=⟨_,rfl⟩
 have hZ:zeroOr zs ts x=(K==0 && (D==x || n==0)):=by rw [zeroOr,hD,hK,hl]
 rw [hZ]
 have HD:=Lib.hid hD
 have HK:=Lib.hid hK
 clear hZ hD hK hl
 have hb:=bA1 w (.cells #[.slice a n c] 61)
 have hF:=Own.new w 61 #[.slice a n c]
 have cF:=hF.cell 0
 go_enter Try.func75,Try.ntmps75
 go_upto_region 1 with fail
 generalize hw0:w.alloc (.cells #[.slice a n c] 61)=w0 at *
 clear hw0
 go_wp2_with fail
 refine (DegreeOfForm_c dc c (hd.keep hb) hdn (h.keep hb) hn).mono ?_
 rintro e w1 ⟨rfl,hb1⟩
 rw [HD.out,HK.out]
 replace hF:=hF.keep hb1 hF.lt
 replace hb:=bTn hb hb1
 clear hb1 cF
 have cF:=hF.cell 0
 by_cases hk:K=0
 · subst hk;by_cases hx:D=x
   · subst hx;go_wp2_with fail
     go_ret
     exact ⟨by simp,hb⟩
   · have hxb:(D==x)=false:=(by simpa using hx);by_cases h0:n=0
     · subst h0;go_wp2_with fail
       go_ret
       exact ⟨by simp,hb⟩
     · have h0b:((n:Int)==0)=false:=(by simp;omega);have h0c:(n==0)=false:=(by simpa using h0);go_wp2_with fail
       go_ret
       exact ⟨by simp [hxb,h0c],hb⟩
 · have hkb:(K==0)=false:=(by simpa using hk);go_wp2_with fail
   go_ret
   exact ⟨by simp [hkb],hb⟩
structure AlgOk (zs:List Int) (ims:List (List Tm)):Prop where
 h8:zs.length≤8
 ln:ims.length=zs.length
 fm:∀im∈ims,isForm zs im=true
 tm:∀im∈ims,∀u∈im,IsTm u
theorem isForm_srt {zs:List Int} {ts:List Tm} (h:isForm zs ts=true):Srt ts:=by
 simp only [isForm,Bool.and_eq_true,decide_eq_true_eq] at h
 exact listOk_srt h.2.1
theorem AlgOk.ims {zs:List Int} {ims:List (List Tm)} (h:AlgOk zs ims):Ims ims:=fun im hi=>
 ⟨isForm_srt (h.fm im hi),fun u hu=>(h.tm im hi u hu).1.1,isForm_f (h.fm im hi)⟩
theorem AlgOk.at_ {zs:List Int} {ims:List (List Tm)} (h:AlgOk zs ims) (i:Nat):(ims.getD i []).length≤400∧(∀u∈ims.getD i [],IsTm u)∧(∀u∈ims.getD i [],monoOk zs u.m=true)∧(∀u∈ims.getD i [],1≤u.f∧u.f≤10006)∧Srt (ims.getD i []):=by
 by_cases hi:i<ims.length
 · rw [List.getD_eq_getElem?_getD,List.getElem?_eq_getElem hi];have hm:=List.getElem_mem hi;have hf:=h.fm _ hm;exact ⟨isForm_400 hf,h.tm _ hm,isForm_fit hf,isForm_f hf,isForm_srt hf⟩
 · rw [List.getD_eq_getElem?_getD,List.getElem?_eq_none (by omega)];exact ⟨by simp,by simp,by simp,by simp,List.Pairwise.nil⟩
theorem left_mono {zs m:List Int} {i:Nat} (h8:zs.length≤8) (hm:IsMono m) (ok:monoOk zs m=true) (hi:i<zs.length) (hp:0<m.getD i 0):IsMono (leftM m i):=
 (left_in (i:=i) (ok_in hm ok) (by omega) (by rw [hm.1];omega) hp:In 20 (leftM m i)).isMono (leftM_len hm.1 (by omega)) (by omega)
theorem back_mono {zs m:List Int} {i:Nat} (hm:IsMono m) (ok:monoOk zs m=true) (hi:i<8):IsMono (backM m i):=
 (back_in (i:=i) (ok_in hm ok) (by omega):In 20 (backM m i)).isMono (backM_len hm.1 hi) (by omega)
theorem two_left {zs m : List Int} {i : Nat} {im : List Tm} (h8 : zs.length ≤ 8) (hm : IsMono m) (ok : monoOk zs m = true) (hi : i < zs.length) (hp : 0 < m.getD i 0)
    (ht:∀u∈im,IsTm u) (hk:∀u∈im,monoOk zs u.m=true) (hf:∀u∈im,1≤u.f∧u.f≤10006) (hs:Srt im):Two zs [⟨leftM m i,1⟩] im:=by
 have L:=left_mono h8 hm ok hi hp
 refine ⟨?_,ht,?_,?_,hf,hs⟩
 · intro t h;obtain rfl:t=⟨leftM m i,1⟩:=(by simpa using h);exact ⟨L,by dsimp only;omega,by dsimp only;omega⟩
 · intro t h u hu;obtain rfl:t=⟨leftM m i,1⟩:=(by simpa using h);exact (around_fit h8 hm ok (ht u hu).1 (hk u hu) hi hp).1
 · intro t h;obtain rfl:t=⟨leftM m i,1⟩:=(by simpa using h);exact ⟨by dsimp only;omega,by dsimp only;omega⟩
theorem two_back {zs m : List Int} {i : Nat} {im : List Tm} (h8 : zs.length ≤ 8) (hm : IsMono m) (ok : monoOk zs m = true) (hi : i < zs.length) (hp : 0 < m.getD i 0)
    (ht:∀u∈im,IsTm u) (hk:∀u∈im,monoOk zs u.m=true) (hf:∀u∈im,1≤u.f∧u.f≤10006) (hs:Srt im):Two zs (timesT zs im [] [⟨leftM m i,1⟩]) [⟨backM m i,1⟩]:=by
 have T1:=two_left h8 hm ok hi hp ht hk hf hs
 have K:=back_mono hm ok (show i<8 by omega)
 refine ⟨T1.tm,?_,?_,T1.good.nz,?_,List.pairwise_singleton _ _⟩
 · intro t h;obtain rfl:t=⟨backM m i,1⟩:=(by simpa using h);exact ⟨K,by dsimp only;omega,by dsimp only;omega⟩
 · intro t h u hu;obtain rfl:u=⟨backM m i,1⟩:=(by simpa using hu);refine times_all (p:=fun k=>FitW zs k (backM m i)) (by simp) (fun s hs u hu _=>?_) t h;obtain rfl:s=⟨leftM m i,1⟩:=(by simpa using hs);exact (around_fit h8 hm ok (ht u hu).1 (hk u hu) hi hp).2
 · intro t h;obtain rfl:t=⟨backM m i,1⟩:=(by simpa using h);exact ⟨by dsimp only;omega,by dsimp only;omega⟩
theorem own_len {zs l:List Int} {im:List Tm}:(timesT zs im [] [⟨l,1⟩]).length≤im.length:=by
 have:=times_len (zs:=zs) (gs:=im) [⟨l,1⟩] []
 simpa using this
theorem between_len {zs l r:List Int} {im:List Tm}:(between zs l r im).length≤im.length:=by
 have h1:=times_len (zs:=zs) (gs:=[⟨r,1⟩]) (timesT zs im [] [⟨l,1⟩]) []
 have h2:=own_len (zs:=zs) (l:=l) (im:=im)
 rw [List.length_nil,List.length_singleton,Nat.mul_one,Nat.zero_add] at h1
 exact Nat.le_trans h1 h2
structure Sum9 (out:List Tm) (N:Nat):Prop where
 tm:∀x∈out,IsTm x
 good:Good out
 len:out.length≤N
theorem Sum9.bd {out:List Tm} {N:Nat} (h:Sum9 out N):∀x∈out,0≤x.f∧x.f≤10006:=fun x hx=>by have:=h.good.nz x hx;omega
theorem Sum9.mono {out:List Tm} {N M:Nat} (h:Sum9 out N) (hN:N≤M):Sum9 out M:=⟨h.tm,h.good,Nat.le_trans h.len hN⟩
theorem sum9_nil:Sum9 [] 0:=⟨by simp,good_nil,by simp⟩
theorem Sum9.add {out gs:List Tm} {N M:Nat} (h:Sum9 out N) (k:Int) (g:Sum9 gs M):Sum9 (addT k out gs) (N+M):=by
 have hx:∀x,¬num x=0→1≤num x∧num x≤10006:=fun x h=>by have h1:=num_lo x;have h2:=num_hi x;omega
 refine ⟨addT_tm h.tm g.tm,⟨addT_srt _ _ h.good.len g.good.len h.good.srt g.good.srt,addT_all _ _ h.good.len (fun y hy _ _=>g.good.len y hy) (fun f hf _ _=>h.good.len f hf),addT_all _ _ h.good.nz (fun y _ x hn=>hx x hn) (fun f _ x hn=>hx x hn)⟩,?_⟩
 have:=addT_len (k:=k) out gs
 have:=h.len
 have:=g.len
 omega
theorem AlgOk.between {zs m:List Int} {ims:List (List Tm)} (h:AlgOk zs ims) {i:Nat} (hm:IsMono m) (ok:monoOk zs m=true) (hi:i<zs.length) (hp:0<m.getD i 0):Sum9 (between zs (leftM m i) (backM m i) (ims.getD i [])) 400:=by
 obtain ⟨h1,h2,h3,h4,h5⟩:=h.at_ i
 have T2:=two_back h.h8 hm ok hi hp h2 h3 h4 h5
 exact ⟨T2.tm,T2.good,Nat.le_trans between_len h1⟩
theorem AlgOk.term {zs:List Int} {ims:List (List Tm)} (h:AlgOk zs ims) {t:Tm} {out:List Tm} {N:Nat} (hm:IsMono t.m) (ok:monoOk zs t.m=true) (H:Sum9 out N):∀i:Nat,i≤zs.length→Sum9 (termT zs ims t out i) (N+i * 400)
 | 0,_=>by rw [termT];exact H.mono (by omega)
 | i + 1, hi => by
   have ih:=h.term hm ok H i (by omega);have hg:=getD_mono hm i;rw [termT];split
   · exact ih.mono (by omega)
   · exact (ih.add _ (h.between hm ok (by omega) (by omega))).mono (by omega)
theorem AlgOk.diff {zs:List Int} {ims:List (List Tm)} (h:AlgOk zs ims):∀(fs out:List Tm) (N:Nat),(∀t∈fs,IsTm t)→(∀t∈fs,monoOk zs t.m=true)→Sum9 out N→Sum9 (diffT zs ims out fs) (N+fs.length * 3200)
 | [],out,N,_,_,H=>H.mono (by omega)
 | t :: fs, out, N, ht, hk, H => by
   have h8:=h.h8;have:=h.diff fs _ _ (fun u hu=>ht u (by simp [hu])) (fun u hu=>hk u (by simp [hu])) (h.term (ht t (by simp)).1 (hk t (by simp)) H zs.length (Nat.le_refl _));refine this.mono ?_;rw [List.length_cons];omega
def closedB (zs:List Int) (ims:List (List Tm)) (fs:List Tm):Bool:=(diffT zs ims [] fs).length==0
theorem AlgOk.closed {zs:List Int} {ims:List (List Tm)} (h:AlgOk zs ims) {fs:List Tm} (ht:∀t∈fs,IsTm t) (hk:∀t∈fs,monoOk zs t.m=true):closedB zs ims fs=true↔∀m,IsMono m→diffS zs ims zeroL fs m=0:=by
 obtain ⟨e,-⟩:=diff_coef h.ims h.ln h.h8 fs [] zeroL (fun t hx=>(ht t hx).1) hk (fun _=>rfl) good_nil
 have S:=h.diff fs [] 0 ht hk sum9_nil
 rw [closedB]
 constructor
 · intro hh m _;have h0:diffT zs ims [] fs=[]:=List.length_eq_zero_iff.1 (by simpa using hh);rw [e m,h0];rfl
 · intro hh
   cases hT:diffT zs ims [] fs with
   | nil=>rfl
   | cons x xs =>
     rw [hT] at S;have h1:=hh x.m (S.tm x (by simp)).1;rw [e x.m,hT,coef_hit rfl] at h1;have:=S.good.nz x (by simp);omega
theorem termT_take {zs:List Int} {ims:List (List Tm)} {t:Tm} {fs:List Tm} {i:Nat} (h:fs[i]? = some t):diffT zs ims [] (fs.take (i+1))=termT zs ims t (diffT zs ims [] (fs.take i)) zs.length:=by
 rw [diffT,diffT,List.take_add_one,h,List.foldl_append];rfl
theorem wtTo_front {zs m:List Int} {i:Nat} (hl:m.length=8) (hi:i≤8):∀j:Nat,wtTo zs (frontM m i) j=wtTo zs m (min i j)
 | 0=>by rw [Nat.min_zero];rfl
 | j + 1 => by
   have ih:=wtTo_front (zs:=zs) hl hi j;rw [wtTo,ih];by_cases h:j<i
   · rw [show min i (j+1)=min i j+1 by omega,wtTo,show min i j=j by omega];congr 2
     rw [frontM,List.getD_eq_getElem?_getD,List.getElem?_append_left (by rw [List.length_take];omega),List.getElem?_take,if_pos h,←List.getD_eq_getElem?_getD]
   · rw [show min i (j+1)=min i j by omega]
     have:(frontM m i).getD j 0=0:=by
      rw [frontM,List.getD_eq_getElem?_getD,List.getElem?_append_right (by rw [List.length_take];omega),List.getElem?_replicate];split <;> rfl
     rw [this];omega
theorem wt_front {zs m:List Int} {i:Nat} (hl:m.length=8) (hz:zs.length≤8) (hi:i≤zs.length):wt zs (frontM m i)=wtTo zs m i:=by
 rw [wt,wtTo_front hl (by omega),Nat.min_eq_left hi]
def okIm (zs:List Int) (ims:List (List Tm)) (i:Nat):Bool:=zeroOr zs (ims.getD i []) (zs.getD i 0+1)
def okD (zs:List Int) (ims:List (List Tm)) (i:Nat):Bool:=closedB zs ims (ims.getD i [])
def allIm (zs:List Int) (ims:List (List Tm)):Bool:=(List.range ims.length).all (okIm zs ims)
def allD (zs:List Int) (ims:List (List Tm)):Bool:=(List.range ims.length).all (okD zs ims)
def isAlg (zs:List Int) (ims:List (List Tm)):Bool:=degsOk zs && (decide (ims.length=zs.length) && (allIm zs ims && allD zs ims))
theorem zeroOr_form {zs:List Int} {ts:List Tm} {x:Int} (h:zeroOr zs ts x=true):isForm zs ts=true:=by
 cases hf:isForm zs ts with
 | true=>rfl
 | false =>
   simp only [zeroOr,codF,hf,Bool.and_eq_true] at h;have h1:=h.1;simp at h1
theorem algOk_of {zs:List Int} {ims:List (List Tm)} (h1:degsOk zs=true) (h2:ims.length=zs.length) (h3:allIm zs ims=true) (ht:∀im∈ims,∀u∈im,IsTm u):AlgOk zs ims:=by
 refine ⟨degsOk_len h1,h2,fun im hi=>?_,ht⟩
 obtain ⟨i,hl,rfl⟩:=List.mem_iff_getElem.1 hi
 have:=List.all_eq_true.1 h3 i (by simpa using hl)
 have:=zeroOr_form this
 rwa [List.getD_eq_getElem?_getD,List.getElem?_eq_getElem hl] at this
theorem isAlg_ok {zs:List Int} {ims:List (List Tm)} (h:isAlg zs ims=true) (ht:∀im∈ims,∀u∈im,IsTm u):AlgOk zs ims:=by
 simp only [isAlg,Bool.and_eq_true,decide_eq_true_eq] at h
 exact algOk_of h.1 h.2.1 h.2.2.1 ht
open Go.RowKit Go.Deep Go.Maps
set_option maxHeartbeats 8000000 in
theorem differentialOf_c {w : World} {da : Option Addr} {dn : Nat} {zs : List Int} {a : Option Addr} {n : Nat} {ims : List (List Tm)} {a2 : Option Addr} {n2 : Nat} {fs : List Tm} (dc c c2 : Nat) (hd : Ints w da dn zs) (hF : Frms w a n ims) (h : Terms w a2 n2 fs) (HA : AlgOk zs ims) (hk : ∀ t ∈ fs, monoOk zs t.m = true) (hf : ∀ t ∈ fs, 1 ≤ t.f ∧ t.f ≤ 10006) (h400 : n2 ≤ 400) :
    Calls Try.prog 76 #[.agg #[.slice da dn dc,.slice a n c],.agg #[.slice a2 n2 c2]] w fun e w'=>∃b,e=.returned (.map (some b))∧w.heap.size≤b∧MapIs w' b (n2 * 3200) (diffS zs ims zeroL fs)∧Below w.heap.size w w':=by
 have HAA:=Lib.hid HA
 have HD:=Lib.hid hd
 have HFF:=Lib.hid hF
 have HT:=Lib.hid h
 have HK:=Lib.hid hk
 have HFB:=Lib.hid hf
 have hnd:n=dn:=by have:=hd.len;have:=hF.len;have:=HA.ln;omega
 have h8:n≤8:=by have:=hF.len;have:=HA.ln;have:=HA.h8;omega
 have HND:=Lib.hid hnd
 clear HA hk hf hnd
 have hA:=(Own.new w 33 #[.slice da dn dc,.slice a n c]).alloc (.cells #[.slice a2 n2 c2] 61)
 have hG:=Own.new (w.alloc (.cells #[.slice da dn dc,.slice a n c] 33)) 61 #[.slice a2 n2 c2]
 simp only [sAl] at hG
 have hb:=bTn (bA1 w (.cells #[.slice da dn dc,.slice a n c] 33)) (bA1 _ (.cells #[.slice a2 n2 c2] 61))
 generalize hg1:w.heap.size+1=gG at *
 generalize hg0:w.heap.size=gA at *
 go_enter Try.func76,Try.ntmps76
 go_upto_region 1 with fail
 generalize (w.alloc (.cells #[.slice da dn dc,.slice a n c] 33)).alloc (.cells #[.slice a2 n2 c2] 61)=w0 at *
 try simp only [hg0,hg1]
 have hmm:=@run_makeMap Try.prog
 have hM:=mapIs_made w0
 have hbb:gA≤w0.heap.size:=by have:=hA.lt;omega
 replace hA:=hA.alloc (.map #[] 0)
 replace hG:=hG.alloc (.map #[] 0)
 replace hb:=bT' hb (bA1 w0 (.map #[] 0)) hbb
 have cA0:=hA.cell 0
 have cA1:=hA.cell 1
 have cG:=hG.cell 0
 go_wp2_with fail
 clear cG cA0 cA1 hmm
 generalize w0.alloc (.map #[] 0)=w3 at *
 generalize hgb:w0.heap.size=b at *
 clear hgb
 subst hg0
 refine (ruleAdd_c true 1 dc c c2 hM (by omega) (fun _=>by simp) (HD.out.keep hb) (HFF.out.keep hb) HND.out h8 (HT.out.keep hb) h400 HK.out HFB.out (Or.inl rfl) (fun im hi=>isForm_400 (HAA.out.fm im hi)) (fun im hi u hu=>⟨(HAA.out.tm im hi u hu).1,isForm_fit (HAA.out.fm im hi) u hu,isForm_f (HAA.out.fm im hi) u hu⟩)).mono ?_
 rintro e wz ⟨rfl,hM2,hgr⟩
 have hbz:=bel_grown hb hgr hbb
 rw [diffR_odd,Nat.zero_add] at hM2
 go_wp2_with fail
 go_ret
 exact ⟨b,rfl,hbb,hM2,hbz⟩
theorem Frms.tm {w:World} {a:Option Addr} {n:Nat} {fss:List (List Tm)} (h:Frms w a n fss):∀ts∈fss,∀t∈ts,IsTm t:=by
 intro ts hts t ht
 obtain ⟨i,hi,rfl⟩:=List.mem_iff_getElem.1 hts
 have hl:=h.len
 obtain ⟨b,off,ts',ai,ni,ci,-,-,-,hT,-,hx⟩:=h.at_ (show i<n by omega)
 have:=hx.out
 rw [List.getElem?_eq_getElem hi] at this
 injection this with this
 exact hT.2.1 t (by rw [←this];exact ht)
theorem degsOk_at {zs:List Int} {i:Nat} {z:Int} (h:degsOk zs=true) (hz:zs[i]? = some z):1≤z∧z≤12:=by
 simp only [degsOk,Bool.and_eq_true] at h
 have:=List.all_eq_true.1 h.1 z (List.mem_of_getElem? hz)
 simpa [okDeg] using this
theorem okIm_of {zs:List Int} {ims:List (List Tm)} {i:Nat} {z:Int} {ts:List Tm} {B:Bool} (hz:zs[i]? = some z) (hx:ims[i]? = some ts) (h:zeroOr zs ts (z+1)=B):okIm zs ims i=B:=by
 rw [okIm,List.getD_eq_getElem?_getD,List.getD_eq_getElem?_getD,hz,hx]
 exact h
theorem okD_of {zs:List Int} {ims:List (List Tm)} {i:Nat} {ts:List Tm} {B:Bool} (hx:ims[i]? = some ts) (h:closedB zs ims ts=B):okD zs ims i=B:=by
 rw [okD,List.getD_eq_getElem?_getD,hx]
 exact h
theorem isAlg_no1 {zs:List Int} {ims:List (List Tm)} (h:degsOk zs=false):isAlg zs ims=false:=by rw [isAlg,h];rfl
theorem isAlg_no2 {zs:List Int} {ims:List (List Tm)} (h:¬ims.length=zs.length):isAlg zs ims=false:=by simp [isAlg,h]
theorem isAlg_no3 {zs:List Int} {ims:List (List Tm)} {k n:Nat} (hn:ims.length=n) (hk:k<n) (h:okIm zs ims k=false):isAlg zs ims=false:=by
 have:allIm zs ims=false:=by rw [allIm,hn];exact range_all_no hk h
 simp [isAlg,this]
theorem isAlg_no4 {zs:List Int} {ims:List (List Tm)} {k n:Nat} (hn:ims.length=n) (hk:k<n) (h:okD zs ims k=false):isAlg zs ims=false:=by
 have:allD zs ims=false:=by rw [allD,hn];exact range_all_no hk h
 simp [isAlg,this]
theorem isAlg_yes {zs:List Int} {ims:List (List Tm)} (h1:degsOk zs=true) (h2:ims.length=zs.length) (h3:allIm zs ims=true) (h4:allD zs ims=true):isAlg zs ims=true:=by simp [isAlg,h1,h2,h3,h4]
set_option maxHeartbeats 8000000 in
theorem IsAlgebra_c {w : World} {da : Option Addr} {dn : Nat} {zs : List Int} {a : Option Addr} {n : Nat} {ims : List (List Tm)} (dc c : Nat) (hd : Ints w da dn zs) (hdn : dn ≤ 1048576) (hF : Frms w a n ims) (hn : n ≤ 1048576) (hL : ∀ im ∈ ims, (im.length : Int) ≤ 1048576) :
    Calls Try.prog 34 #[.agg #[.slice da dn dc,.slice a n c]] w fun e w'=>e=.returned (.bool (isAlg zs ims))∧Below w.heap.size w w':=by
 have HL:=Lib.hid hd.len
 have HLn:=Lib.hid hF.len
 have HFF:=Lib.hid hF
 have HD:=Lib.hid hd
 have HLL:=Lib.hid hL
 have HT:=Lib.hid hF.tm
 clear hL
 have hb0:=bA1 w (.cells #[.slice da dn dc,.slice a n c] 33)
 have hA0:=Own.new w 33 #[.slice da dn dc,.slice a n c]
 have c0:=hA0.cell 0
 have c1:=hA0.cell 1
 cases hdg:degsOk zs with
 | false =>
   have HDG:=Lib.hid hdg;clear hdg;go_enter Try.func34,Try.ntmps34
   go_upto_region 1 with fail
   generalize w.alloc (.cells #[.slice da dn dc,.slice a n c] 33)=w0 at *;go_wp2_with fail
   refine (AreDegrees_c dc (hd.keep hb0) hdn).mono ?_;rintro e w' ⟨rfl,rfl⟩;rw [HDG.out];go_wp2_with fail
   go_ret
   exact ⟨ret_b (isAlg_no1 HDG.out).symm,hb0⟩
 | true =>
   have HDG:=Lib.hid hdg;clear hdg;by_cases hnd:n=dn
   · subst hnd;have h8:n≤8:=(by have:=degsOk_len HDG.out;have:=HL.out;omega);have hnn:((n:Int) != (n:Int))=false:=(by simp);go_enter Try.func34,Try.ntmps34
     go_upto_region 1 with fail
     generalize w.alloc (.cells #[.slice da n dc,.slice a n c] 33)=w0 at *;generalize hg0:w.heap.size=g0 at *;go_wp2_with fail
     refine (AreDegrees_c dc (hd.keep (by rw [hg0];exact hb0)) hdn).mono ?_;rintro e w' ⟨rfl,rfl⟩;rw [HDG.out];have HG:=Lib.hid hg0;clear hg0;go_wp2_with fail
     clear hnn
     go_loopw [23] (fun y wr=>∃i:Nat,i≤n∧y=.int .i64 i∧Below g0 w wr∧Own wr g0 33 #[.slice da n dc,.slice a n c]∧Hid ((List.range i).all (okIm zs ims)=true)) (fun y _=>n - (intOf y).toNat)
     case atStart=>exact ⟨0,Nat.zero_le _,rfl,hb0,hA0,rfl⟩
     case round=>
      clear hb0 hA0 c0 c1;obtain ⟨i,hi,rfl,hb,hA,H⟩:=hrel;have hbw:Below w.heap.size w wr:=(by rw [HG.out];exact hb);have c0:=hA.cell 0;have c1:=hA.cell 1;by_cases hlt:i<n
      · obtain ⟨b,off,ts,ai,ni,ci,rfl,hbl,hc,hT,hni,hx⟩:=(HFF.out.keep hbw).at_ hlt;obtain ⟨bd,od,z,rfl,hbd,hcd,hz⟩:=(HD.out.keep hbw).at_ hlt;have hz1:=(degsOk_at HDG.out hz.out).1;have hz2:=(degsOk_at HDG.out hz.out).2;have hsum:IntKind.i64.wrap (z+1)=z+1:=IntWalk.i64_in _ (by omega);have hni2:ni≤1048576:=(by have:=HLL.out ts (List.mem_of_getElem? hx.out);have:=hT.len;omega);have hE:=Own.new wr 61 #[.slice ai ni ci];have hba:=bA1 wr (.cells #[.slice ai ni ci] 61);have hgw:g0<wr.heap.size:=hA.lt;go_upto_region 6 with fail
        replace hcd:=(World.cell?_of_block (a:=⟨bd,od+i,none⟩) (hba.block bd hbd)).trans hcd;replace hT:=hT.keep hba;replace hA:=hA.keep hba hA.lt;replace hb:=bT' hb hba (by omega);have hDn:=(HD.out.keep hbw).keep hba;generalize wr.alloc (.cells #[.slice ai ni ci] 61)=wu at *;generalize hge:wr.heap.size=gE at *;clear hge hba c0 c1 hc hbl hbd;replace hE:Own wu.drew gE 61 #[.slice ai ni ci]:=hE;replace hA:Own wu.drew g0 33 #[.slice (some ⟨bd,od,none⟩) n dc,.slice (some ⟨b,off,none⟩) n c]:=hA;replace hcd:wu.drew.cell? ⟨bd,od+i,none⟩=some (.int .i64 z):=hcd;replace hT:=hT.keep ((Below.refl _ _).drew:Below wu.heap.size wu wu.drew);replace hDn:=hDn.keep ((Below.refl _ _).drew:Below wu.heap.size wu wu.drew);replace hb:Below g0 w wu.drew:=hb.drew;have hi0:(0:Int)≤(i:Int):=(by omega);have hin:(i:Int)<(n:Int):=(by omega);cases hq:zeroOr zs ts (z+1)
        all_goals
         have HQ:=Lib.hid hq;clear hq
         go_region_held3 (fun w'=>w'.cell? ⟨g0,0,none⟩=some (.slice (some ⟨bd,od,none⟩) n dc)∧w'.cell? ⟨gE,0,none⟩=some (.slice ai ni ci)∧w'.cell? ⟨bd,od+i,none⟩=some (.int .i64 z)) (exact ⟨hA.cell 0,hE.cell 0,hcd⟩)
          (first | (go_at_call 75;refine (isZeroOrOfDegree_c dc ci hDn (by omega) hT hni2).mono ?_;rintro e wv ⟨rfl,hbv⟩;rw [HQ.out];have hA':=hA.keep hbv hA.lt;have hb':=bT' hb hbv (Nat.le_of_lt hA.lt);have hE':=hE.keep hbv hE.lt;have hcd':=(World.cell?_of_block (a:=⟨bd,od+i,none⟩) (hbv.block bd (World.block_lt_of_cell? _ _ hcd))).trans hcd;clear hA hb hE hcd;have hA:=hA';have hb:=hb';have hE:=hE';have hcd:=hcd'))
        · go_wp2_with fail
          go_ret
          exact ⟨ret_b (isAlg_no3 HLn.out hlt (okIm_of hz.out hx.out HQ.out)).symm,by rw [HG.out];exact hb⟩
        · go_wp2_with fail
          go_roundw
          case rel=>exact ⟨i+1,by omega,by go_num,hb,hA,range_all_step H.out (okIm_of hz.out hx.out HQ.out)⟩
          case measure=>simp [intOf] <;> omega
      · have he:i=n:=(by omega);subst he
        have HI:Hid (allIm zs ims=true):=by
         have:=H.out;exact Lib.hid (show allIm zs ims=true by rw [allIm,HLn.out];exact this)
        have HOK:Hid (AlgOk zs ims):=Lib.hid (algOk_of HDG.out (HLn.out.trans HL.out.symm) HI.out HT.out);clear H;go_wp2_with fail
        go_loopw [43] (fun y wx=>∃k:Nat,k≤i∧y=.int .i64 k∧Below g0 w wx∧Own wx g0 33 #[.slice da i dc,.slice a i c]∧Hid ((List.range k).all (okD zs ims)=true)) (fun y _=>i - (intOf y).toNat)
        case atStart=>exact ⟨0,Nat.zero_le _,rfl,hb,hA,rfl⟩
        case round=>
         clear hb hA c0 c1 hbw;obtain ⟨k,hk,rfl,hb,hA,H⟩:=hrel;have hbw:Below w.heap.size w wr:=(by rw [HG.out];exact hb);have c0:=hA.cell 0;have c1:=hA.cell 1;by_cases hlt2:k<i
         · obtain ⟨b,off,ts,ai,ni,ci,rfl,hbl,hc,hT,hni,hx⟩:=(HFF.out.keep hbw).at_ hlt2;have hmem:=List.mem_of_getElem? hx.out;have hfm:=HOK.out.fm ts hmem;have hk1:=isForm_fit hfm;have hf1:=isForm_f hfm;have hn4:ni≤400:=(by have:=isForm_400 hfm;have:=hT.len;omega);have HKF:=Lib.hid hk1;have HFM:=Lib.hid hf1;have HCL:=Lib.hid (HOK.out.closed (HT.out ts hmem) hk1);clear hmem hfm hk1 hf1;have hE:=Own.new wr 61 #[.slice ai ni ci];have hba:=bA1 wr (.cells #[.slice ai ni ci] 61);have hgw:g0<wr.heap.size:=hA.lt;go_upto_region 12 with fail
           replace hT:=hT.keep hba;replace hA:=hA.keep hba hA.lt;replace hb:=bT' hb hba (by omega);have hDn:=(HD.out.keep hbw).keep hba;have hFn:=(HFF.out.keep hbw).keep hba;generalize wr.alloc (.cells #[.slice ai ni ci] 61)=wu at *;generalize hge:wr.heap.size=gE at *;clear hge hba c0 c1 hc hbl;have c0:=hA.cell 0;have c1:=hA.cell 1;have cE:=hE.cell 0;go_wp2_with fail
           refine (differentialOf_c dc c ci hDn hFn hT HOK.out HKF.out HFM.out hn4).mono ?_;rintro e w1 ⟨bm,rfl,hbm,hM,hb1⟩;have hA1:=hA.keep hb1 hA.lt;have hb2:=bT' hb hb1 (Nat.le_of_lt hA.lt);clear hA hb hE c0 c1 cE hDn hFn hT;go_wp2_with fail
           refine (isZero_c hM HCL.out).mono ?_;rintro e w2 ⟨rfl,hb3⟩;have hA2:=hA1.keep hb3 hA1.lt;have hb4:=bT' hb2 hb3 (Nat.le_of_lt hA1.lt);clear hA1 hb2 hb1 hb3;cases hq:closedB zs ims ts
           · have HQ:=Lib.hid hq;clear hq;go_wp2_with fail
             go_ret
             exact ⟨ret_b (isAlg_no4 HLn.out hlt2 (okD_of hx.out HQ.out)).symm,by rw [HG.out];exact hb4⟩
           · have HQ:=Lib.hid hq;clear hq;go_wp2_with fail
             go_roundw
             case rel=>exact ⟨k+1,by omega,by go_num,hb4,hA2,range_all_step H.out (okD_of hx.out HQ.out)⟩
             case measure=>simp [intOf] <;> omega
         · have he:k=i:=(by omega);subst he;go_wp2_with fail
           go_ret
           exact ⟨ret_b (isAlg_yes HDG.out (HLn.out.trans HL.out.symm) HI.out (by rw [allD,HLn.out];exact H.out)).symm,by rw [HG.out];exact hb⟩
   · have hnb:((n:Int) != (dn:Int))=true:=(by simp;omega);have hnc:¬(n:Int)=(dn:Int):=(by omega);go_enter Try.func34,Try.ntmps34
     go_upto_region 1 with fail
     generalize w.alloc (.cells #[.slice da dn dc,.slice a n c] 33)=w0 at *;go_wp2_with fail
     refine (AreDegrees_c dc (hd.keep hb0) hdn).mono ?_;rintro e w' ⟨rfl,rfl⟩;rw [HDG.out];go_wp2_with fail
     go_ret
     exact ⟨ret_b (isAlg_no2 (by rw [HLn.out,HL.out];exact hnd)).symm,hb0⟩
end Go.Proofs.Ytikldofmpkidbaa
