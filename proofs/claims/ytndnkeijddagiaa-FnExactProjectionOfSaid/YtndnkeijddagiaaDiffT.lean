
import Derived.Test.YtndnkeijddagiaaDegForm
import Derived.Test.YtndnkeijddagiaaDiffS
import Derived.Test.YtndnkeijddagiaaTimes
namespace Go.Proofs.Ytndnkeijddagiaa
set_option maxRecDepth 100000
open Go.RowKit Go.Deep
def zeroOr (zs:List Int) (ts:List Tm) (x:Int):Bool:=codF zs ts==0 && (degF zs ts==x || ts.length==0)
theorem isZeroOrOfDegree_c {w : World} {da : Option Addr} {dn : Nat} {zs : List Int} {a : Option Addr} {n : Nat} {ts : List Tm} {x : Int} (dc c : Nat) (hd : Ints w da dn zs) (hdn : dn ≤ 1048576) (h : Terms w a n ts) (hn : n ≤ 1048576) :
    Calls Try.prog 76 #[.slice da dn dc,.agg #[.slice a n c],.int .i64 x] w fun e w'=>e=.returned (.bool (zeroOr zs ts x))∧Below w.heap.size w w':=by
 have hl:=h.len
 obtain ⟨D,hD⟩:∃D,degF zs ts=D:=⟨_,rfl⟩
 obtain ⟨K,hK⟩:∃K,codF zs ts=K:=⟨_,rfl⟩
 have hZ:zeroOr zs ts x=(K==0 && (D==x || n==0)):=by rw [zeroOr,hD,hK,hl]
 rw [hZ]
 have HD:=Lib.hid hD
 have HK:=Lib.hid hK
 clear hZ hD hK hl
 have hb:=bA1 w (.cells #[.slice a n c] 47)
 have hF:=Own.new w 47 #[.slice a n c]
 have cF:=hF.cell 0
 go_enter Try.func76,Try.ntmps76
 go_upto_region 1 with fail
 generalize hw0:w.alloc (.cells #[.slice a n c] 47)=w0 at *
 clear hw0
 go_wp2_with fail
 refine (DegreeOfForm_c dc c (hd.keep hb) hdn (h.keep hb) hn).mono ?_
 rintro e w1 ⟨rfl,hb1⟩
 rw [HD.out,HK.out]
 replace hF:=hF.keep hb1 hF.lt
 replace hb:=bTn hb hb1
 clear hb1 cF
 have cF:=hF.cell 0
 by_cases hk:K=0
 · subst hk;by_cases hx:D=x
   · subst hx;go_wp2_with fail
     go_ret
     exact ⟨by simp,hb⟩
   · have hxb:(D==x)=false:=(by simpa using hx);by_cases h0:n=0
     · subst h0;go_wp2_with fail
       go_ret
       exact ⟨by simp,hb⟩
     · have h0b:((n:Int)==0)=false:=(by simp;omega);have h0c:(n==0)=false:=(by simpa using h0);go_wp2_with fail
       go_ret
       exact ⟨by simp [hxb,h0c],hb⟩
 · have hkb:(K==0)=false:=(by simpa using hk);go_wp2_with fail
   go_ret
   exact ⟨by simp [hkb],hb⟩
structure AlgOk (zs:List Int) (ims:List (List Tm)):Prop where
 h8:zs.length≤8
 ln:ims.length=zs.length
 fm:∀im∈ims,isForm zs im=true
 tm:∀im∈ims,∀u∈im,IsTm u
theorem isForm_srt {zs:List Int} {ts:List Tm} (h:isForm zs ts=true):Srt ts:=by
 simp only [isForm,Bool.and_eq_true,decide_eq_true_eq] at h
 exact listOk_srt h.2.1
theorem AlgOk.ims {zs:List Int} {ims:List (List Tm)} (h:AlgOk zs ims):Ims ims:=fun im hi=>
 ⟨isForm_srt (h.fm im hi),fun u hu=>(h.tm im hi u hu).1.1,isForm_f (h.fm im hi)⟩
theorem AlgOk.at_ {zs:List Int} {ims:List (List Tm)} (h:AlgOk zs ims) (i:Nat):(ims.getD i []).length≤400∧(∀u∈ims.getD i [],IsTm u)∧(∀u∈ims.getD i [],monoOk zs u.m=true)∧(∀u∈ims.getD i [],1≤u.f∧u.f≤10006)∧Srt (ims.getD i []):=by
 by_cases hi:i<ims.length
 · rw [List.getD_eq_getElem?_getD,List.getElem?_eq_getElem hi];have hm:=List.getElem_mem hi;have hf:=h.fm _ hm;exact ⟨isForm_400 hf,h.tm _ hm,isForm_fit hf,isForm_f hf,isForm_srt hf⟩
 · rw [List.getD_eq_getElem?_getD,List.getElem?_eq_none (by omega)];exact ⟨by simp,by simp,by simp,by simp,List.Pairwise.nil⟩
theorem left_mono {zs m:List Int} {i:Nat} (h8:zs.length≤8) (hm:IsMono m) (ok:monoOk zs m=true) (hi:i<zs.length) (hp:0<m.getD i 0):IsMono (leftM m i):=
 (left_in (i:=i) (ok_in hm ok) (by omega) (by rw [hm.1];omega) hp:In 20 (leftM m i)).isMono (leftM_len hm.1 (by omega)) (by omega)
theorem back_mono {zs m:List Int} {i:Nat} (hm:IsMono m) (ok:monoOk zs m=true) (hi:i<8):IsMono (backM m i):=
 (back_in (i:=i) (ok_in hm ok) (by omega):In 20 (backM m i)).isMono (backM_len hm.1 hi) (by omega)
theorem two_left {zs m : List Int} {i : Nat} {im : List Tm} (h8 : zs.length ≤ 8) (hm : IsMono m) (ok : monoOk zs m = true) (hi : i < zs.length) (hp : 0 < m.getD i 0)
    (ht:∀u∈im,IsTm u) (hk:∀u∈im,monoOk zs u.m=true) (hf:∀u∈im,1≤u.f∧u.f≤10006) (hs:Srt im):Two zs [⟨leftM m i,1⟩] im:=by
 have L:=left_mono h8 hm ok hi hp
 refine ⟨?_,ht,?_,?_,hf,hs⟩
 · intro t h;obtain rfl:t=⟨leftM m i,1⟩:=(by simpa using h);exact ⟨L,by dsimp only;omega,by dsimp only;omega⟩
 · intro t h u hu;obtain rfl:t=⟨leftM m i,1⟩:=(by simpa using h);exact (around_fit h8 hm ok (ht u hu).1 (hk u hu) hi hp).1
 · intro t h;obtain rfl:t=⟨leftM m i,1⟩:=(by simpa using h);exact ⟨by dsimp only;omega,by dsimp only;omega⟩
theorem two_back {zs m : List Int} {i : Nat} {im : List Tm} (h8 : zs.length ≤ 8) (hm : IsMono m) (ok : monoOk zs m = true) (hi : i < zs.length) (hp : 0 < m.getD i 0)
    (ht:∀u∈im,IsTm u) (hk:∀u∈im,monoOk zs u.m=true) (hf:∀u∈im,1≤u.f∧u.f≤10006) (hs:Srt im):Two zs (timesT zs im [] [⟨leftM m i,1⟩]) [⟨backM m i,1⟩]:=by
 have T1:=two_left h8 hm ok hi hp ht hk hf hs
 have K:=back_mono hm ok (show i<8 by omega)
 refine ⟨T1.tm,?_,?_,T1.good.nz,?_,List.pairwise_singleton _ _⟩
 · intro t h;obtain rfl:t=⟨backM m i,1⟩:=(by simpa using h);exact ⟨K,by dsimp only;omega,by dsimp only;omega⟩
 · intro t h u hu;obtain rfl:u=⟨backM m i,1⟩:=(by simpa using hu);refine times_all (p:=fun k=>FitW zs k (backM m i)) (by simp) (fun s hs u hu _=>?_) t h;obtain rfl:s=⟨leftM m i,1⟩:=(by simpa using hs);exact (around_fit h8 hm ok (ht u hu).1 (hk u hu) hi hp).2
 · intro t h;obtain rfl:t=⟨backM m i,1⟩:=(by simpa using h);exact ⟨by dsimp only;omega,by dsimp only;omega⟩
theorem own_len {zs l:List Int} {im:List Tm}:(timesT zs im [] [⟨l,1⟩]).length≤im.length:=by
 have:=times_len (zs:=zs) (gs:=im) [⟨l,1⟩] []
 simpa using this
theorem between_len {zs l r:List Int} {im:List Tm}:(between zs l r im).length≤im.length:=by
 have h1:=times_len (zs:=zs) (gs:=[⟨r,1⟩]) (timesT zs im [] [⟨l,1⟩]) []
 have h2:=own_len (zs:=zs) (l:=l) (im:=im)
 rw [List.length_nil,List.length_singleton,Nat.mul_one,Nat.zero_add] at h1
 exact Nat.le_trans h1 h2
structure Sum9 (out:List Tm) (N:Nat):Prop where
 tm:∀x∈out,IsTm x
 good:Good out
 len:out.length≤N
theorem Sum9.bd {out:List Tm} {N:Nat} (h:Sum9 out N):∀x∈out,0≤x.f∧x.f≤10006:=fun x hx=>by have:=h.good.nz x hx;omega
theorem Sum9.mono {out:List Tm} {N M:Nat} (h:Sum9 out N) (hN:N≤M):Sum9 out M:=⟨h.tm,h.good,Nat.le_trans h.len hN⟩
theorem sum9_nil:Sum9 [] 0:=⟨by simp,good_nil,by simp⟩
theorem Sum9.add {out gs:List Tm} {N M:Nat} (h:Sum9 out N) (k:Int) (g:Sum9 gs M):Sum9 (addT k out gs) (N+M):=by
 have hx:∀x,¬num x=0→1≤num x∧num x≤10006:=fun x h=>by have h1:=num_lo x;have h2:=num_hi x;omega
 refine ⟨addT_tm h.tm g.tm,⟨addT_srt _ _ h.good.len g.good.len h.good.srt g.good.srt,addT_all _ _ h.good.len (fun y hy _ _=>g.good.len y hy) (fun f hf _ _=>h.good.len f hf),addT_all _ _ h.good.nz (fun y _ x hn=>hx x hn) (fun f _ x hn=>hx x hn)⟩,?_⟩
 have:=addT_len (k:=k) out gs
 have:=h.len
 have:=g.len
 omega
theorem AlgOk.between {zs m:List Int} {ims:List (List Tm)} (h:AlgOk zs ims) {i:Nat} (hm:IsMono m) (ok:monoOk zs m=true) (hi:i<zs.length) (hp:0<m.getD i 0):Sum9 (between zs (leftM m i) (backM m i) (ims.getD i [])) 400:=by
 obtain ⟨h1,h2,h3,h4,h5⟩:=h.at_ i
 have T2:=two_back h.h8 hm ok hi hp h2 h3 h4 h5
 exact ⟨T2.tm,T2.good,Nat.le_trans between_len h1⟩
theorem AlgOk.term {zs:List Int} {ims:List (List Tm)} (h:AlgOk zs ims) {t:Tm} {out:List Tm} {N:Nat} (hm:IsMono t.m) (ok:monoOk zs t.m=true) (H:Sum9 out N):∀i:Nat,i≤zs.length→Sum9 (termT zs ims t out i) (N+i * 400)
 | 0,_=>by rw [termT];exact H.mono (by omega)
 | i + 1, hi => by
   have ih:=h.term hm ok H i (by omega);have hg:=getD_mono hm i;rw [termT];split
   · exact ih.mono (by omega)
   · exact (ih.add _ (h.between hm ok (by omega) (by omega))).mono (by omega)
theorem AlgOk.diff {zs:List Int} {ims:List (List Tm)} (h:AlgOk zs ims):∀(fs out:List Tm) (N:Nat),(∀t∈fs,IsTm t)→(∀t∈fs,monoOk zs t.m=true)→Sum9 out N→Sum9 (diffT zs ims out fs) (N+fs.length * 3200)
 | [],out,N,_,_,H=>H.mono (by omega)
 | t :: fs, out, N, ht, hk, H => by
   have h8:=h.h8;have:=h.diff fs _ _ (fun u hu=>ht u (by simp [hu])) (fun u hu=>hk u (by simp [hu])) (h.term (ht t (by simp)).1 (hk t (by simp)) H zs.length (Nat.le_refl _));refine this.mono ?_;rw [List.length_cons];omega
def closedB (zs:List Int) (ims:List (List Tm)) (fs:List Tm):Bool:=(diffT zs ims [] fs).length==0
theorem AlgOk.closed {zs:List Int} {ims:List (List Tm)} (h:AlgOk zs ims) {fs:List Tm} (ht:∀t∈fs,IsTm t) (hk:∀t∈fs,monoOk zs t.m=true):closedB zs ims fs=true↔∀m,IsMono m→diffS zs ims zeroL fs m=0:=by
 obtain ⟨e,-⟩:=diff_coef h.ims h.ln h.h8 fs [] zeroL (fun t hx=>(ht t hx).1) hk (fun _=>rfl) good_nil
 have S:=h.diff fs [] 0 ht hk sum9_nil
 rw [closedB]
 constructor
 · intro hh m _;have h0:diffT zs ims [] fs=[]:=List.length_eq_zero_iff.1 (by simpa using hh);rw [e m,h0];rfl
 · intro hh
   cases hT:diffT zs ims [] fs with
   | nil=>rfl
   | cons x xs =>
     rw [hT] at S;have h1:=hh x.m (S.tm x (by simp)).1;rw [e x.m,hT,coef_hit rfl] at h1;have:=S.good.nz x (by simp);omega
theorem termT_take {zs:List Int} {ims:List (List Tm)} {t:Tm} {fs:List Tm} {i:Nat} (h:fs[i]? = some t):diffT zs ims [] (fs.take (i+1))=termT zs ims t (diffT zs ims [] (fs.take i)) zs.length:=by
 rw [diffT,diffT,List.take_add_one,h,List.foldl_append];rfl
theorem wtTo_front {zs m:List Int} {i:Nat} (hl:m.length=8) (hi:i≤8):∀j:Nat,wtTo zs (frontM m i) j=wtTo zs m (min i j)
 | 0=>by rw [Nat.min_zero];rfl
 | j + 1 => by
   have ih:=wtTo_front (zs:=zs) hl hi j;rw [wtTo,ih];by_cases h:j<i
   · rw [show min i (j+1)=min i j+1 by omega,wtTo,show min i j=j by omega];congr 2
     rw [frontM,List.getD_eq_getElem?_getD,List.getElem?_append_left (by rw [List.length_take];omega),List.getElem?_take,if_pos h,←List.getD_eq_getElem?_getD]
   · rw [show min i (j+1)=min i j by omega]
     have:(frontM m i).getD j 0=0:=by
      rw [frontM,List.getD_eq_getElem?_getD,List.getElem?_append_right (by rw [List.length_take];omega),List.getElem?_replicate];split <;> rfl
     rw [this];omega
theorem wt_front {zs m:List Int} {i:Nat} (hl:m.length=8) (hz:zs.length≤8) (hi:i≤zs.length):wt zs (frontM m i)=wtTo zs m i:=by
 rw [wt,wtTo_front hl (by omega),Nat.min_eq_left hi]
def okIm (zs:List Int) (ims:List (List Tm)) (i:Nat):Bool:=zeroOr zs (ims.getD i []) (zs.getD i 0+1)
def okD (zs:List Int) (ims:List (List Tm)) (i:Nat):Bool:=closedB zs ims (ims.getD i [])
def allIm (zs:List Int) (ims:List (List Tm)):Bool:=(List.range ims.length).all (okIm zs ims)
def allD (zs:List Int) (ims:List (List Tm)):Bool:=(List.range ims.length).all (okD zs ims)
def isAlg (zs:List Int) (ims:List (List Tm)):Bool:=degsOk zs && (decide (ims.length=zs.length) && (allIm zs ims && allD zs ims))
theorem zeroOr_form {zs:List Int} {ts:List Tm} {x:Int} (h:zeroOr zs ts x=true):isForm zs ts=true:=by
 cases hf:isForm zs ts with
 | true=>rfl
 | false =>
   simp only [zeroOr,codF,hf,Bool.and_eq_true] at h;have h1:=h.1;simp at h1
theorem algOk_of {zs:List Int} {ims:List (List Tm)} (h1:degsOk zs=true) (h2:ims.length=zs.length) (h3:allIm zs ims=true) (ht:∀im∈ims,∀u∈im,IsTm u):AlgOk zs ims:=by
 refine ⟨degsOk_len h1,h2,fun im hi=>?_,ht⟩
 obtain ⟨i,hl,rfl⟩:=List.mem_iff_getElem.1 hi
 have:=List.all_eq_true.1 h3 i (by simpa using hl)
 have:=zeroOr_form this
 rwa [List.getD_eq_getElem?_getD,List.getElem?_eq_getElem hl] at this
end Go.Proofs.Ytndnkeijddagiaa
