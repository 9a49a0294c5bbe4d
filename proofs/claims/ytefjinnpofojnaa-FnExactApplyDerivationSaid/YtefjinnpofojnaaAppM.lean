
import Derived.Test.YtefjinnpofojnaaApm
import Derived.Test.YtefjinnpofojnaaFdim
import Derived.Test.YtefjinnpofojnaaDerC
namespace Go.Proofs.Ytefjinnpofojnaa
open Go.RowKit Go.Deep
section
variable {zs m:List Int} {ims gss:List (List Tm)} {k:Int} {fs:List Tm}
theorem winPiece {i:Nat} (H:AlgOk zs gss) (hm:IsMono m) (ok:monoOk zs m=true) (hi:i<zs.length) (hp:0<m.getD i 0):WinOk zs (piece zs gss k m i):=(two_rest (k:=k) H hm ok hi hp).winOkW
theorem winMono (H:AlgOk zs gss) (hm:IsMono m) (ok:monoOk zs m=true):∀i:Nat,i≤zs.length→WinOk zs (monoT zs gss k m i)
 | 0,_=>by rw [monoT];simp [WinOk]
 | i + 1, hi => by
   have ih:=winMono H hm ok i (by omega);have hg:=getD_mono hm i;rw [monoT];split
   · exact ih
   · exact addT_all (p:=fun x=>monoOk zs x.m=within x.m) _ _ ih (fun g hg' _ _=>winPiece (k:=k) H hm ok (by omega) (by omega) g hg') (fun f hf _ _=>ih f hf)
theorem winApply (H:AlgOk zs gss):∀(fs out:List Tm),(∀t∈fs,IsTm t)→(∀t∈fs,monoOk zs t.m=true)→WinOk zs out→WinOk zs (applyT zs gss k out fs)
 | [],out,_,_,h=>h
 | t :: fs, out, ht, hk, h => winApply H fs _ (fun u hu => ht u (by simp [hu])) (fun u hu => hk u (by simp [hu]))
     (addT_all (p:=fun x=>monoOk zs x.m=within x.m) _ _ h (fun g hg _ _=>winMono (k:=k) H (ht t (by simp)).1 (hk t (by simp)) zs.length (Nat.le_refl _) g hg) (fun f hf _ _=>h f hf))
theorem derB_ok (h:derB zs ims k gss=true) (hT:∀ts∈gss,∀t∈ts,IsTm t):AlgOk zs gss:=by
 simp only [derB,Bool.and_eq_true,decide_eq_true_eq] at h
 have hA:=h.1
 simp only [isAlg,Bool.and_eq_true] at hA
 refine ⟨degsOk_len hA.1,h.2.2.1,fun ts hts=>?_,hT⟩
 obtain ⟨i,hi,rfl⟩:=List.mem_iff_getElem.1 hts
 have h1:=h.2.2.2
 rw [derF,List.all_eq_true] at h1
 have h2:=h1 i (by simpa using hi)
 rw [derAt,List.getD_eq_getElem?_getD,List.getElem?_eq_getElem hi] at h2
 exact zeroOr_form h2
theorem derB_degs (h:derB zs ims k gss=true):degsOk zs=true:=by
 simp only [derB,Bool.and_eq_true] at h
 have hA:=h.1
 simp only [isAlg,Bool.and_eq_true] at hA
 exact hA.1
theorem derB_drop (h:derB zs ims k gss=true):0≤k∧k≤12:=by
 simp only [derB,Bool.and_eq_true,decide_eq_true_eq] at h
 exact h.2.1
theorem derB_ln (h:derB zs ims k gss=true):gss.length=zs.length:=by
 simp only [derB,Bool.and_eq_true,decide_eq_true_eq] at h
 exact h.2.2.1
end
def apF (zs:List Int) (ims:List (List Tm)) (k:Int) (gss:List (List Tm)) (fs:List Tm):Bool:=derB zs ims k gss && isForm zs fs
def apE (zs:List Int) (ims:List (List Tm)) (k:Int) (gss:List (List Tm)) (fs:List Tm):Int:=if apF zs ims k gss fs=true then (if okT zs (applyT zs gss k [] fs)=true then 0 else 3) else 1
def apV (zs:List Int) (ims:List (List Tm)) (k:Int) (gss:List (List Tm)) (fs:List Tm):List Tm:=if (apF zs ims k gss fs && okT zs (applyT zs gss k [] fs))=true then applyT zs gss k [] fs else []
section
variable {zs:List Int} {ims gss:List (List Tm)} {k:Int} {fs:List Tm}
theorem ap_no (h:apF zs ims k gss fs=false):apE zs ims k gss fs=1∧apV zs ims k gss fs=[]:=by simp [apE,apV,h]
theorem ap_lim (h:apF zs ims k gss fs=true) (q:okT zs (applyT zs gss k [] fs)=false):apE zs ims k gss fs=3∧apV zs ims k gss fs=[]:=by simp [apE,apV,h,q]
theorem ap_yes (h:apF zs ims k gss fs=true) (q:okT zs (applyT zs gss k [] fs)=true):apE zs ims k gss fs=0∧apV zs ims k gss fs=applyT zs gss k [] fs:=by simp [apE,apV,h,q]
theorem apV_400:(apV zs ims k gss fs).length≤400:=by
 unfold apV
 split
 · rename_i h;simp only [okT,Bool.and_eq_true,decide_eq_true_eq] at h;exact h.2.2
 · simp
theorem apV_tm (hT:∀ts∈gss,∀t∈ts,IsTm t) (ht:∀t∈fs,IsTm t):∀t∈apV zs ims k gss fs,IsTm t:=by
 intro t h
 unfold apV at h
 split at h
 · rename_i h1;simp only [apF,Bool.and_eq_true] at h1;exact (apply9 (k:=k) (derB_ok h1.1.1 hT) fs [] 0 ht (isForm_fit h1.1.2) sum9_nil).tm t h
 · simp at h
end
end Go.Proofs.Ytefjinnpofojnaa
