
import Derived.Test.YtndnkeijddagiaaTimesM
namespace Go.Proofs.Ytndnkeijddagiaa
open Go.RowKit Go.Deep
theorem num_mul (F b:Int):num (F * num b)=num (F * b):=by
 unfold num
 rw [Int.mul_emod,Int.emod_emod,←Int.mul_emod]
theorem num_add_mul (a F b:Int):num (a+F * num b)=num (a+F * b):=by
 rw [←num_add a (F * num b),num_mul,num_add]
theorem joinS_pm {zs m k:List Int} (h:¬joinS zs m k=0):joinS zs m k=1∨joinS zs m k=-1:=by
 unfold joinS at h ⊢
 split at h
 · exact absurd rfl h
 · rename_i h1;rw [if_neg h1];exact (sgn3_pm _).1
theorem num_neg_ne {x:Int} (h:¬num x=0):¬num (-x)=0:=by unfold num at *;omega
theorem num_sign_ne {s x:Int} (hs:s=1∨s=-1) (hx:1≤x∧x≤10006):¬num (s * x)=0:=by
 have h0:¬num x=0:=by rw [num_self (by omega)];omega
 rcases hs with h | h
 · rw [h,Int.one_mul];exact h0
 · rw [h,Int.neg_one_mul];exact num_neg_ne h0
def pstep (zs left right:List Int) (F:Int) (S:List Int→Int) (u:Tm):List Int→Int:=
 if joinS zs left u.m=0 then S
 else if joinS zs (joinM zs left u.m) right=0 then S
 else updS S (joinM zs (joinM zs left u.m) right) (num (S (joinM zs (joinM zs left u.m) right)+joinS zs left u.m * joinS zs (joinM zs left u.m) right * num F * u.f))
def addP (zs left right:List Int) (F:Int) (S:List Int→Int) (im:List Tm):List Int→Int:=im.foldl (pstep zs left right F) S
def between (zs left right:List Int) (im:List Tm):List Tm:=timesT zs [⟨right,1⟩] [] (timesT zs im [] [⟨left,1⟩])
theorem own_shift {zs left:List Int} {im:List Tm} (hf:∀u∈im,1≤u.f∧u.f≤10006):timesT zs im [] [⟨left,1⟩]=shiftT zs ⟨left,1⟩ im:=by
 show addT 1 [] (shiftT zs ⟨left,1⟩ im)=_
 have hx:∀x∈shiftT zs ⟨left,1⟩ im,1≤x.f∧x.f≤10006:=fun x hx=>by
  have hb:=shiftT_bd x hx;obtain ⟨u,hu,hj,_,e⟩:=shiftT_mem hx;have:=num_sign_ne (joinS_pm hj) (hf u hu);rw [Int.mul_one] at e;rw [←e] at this;omega
 rw [scT_add (by omega) (by omega) _ hx,scT]
 have:∀l:List Tm,(∀x∈l,1≤x.f∧x.f≤10006)→(l.map fun t=>(⟨t.m,num (1 * t.f)⟩:Tm))=l:=by
  intro l
  induction l with
  | nil=>intro _;rfl
  | cons t l ih =>
    intro h;have ht:=h t (by simp);rw [List.map_cons,ih (fun x hx=>h x (by simp [hx])),Int.one_mul,num_self (by omega)]
 exact this _ hx
theorem addP_coef {zs left right:List Int} {F:Int} {S0:List Int→Int}:∀(im:List Tm) (S G:List Int→Int),(∀m,S m=num (S0 m+num F * G m))→∀m,addP zs left right F S im m=num (S0 m+num F * sumS zs [⟨right,1⟩] G (shiftT zs ⟨left,1⟩ im) m)
 | [],S,G,h,m=>h m
 | u :: im, S, G, h, m => by
   show addP zs left right F (pstep zs left right F S u) im m=_
   by_cases h1:joinS zs left u.m=0
   · rw [shiftT_no (t:=⟨left,1⟩) h1,pstep,if_pos h1];exact addP_coef im S G h m
   · rw [shiftT_yes (t:=⟨left,1⟩) h1,pstep,if_neg h1];show addP zs left right F _ im m=num (S0 m+num F * sumS zs [⟨right,1⟩] (stepS zs ⟨joinM zs left u.m,num (joinS zs left u.m * 1 * u.f)⟩ G ⟨right,1⟩) (shiftT zs ⟨left,1⟩ im) m)
     refine addP_coef im _ _ (fun k=>?_) m;by_cases h2:joinS zs (joinM zs left u.m) right=0
     · rw [if_pos h2,stepS,if_pos h2];exact h k
     · rw [if_neg h2,stepS,if_neg h2];unfold updS;by_cases hk:k=joinM zs (joinM zs left u.m) right
       · rw [if_pos hk,if_pos hk,hk,h,num_add'];rw [Int.mul_one,Int.mul_one,num_add_mul,Int.mul_add,←Int.add_assoc];rw [←num_add,←num_add (S0 (joinM zs (joinM zs left u.m) right)+num F * G (joinM zs (joinM zs left u.m) right)) (num F * (joinS zs (joinM zs left u.m) right * num (joinS zs left u.m * u.f)))];congr 2
         rw [←Int.mul_assoc,num_mul];congr 1
         ac_rfl
       · rw [if_neg hk,if_neg hk];exact h k
def frontM (m:List Int) (i:Nat):List Int:=m.take i++List.replicate (8 - i) 0
def leftM (m:List Int) (i:Nat):List Int:=(frontM m i).set i (m.getD i 0 - 1)
def backM (m:List Int) (i:Nat):List Int:=List.replicate (i+1) 0++m.drop (i+1)
theorem frontM_len {m:List Int} {i:Nat} (h:m.length=8) (hi:i≤8):(frontM m i).length=8:=by simp [frontM,h];omega
theorem leftM_len {m:List Int} {i:Nat} (h:m.length=8) (hi:i≤8):(leftM m i).length=8:=by rw [leftM,List.length_set];exact frontM_len h hi
theorem backM_len {m:List Int} {i:Nat} (h:m.length=8) (hi:i<8):(backM m i).length=8:=by simp [backM,h];omega
def sgnTo (zs m:List Int):Nat→Int
 | 0=>1
 | i+1=>if odd (zs.getD i 0)=true∧m.getD i 0=1 then - sgnTo zs m i else sgnTo zs m i
theorem sgnTo_par {zs m:List Int}:∀i:Nat,(∀j,j<i→odd (zs.getD j 0)=true→m.getD j 0=0∨m.getD j 0=1)→sgnTo zs m i=if wtTo zs m i % 2=0 then 1 else -1
 | 0,_=>by simp [sgnTo,wtTo]
 | i + 1, h => by
   have ih:=sgnTo_par i (fun j hj=>h j (by omega));rw [sgnTo,wtTo,ih]
   cases ho:odd (zs.getD i 0) with
   | false =>
     have hz:zs.getD i 0 % 2=0:=(by simpa [odd] using ho);have hp:(zs.getD i 0 * m.getD i 0) % 2=0:=(by rw [Int.mul_emod,hz,Int.zero_mul];rfl);rw [if_neg (by simp)];have:(wtTo zs m i+zs.getD i 0 * m.getD i 0) % 2=wtTo zs m i % 2:=(by omega);rw [this]
   | true =>
     have hz:zs.getD i 0 % 2=1:=by
      have:zs.getD i 0 % 2≠0:=(by simpa [odd] using ho);omega
     rcases h i (by omega) ho with h0 | h1
     · rw [if_neg (by omega),h0,Int.mul_zero,Int.add_zero]
     · rw [if_pos ⟨rfl,h1⟩,h1,Int.mul_one];split
       · rw [if_neg (by omega)]
       · rw [if_pos (by omega)];rfl
def termS (zs:List Int) (ims:List (List Tm)) (t:Tm) (S:List Int→Int):Nat→List Int→Int
 | 0=>S
 | i+1=>if 0<t.m.getD i 0 then addP zs (leftM t.m i) (backM t.m i) (sgnTo zs t.m i * t.m.getD i 0 * t.f) (termS zs ims t S i) (ims.getD i []) else termS zs ims t S i
def termT (zs:List Int) (ims:List (List Tm)) (t:Tm) (out:List Tm):Nat→List Tm
 | 0=>out
 | i+1=>if t.m.getD i 0=0 then termT zs ims t out i else addT (num (if wtTo zs t.m i % 2=0 then t.f * t.m.getD i 0 else -(t.f * t.m.getD i 0))) (termT zs ims t out i) (between zs (leftM t.m i) (backM t.m i) (ims.getD i []))
def Ims (ims:List (List Tm)):Prop:=∀im∈ims,Srt im∧(∀u∈im,u.m.length=8)∧∀u∈im,1≤u.f∧u.f≤10006
theorem Ims.at_ {ims:List (List Tm)} (h:Ims ims) (i:Nat):Srt (ims.getD i [])∧(∀u∈ims.getD i [],u.m.length=8)∧∀u∈ims.getD i [],1≤u.f∧u.f≤10006:=by
 by_cases hi:i<ims.length
 · rw [List.getD_eq_getElem?_getD,List.getElem?_eq_getElem hi];exact h _ (List.getElem_mem hi)
 · rw [List.getD_eq_getElem?_getD,List.getElem?_eq_none (by omega)];exact ⟨List.Pairwise.nil,by simp,by simp⟩
def zeroL:List Int→Int:=fun _=>0
theorem odd_le1 {zs m:List Int} (hm:IsMono m) (h:monoOk zs m=true) {j:Nat} (ho:odd (zs.getD j 0)=true):m.getD j 0≤1:=by
 by_cases hj:j<8
 · by_cases hz:j<zs.length
   · obtain ⟨y,hy0,-,-,HY⟩:=mono_at hm hj;rw [monoOk,List.all_eq_true] at h;have h1:=h j (by simpa using hj);rw [fits_eq HY.out] at h1;rw [List.getD_eq_getElem?_getD,HY.out];rw [List.getD_eq_getElem?_getD,List.getElem?_eq_getElem hz] at ho;rw [capAt,List.getElem?_eq_getElem hz] at h1;simp only [Option.getD_some] at ho ⊢;simp only [ho] at h1;simpa using h1
   · rw [List.getD_eq_getElem?_getD,List.getElem?_eq_none (by omega)] at ho;simp [odd] at ho
 · rw [List.getD_eq_getElem?_getD,List.getElem?_eq_none (by have:=hm.1;omega)];simp
theorem between_good {zs left right : List Int} {im : List Tm} (hl : left.length = 8) (hr : right.length = 8) (_hs : Srt im) (h8 : ∀ u ∈ im, u.m.length = 8) (hf : ∀ u ∈ im, 1 ≤ u.f ∧ u.f ≤ 10006) :
    (∀m,sumS zs [⟨right,1⟩] zeroL (shiftT zs ⟨left,1⟩ im) m=coef (between zs left right im) m)∧Good (between zs left right im):=by
 have l2:∀x∈shiftT zs ⟨left,1⟩ im,x.m.length=8:=fun x hx=>by
  obtain ⟨u,hu,hj,hm,-⟩:=shiftT_mem hx;rw [hm,join_ne hj];exact addM_length hl (h8 u hu)
 have:=times_coef (zs:=zs) (gs:=[⟨right,1⟩]) (by simpa using hr) (List.pairwise_singleton _ _) (shiftT zs ⟨left,1⟩ im) [] zeroL l2 good_nil (fun _=>rfl)
 rw [between,own_shift hf]
 exact this
theorem term_coef {zs : List Int} {ims : List (List Tm)} {t : Tm} {S : List Int → Int} {out : List Tm} (hI : Ims ims) (ht : t.m.length = 8) (hp : ∀ j, odd (zs.getD j 0) = true → t.m.getD j 0 = 0 ∨ t.m.getD j 0 = 1) (h0 : ∀ j, 0 ≤ t.m.getD j 0)
    (hS:∀m,S m=coef out m) (hG:Good out):∀i:Nat,i≤8→(∀m,termS zs ims t S i m=coef (termT zs ims t out i) m)∧Good (termT zs ims t out i)
 | 0,_=>⟨hS,hG⟩
 | i + 1, hi => by
   obtain ⟨e1,g1⟩:=term_coef hI ht hp h0 hS hG i (by omega);have hn:=h0 i;by_cases he:t.m.getD i 0=0
   · rw [termS,termT,if_neg (by omega),if_pos he];exact ⟨e1,g1⟩
   · obtain ⟨s1,s2,s3⟩:=hI.at_ i;have hl:=leftM_len ht (show i≤8 by omega);have hr:=backM_len ht (show i<8 by omega);obtain ⟨b1,b2⟩:=between_good (zs:=zs) hl hr s1 s2 s3
     have hF:sgnTo zs t.m i * t.m.getD i 0 * t.f=if wtTo zs t.m i % 2=0 then t.f * t.m.getD i 0 else -(t.f * t.m.getD i 0):=by
      rw [sgnTo_par i (fun j _=>hp j)];split
      · rw [Int.one_mul,Int.mul_comm]
      · rw [Int.neg_one_mul,Int.neg_mul,Int.mul_comm]
     rw [termS,termT,if_pos (by omega),if_neg he,←hF];generalize sgnTo zs t.m i * t.m.getD i 0 * t.f=F;have hb:∀x∈termT zs ims t out i,0≤x.f∧x.f≤10006:=fun x hx=>(by have:=g1.nz x hx;omega);refine ⟨fun m=>?_,?_⟩
     · rw [addP_coef (ims.getD i []) _ zeroL (fun m => by
         show _=num (_+num F * 0)
         rw [Int.mul_zero,Int.add_zero,e1 m,num_self (coef_bd hb)]) m,b1 m]
       exact (coef_add _ _ g1.len b2.len g1.srt b2.srt hb).symm
     · have hx:∀x,¬num x=0→1≤num x∧num x≤10006:=fun x h=>(by have h1:=num_lo x;have h2:=num_hi x;omega);exact ⟨addT_srt _ _ g1.len b2.len g1.srt b2.srt,addT_all _ _ g1.len (fun g hg _ _=>b2.len g hg) (fun f hf _ _=>g1.len f hf),addT_all _ _ g1.nz (fun g _ x hn=>hx x hn) (fun f _ x hn=>hx x hn)⟩
def diffS (zs:List Int) (ims:List (List Tm)) (S:List Int→Int) (fs:List Tm):List Int→Int:=fs.foldl (fun S t=>termS zs ims t S ims.length) S
def diffT (zs:List Int) (ims:List (List Tm)) (out:List Tm) (fs:List Tm):List Tm:=fs.foldl (fun out t=>termT zs ims t out zs.length) out
theorem diff_coef {zs : List Int} {ims : List (List Tm)} (hI : Ims ims) (hn : ims.length = zs.length) (h8 : zs.length ≤ 8) : ∀ (fs out : List Tm) (S : List Int → Int), (∀ t ∈ fs, IsMono t.m) → (∀ t ∈ fs, monoOk zs t.m = true) → (∀ m, S m = coef out m) → Good out →
    (∀m,diffS zs ims S fs m=coef (diffT zs ims out fs) m)∧Good (diffT zs ims out fs)
 | [],out,S,_,_,hS,hG=>⟨hS,hG⟩
 | t :: fs, out, S, hm, hok, hS, hG => by
   have hmt:=hm t (by simp);have hokt:=hok t (by simp);have h0:∀j,0≤t.m.getD j 0:=fun j=>by have:=getD_mono hmt j;omega
   have hp:∀j,odd (zs.getD j 0)=true→t.m.getD j 0=0∨t.m.getD j 0=1:=fun j ho=>by
    have:=odd_le1 hmt hokt ho;have:=h0 j;omega
   obtain ⟨e,g⟩:=term_coef hI hmt.1 hp h0 hS hG zs.length h8;show (∀m,diffS zs ims (termS zs ims t S ims.length) fs m=_)∧_
   rw [hn];exact diff_coef hI hn h8 fs _ _ (fun u hu=>hm u (by simp [hu])) (fun u hu=>hok u (by simp [hu])) e g
def sgnO (o:Bool) (zs m:List Int) (i:Nat):Int:=if o=true then sgnTo zs m i else 1
def termR (o:Bool) (zs:List Int) (ims:List (List Tm)) (t:Tm) (S:List Int→Int):Nat→List Int→Int
 | 0=>S
 | i+1=>if 0<t.m.getD i 0 then addP zs (leftM t.m i) (backM t.m i) (sgnO o zs t.m i * t.m.getD i 0 * t.f) (termR o zs ims t S i) (ims.getD i []) else termR o zs ims t S i
theorem termR_odd {zs:List Int} {ims:List (List Tm)} {t:Tm} {S:List Int→Int}:∀i,termR true zs ims t S i=termS zs ims t S i
 | 0=>rfl
 | i+1=>by rw [termR,termS,termR_odd i,sgnO,if_pos rfl]
def diffR (o:Bool) (zs:List Int) (ims:List (List Tm)) (k:Int) (S:List Int→Int) (fs:List Tm):List Int→Int:=fs.foldl (fun S t=>termR o zs ims ⟨t.m,k * t.f⟩ S ims.length) S
theorem diffR_odd {zs:List Int} {ims:List (List Tm)}:∀(fs:List Tm) (S:List Int→Int),diffR true zs ims 1 S fs=diffS zs ims S fs
 | [],_=>rfl
 | t :: fs, S => by
   show diffR true zs ims 1 (termR true zs ims ⟨t.m,1 * t.f⟩ S ims.length) fs=diffS zs ims (termS zs ims t S ims.length) fs
   rw [diffR_odd fs,termR_odd,Int.one_mul]
end Go.Proofs.Ytndnkeijddagiaa
