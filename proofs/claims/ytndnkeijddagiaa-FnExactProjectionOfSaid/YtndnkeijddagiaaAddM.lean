
import Derived.Test.YtndnkeijddagiaaIsForm
import Derived.Test.YtndnkeijddagiaaNum
namespace Go.Proofs.Ytndnkeijddagiaa
open Go.RowKit Go.Deep
theorem cmpM_cons (a b:Int) (l1 l2:List Int):cmpM (a::l1) (b::l2)=-1↔b<a∨(a=b∧cmpM l1 l2=-1):=by
 rw [cmpM]
 rcases Int.lt_trichotomy a b with h | h | h
 · rw [if_neg (by omega),if_pos h];omega
 · rw [if_neg (by omega),if_neg (by omega)];omega
 · rw [if_pos h];omega
theorem cmpM_turn:∀m k:List Int,cmpM k m=- cmpM m k
 | [],[]=>rfl
 | [],_::_=>rfl
 | _::_,[]=>rfl
 | a :: l1, b :: l2 => by
   have ih:=cmpM_turn l1 l2;rw [cmpM,cmpM]
   rcases Int.lt_trichotomy a b with h | h | h
   · rw [if_pos h,if_neg (by omega),if_pos h]
   · rw [if_neg (by omega),if_neg (by omega),if_neg (by omega),if_neg (by omega),ih]
   · rw [if_neg (by omega),if_pos h,if_pos h];rfl
theorem cmpM_eq:∀m k:List Int,m.length=k.length→cmpM m k=0→m=k
 | [],[],_,_=>rfl
 | [],_::_,h,_=>by simp at h
 | _::_,[],h,_=>by simp at h
 | a :: l1, b :: l2, hl, h => by
   rw [cmpM] at h
   rcases Int.lt_trichotomy a b with h1 | h1 | h1
   · rw [if_neg (by omega),if_pos h1] at h;omega
   · rw [if_neg (by omega),if_neg (by omega)] at h;rw [h1,cmpM_eq l1 l2 (by simpa using hl) h]
   · rw [if_pos h1] at h;omega
theorem cmpM_trans:∀m k p:List Int,cmpM m k=-1→cmpM k p=-1→cmpM m p=-1
 | [],_,_,h,_=>by simp [cmpM] at h
 | _::_,[],_,h,_=>by simp [cmpM] at h
 | _::_,_::_,[],_,h=>by simp [cmpM] at h
 | a :: l1, b :: l2, c :: l3, h1, h2 => by
   rw [cmpM_cons] at *
   rcases h1 with h1 | ⟨h1,h3⟩ <;> rcases h2 with h2 | ⟨h2,h4⟩
   · exact Or.inl (by omega)
   · exact Or.inl (by omega)
   · exact Or.inl (by omega)
   · exact Or.inr ⟨by omega,cmpM_trans l1 l2 l3 h3 h4⟩
theorem before_trans {m k p:List Int} (h1:before m k=true) (h2:before k p=true):before m p=true:=by
 simp only [before,decide_eq_true_eq] at *
 exact cmpM_trans m k p h1 h2
theorem before_asymm {m k:List Int} (h:before m k=true):before k m=false:=by
 simp only [before,decide_eq_true_eq,decide_eq_false_iff_not] at *
 rw [cmpM_turn m k,h];decide
theorem before_tri {m k:List Int} (hl:m.length=k.length) (h1:before m k=false) (h2:before k m=false):m=k:=by
 simp only [before,decide_eq_false_iff_not] at *
 rw [cmpM_turn m k] at h2
 apply cmpM_eq m k hl
 rcases cmpM_range m k with h | h | h
 · exact absurd h h1
 · exact h
 · rw [h] at h2;exact absurd rfl h2
def Srt (ts:List Tm):Prop:=ts.Pairwise fun s t=>before s.m t.m=true
theorem listOk_at {zs:List Int} {ts:List Tm} (h:listOk zs ts=true) {i:Nat} (hi:i<ts.length):okAt zs ts i=true:=
 List.all_eq_true.1 h i (List.mem_range.2 hi)
theorem listOk_all {zs:List Int} {ts:List Tm} (h:listOk zs ts=true):∀t∈ts,okTm zs t=true:=by
 intro t ht
 obtain ⟨i,hi,rfl⟩:=List.getElem_of_mem ht
 have h1:=listOk_at h hi
 rcases i with _ | j
 · rwa [okAt_zero (List.getElem?_eq_getElem hi)] at h1
 · rw [okAt_succ (List.getElem?_eq_getElem hi) (List.getElem?_eq_getElem (by omega)),Bool.and_eq_true] at h1;exact h1.1
theorem listOk_srt {zs:List Int} {ts:List Tm} (h:listOk zs ts=true):Srt ts:=by
 rw [Srt,List.pairwise_iff_getElem]
 intro i j hi hj hij
 obtain ⟨d,rfl⟩:∃d,j=i+1+d:=⟨j - (i+1),by omega⟩
 induction d with
 | zero =>
   have h1:=listOk_at h hj;rw [okAt_succ (List.getElem?_eq_getElem hj) (List.getElem?_eq_getElem hi),Bool.and_eq_true] at h1;exact h1.2
 | succ d ih =>
   have h0:=ih (by omega) (by omega);have h1:okAt zs ts (i+1+d+1)=true:=listOk_at h hj;rw [okAt_succ (j:=i+1+d) (List.getElem?_eq_getElem hj) (List.getElem?_eq_getElem (by omega)),Bool.and_eq_true] at h1;exact before_trans h0 h1.2
def own1 (m:List Int) (x:Int):List Tm:=if x=0 then [] else [⟨m,x⟩]
theorem own1_no {m:List Int} {x:Int} (h:x=0):own1 m x=[]:=by rw [own1,if_pos h]
theorem own1_yes {m:List Int} {x:Int} (h:¬x=0):own1 m x=[⟨m,x⟩]:=by rw [own1,if_neg h]
def addT (k:Int):List Tm→List Tm→List Tm
 | f :: fs, g :: gs =>
   if before f.m g.m=true then f::addT k fs (g::gs)
   else if before g.m f.m=true then own1 g.m (num (k * g.f))++addT k (f::fs) gs
   else own1 f.m (num (f.f+num (k * g.f)))++addT k fs gs
 | f::fs,[]=>f::fs
 | [],g::gs=>own1 g.m (num (k * g.f))++addT k [] gs
 | [],[]=>[]
termination_by fs gs=>fs.length+gs.length
theorem addT_right (k:Int) (fs:List Tm):addT k fs []=fs:=by cases fs <;> rw [addT]
theorem addT_left (k:Int) (g:Tm) (gs:List Tm):addT k [] (g::gs)=own1 g.m (num (k * g.f))++addT k [] gs:=by rw [addT]
theorem addT_lt {k:Int} {f g:Tm} {fs gs:List Tm} (h:before f.m g.m=true):addT k (f::fs) (g::gs)=f::addT k fs (g::gs):=by rw [addT,if_pos h]
theorem addT_gt {k:Int} {f g:Tm} {fs gs:List Tm} (h:before g.m f.m=true):addT k (f::fs) (g::gs)=own1 g.m (num (k * g.f))++addT k (f::fs) gs:=by
 rw [addT,if_neg (by rw [before_asymm h];simp),if_pos h]
theorem addT_eq {k:Int} {f g:Tm} {fs gs:List Tm} (h1:before f.m g.m=false) (h2:before g.m f.m=false):addT k (f::fs) (g::gs)=own1 f.m (num (f.f+num (k * g.f)))++addT k fs gs:=by
 rw [addT,if_neg (by rw [h1];simp),if_neg (by rw [h2];simp)]
theorem own1_mem {m:List Int} {x:Int} {t:Tm} (h:t∈own1 m x):t.m=m∧t.f=x∧¬x=0:=by
 unfold own1 at h
 split at h
 · simp at h
 · rename_i hx;rw [List.mem_singleton] at h;subst h;exact ⟨rfl,rfl,hx⟩
theorem own1_len (m:List Int) (x:Int):(own1 m x).length≤1:=by
 unfold own1
 split <;> simp
theorem addT_all {k:Int} {p:Tm→Prop}:∀(fs gs:List Tm),(∀f∈fs,p f)→(∀g∈gs,∀x,¬num x=0→p ⟨g.m,num x⟩)→(∀f∈fs,∀x,¬num x=0→p ⟨f.m,num x⟩)→∀t∈addT k fs gs,p t:=by
 intro fs gs
 induction fs,gs using addT.induct with
 | case1 f fs g gs hb ih =>
   intro h1 h2 h3 t ht;rw [addT_lt hb,List.mem_cons] at ht
   rcases ht with rfl | ht
   · exact h1 _ (by simp)
   · exact ih (fun f hf=>h1 f (by simp [hf])) h2 (fun f hf=>h3 f (by simp [hf])) t ht
 | case2 f fs g gs hb hb2 ih =>
   intro h1 h2 h3 t ht;rw [addT_gt hb2,List.mem_append] at ht
   rcases ht with ht | ht
   · obtain ⟨e1,e2,e3⟩:=own1_mem ht;have:=h2 g (by simp) _ e3;rw [←e1,←e2] at this;exact this
   · exact ih h1 (fun g hg=>h2 g (by simp [hg])) h3 t ht
 | case3 f fs g gs hb hb2 ih =>
   intro h1 h2 h3 t ht;rw [addT_eq (by simpa using hb) (by simpa using hb2),List.mem_append] at ht
   rcases ht with ht | ht
   · obtain ⟨e1,e2,e3⟩:=own1_mem ht;have:=h3 f (by simp) _ e3;rw [←e1,←e2] at this;exact this
   · exact ih (fun f hf=>h1 f (by simp [hf])) (fun g hg=>h2 g (by simp [hg])) (fun f hf=>h3 f (by simp [hf])) t ht
 | case4 f fs => 
   intro h1 h2 h3 t ht;rw [addT] at ht;exact h1 t ht
 | case5 g gs ih =>
   intro h1 h2 h3 t ht;rw [addT_left,List.mem_append] at ht
   rcases ht with ht | ht
   · obtain ⟨e1,e2,e3⟩:=own1_mem ht;have:=h2 g (by simp) _ e3;rw [←e1,←e2] at this;exact this
   · exact ih h1 (fun g hg=>h2 g (by simp [hg])) h3 t ht
 | case6 =>
   intro h1 h2 h3 t ht;rw [addT] at ht;simp at ht
theorem addT_len {k:Int} (fs gs:List Tm):(addT k fs gs).length≤fs.length+gs.length:=by
 induction fs,gs using addT.induct with
 | case1 f fs g gs hb ih=>rw [addT_lt hb];simp only [List.length_cons] at *;omega
 | case2 f fs g gs hb hb2 ih=>rw [addT_gt hb2];have:=own1_len g.m (num (k * g.f));simp only [List.length_cons,List.length_append] at *;omega
 | case3 f fs g gs hb hb2 ih=>rw [addT_eq (by simpa using hb) (by simpa using hb2)];have:=own1_len f.m (num (f.f+num (k * g.f)));simp only [List.length_cons,List.length_append] at *;omega
 | case4 f fs=>rw [addT];simp
 | case5 g gs ih=>rw [addT_left];have:=own1_len g.m (num (k * g.f));simp only [List.length_cons,List.length_append] at *;omega
 | case6=>rw [addT];simp
theorem addT_tm {k:Int} {fs gs:List Tm} (h1:∀f∈fs,IsTm f) (h2:∀g∈gs,IsTm g):∀t∈addT k fs gs,IsTm t:=by
 have hx:∀x,-9223372036854775808≤num x∧num x≤9223372036854775807:=fun x=>by have:=num_lo x;have:=num_hi x;omega
 exact addT_all fs gs h1 (fun g hg x _=>⟨(h2 g hg).1,hx x⟩) (fun f hf x _=>⟨(h1 f hf).1,hx x⟩)
theorem addT_head {k:Int} {m:List Int} {fs gs:List Tm} (h1:∀f∈fs,before m f.m=true) (h2:∀g∈gs,before m g.m=true):∀t∈addT k fs gs,before m t.m=true:=
 addT_all fs gs h1 (fun g hg _ _=>h2 g hg) (fun f hf _ _=>h1 f hf)
theorem srt_own1 {m:List Int} {x:Int} {ts:List Tm} (h:∀t∈ts,before m t.m=true) (hs:Srt ts):Srt (own1 m x++ts):=by
 unfold own1
 split
 · exact hs
 · exact List.Pairwise.cons h hs
theorem addT_srt {k:Int}:∀(fs gs:List Tm),(∀f∈fs,f.m.length=8)→(∀g∈gs,g.m.length=8)→Srt fs→Srt gs→Srt (addT k fs gs):=by
 intro fs gs
 induction fs,gs using addT.induct with
 | case1 f fs g gs hb ih =>
   intro l1 l2 h1 h2;rw [addT_lt hb];obtain ⟨ha,ht⟩:=List.pairwise_cons.1 h1;obtain ⟨hc,hu⟩:=List.pairwise_cons.1 h2;refine List.Pairwise.cons (addT_head ha ?_) (ih (fun f hf=>l1 f (by simp [hf])) l2 ht h2);intro g' hg';rw [List.mem_cons] at hg'
   rcases hg' with rfl | hg'
   · exact hb
   · exact before_trans hb (hc _ hg')
 | case2 f fs g gs hb hb2 ih =>
   intro l1 l2 h1 h2;rw [addT_gt hb2];obtain ⟨ha,ht⟩:=List.pairwise_cons.1 h1;obtain ⟨hc,hu⟩:=List.pairwise_cons.1 h2;refine srt_own1 (addT_head ?_ hc) (ih l1 (fun g hg=>l2 g (by simp [hg])) h1 hu);intro f' hf';rw [List.mem_cons] at hf'
   rcases hf' with rfl | hf'
   · exact hb2
   · exact before_trans hb2 (ha _ hf')
 | case3 f fs g gs hb hb2 ih =>
   intro l1 l2 h1 h2;rw [addT_eq (by simpa using hb) (by simpa using hb2)];obtain ⟨ha,ht⟩:=List.pairwise_cons.1 h1;obtain ⟨hc,hu⟩:=List.pairwise_cons.1 h2;have he:f.m=g.m:=before_tri (by rw [l1 f (by simp),l2 g (by simp)]) (by simpa using hb) (by simpa using hb2);exact srt_own1 (addT_head ha (by rw [he];exact hc)) (ih (fun f hf=>l1 f (by simp [hf])) (fun g hg=>l2 g (by simp [hg])) ht hu)
 | case4 f fs=>intro l1 l2 h1 h2;rw [addT];exact h1
 | case5 g gs ih =>
   intro l1 l2 h1 h2;rw [addT_left];obtain ⟨hc,hu⟩:=List.pairwise_cons.1 h2;exact srt_own1 (addT_head (by simp) hc) (ih l1 (fun g hg=>l2 g (by simp [hg])) h1 hu)
 | case6=>intro l1 l2 h1 h2;rw [addT];exact h1
theorem num_id {x:Int} (h1:0≤x) (h2:x≤10006):num x=x:=by unfold num;omega
theorem prime_10007:∀d:Nat,d<101→2≤d→¬d ∣ 10007:=by decide
theorem coprime_10007 {k:Nat} (h1:1≤k) (h2:k≤10006):Nat.Coprime k 10007:=by
 obtain ⟨e,he⟩:=Nat.gcd_dvd_right k 10007
 have hd:Nat.gcd k 10007≤k:=Nat.gcd_le_left _ h1
 rw [Nat.Coprime]
 generalize Nat.gcd k 10007=d at *
 by_cases h:d=1
 · exact h
 · exfalso
   have hd0:d≠0:=fun h0=>(by rw [h0] at he;simp at he);by_cases h3:d<101
   · exact prime_10007 d h3 (by omega) ⟨e,he⟩
   · have he1 : e < 101 := by
       by_cases h4:e<101
       · exact h4
       · have:=Nat.mul_le_mul (show 101≤d by omega) (show 101≤e by omega);omega
     have he0:e≠0:=fun h0=>(by rw [h0] at he;simp at he);have he2:e≠1:=fun h0=>(by rw [h0] at he;omega);exact prime_10007 e he1 (by omega) ⟨d,by rw [Nat.mul_comm];exact he⟩
theorem num_mul_ne {k f:Int} (h1:1≤k) (h2:k≤10006) (h3:1≤f) (h4:f≤10006):¬num (k * f)=0:=by
 intro h
 obtain ⟨a,rfl⟩:=Int.eq_ofNat_of_zero_le (show 0≤k by omega)
 obtain ⟨b,rfl⟩:=Int.eq_ofNat_of_zero_le (show 0≤f by omega)
 have h5:(10007:Nat) ∣ a * b:=by
  unfold num at h;rw [←Int.natCast_mul] at h;exact Nat.dvd_of_mod_eq_zero (by omega)
 have h6:(10007:Nat) ∣ b:=(coprime_10007 (by omega) (by omega)).symm.dvd_of_dvd_mul_left h5
 have:=Nat.le_of_dvd (by omega) h6
 omega
def scT (k:Int) (ts:List Tm):List Tm:=ts.map fun t=>⟨t.m,num (k * t.f)⟩
theorem scT_add {k:Int} (h1:1≤k) (h2:k≤10006):∀ts:List Tm,(∀t∈ts,1≤t.f∧t.f≤10006)→addT k [] ts=scT k ts
 | [],_=>by rw [addT];rfl
 | t :: ts, h => by
   have ht:=h t (by simp);rw [addT_left,own1_yes (num_mul_ne h1 h2 ht.1 ht.2),scT_add h1 h2 ts (fun t ht=>h t (by simp [ht]))];rfl
end Go.Proofs.Ytndnkeijddagiaa
