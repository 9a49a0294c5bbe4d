
import Derived.Test.YtndnkeijddagiaaAddM
import Derived.Test.YtndnkeijddagiaaProd
import Derived.Test.YtndnkeijddagiaaMap
namespace Go.Proofs.Ytndnkeijddagiaa
open Go.RowKit Go.Deep
theorem num_add (a b:Int):num (a+num b)=num (a+b):=by unfold num;omega
theorem num_add' (a b:Int):num (num a+b)=num (a+b):=by unfold num;omega
theorem num_num (a:Int):num (num a)=num a:=by unfold num;omega
def coef:List Tm→List Int→Int
 | [],_=>0
 | t::ts,m=>if t.m=m then t.f else coef ts m
theorem coef_hit {t:Tm} {ts:List Tm} {m:List Int} (h:t.m=m):coef (t::ts) m=t.f:=by rw [coef,if_pos h]
theorem coef_miss {t:Tm} {ts:List Tm} {m:List Int} (h:¬t.m=m):coef (t::ts) m=coef ts m:=by rw [coef,if_neg h]
theorem coef_none {ts:List Tm} {m:List Int} (h:∀t∈ts,¬t.m=m):coef ts m=0:=by
 induction ts with
 | nil=>rfl
 | cons t ts ih=>rw [coef_miss (h t (by simp)),ih (fun u hu=>h u (by simp [hu]))]
theorem coef_after {ts:List Tm} {m:List Int} (h:∀t∈ts,before m t.m=true):coef ts m=0:=
 coef_none fun t ht e=>by have:=h t ht;rw [e,before_self] at this;cases this
theorem coef_own1_hit {m:List Int} {x:Int} {ts:List Tm} (h:coef ts m=0):coef (own1 m x++ts) m=x:=by
 by_cases hx:x=0
 · rw [own1_no hx,List.nil_append,h,hx]
 · rw [own1_yes hx];exact coef_hit rfl
theorem coef_own1_miss {k m:List Int} {x:Int} {ts:List Tm} (h:¬k=m):coef (own1 k x++ts) m=coef ts m:=by
 by_cases hx:x=0
 · rw [own1_no hx,List.nil_append]
 · rw [own1_yes hx];exact coef_miss h
theorem coef_bd {ts:List Tm} {m:List Int} (h:∀t∈ts,0≤t.f∧t.f≤10006):0≤coef ts m∧coef ts m≤10006:=by
 induction ts with
 | nil=>simp [coef]
 | cons t ts ih =>
   by_cases ht:t.m=m
   · rw [coef_hit ht];exact h t (by simp)
   · rw [coef_miss ht];exact ih (fun u hu=>h u (by simp [hu]))
theorem num_self {x:Int} (h:0≤x∧x≤10006):num x=x:=num_id h.1 h.2
theorem coef_add {k:Int} {m:List Int}:∀fs gs:List Tm,(∀f∈fs,f.m.length=8)→(∀g∈gs,g.m.length=8)→Srt fs→Srt gs→(∀f∈fs,0≤f.f∧f.f≤10006)→coef (addT k fs gs) m=num (coef fs m+k * coef gs m):=by
 intro fs gs
 induction fs,gs using addT.induct with
 | case1 f fs g gs hb ih =>
   intro l1 l2 h1 h2 hf;rw [addT_lt hb];obtain ⟨ha,ht⟩:=List.pairwise_cons.1 h1;obtain ⟨hc,hu⟩:=List.pairwise_cons.1 h2;by_cases hm:f.m=m
   · rw [coef_hit hm, coef_hit hm, coef_after (ts := g :: gs) (fun t ht => by
       rw [←hm];rw [List.mem_cons] at ht
       rcases ht with rfl | ht
       · exact hb
       · exact before_trans hb (hc _ ht)),Int.mul_zero,Int.add_zero,num_self (hf f (by simp))]
   · rw [coef_miss hm,coef_miss hm,ih (fun f hf=>l1 f (by simp [hf])) l2 ht h2 (fun f hf'=>hf f (by simp [hf']))]
 | case2 f fs g gs hb hb2 ih =>
   intro l1 l2 h1 h2 hf;rw [addT_gt hb2];obtain ⟨ha,ht⟩:=List.pairwise_cons.1 h1;obtain ⟨hc,hu⟩:=List.pairwise_cons.1 h2;have hI:=ih l1 (fun g hg=>l2 g (by simp [hg])) h1 hu hf;by_cases hm:g.m=m
   · have e1 : coef (f :: fs) m = 0 := coef_after (fun t ht => by
       rw [←hm];rw [List.mem_cons] at ht
       rcases ht with rfl | ht
       · exact hb2
       · exact before_trans hb2 (ha _ ht))
     have e2:coef gs m=0:=coef_after (fun t ht=>by rw [←hm];exact hc _ ht);rw [e1,e2,Int.mul_zero,Int.add_zero] at hI;rw [coef_hit hm,e1,Int.zero_add];subst hm;exact coef_own1_hit (by rw [hI];rfl)
   · rw [coef_own1_miss hm,hI,coef_miss (t:=g) hm]
 | case3 f fs g gs hb hb2 ih =>
   intro l1 l2 h1 h2 hf;have he:f.m=g.m:=before_tri (by rw [l1 f (by simp),l2 g (by simp)]) (by simpa using hb) (by simpa using hb2);rw [addT_eq (by simpa using hb) (by simpa using hb2)];obtain ⟨ha,ht⟩:=List.pairwise_cons.1 h1;obtain ⟨hc,hu⟩:=List.pairwise_cons.1 h2;have hI:=ih (fun f hf=>l1 f (by simp [hf])) (fun g hg=>l2 g (by simp [hg])) ht hu (fun f hf'=>hf f (by simp [hf']));by_cases hm:f.m=m
   · have e1:coef fs m=0:=coef_after (fun t ht=>by rw [←hm];exact ha _ ht);have e2:coef gs m=0:=coef_after (fun t ht=>by rw [←hm,he];exact hc _ ht);rw [e1,e2,Int.mul_zero,Int.add_zero] at hI;rw [coef_hit hm,coef_hit (t:=g) (by rw [←he];exact hm)];subst hm;rw [coef_own1_hit (by rw [hI];rfl),num_add]
   · rw [coef_own1_miss hm,hI,coef_miss hm,coef_miss (t:=g) (by rw [←he];exact hm)]
 | case4 f fs =>
   intro l1 l2 h1 h2 hf;rw [addT];rw [show coef [] m=0 from rfl,Int.mul_zero,Int.add_zero,num_self (coef_bd hf)]
 | case5 g gs ih =>
   intro l1 l2 h1 h2 hf;rw [addT_left];obtain ⟨hc,hu⟩:=List.pairwise_cons.1 h2;have hI:=ih l1 (fun g hg=>l2 g (by simp [hg])) h1 hu hf;rw [show coef [] m=0 from rfl,Int.zero_add] at hI ⊢;by_cases hm:g.m=m
   · have e2:coef gs m=0:=coef_after (fun t ht=>by rw [←hm];exact hc _ ht);rw [e2,Int.mul_zero] at hI;rw [coef_hit hm];subst hm;exact coef_own1_hit (by rw [hI];rfl)
   · rw [coef_own1_miss hm,hI,coef_miss (t:=g) hm]
 | case6 =>
   intro l1 l2 h1 h2 hf;rw [addT];simp [coef,num]
theorem join_ne {zs m k:List Int} (h:¬joinS zs m k=0):joinM zs m k=addM m k:=by
 unfold joinS at h
 unfold joinM
 split at h
 · exact absurd rfl h
 · rename_i h1;rw [if_neg h1]
theorem cmpM_add:∀m u v:List Int,m.length=u.length→m.length=v.length→cmpM (addM m u) (addM m v)=cmpM u v
 | [],[],[],_,_=>rfl
 | [],_::_,_,h,_=>by simp at h
 | [],_,_::_,_,h=>by simp at h
 | _::_,[],_,h,_=>by simp at h
 | _::_,_,[],_,h=>by simp at h
 | a :: m, b :: u, c :: v, h1, h2 => by
   have ih:=cmpM_add m u v (by simpa using h1) (by simpa using h2);simp only [addM,List.zipWith_cons_cons,cmpM] at ih ⊢;rw [ih]
   rcases Int.lt_trichotomy b c with h | h | h
   · rw [if_neg (by omega),if_pos (by omega),if_neg (by omega),if_pos (by omega)]
   · rw [if_neg (by omega),if_neg (by omega),if_neg (by omega),if_neg (by omega)]
   · rw [if_pos (by omega),if_pos (by omega)]
theorem addM_inj {m u v:List Int} (h1:m.length=u.length) (h2:m.length=v.length) (h:addM m u=addM m v):u=v:=by
 have:=cmpM_add m u v h1 h2
 rw [h,cmpM_self] at this
 exact cmpM_eq u v (by omega) this.symm
def shiftT (zs:List Int) (t:Tm):List Tm→List Tm
 | []=>[]
 | u::gs=>if joinS zs t.m u.m=0 then shiftT zs t gs else ⟨joinM zs t.m u.m,num (joinS zs t.m u.m * t.f * u.f)⟩::shiftT zs t gs
theorem shiftT_no {zs:List Int} {t u:Tm} {gs:List Tm} (h:joinS zs t.m u.m=0):shiftT zs t (u::gs)=shiftT zs t gs:=by rw [shiftT,if_pos h]
theorem shiftT_yes {zs:List Int} {t u:Tm} {gs:List Tm} (h:¬joinS zs t.m u.m=0):shiftT zs t (u::gs)=⟨joinM zs t.m u.m,num (joinS zs t.m u.m * t.f * u.f)⟩::shiftT zs t gs:=by rw [shiftT,if_neg h]
theorem shiftT_mem {zs:List Int} {t:Tm}:∀{gs:List Tm} {x:Tm},x∈shiftT zs t gs→∃u∈gs,¬joinS zs t.m u.m=0∧x.m=joinM zs t.m u.m∧x.f=num (joinS zs t.m u.m * t.f * u.f)
 | [],x,h=>by simp [shiftT] at h
 | u :: gs, x, h => by
   by_cases hj:joinS zs t.m u.m=0
   · rw [shiftT_no hj] at h;obtain ⟨v,hv,r⟩:=shiftT_mem h;exact ⟨v,by simp [hv],r⟩
   · rw [shiftT_yes hj,List.mem_cons] at h
     rcases h with rfl | h
     · exact ⟨u,by simp,hj,rfl,rfl⟩
     · obtain ⟨v,hv,r⟩:=shiftT_mem h;exact ⟨v,by simp [hv],r⟩
theorem shiftT_len (zs:List Int) (t:Tm):∀gs:List Tm,(shiftT zs t gs).length≤gs.length
 | []=>Nat.le_refl _
 | u :: gs => by
   have:=shiftT_len zs t gs;by_cases hj:joinS zs t.m u.m=0
   · rw [shiftT_no hj,List.length_cons];omega
   · rw [shiftT_yes hj,List.length_cons,List.length_cons];omega
theorem shiftT_srt {zs:List Int} {t:Tm} (lt:t.m.length=8):∀gs:List Tm,(∀g∈gs,g.m.length=8)→Srt gs→Srt (shiftT zs t gs)
 | [],_,_=>List.Pairwise.nil
 | u :: gs, hl, hs => by
   obtain ⟨ha,ht⟩:=List.pairwise_cons.1 hs;have ih:=shiftT_srt (zs:=zs) lt gs (fun g hg=>hl g (by simp [hg])) ht;by_cases hj:joinS zs t.m u.m=0
   · rw [shiftT_no hj];exact ih
   · rw [shiftT_yes hj];refine List.Pairwise.cons (fun x hx=>?_) ih;obtain ⟨v,hv,hj2,hm,-⟩:=shiftT_mem hx;rw [hm];have h1:=ha v hv;simp only [before,decide_eq_true_eq] at h1 ⊢;rw [join_ne hj,join_ne hj2,cmpM_add t.m u.m v.m (by rw [lt,hl u (by simp)]) (by rw [lt,hl v (by simp [hv])])];exact h1
theorem shiftT_bd {zs:List Int} {t:Tm} {gs:List Tm}:∀x∈shiftT zs t gs,0≤x.f∧x.f≤10006:=by
 intro x hx
 obtain ⟨u,_,_,_,hf⟩:=shiftT_mem hx
 rw [hf]
 have h1:=num_lo (joinS zs t.m u.m * t.f * u.f)
 have h2:=num_hi (joinS zs t.m u.m * t.f * u.f)
 omega
def stepS (zs:List Int) (t:Tm) (S:List Int→Int) (u:Tm):List Int→Int:=
 if joinS zs t.m u.m=0 then S else updS S (joinM zs t.m u.m) (num (S (joinM zs t.m u.m)+joinS zs t.m u.m * t.f * u.f))
def rowSum (zs:List Int) (t:Tm) (S:List Int→Int) (gs:List Tm):List Int→Int:=gs.foldl (stepS zs t) S
theorem stepS_bd {zs:List Int} {t u:Tm} {S:List Int→Int} (h:∀m,0≤S m∧S m≤10006):∀m,0≤stepS zs t S u m∧stepS zs t S u m≤10006:=by
 intro m
 unfold stepS
 split
 · exact h m
 · unfold updS;split
   · have h1:=num_lo (S (joinM zs t.m u.m)+joinS zs t.m u.m * t.f * u.f);have h2:=num_hi (S (joinM zs t.m u.m)+joinS zs t.m u.m * t.f * u.f);omega
   · exact h m
theorem rowSum_coef {zs:List Int} {t:Tm} (lt:t.m.length=8) (m:List Int):∀(gs:List Tm) (S:List Int→Int),(∀g∈gs,g.m.length=8)→Srt gs→(∀m,0≤S m∧S m≤10006)→rowSum zs t S gs m=num (S m+coef (shiftT zs t gs) m)
 | [], S, _, _, h => by
   show S m=num (S m+0)
   rw [Int.add_zero,num_self (h m)]
 | u :: gs, S, hl, hs, h => by
   obtain ⟨ha,ht⟩:=List.pairwise_cons.1 hs;have ih:=rowSum_coef (zs:=zs) lt m gs (stepS zs t S u) (fun g hg=>hl g (by simp [hg])) ht (stepS_bd h);show rowSum zs t (stepS zs t S u) gs m=_
   rw [ih];by_cases hj:joinS zs t.m u.m=0
   · rw [shiftT_no hj,stepS,if_pos hj]
   · rw [shiftT_yes hj,stepS,if_neg hj];by_cases hm:joinM zs t.m u.m=m
     · rw [coef_hit (t:=⟨joinM zs t.m u.m,num (joinS zs t.m u.m * t.f * u.f)⟩) hm]
       have h0:coef (shiftT zs t gs) m=0:=coef_none fun x hx e=>by
        obtain ⟨v,hv,hj2,hxm,-⟩:=shiftT_mem hx;rw [hxm,←hm,join_ne hj,join_ne hj2] at e;have:=addM_inj (by rw [lt,hl v (by simp [hv])]) (by rw [lt,hl u (by simp)]) e;have hb:=ha v hv;rw [this,before_self] at hb;cases hb
       rw [h0,Int.add_zero,updS,if_pos hm.symm,num_num,hm,num_add]
     · rw [coef_miss (t:=⟨joinM zs t.m u.m,num (joinS zs t.m u.m * t.f * u.f)⟩) hm,updS,if_neg (fun e=>hm e.symm)]
def timesT (zs:List Int) (gs:List Tm) (out:List Tm) (fs:List Tm):List Tm:=fs.foldl (fun out t=>addT 1 out (shiftT zs t gs)) out
def sumS (zs:List Int) (gs:List Tm) (S:List Int→Int) (fs:List Tm):List Int→Int:=fs.foldl (fun S t=>rowSum zs t S gs) S
structure Good (ts:List Tm):Prop where
 srt:Srt ts
 len:∀t∈ts,t.m.length=8
 nz:∀t∈ts,1≤t.f∧t.f≤10006
theorem good_nil:Good []:=⟨List.Pairwise.nil,by simp,by simp⟩
theorem addM_length {m k:List Int} (h1:m.length=8) (h2:k.length=8):(addM m k).length=8:=by simp [addM,h1,h2]
theorem good_add {zs:List Int} {out gs:List Tm} {t:Tm} (h:Good out) (lt:t.m.length=8) (hl:∀g∈gs,g.m.length=8) (hs:Srt gs):Good (addT 1 out (shiftT zs t gs)):=by
 have l2:∀x∈shiftT zs t gs,x.m.length=8:=fun x hx=>by
  obtain ⟨u,hu,hj,hm,-⟩:=shiftT_mem hx;rw [hm,join_ne hj];exact addM_length lt (hl u hu)
 have hx:∀x,¬num x=0→1≤num x∧num x≤10006:=fun x h=>by have h1:=num_lo x;have h2:=num_hi x;omega
 exact ⟨addT_srt out _ h.len l2 h.srt (shiftT_srt lt gs hl hs),addT_all out _ h.len (fun g hg _ _=>l2 g hg) (fun f hf _ _=>h.len f hf),addT_all out _ h.nz (fun g _ x hn=>hx x hn) (fun f _ x hn=>hx x hn)⟩
theorem times_coef {zs:List Int} {gs:List Tm} (hl:∀g∈gs,g.m.length=8) (hs:Srt gs):∀(fs:List Tm) (out:List Tm) (S:List Int→Int),(∀t∈fs,t.m.length=8)→Good out→(∀m,S m=coef out m)→(∀m,sumS zs gs S fs m=coef (timesT zs gs out fs) m)∧Good (timesT zs gs out fs)
 | [],out,S,_,hg,h=>⟨h,hg⟩
 | t :: fs, out, S, lf, hg, h => by
   have lt:=lf t (by simp)
   have hb:∀m,0≤S m∧S m≤10006:=fun m=>by
    rw [h m];exact coef_bd fun u hu=>by have:=hg.nz u hu;omega
   have l2:∀x∈shiftT zs t gs,x.m.length=8:=fun x hx=>by
    obtain ⟨u,hu,hj,hm,-⟩:=shiftT_mem hx;rw [hm,join_ne hj];exact addM_length lt (hl u hu)
   refine times_coef hl hs fs _ _ (fun u hu=>lf u (by simp [hu])) (good_add hg lt hl hs) (fun m=>?_);show rowSum zs t S gs m=coef (addT 1 out (shiftT zs t gs)) m
   rw [rowSum_coef lt m gs S hl hs hb,coef_add out _ hg.len l2 hg.srt (shiftT_srt lt gs hl hs) (fun u hu=>by have:=hg.nz u hu;omega),h m,Int.one_mul]
end Go.Proofs.Ytndnkeijddagiaa
