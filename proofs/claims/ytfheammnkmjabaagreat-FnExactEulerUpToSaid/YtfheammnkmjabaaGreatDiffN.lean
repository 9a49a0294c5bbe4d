
import Derived.Test.YtfheammnkmjabaaGreatAddM
import Derived.Test.YtfheammnkmjabaaGreatProd
import Derived.Test.YtfheammnkmjabaaGreatMap
namespace Go.Proofs.YtfheammnkmjabaaGreat
open Go.RowKit Go.Deep
theorem num_add (a b:Int):num (a+num b)=num (a+b):=by unfold num;omega
theorem num_add' (a b:Int):num (num a+b)=num (a+b):=by unfold num;omega
theorem num_num (a:Int):num (num a)=num a:=by unfold num;omega
def coef:List Tm→List Int→Int
 | [],_=>0
 | t::ts,m=>if t.m=m then t.f else coef ts m
theorem coef_hit {t:Tm} {ts:List Tm} {m:List Int} (h:t.m=m):coef (t::ts) m=t.f:=by rw [coef,if_pos h]
theorem coef_miss {t:Tm} {ts:List Tm} {m:List Int} (h:¬t.m=m):coef (t::ts) m=coef ts m:=by rw [coef,if_neg h]
theorem coef_none {ts:List Tm} {m:List Int} (h:∀t∈ts,¬t.m=m):coef ts m=0:=by
 induction ts with
 | nil=>rfl
 | cons t ts ih=>rw [coef_miss (h t (by simp)),ih (fun u hu=>h u (by simp [hu]))]
theorem coef_after {ts:List Tm} {m:List Int} (h:∀t∈ts,before m t.m=true):coef ts m=0:=
 coef_none fun t ht e=>by have:=h t ht;rw [e,before_self] at this;cases this
theorem coef_own1_hit {m:List Int} {x:Int} {ts:List Tm} (h:coef ts m=0):coef (own1 m x++ts) m=x:=by
 by_cases hx:x=0
 · rw [own1_no hx,List.nil_append,h,hx]
 · rw [own1_yes hx];exact coef_hit rfl
theorem coef_own1_miss {k m:List Int} {x:Int} {ts:List Tm} (h:¬k=m):coef (own1 k x++ts) m=coef ts m:=by
 by_cases hx:x=0
 · rw [own1_no hx,List.nil_append]
 · rw [own1_yes hx];exact coef_miss h
theorem coef_bd {ts:List Tm} {m:List Int} (h:∀t∈ts,0≤t.f∧t.f≤10006):0≤coef ts m∧coef ts m≤10006:=by
 induction ts with
 | nil=>simp [coef]
 | cons t ts ih =>
   by_cases ht:t.m=m
   · rw [coef_hit ht];exact h t (by simp)
   · rw [coef_miss ht];exact ih (fun u hu=>h u (by simp [hu]))
theorem num_self {x:Int} (h:0≤x∧x≤10006):num x=x:=num_id h.1 h.2
theorem coef_add {k:Int} {m:List Int}:∀fs gs:List Tm,(∀f∈fs,f.m.length=8)→(∀g∈gs,g.m.length=8)→Srt fs→Srt gs→(∀f∈fs,0≤f.f∧f.f≤10006)→coef (addT k fs gs) m=num (coef fs m+k * coef gs m):=by
 intro fs gs
 induction fs,gs using addT.induct with
 | case1 f fs g gs hb ih =>
   intro l1 l2 h1 h2 hf;rw [addT_lt hb];obtain ⟨ha,ht⟩:=List.pairwise_cons.1 h1;obtain ⟨hc,hu⟩:=List.pairwise_cons.1 h2;by_cases hm:f.m=m
   · rw [coef_hit hm, coef_hit hm, coef_after (ts := g :: gs) (fun t ht => by
       rw [←hm];rw [List.mem_cons] at ht
       rcases ht with rfl | ht
       · exact hb
       · exact before_trans hb (hc _ ht)),Int.mul_zero,Int.add_zero,num_self (hf f (by simp))]
   · rw [coef_miss hm,coef_miss hm,ih (fun f hf=>l1 f (by simp [hf])) l2 ht h2 (fun f hf'=>hf f (by simp [hf']))]
 | case2 f fs g gs hb hb2 ih =>
   intro l1 l2 h1 h2 hf;rw [addT_gt hb2];obtain ⟨ha,ht⟩:=List.pairwise_cons.1 h1;obtain ⟨hc,hu⟩:=List.pairwise_cons.1 h2;have hI:=ih l1 (fun g hg=>l2 g (by simp [hg])) h1 hu hf;by_cases hm:g.m=m
   · have e1 : coef (f :: fs) m = 0 := coef_after (fun t ht => by
       rw [←hm];rw [List.mem_cons] at ht
       rcases ht with rfl | ht
       · exact hb2
       · exact before_trans hb2 (ha _ ht))
     have e2:coef gs m=0:=coef_after (fun t ht=>by rw [←hm];exact hc _ ht);rw [e1,e2,Int.mul_zero,Int.add_zero] at hI;rw [coef_hit hm,e1,Int.zero_add];subst hm;exact coef_own1_hit (by rw [hI];rfl)
   · rw [coef_own1_miss hm,hI,coef_miss (t:=g) hm]
 | case3 f fs g gs hb hb2 ih =>
   intro l1 l2 h1 h2 hf;have he:f.m=g.m:=before_tri (by rw [l1 f (by simp),l2 g (by simp)]) (by simpa using hb) (by simpa using hb2);rw [addT_eq (by simpa using hb) (by simpa using hb2)];obtain ⟨ha,ht⟩:=List.pairwise_cons.1 h1;obtain ⟨hc,hu⟩:=List.pairwise_cons.1 h2;have hI:=ih (fun f hf=>l1 f (by simp [hf])) (fun g hg=>l2 g (by simp [hg])) ht hu (fun f hf'=>hf f (by simp [hf']));by_cases hm:f.m=m
   · have e1:coef fs m=0:=coef_after (fun t ht=>by rw [←hm];exact ha _ ht);have e2:coef gs m=0:=coef_after (fun t ht=>by rw [←hm,he];exact hc _ ht);rw [e1,e2,Int.mul_zero,Int.add_zero] at hI;rw [coef_hit hm,coef_hit (t:=g) (by rw [←he];exact hm)];subst hm;rw [coef_own1_hit (by rw [hI];rfl),num_add]
   · rw [coef_own1_miss hm,hI,coef_miss hm,coef_miss (t:=g) (by rw [←he];exact hm)]
 | case4 f fs =>
   intro l1 l2 h1 h2 hf;rw [addT];rw [show coef [] m=0 from rfl,Int.mul_zero,Int.add_zero,num_self (coef_bd hf)]
 | case5 g gs ih =>
   intro l1 l2 h1 h2 hf;rw [addT_left];obtain ⟨hc,hu⟩:=List.pairwise_cons.1 h2;have hI:=ih l1 (fun g hg=>l2 g (by simp [hg])) h1 hu hf;rw [show coef [] m=0 from rfl,Int.zero_add] at hI ⊢;by_cases hm:g.m=m
   · have e2:coef gs m=0:=coef_after (fun t ht=>by rw [←hm];exact hc _ ht);rw [e2,Int.mul_zero] at hI;rw [coef_hit hm];subst hm;exact coef_own1_hit (by rw [hI];rfl)
   · rw [coef_own1_miss hm,hI,coef_miss (t:=g) hm]
 | case6 =>
   intro l1 l2 h1 h2 hf;rw [addT];simp [coef,num]
theorem srt_ext:∀xs ys:List Tm,Srt xs→Srt ys→(∀t∈xs,IsMono t.m)→(∀t∈ys,IsMono t.m)→(∀t∈xs,¬t.f=0)→(∀t∈ys,¬t.f=0)→(∀m,IsMono m→coef xs m=coef ys m)→xs=ys
 | [],[],_,_,_,_,_,_,_=>rfl
 | [], y :: ys, _, _, _, m2, _, n2, h => by
   have:=h y.m (m2 y (by simp));rw [coef_hit (t:=y) rfl] at this;exact absurd this.symm (n2 y (by simp))
 | x :: xs, [], _, _, m1, _, n1, _, h => by
   have:=h x.m (m1 x (by simp));rw [coef_hit (t:=x) rfl] at this;exact absurd this (n1 x (by simp))
 | x :: xs, y :: ys, s1, s2, m1, m2, n1, n2, h => by
   obtain ⟨ha,ht⟩:=List.pairwise_cons.1 s1;obtain ⟨hc,hu⟩:=List.pairwise_cons.1 s2;have hl:x.m.length=y.m.length:=by rw [(m1 x (by simp)).1,(m2 y (by simp)).1]
   cases hb:before x.m y.m with
   | true =>
     have:=h x.m (m1 x (by simp))
     rw [coef_hit (t:=x) rfl,coef_after (ts:=y::ys) (fun t ht=>by
      rw [List.mem_cons] at ht
      rcases ht with rfl | ht
      · exact hb
      · exact before_trans hb (hc _ ht))] at this
     exact absurd this (n1 x (by simp))
   | false =>
     cases hb2:before y.m x.m with
     | true =>
       have:=h y.m (m2 y (by simp))
       rw [coef_hit (t:=y) rfl,coef_after (ts:=x::xs) (fun t ht=>by
        rw [List.mem_cons] at ht
        rcases ht with rfl | ht
        · exact hb2
        · exact before_trans hb2 (ha _ ht))] at this
       exact absurd this.symm (n2 y (by simp))
     | false =>
       have he:x.m=y.m:=before_tri hl hb hb2
       have hf:x.f=y.f:=by
        have:=h x.m (m1 x (by simp))
        rwa [coef_hit (t:=x) rfl,coef_hit (t:=y) he.symm] at this
       have hr:=srt_ext xs ys ht hu (fun t ht=>m1 t (by simp [ht])) (fun t ht=>m2 t (by simp [ht])) (fun t ht=>n1 t (by simp [ht])) (fun t ht=>n2 t (by simp [ht])) (fun m hm=>by
        by_cases hx:x.m=m
        · rw [coef_after (ts:=xs) (fun t ht=>by rw [←hx];exact ha _ ht),coef_after (ts:=ys) (fun t ht=>by rw [←hx,he];exact hc _ ht)]
        · have:=h m hm
          rwa [coef_miss hx,coef_miss (t:=y) (by rw [←he];exact hx)] at this)
       rw [hr];cases x;cases y
       simp only at he hf;rw [he,hf]
theorem join_ne {zs m k:List Int} (h:¬joinS zs m k=0):joinM zs m k=addM m k:=by
 unfold joinS at h
 unfold joinM
 split at h
 · exact absurd rfl h
 · rename_i h1;rw [if_neg h1]
theorem cmpM_add:∀m u v:List Int,m.length=u.length→m.length=v.length→cmpM (addM m u) (addM m v)=cmpM u v
 | [],[],[],_,_=>rfl
 | [],_::_,_,h,_=>by simp at h
 | [],_,_::_,_,h=>by simp at h
 | _::_,[],_,h,_=>by simp at h
 | _::_,_,[],_,h=>by simp at h
 | a :: m, b :: u, c :: v, h1, h2 => by
   have ih:=cmpM_add m u v (by simpa using h1) (by simpa using h2);simp only [addM,List.zipWith_cons_cons,cmpM] at ih ⊢;rw [ih]
   rcases Int.lt_trichotomy b c with h | h | h
   · rw [if_neg (by omega),if_pos (by omega),if_neg (by omega),if_pos (by omega)]
   · rw [if_neg (by omega),if_neg (by omega),if_neg (by omega),if_neg (by omega)]
   · rw [if_pos (by omega),if_pos (by omega)]
theorem addM_inj {m u v:List Int} (h1:m.length=u.length) (h2:m.length=v.length) (h:addM m u=addM m v):u=v:=by
 have:=cmpM_add m u v h1 h2
 rw [h,cmpM_self] at this
 exact cmpM_eq u v (by omega) this.symm
def shiftT (zs:List Int) (t:Tm):List Tm→List Tm
 | []=>[]
 | u::gs=>if joinS zs t.m u.m=0 then shiftT zs t gs else ⟨joinM zs t.m u.m,num (joinS zs t.m u.m * t.f * u.f)⟩::shiftT zs t gs
theorem shiftT_no {zs:List Int} {t u:Tm} {gs:List Tm} (h:joinS zs t.m u.m=0):shiftT zs t (u::gs)=shiftT zs t gs:=by rw [shiftT,if_pos h]
theorem shiftT_yes {zs:List Int} {t u:Tm} {gs:List Tm} (h:¬joinS zs t.m u.m=0):shiftT zs t (u::gs)=⟨joinM zs t.m u.m,num (joinS zs t.m u.m * t.f * u.f)⟩::shiftT zs t gs:=by rw [shiftT,if_neg h]
theorem shiftT_mem {zs:List Int} {t:Tm}:∀{gs:List Tm} {x:Tm},x∈shiftT zs t gs→∃u∈gs,¬joinS zs t.m u.m=0∧x.m=joinM zs t.m u.m∧x.f=num (joinS zs t.m u.m * t.f * u.f)
 | [],x,h=>by simp [shiftT] at h
 | u :: gs, x, h => by
   by_cases hj:joinS zs t.m u.m=0
   · rw [shiftT_no hj] at h;obtain ⟨v,hv,r⟩:=shiftT_mem h;exact ⟨v,by simp [hv],r⟩
   · rw [shiftT_yes hj,List.mem_cons] at h
     rcases h with rfl | h
     · exact ⟨u,by simp,hj,rfl,rfl⟩
     · obtain ⟨v,hv,r⟩:=shiftT_mem h;exact ⟨v,by simp [hv],r⟩
theorem shiftT_len (zs:List Int) (t:Tm):∀gs:List Tm,(shiftT zs t gs).length≤gs.length
 | []=>Nat.le_refl _
 | u :: gs => by
   have:=shiftT_len zs t gs;by_cases hj:joinS zs t.m u.m=0
   · rw [shiftT_no hj,List.length_cons];omega
   · rw [shiftT_yes hj,List.length_cons,List.length_cons];omega
theorem shiftT_srt {zs:List Int} {t:Tm} (lt:t.m.length=8):∀gs:List Tm,(∀g∈gs,g.m.length=8)→Srt gs→Srt (shiftT zs t gs)
 | [],_,_=>List.Pairwise.nil
 | u :: gs, hl, hs => by
   obtain ⟨ha,ht⟩:=List.pairwise_cons.1 hs;have ih:=shiftT_srt (zs:=zs) lt gs (fun g hg=>hl g (by simp [hg])) ht;by_cases hj:joinS zs t.m u.m=0
   · rw [shiftT_no hj];exact ih
   · rw [shiftT_yes hj];refine List.Pairwise.cons (fun x hx=>?_) ih;obtain ⟨v,hv,hj2,hm,-⟩:=shiftT_mem hx;rw [hm];have h1:=ha v hv;simp only [before,decide_eq_true_eq] at h1 ⊢;rw [join_ne hj,join_ne hj2,cmpM_add t.m u.m v.m (by rw [lt,hl u (by simp)]) (by rw [lt,hl v (by simp [hv])])];exact h1
theorem shiftT_bd {zs:List Int} {t:Tm} {gs:List Tm}:∀x∈shiftT zs t gs,0≤x.f∧x.f≤10006:=by
 intro x hx
 obtain ⟨u,_,_,_,hf⟩:=shiftT_mem hx
 rw [hf]
 have h1:=num_lo (joinS zs t.m u.m * t.f * u.f)
 have h2:=num_hi (joinS zs t.m u.m * t.f * u.f)
 omega
def stepS (zs:List Int) (t:Tm) (S:List Int→Int) (u:Tm):List Int→Int:=
 if joinS zs t.m u.m=0 then S else updS S (joinM zs t.m u.m) (num (S (joinM zs t.m u.m)+joinS zs t.m u.m * t.f * u.f))
def rowSum (zs:List Int) (t:Tm) (S:List Int→Int) (gs:List Tm):List Int→Int:=gs.foldl (stepS zs t) S
theorem stepS_bd {zs:List Int} {t u:Tm} {S:List Int→Int} (h:∀m,0≤S m∧S m≤10006):∀m,0≤stepS zs t S u m∧stepS zs t S u m≤10006:=by
 intro m
 unfold stepS
 split
 · exact h m
 · unfold updS;split
   · have h1:=num_lo (S (joinM zs t.m u.m)+joinS zs t.m u.m * t.f * u.f);have h2:=num_hi (S (joinM zs t.m u.m)+joinS zs t.m u.m * t.f * u.f);omega
   · exact h m
theorem rowSum_coef {zs:List Int} {t:Tm} (lt:t.m.length=8) (m:List Int):∀(gs:List Tm) (S:List Int→Int),(∀g∈gs,g.m.length=8)→Srt gs→(∀m,0≤S m∧S m≤10006)→rowSum zs t S gs m=num (S m+coef (shiftT zs t gs) m)
 | [], S, _, _, h => by
   show S m=num (S m+0)
   rw [Int.add_zero,num_self (h m)]
 | u :: gs, S, hl, hs, h => by
   obtain ⟨ha,ht⟩:=List.pairwise_cons.1 hs;have ih:=rowSum_coef (zs:=zs) lt m gs (stepS zs t S u) (fun g hg=>hl g (by simp [hg])) ht (stepS_bd h);show rowSum zs t (stepS zs t S u) gs m=_
   rw [ih];by_cases hj:joinS zs t.m u.m=0
   · rw [shiftT_no hj,stepS,if_pos hj]
   · rw [shiftT_yes hj,stepS,if_neg hj];by_cases hm:joinM zs t.m u.m=m
     · rw [coef_hit (t:=⟨joinM zs t.m u.m,num (joinS zs t.m u.m * t.f * u.f)⟩) hm]
       have h0:coef (shiftT zs t gs) m=0:=coef_none fun x hx e=>by
        obtain ⟨v,hv,hj2,hxm,-⟩:=shiftT_mem hx;rw [hxm,←hm,join_ne hj,join_ne hj2] at e;have:=addM_inj (by rw [lt,hl v (by simp [hv])]) (by rw [lt,hl u (by simp)]) e;have hb:=ha v hv;rw [this,before_self] at hb;cases hb
       rw [h0,Int.add_zero,updS,if_pos hm.symm,num_num,hm,num_add]
     · rw [coef_miss (t:=⟨joinM zs t.m u.m,num (joinS zs t.m u.m * t.f * u.f)⟩) hm,updS,if_neg (fun e=>hm e.symm)]
def timesT (zs:List Int) (gs:List Tm) (out:List Tm) (fs:List Tm):List Tm:=fs.foldl (fun out t=>addT 1 out (shiftT zs t gs)) out
def sumS (zs:List Int) (gs:List Tm) (S:List Int→Int) (fs:List Tm):List Int→Int:=fs.foldl (fun S t=>rowSum zs t S gs) S
structure Good (ts:List Tm):Prop where
 srt:Srt ts
 len:∀t∈ts,t.m.length=8
 nz:∀t∈ts,1≤t.f∧t.f≤10006
theorem good_nil:Good []:=⟨List.Pairwise.nil,by simp,by simp⟩
theorem addM_length {m k:List Int} (h1:m.length=8) (h2:k.length=8):(addM m k).length=8:=by simp [addM,h1,h2]
theorem good_add {zs:List Int} {out gs:List Tm} {t:Tm} (h:Good out) (lt:t.m.length=8) (hl:∀g∈gs,g.m.length=8) (hs:Srt gs):Good (addT 1 out (shiftT zs t gs)):=by
 have l2:∀x∈shiftT zs t gs,x.m.length=8:=fun x hx=>by
  obtain ⟨u,hu,hj,hm,-⟩:=shiftT_mem hx;rw [hm,join_ne hj];exact addM_length lt (hl u hu)
 have hx:∀x,¬num x=0→1≤num x∧num x≤10006:=fun x h=>by have h1:=num_lo x;have h2:=num_hi x;omega
 exact ⟨addT_srt out _ h.len l2 h.srt (shiftT_srt lt gs hl hs),addT_all out _ h.len (fun g hg _ _=>l2 g hg) (fun f hf _ _=>h.len f hf),addT_all out _ h.nz (fun g _ x hn=>hx x hn) (fun f _ x hn=>hx x hn)⟩
theorem times_coef {zs:List Int} {gs:List Tm} (hl:∀g∈gs,g.m.length=8) (hs:Srt gs):∀(fs:List Tm) (out:List Tm) (S:List Int→Int),(∀t∈fs,t.m.length=8)→Good out→(∀m,S m=coef out m)→(∀m,sumS zs gs S fs m=coef (timesT zs gs out fs) m)∧Good (timesT zs gs out fs)
 | [],out,S,_,hg,h=>⟨h,hg⟩
 | t :: fs, out, S, lf, hg, h => by
   have lt:=lf t (by simp)
   have hb:∀m,0≤S m∧S m≤10006:=fun m=>by
    rw [h m];exact coef_bd fun u hu=>by have:=hg.nz u hu;omega
   have l2:∀x∈shiftT zs t gs,x.m.length=8:=fun x hx=>by
    obtain ⟨u,hu,hj,hm,-⟩:=shiftT_mem hx;rw [hm,join_ne hj];exact addM_length lt (hl u hu)
   refine times_coef hl hs fs _ _ (fun u hu=>lf u (by simp [hu])) (good_add hg lt hl hs) (fun m=>?_);show rowSum zs t S gs m=coef (addT 1 out (shiftT zs t gs)) m
   rw [rowSum_coef lt m gs S hl hs hb,coef_add out _ hg.len l2 hg.srt (shiftT_srt lt gs hl hs) (fun u hu=>by have:=hg.nz u hu;omega),h m,Int.one_mul]
theorem num_mul (F b:Int):num (F * num b)=num (F * b):=by
 unfold num
 rw [Int.mul_emod,Int.emod_emod,←Int.mul_emod]
theorem num_add_mul (a F b:Int):num (a+F * num b)=num (a+F * b):=by
 rw [←num_add a (F * num b),num_mul,num_add]
theorem joinS_pm {zs m k:List Int} (h:¬joinS zs m k=0):joinS zs m k=1∨joinS zs m k=-1:=by
 unfold joinS at h ⊢
 split at h
 · exact absurd rfl h
 · rename_i h1;rw [if_neg h1];exact (sgn3_pm _).1
theorem num_neg_ne {x:Int} (h:¬num x=0):¬num (-x)=0:=by unfold num at *;omega
theorem num_sign_ne {s x:Int} (hs:s=1∨s=-1) (hx:1≤x∧x≤10006):¬num (s * x)=0:=by
 have h0:¬num x=0:=by rw [num_self (by omega)];omega
 rcases hs with h | h
 · rw [h,Int.one_mul];exact h0
 · rw [h,Int.neg_one_mul];exact num_neg_ne h0
def pstep (zs left right:List Int) (F:Int) (S:List Int→Int) (u:Tm):List Int→Int:=
 if joinS zs left u.m=0 then S
 else if joinS zs (joinM zs left u.m) right=0 then S
 else updS S (joinM zs (joinM zs left u.m) right) (num (S (joinM zs (joinM zs left u.m) right)+joinS zs left u.m * joinS zs (joinM zs left u.m) right * num F * u.f))
def addP (zs left right:List Int) (F:Int) (S:List Int→Int) (im:List Tm):List Int→Int:=im.foldl (pstep zs left right F) S
def between (zs left right:List Int) (im:List Tm):List Tm:=timesT zs [⟨right,1⟩] [] (timesT zs im [] [⟨left,1⟩])
theorem own_shift {zs left:List Int} {im:List Tm} (hf:∀u∈im,1≤u.f∧u.f≤10006):timesT zs im [] [⟨left,1⟩]=shiftT zs ⟨left,1⟩ im:=by
 show addT 1 [] (shiftT zs ⟨left,1⟩ im)=_
 have hx:∀x∈shiftT zs ⟨left,1⟩ im,1≤x.f∧x.f≤10006:=fun x hx=>by
  have hb:=shiftT_bd x hx;obtain ⟨u,hu,hj,_,e⟩:=shiftT_mem hx;have:=num_sign_ne (joinS_pm hj) (hf u hu);rw [Int.mul_one] at e;rw [←e] at this;omega
 rw [scT_add (by omega) (by omega) _ hx,scT]
 have:∀l:List Tm,(∀x∈l,1≤x.f∧x.f≤10006)→(l.map fun t=>(⟨t.m,num (1 * t.f)⟩:Tm))=l:=by
  intro l
  induction l with
  | nil=>intro _;rfl
  | cons t l ih =>
    intro h;have ht:=h t (by simp);rw [List.map_cons,ih (fun x hx=>h x (by simp [hx])),Int.one_mul,num_self (by omega)]
 exact this _ hx
theorem addP_coef {zs left right:List Int} {F:Int} {S0:List Int→Int}:∀(im:List Tm) (S G:List Int→Int),(∀m,S m=num (S0 m+num F * G m))→∀m,addP zs left right F S im m=num (S0 m+num F * sumS zs [⟨right,1⟩] G (shiftT zs ⟨left,1⟩ im) m)
 | [],S,G,h,m=>h m
 | u :: im, S, G, h, m => by
   show addP zs left right F (pstep zs left right F S u) im m=_
   by_cases h1:joinS zs left u.m=0
   · rw [shiftT_no (t:=⟨left,1⟩) h1,pstep,if_pos h1];exact addP_coef im S G h m
   · rw [shiftT_yes (t:=⟨left,1⟩) h1,pstep,if_neg h1];show addP zs left right F _ im m=num (S0 m+num F * sumS zs [⟨right,1⟩] (stepS zs ⟨joinM zs left u.m,num (joinS zs left u.m * 1 * u.f)⟩ G ⟨right,1⟩) (shiftT zs ⟨left,1⟩ im) m)
     refine addP_coef im _ _ (fun k=>?_) m;by_cases h2:joinS zs (joinM zs left u.m) right=0
     · rw [if_pos h2,stepS,if_pos h2];exact h k
     · rw [if_neg h2,stepS,if_neg h2];unfold updS;by_cases hk:k=joinM zs (joinM zs left u.m) right
       · rw [if_pos hk,if_pos hk,hk,h,num_add'];rw [Int.mul_one,Int.mul_one,num_add_mul,Int.mul_add,←Int.add_assoc];rw [←num_add,←num_add (S0 (joinM zs (joinM zs left u.m) right)+num F * G (joinM zs (joinM zs left u.m) right)) (num F * (joinS zs (joinM zs left u.m) right * num (joinS zs left u.m * u.f)))];congr 2
         rw [←Int.mul_assoc,num_mul];congr 1
         ac_rfl
       · rw [if_neg hk,if_neg hk];exact h k
def frontM (m:List Int) (i:Nat):List Int:=m.take i++List.replicate (8 - i) 0
def leftM (m:List Int) (i:Nat):List Int:=(frontM m i).set i (m.getD i 0 - 1)
def backM (m:List Int) (i:Nat):List Int:=List.replicate (i+1) 0++m.drop (i+1)
theorem frontM_len {m:List Int} {i:Nat} (h:m.length=8) (hi:i≤8):(frontM m i).length=8:=by simp [frontM,h];omega
theorem leftM_len {m:List Int} {i:Nat} (h:m.length=8) (hi:i≤8):(leftM m i).length=8:=by rw [leftM,List.length_set];exact frontM_len h hi
theorem backM_len {m:List Int} {i:Nat} (h:m.length=8) (hi:i<8):(backM m i).length=8:=by simp [backM,h];omega
def sgnTo (zs m:List Int):Nat→Int
 | 0=>1
 | i+1=>if odd (zs.getD i 0)=true∧m.getD i 0=1 then - sgnTo zs m i else sgnTo zs m i
theorem sgnTo_par {zs m:List Int}:∀i:Nat,(∀j,j<i→odd (zs.getD j 0)=true→m.getD j 0=0∨m.getD j 0=1)→sgnTo zs m i=if wtTo zs m i % 2=0 then 1 else -1
 | 0,_=>by simp [sgnTo,wtTo]
 | i + 1, h => by
   have ih:=sgnTo_par i (fun j hj=>h j (by omega));rw [sgnTo,wtTo,ih]
   cases ho:odd (zs.getD i 0) with
   | false =>
     have hz:zs.getD i 0 % 2=0:=(by simpa [odd] using ho);have hp:(zs.getD i 0 * m.getD i 0) % 2=0:=(by rw [Int.mul_emod,hz,Int.zero_mul];rfl);rw [if_neg (by simp)];have:(wtTo zs m i+zs.getD i 0 * m.getD i 0) % 2=wtTo zs m i % 2:=(by omega);rw [this]
   | true =>
     have hz:zs.getD i 0 % 2=1:=by
      have:zs.getD i 0 % 2≠0:=(by simpa [odd] using ho);omega
     rcases h i (by omega) ho with h0 | h1
     · rw [if_neg (by omega),h0,Int.mul_zero,Int.add_zero]
     · rw [if_pos ⟨rfl,h1⟩,h1,Int.mul_one];split
       · rw [if_neg (by omega)]
       · rw [if_pos (by omega)];rfl
def termS (zs:List Int) (ims:List (List Tm)) (t:Tm) (S:List Int→Int):Nat→List Int→Int
 | 0=>S
 | i+1=>if 0<t.m.getD i 0 then addP zs (leftM t.m i) (backM t.m i) (sgnTo zs t.m i * t.m.getD i 0 * t.f) (termS zs ims t S i) (ims.getD i []) else termS zs ims t S i
def termT (zs:List Int) (ims:List (List Tm)) (t:Tm) (out:List Tm):Nat→List Tm
 | 0=>out
 | i+1=>if t.m.getD i 0=0 then termT zs ims t out i else addT (num (if wtTo zs t.m i % 2=0 then t.f * t.m.getD i 0 else -(t.f * t.m.getD i 0))) (termT zs ims t out i) (between zs (leftM t.m i) (backM t.m i) (ims.getD i []))
def Ims (ims:List (List Tm)):Prop:=∀im∈ims,Srt im∧(∀u∈im,u.m.length=8)∧∀u∈im,1≤u.f∧u.f≤10006
theorem Ims.at_ {ims:List (List Tm)} (h:Ims ims) (i:Nat):Srt (ims.getD i [])∧(∀u∈ims.getD i [],u.m.length=8)∧∀u∈ims.getD i [],1≤u.f∧u.f≤10006:=by
 by_cases hi:i<ims.length
 · rw [List.getD_eq_getElem?_getD,List.getElem?_eq_getElem hi];exact h _ (List.getElem_mem hi)
 · rw [List.getD_eq_getElem?_getD,List.getElem?_eq_none (by omega)];exact ⟨List.Pairwise.nil,by simp,by simp⟩
def zeroL:List Int→Int:=fun _=>0
theorem odd_le1 {zs m:List Int} (hm:IsMono m) (h:monoOk zs m=true) {j:Nat} (ho:odd (zs.getD j 0)=true):m.getD j 0≤1:=by
 by_cases hj:j<8
 · by_cases hz:j<zs.length
   · obtain ⟨y,hy0,-,-,HY⟩:=mono_at hm hj;rw [monoOk,List.all_eq_true] at h;have h1:=h j (by simpa using hj);rw [fits_eq HY.out] at h1;rw [List.getD_eq_getElem?_getD,HY.out];rw [List.getD_eq_getElem?_getD,List.getElem?_eq_getElem hz] at ho;rw [capAt,List.getElem?_eq_getElem hz] at h1;simp only [Option.getD_some] at ho ⊢;simp only [ho] at h1;simpa using h1
   · rw [List.getD_eq_getElem?_getD,List.getElem?_eq_none (by omega)] at ho;simp [odd] at ho
 · rw [List.getD_eq_getElem?_getD,List.getElem?_eq_none (by have:=hm.1;omega)];simp
theorem between_good {zs left right : List Int} {im : List Tm} (hl : left.length = 8) (hr : right.length = 8) (_hs : Srt im) (h8 : ∀ u ∈ im, u.m.length = 8) (hf : ∀ u ∈ im, 1 ≤ u.f ∧ u.f ≤ 10006) :
    (∀m,sumS zs [⟨right,1⟩] zeroL (shiftT zs ⟨left,1⟩ im) m=coef (between zs left right im) m)∧Good (between zs left right im):=by
 have l2:∀x∈shiftT zs ⟨left,1⟩ im,x.m.length=8:=fun x hx=>by
  obtain ⟨u,hu,hj,hm,-⟩:=shiftT_mem hx;rw [hm,join_ne hj];exact addM_length hl (h8 u hu)
 have:=times_coef (zs:=zs) (gs:=[⟨right,1⟩]) (by simpa using hr) (List.pairwise_singleton _ _) (shiftT zs ⟨left,1⟩ im) [] zeroL l2 good_nil (fun _=>rfl)
 rw [between,own_shift hf]
 exact this
theorem term_coef {zs : List Int} {ims : List (List Tm)} {t : Tm} {S : List Int → Int} {out : List Tm} (hI : Ims ims) (ht : t.m.length = 8) (hp : ∀ j, odd (zs.getD j 0) = true → t.m.getD j 0 = 0 ∨ t.m.getD j 0 = 1) (h0 : ∀ j, 0 ≤ t.m.getD j 0)
    (hS:∀m,S m=coef out m) (hG:Good out):∀i:Nat,i≤8→(∀m,termS zs ims t S i m=coef (termT zs ims t out i) m)∧Good (termT zs ims t out i)
 | 0,_=>⟨hS,hG⟩
 | i + 1, hi => by
   obtain ⟨e1,g1⟩:=term_coef hI ht hp h0 hS hG i (by omega);have hn:=h0 i;by_cases he:t.m.getD i 0=0
   · rw [termS,termT,if_neg (by omega),if_pos he];exact ⟨e1,g1⟩
   · obtain ⟨s1,s2,s3⟩:=hI.at_ i;have hl:=leftM_len ht (show i≤8 by omega);have hr:=backM_len ht (show i<8 by omega);obtain ⟨b1,b2⟩:=between_good (zs:=zs) hl hr s1 s2 s3
     have hF:sgnTo zs t.m i * t.m.getD i 0 * t.f=if wtTo zs t.m i % 2=0 then t.f * t.m.getD i 0 else -(t.f * t.m.getD i 0):=by
      rw [sgnTo_par i (fun j _=>hp j)];split
      · rw [Int.one_mul,Int.mul_comm]
      · rw [Int.neg_one_mul,Int.neg_mul,Int.mul_comm]
     rw [termS,termT,if_pos (by omega),if_neg he,←hF];generalize sgnTo zs t.m i * t.m.getD i 0 * t.f=F;have hb:∀x∈termT zs ims t out i,0≤x.f∧x.f≤10006:=fun x hx=>(by have:=g1.nz x hx;omega);refine ⟨fun m=>?_,?_⟩
     · rw [addP_coef (ims.getD i []) _ zeroL (fun m => by
         show _=num (_+num F * 0)
         rw [Int.mul_zero,Int.add_zero,e1 m,num_self (coef_bd hb)]) m,b1 m]
       exact (coef_add _ _ g1.len b2.len g1.srt b2.srt hb).symm
     · have hx:∀x,¬num x=0→1≤num x∧num x≤10006:=fun x h=>(by have h1:=num_lo x;have h2:=num_hi x;omega);exact ⟨addT_srt _ _ g1.len b2.len g1.srt b2.srt,addT_all _ _ g1.len (fun g hg _ _=>b2.len g hg) (fun f hf _ _=>g1.len f hf),addT_all _ _ g1.nz (fun g _ x hn=>hx x hn) (fun f _ x hn=>hx x hn)⟩
def diffS (zs:List Int) (ims:List (List Tm)) (S:List Int→Int) (fs:List Tm):List Int→Int:=fs.foldl (fun S t=>termS zs ims t S ims.length) S
def diffT (zs:List Int) (ims:List (List Tm)) (out:List Tm) (fs:List Tm):List Tm:=fs.foldl (fun out t=>termT zs ims t out zs.length) out
theorem diff_coef {zs : List Int} {ims : List (List Tm)} (hI : Ims ims) (hn : ims.length = zs.length) (h8 : zs.length ≤ 8) : ∀ (fs out : List Tm) (S : List Int → Int), (∀ t ∈ fs, IsMono t.m) → (∀ t ∈ fs, monoOk zs t.m = true) → (∀ m, S m = coef out m) → Good out →
    (∀m,diffS zs ims S fs m=coef (diffT zs ims out fs) m)∧Good (diffT zs ims out fs)
 | [],out,S,_,_,hS,hG=>⟨hS,hG⟩
 | t :: fs, out, S, hm, hok, hS, hG => by
   have hmt:=hm t (by simp);have hokt:=hok t (by simp);have h0:∀j,0≤t.m.getD j 0:=fun j=>by have:=getD_mono hmt j;omega
   have hp:∀j,odd (zs.getD j 0)=true→t.m.getD j 0=0∨t.m.getD j 0=1:=fun j ho=>by
    have:=odd_le1 hmt hokt ho;have:=h0 j;omega
   obtain ⟨e,g⟩:=term_coef hI hmt.1 hp h0 hS hG zs.length h8;show (∀m,diffS zs ims (termS zs ims t S ims.length) fs m=_)∧_
   rw [hn];exact diff_coef hI hn h8 fs _ _ (fun u hu=>hm u (by simp [hu])) (fun u hu=>hok u (by simp [hu])) e g
end Go.Proofs.YtfheammnkmjabaaGreat
