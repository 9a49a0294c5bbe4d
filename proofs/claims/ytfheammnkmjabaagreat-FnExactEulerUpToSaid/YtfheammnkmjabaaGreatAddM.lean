
import Derived.Test.YtfheammnkmjabaaGreatRedM
import Derived.Test.YtfheammnkmjabaaGreatIsForm
import Derived.Test.YtfheammnkmjabaaGreatNum
namespace Go.Proofs.YtfheammnkmjabaaGreat
abbrev rw_ (R:List (List Int)) (j:Nat):List Int:=R.getD j []
structure GJ (V:List Vec) (m:Nat) (R:List (List Int)) (F:List Nat) (c:Nat):Prop where
 ok:∀r∈R,RowOk m r
 span:SameSp (R.map vec) V
 le:F.length≤R.length
 srt:F.Pairwise (· < ·)
 lt:∀f∈F,f<c
 one:∀(i f:Nat),F[i]? = some f→(rw_ R i).getD f 0=1
 low:∀(i f:Nat),F[i]? = some f→∀q,q<f→(rw_ R i).getD q 0=0
 off:∀(i f j:Nat),F[i]? = some f→j<R.length→¬j=i→(rw_ R j).getD f 0=0
 rest:∀j,F.length≤j→j<R.length→∀q,q<c→(rw_ R j).getD q 0=0
theorem rw_mem {R:List (List Int)} {j:Nat} (h:j<R.length):rw_ R j∈R:=by
 rw [rw_,List.getD_eq_getElem?_getD,List.getElem?_eq_getElem h]
 exact List.getElem_mem h
theorem rw_at {R:List (List Int)} {j:Nat} {r:List Int} (h:R[j]? = some r):rw_ R j=r:=by
 rw [rw_,List.getD_eq_getElem?_getD,h];rfl
theorem GJ.start {V:List (List Int)} {m:Nat} (h:∀r∈V,RowOk m r):GJ (V.map vec) m V [] 0:=
 ⟨h,SameSp.refl _,by simp,by simp,by simp,by simp,by simp,by simp,fun j _ _ q hq=>absurd hq (by omega)⟩
theorem GJ.skip {V:List Vec} {m c:Nat} {R:List (List Int)} {F:List Nat} (h:GJ V m R F c) (h0:∀j,F.length≤j→j<R.length→(rw_ R j).getD c 0=0):GJ V m R F (c+1):=
 ⟨h.ok,h.span,h.le,h.srt,fun f hf=>Nat.lt_succ_of_lt (h.lt f hf),h.one,h.low,h.off,fun j h1 h2 q hq=>by
  by_cases e:q=c
  · rw [e];exact h0 j h1 h2
  · exact h.rest j h1 h2 q (by omega)⟩
theorem GJ.step {V : List Vec} {m c i : Nat} {R R' : List (List Int)} {F : List Nat} (h : GJ V m R F c) (hi : F.length ≤ i) (hn : i < R.length) (hne : ¬ (rw_ R i).getD c 0 = 0)
    (hl:R'.length=R.length) (hN:rw_ R' F.length=normR (rw_ R i)) (hO:∀j,j<R.length→¬j=F.length→rw_ R' j=clr (normR (rw_ R i)) c (if j=i then rw_ R F.length else rw_ R j)):GJ V m R' (F++[c]) (c+1):=by
 have hfi:fstN (rw_ R i)=c:=fstN_eq (fun q hq=>h.rest i hi hn q hq) hne
 have hoi:=h.ok _ (rw_mem hn)
 have hlen:fstN (rw_ R i)<(rw_ R i).length:=by
  by_cases e:fstN (rw_ R i)<(rw_ R i).length
  · exact e
  · rw [hfi] at e;rw [List.getD_eq_getElem?_getD,List.getElem?_eq_none (by omega)] at hne;exact absurd rfl hne
 have hcm:c<m:=by rw [hfi,hoi.len] at hlen;exact hlen
 obtain ⟨N,hNe⟩:∃N,normR (rw_ R i)=N:=⟨_,rfl⟩
 have hnv:=normR_vec hoi
 have hni:=normR_inv hoi hlen
 have hnok:=normR_ok hoi
 rw [hNe] at hN hO hnv hnok
 rw [hfi] at hni
 have hNlow:∀q,q<c→N.getD q 0=0:=fun q hq=>by
  rw [←vec_zero_iff hnok,hnv];show _ * toK ((rw_ R i).getD q 0)=0
  rw [h.rest i hi hn q hq,toK_zero]
  grind
 have hNone:N.getD c 0=1:=by
  refine toK_inj (hnok.at_ _) ⟨by omega,by omega⟩ ?_;show vec N c=_
  rw [hnv,toK_one,hfi];exact hni
 have hnew:NewR m c N []:=⟨hnok,hNlow,hNone,by simp⟩
 have hd:F.length<R.length:=by omega
 have hold:∀j,j<R.length→RowOk m (if j=i then rw_ R F.length else rw_ R j):=fun j hj=>by
  split
  · exact h.ok _ (rw_mem hd)
  · exact h.ok _ (rw_mem hj)
 have hok':∀j,j<R.length→RowOk m (rw_ R' j):=fun j hj=>by
  by_cases e:j=F.length
  · rw [e,hN];exact hnok
  · rw [hO j hj e];exact clr_ok hnew (hold j hj)
 have hF:∀(k f:Nat),(F++[c])[k]? = some f→(k<F.length∧F[k]? = some f∧f<c)∨(k=F.length∧f=c):=fun k f hk=>by
  by_cases e:k<F.length
  · rw [List.getElem?_append_left e] at hk;exact Or.inl ⟨e,hk,h.lt f (List.mem_of_getElem? hk)⟩
  · rw [List.getElem?_append_right (by omega)] at hk;obtain ⟨h1,h2⟩:=List.getElem?_eq_some_iff.1 hk;simp at h1 h2
    exact Or.inr ⟨by omega,h2.symm⟩
 have hsame:∀j,j<R.length→¬j=F.length→∀q,q<c→(rw_ R' j).getD q 0=(if j=i then rw_ R F.length else rw_ R j).getD q 0:=fun j hj hne q hq=>by
  rw [hO j hj hne,clr_same hnew (hold j hj) (hNlow q hq)]
 refine ⟨fun r hr=>?_,?_,by rw [List.length_append,hl];simp;omega,?_,fun f hf=>?_,fun k f hk=>?_,fun k f hk q hq=>?_,fun k f j hk hj hjk=>?_,fun j h1 h2 q hq=>?_⟩
 · obtain ⟨j,hj,rfl⟩:=List.mem_iff_getElem.1 hr;have:=hok' j (by omega)
   rwa [rw_at (List.getElem?_eq_getElem hj)] at this
 · refine SameSp.trans ⟨fun v hv=>?_,fun v hv=>?_⟩ h.span
   · obtain ⟨r,hr,rfl⟩:=List.mem_map.1 hv;obtain ⟨j,hj,rfl⟩:=List.mem_iff_getElem.1 hr;have hmem:∀k,k<R.length→Sp (R.map vec) (vec (rw_ R k)):=fun k hk=>Sp.mem (List.mem_map.2 ⟨_,rw_mem hk,rfl⟩)
     have hspN:Sp (R.map vec) (vec N):=by
      have:=Sp.add (Sp.zero (V:=R.map vec)) (toK (invOf ((rw_ R i).getD (fstN (rw_ R i)) 0))) (hmem i hn);rw [hnv];have e:(fun q=>(0:K)+toK (invOf ((rw_ R i).getD (fstN (rw_ R i)) 0)) * vec (rw_ R i) q)=(fun q=>toK (invOf ((rw_ R i).getD (fstN (rw_ R i)) 0)) * vec (rw_ R i) q):=by funext q;grind
      rwa [e] at this
     have hj':j<R.length:=(by omega);rw [←rw_at (List.getElem?_eq_getElem hj)];by_cases e:j=F.length
     · rw [e,hN];exact hspN
     · rw [hO j hj' e,clr,lessR_vec (hold j hj').len hnok.len];refine Sp.add ?_ _ hspN;split
       · exact hmem _ hd
       · exact hmem j hj'
   · obtain ⟨r,hr,rfl⟩:=List.mem_map.1 hv;obtain ⟨j,hj,rfl⟩:=List.mem_iff_getElem.1 hr;have hmem:∀k,k<R.length→Sp (R'.map vec) (vec (rw_ R' k)):=fun k hk=>Sp.mem (List.mem_map.2 ⟨_,rw_mem (by omega),rfl⟩);have hspN:Sp (R'.map vec) (vec N):=by rw [←hN];exact hmem _ hd
     have hback:∀k,k<R.length→¬k=F.length→Sp (R'.map vec) (vec (if k=i then rw_ R F.length else rw_ R k)):=fun k hk hkd=>by
      have h1:=Sp.add (hmem k hk) (toK ((if k=i then rw_ R F.length else rw_ R k).getD c 0)) hspN;rw [hO k hk hkd,clr,lessR_vec (hold k hk).len hnok.len] at h1;obtain ⟨o,ho⟩:∃o,(if k=i then rw_ R F.length else rw_ R k)=o:=⟨_,rfl⟩;rw [ho] at h1 ⊢
      have e:(fun q=>(vec o q+toK (-(o.getD c 0)) * vec N q)+toK (o.getD c 0) * vec N q)=vec o:=by
       funext q
       have:=toK_neg_add (o.getD c 0)
       grind
      rwa [e] at h1
     rw [←rw_at (List.getElem?_eq_getElem hj)];by_cases e:j=i
     · -- the row of the place itself
       have h1:=Sp.add (Sp.zero (V:=R'.map vec)) (vec (rw_ R i) c) hspN
       have e2:(fun q=>(0:K)+vec (rw_ R i) c * vec N q)=vec (rw_ R i):=by
        funext q
        have e1:=congrFun hnv q;rw [hfi] at e1
        grind
       rw [e2] at h1;rw [e];exact h1
     · by_cases e2:j=F.length
       · have:=hback i hn (by omega);rw [if_pos rfl] at this;rw [e2];exact this
       · have:=hback j hj e2
         rwa [if_neg e] at this
 · rw [List.pairwise_append]
   exact ⟨h.srt,by simp,fun a ha b hb=>by
    obtain rfl:b=c:=by simpa using hb
    exact h.lt a ha⟩
 · rw [List.mem_append] at hf
   rcases hf with hf | hf
   · have:=h.lt f hf;omega
   · obtain rfl:f=c:=(by simpa using hf);omega
 · rcases hF k f hk with ⟨h1,h2,h3⟩ | ⟨rfl,rfl⟩
   · rw [hsame k (by omega) (by omega) f h3,if_neg (by omega)];exact h.one k f h2
   · rw [hN];exact hNone
 · rcases hF k f hk with ⟨h1,h2,h3⟩ | ⟨rfl,rfl⟩
   · rw [hsame k (by omega) (by omega) q (by omega),if_neg (by omega)];exact h.low k f h2 q hq
   · rw [hN];exact hNlow q hq
 · rw [hl] at hj
   rcases hF k f hk with ⟨h1,h2,h3⟩ | ⟨rfl,rfl⟩
   · by_cases e:j=F.length
     · rw [e,hN];exact hNlow f h3
     · rw [hsame j hj e f h3];split
       · exact h.off k f F.length h2 hd (by omega)
       · exact h.off k f j h2 hj hjk
   · rw [hO j hj hjk];exact clr_p hnew (hold j hj)
 · rw [List.length_append] at h1;simp at h1
   rw [hl] at h2;by_cases e:q=c
   · rw [e,hO j h2 (by omega)];exact clr_p hnew (hold j h2)
   · rw [hsame j h2 (by omega) q (by omega)];split
     · exact h.rest F.length (Nat.le_refl _) hd q (by omega)
     · exact h.rest j (by omega) h2 q (by omega)
theorem GJ.rank {V:List Vec} {m:Nat} {R:List (List Int)} {F:List Nat} (h:GJ V m R F m):IsRank V F.length:=by
 have hget:∀e∈(List.range F.length).map (fun i=>(F.getD i 0,vec (rw_ R i))),∃i f,F[i]? = some f∧i<F.length∧e=(f,vec (rw_ R i)):=fun e he=>by
  obtain ⟨i,hi,rfl⟩:=List.mem_map.1 he;have hi2:=List.mem_range.1 hi;refine ⟨i,F[i],List.getElem?_eq_getElem hi2,hi2,?_⟩;rw [List.getD_eq_getElem?_getD,List.getElem?_eq_getElem hi2];rfl
 have hle:=h.le
 refine ⟨(List.range F.length).map (fun i=>(F.getD i 0,vec (rw_ R i))),⟨?_,fun e he=>?_,fun e he c hc=>?_,fun e he f hf hne=>?_⟩,?_,by simp⟩
 · rw [List.pairwise_map];rw [List.pairwise_iff_getElem];intro i j hi hj hij;simp only [List.length_range] at hi hj;simp only [List.getElem_range];have:=(List.pairwise_iff_getElem.1 h.srt) i j hi hj hij;rw [List.getD_eq_getElem?_getD,List.getD_eq_getElem?_getD,List.getElem?_eq_getElem hi,List.getElem?_eq_getElem hj];exact this
 · obtain ⟨i,f,h1,-,rfl⟩:=hget e he;show toK ((rw_ R i).getD f 0)=1
   rw [h.one i f h1,toK_one]
 · obtain ⟨i,f,h1,-,rfl⟩:=hget e he;show toK ((rw_ R i).getD c 0)=0
   rw [h.low i f h1 c hc,toK_zero]
 · obtain ⟨i,g,h1,h2,rfl⟩:=hget e he;obtain ⟨j,k,h3,h4,rfl⟩:=hget f hf;show toK ((rw_ R i).getD k 0)=0
   rw [h.off j k i h3 (by omega) (fun e=>by
    subst e;rw [h1,Option.some.injEq] at h3
    exact hne h3),toK_zero]
 · refine SameSp.trans ⟨fun v hv=>?_,fun v hv=>?_⟩ h.span
   · rw [List.map_map] at hv;obtain ⟨i,hi,rfl⟩:=List.mem_map.1 hv;exact Sp.mem (List.mem_map.2 ⟨rw_ R i,rw_mem (by have:=List.mem_range.1 hi;omega),rfl⟩)
   · obtain ⟨r,hr,rfl⟩:=List.mem_map.1 hv;obtain ⟨j,hj,rfl⟩:=List.mem_iff_getElem.1 hr;rw [←rw_at (List.getElem?_eq_getElem hj)];by_cases e:j<F.length
     · refine Sp.mem ?_;rw [List.map_map];exact List.mem_map.2 ⟨j,List.mem_range.2 e,rfl⟩
     · have hz : vec (rw_ R j) = fun _ => 0 := by
         funext q
         have hok:=h.ok _ (rw_mem hj);rw [vec_zero_iff hok];by_cases hq:q<m
         · exact h.rest j (by omega) hj q hq
         · rw [List.getD_eq_getElem?_getD,List.getElem?_eq_none (by rw [hok.len];omega)];rfl
       rw [hz];exact Sp.zero
open Go.RowKit Go.Deep
theorem cmpM_cons (a b:Int) (l1 l2:List Int):cmpM (a::l1) (b::l2)=-1↔b<a∨(a=b∧cmpM l1 l2=-1):=by
 rw [cmpM]
 rcases Int.lt_trichotomy a b with h | h | h
 · rw [if_neg (by omega),if_pos h];omega
 · rw [if_neg (by omega),if_neg (by omega)];omega
 · rw [if_pos h];omega
theorem cmpM_turn:∀m k:List Int,cmpM k m=- cmpM m k
 | [],[]=>rfl
 | [],_::_=>rfl
 | _::_,[]=>rfl
 | a :: l1, b :: l2 => by
   have ih:=cmpM_turn l1 l2;rw [cmpM,cmpM]
   rcases Int.lt_trichotomy a b with h | h | h
   · rw [if_pos h,if_neg (by omega),if_pos h]
   · rw [if_neg (by omega),if_neg (by omega),if_neg (by omega),if_neg (by omega),ih]
   · rw [if_neg (by omega),if_pos h,if_pos h];rfl
theorem cmpM_eq:∀m k:List Int,m.length=k.length→cmpM m k=0→m=k
 | [],[],_,_=>rfl
 | [],_::_,h,_=>by simp at h
 | _::_,[],h,_=>by simp at h
 | a :: l1, b :: l2, hl, h => by
   rw [cmpM] at h
   rcases Int.lt_trichotomy a b with h1 | h1 | h1
   · rw [if_neg (by omega),if_pos h1] at h;omega
   · rw [if_neg (by omega),if_neg (by omega)] at h;rw [h1,cmpM_eq l1 l2 (by simpa using hl) h]
   · rw [if_pos h1] at h;omega
theorem cmpM_trans:∀m k p:List Int,cmpM m k=-1→cmpM k p=-1→cmpM m p=-1
 | [],_,_,h,_=>by simp [cmpM] at h
 | _::_,[],_,h,_=>by simp [cmpM] at h
 | _::_,_::_,[],_,h=>by simp [cmpM] at h
 | a :: l1, b :: l2, c :: l3, h1, h2 => by
   rw [cmpM_cons] at *
   rcases h1 with h1 | ⟨h1,h3⟩ <;> rcases h2 with h2 | ⟨h2,h4⟩
   · exact Or.inl (by omega)
   · exact Or.inl (by omega)
   · exact Or.inl (by omega)
   · exact Or.inr ⟨by omega,cmpM_trans l1 l2 l3 h3 h4⟩
theorem before_trans {m k p:List Int} (h1:before m k=true) (h2:before k p=true):before m p=true:=by
 simp only [before,decide_eq_true_eq] at *
 exact cmpM_trans m k p h1 h2
theorem before_asymm {m k:List Int} (h:before m k=true):before k m=false:=by
 simp only [before,decide_eq_true_eq,decide_eq_false_iff_not] at *
 rw [cmpM_turn m k,h];decide
theorem before_tri {m k:List Int} (hl:m.length=k.length) (h1:before m k=false) (h2:before k m=false):m=k:=by
 simp only [before,decide_eq_false_iff_not] at *
 rw [cmpM_turn m k] at h2
 apply cmpM_eq m k hl
 rcases cmpM_range m k with h | h | h
 · exact absurd h h1
 · exact h
 · rw [h] at h2;exact absurd rfl h2
def Srt (ts:List Tm):Prop:=ts.Pairwise fun s t=>before s.m t.m=true
theorem listOk_at {zs:List Int} {ts:List Tm} (h:listOk zs ts=true) {i:Nat} (hi:i<ts.length):okAt zs ts i=true:=
 List.all_eq_true.1 h i (List.mem_range.2 hi)
theorem listOk_all {zs:List Int} {ts:List Tm} (h:listOk zs ts=true):∀t∈ts,okTm zs t=true:=by
 intro t ht
 obtain ⟨i,hi,rfl⟩:=List.getElem_of_mem ht
 have h1:=listOk_at h hi
 rcases i with _ | j
 · rwa [okAt_zero (List.getElem?_eq_getElem hi)] at h1
 · rw [okAt_succ (List.getElem?_eq_getElem hi) (List.getElem?_eq_getElem (by omega)),Bool.and_eq_true] at h1;exact h1.1
theorem listOk_srt {zs:List Int} {ts:List Tm} (h:listOk zs ts=true):Srt ts:=by
 rw [Srt,List.pairwise_iff_getElem]
 intro i j hi hj hij
 obtain ⟨d,rfl⟩:∃d,j=i+1+d:=⟨j - (i+1),by omega⟩
 induction d with
 | zero =>
   have h1:=listOk_at h hj;rw [okAt_succ (List.getElem?_eq_getElem hj) (List.getElem?_eq_getElem hi),Bool.and_eq_true] at h1;exact h1.2
 | succ d ih =>
   have h0:=ih (by omega) (by omega);have h1:okAt zs ts (i+1+d+1)=true:=listOk_at h hj;rw [okAt_succ (j:=i+1+d) (List.getElem?_eq_getElem hj) (List.getElem?_eq_getElem (by omega)),Bool.and_eq_true] at h1;exact before_trans h0 h1.2
def own1 (m:List Int) (x:Int):List Tm:=if x=0 then [] else [⟨m,x⟩]
theorem own1_no {m:List Int} {x:Int} (h:x=0):own1 m x=[]:=by rw [own1,if_pos h]
theorem own1_yes {m:List Int} {x:Int} (h:¬x=0):own1 m x=[⟨m,x⟩]:=by rw [own1,if_neg h]
def addT (k:Int):List Tm→List Tm→List Tm
 | f :: fs, g :: gs =>
   if before f.m g.m=true then f::addT k fs (g::gs)
   else if before g.m f.m=true then own1 g.m (num (k * g.f))++addT k (f::fs) gs
   else own1 f.m (num (f.f+num (k * g.f)))++addT k fs gs
 | f::fs,[]=>f::fs
 | [],g::gs=>own1 g.m (num (k * g.f))++addT k [] gs
 | [],[]=>[]
termination_by fs gs=>fs.length+gs.length
theorem addT_right (k:Int) (fs:List Tm):addT k fs []=fs:=by cases fs <;> rw [addT]
theorem addT_left (k:Int) (g:Tm) (gs:List Tm):addT k [] (g::gs)=own1 g.m (num (k * g.f))++addT k [] gs:=by rw [addT]
theorem addT_lt {k:Int} {f g:Tm} {fs gs:List Tm} (h:before f.m g.m=true):addT k (f::fs) (g::gs)=f::addT k fs (g::gs):=by rw [addT,if_pos h]
theorem addT_gt {k:Int} {f g:Tm} {fs gs:List Tm} (h:before g.m f.m=true):addT k (f::fs) (g::gs)=own1 g.m (num (k * g.f))++addT k (f::fs) gs:=by
 rw [addT,if_neg (by rw [before_asymm h];simp),if_pos h]
theorem addT_eq {k:Int} {f g:Tm} {fs gs:List Tm} (h1:before f.m g.m=false) (h2:before g.m f.m=false):addT k (f::fs) (g::gs)=own1 f.m (num (f.f+num (k * g.f)))++addT k fs gs:=by
 rw [addT,if_neg (by rw [h1];simp),if_neg (by rw [h2];simp)]
theorem own1_mem {m:List Int} {x:Int} {t:Tm} (h:t∈own1 m x):t.m=m∧t.f=x∧¬x=0:=by
 unfold own1 at h
 split at h
 · simp at h
 · rename_i hx;rw [List.mem_singleton] at h;subst h;exact ⟨rfl,rfl,hx⟩
theorem own1_len (m:List Int) (x:Int):(own1 m x).length≤1:=by
 unfold own1
 split <;> simp
theorem addT_all {k:Int} {p:Tm→Prop}:∀(fs gs:List Tm),(∀f∈fs,p f)→(∀g∈gs,∀x,¬num x=0→p ⟨g.m,num x⟩)→(∀f∈fs,∀x,¬num x=0→p ⟨f.m,num x⟩)→∀t∈addT k fs gs,p t:=by
 intro fs gs
 induction fs,gs using addT.induct with
 | case1 f fs g gs hb ih =>
   intro h1 h2 h3 t ht;rw [addT_lt hb,List.mem_cons] at ht
   rcases ht with rfl | ht
   · exact h1 _ (by simp)
   · exact ih (fun f hf=>h1 f (by simp [hf])) h2 (fun f hf=>h3 f (by simp [hf])) t ht
 | case2 f fs g gs hb hb2 ih =>
   intro h1 h2 h3 t ht;rw [addT_gt hb2,List.mem_append] at ht
   rcases ht with ht | ht
   · obtain ⟨e1,e2,e3⟩:=own1_mem ht;have:=h2 g (by simp) _ e3;rw [←e1,←e2] at this;exact this
   · exact ih h1 (fun g hg=>h2 g (by simp [hg])) h3 t ht
 | case3 f fs g gs hb hb2 ih =>
   intro h1 h2 h3 t ht;rw [addT_eq (by simpa using hb) (by simpa using hb2),List.mem_append] at ht
   rcases ht with ht | ht
   · obtain ⟨e1,e2,e3⟩:=own1_mem ht;have:=h3 f (by simp) _ e3;rw [←e1,←e2] at this;exact this
   · exact ih (fun f hf=>h1 f (by simp [hf])) (fun g hg=>h2 g (by simp [hg])) (fun f hf=>h3 f (by simp [hf])) t ht
 | case4 f fs => 
   intro h1 h2 h3 t ht;rw [addT] at ht;exact h1 t ht
 | case5 g gs ih =>
   intro h1 h2 h3 t ht;rw [addT_left,List.mem_append] at ht
   rcases ht with ht | ht
   · obtain ⟨e1,e2,e3⟩:=own1_mem ht;have:=h2 g (by simp) _ e3;rw [←e1,←e2] at this;exact this
   · exact ih h1 (fun g hg=>h2 g (by simp [hg])) h3 t ht
 | case6 =>
   intro h1 h2 h3 t ht;rw [addT] at ht;simp at ht
theorem addT_len {k:Int} (fs gs:List Tm):(addT k fs gs).length≤fs.length+gs.length:=by
 induction fs,gs using addT.induct with
 | case1 f fs g gs hb ih=>rw [addT_lt hb];simp only [List.length_cons] at *;omega
 | case2 f fs g gs hb hb2 ih=>rw [addT_gt hb2];have:=own1_len g.m (num (k * g.f));simp only [List.length_cons,List.length_append] at *;omega
 | case3 f fs g gs hb hb2 ih=>rw [addT_eq (by simpa using hb) (by simpa using hb2)];have:=own1_len f.m (num (f.f+num (k * g.f)));simp only [List.length_cons,List.length_append] at *;omega
 | case4 f fs=>rw [addT];simp
 | case5 g gs ih=>rw [addT_left];have:=own1_len g.m (num (k * g.f));simp only [List.length_cons,List.length_append] at *;omega
 | case6=>rw [addT];simp
theorem addT_tm {k:Int} {fs gs:List Tm} (h1:∀f∈fs,IsTm f) (h2:∀g∈gs,IsTm g):∀t∈addT k fs gs,IsTm t:=by
 have hx:∀x,-9223372036854775808≤num x∧num x≤9223372036854775807:=fun x=>by have:=num_lo x;have:=num_hi x;omega
 exact addT_all fs gs h1 (fun g hg x _=>⟨(h2 g hg).1,hx x⟩) (fun f hf x _=>⟨(h1 f hf).1,hx x⟩)
theorem addT_head {k:Int} {m:List Int} {fs gs:List Tm} (h1:∀f∈fs,before m f.m=true) (h2:∀g∈gs,before m g.m=true):∀t∈addT k fs gs,before m t.m=true:=
 addT_all fs gs h1 (fun g hg _ _=>h2 g hg) (fun f hf _ _=>h1 f hf)
theorem srt_own1 {m:List Int} {x:Int} {ts:List Tm} (h:∀t∈ts,before m t.m=true) (hs:Srt ts):Srt (own1 m x++ts):=by
 unfold own1
 split
 · exact hs
 · exact List.Pairwise.cons h hs
theorem addT_srt {k:Int}:∀(fs gs:List Tm),(∀f∈fs,f.m.length=8)→(∀g∈gs,g.m.length=8)→Srt fs→Srt gs→Srt (addT k fs gs):=by
 intro fs gs
 induction fs,gs using addT.induct with
 | case1 f fs g gs hb ih =>
   intro l1 l2 h1 h2;rw [addT_lt hb];obtain ⟨ha,ht⟩:=List.pairwise_cons.1 h1;obtain ⟨hc,hu⟩:=List.pairwise_cons.1 h2;refine List.Pairwise.cons (addT_head ha ?_) (ih (fun f hf=>l1 f (by simp [hf])) l2 ht h2);intro g' hg';rw [List.mem_cons] at hg'
   rcases hg' with rfl | hg'
   · exact hb
   · exact before_trans hb (hc _ hg')
 | case2 f fs g gs hb hb2 ih =>
   intro l1 l2 h1 h2;rw [addT_gt hb2];obtain ⟨ha,ht⟩:=List.pairwise_cons.1 h1;obtain ⟨hc,hu⟩:=List.pairwise_cons.1 h2;refine srt_own1 (addT_head ?_ hc) (ih l1 (fun g hg=>l2 g (by simp [hg])) h1 hu);intro f' hf';rw [List.mem_cons] at hf'
   rcases hf' with rfl | hf'
   · exact hb2
   · exact before_trans hb2 (ha _ hf')
 | case3 f fs g gs hb hb2 ih =>
   intro l1 l2 h1 h2;rw [addT_eq (by simpa using hb) (by simpa using hb2)];obtain ⟨ha,ht⟩:=List.pairwise_cons.1 h1;obtain ⟨hc,hu⟩:=List.pairwise_cons.1 h2;have he:f.m=g.m:=before_tri (by rw [l1 f (by simp),l2 g (by simp)]) (by simpa using hb) (by simpa using hb2);exact srt_own1 (addT_head ha (by rw [he];exact hc)) (ih (fun f hf=>l1 f (by simp [hf])) (fun g hg=>l2 g (by simp [hg])) ht hu)
 | case4 f fs=>intro l1 l2 h1 h2;rw [addT];exact h1
 | case5 g gs ih =>
   intro l1 l2 h1 h2;rw [addT_left];obtain ⟨hc,hu⟩:=List.pairwise_cons.1 h2;exact srt_own1 (addT_head (by simp) hc) (ih l1 (fun g hg=>l2 g (by simp [hg])) h1 hu)
 | case6=>intro l1 l2 h1 h2;rw [addT];exact h1
theorem num_id {x:Int} (h1:0≤x) (h2:x≤10006):num x=x:=by unfold num;omega
theorem prime_10007:∀d:Nat,d<101→2≤d→¬d ∣ 10007:=by decide
theorem coprime_10007 {k:Nat} (h1:1≤k) (h2:k≤10006):Nat.Coprime k 10007:=by
 obtain ⟨e,he⟩:=Nat.gcd_dvd_right k 10007
 have hd:Nat.gcd k 10007≤k:=Nat.gcd_le_left _ h1
 rw [Nat.Coprime]
 generalize Nat.gcd k 10007=d at *
 by_cases h:d=1
 · exact h
 · exfalso
   have hd0:d≠0:=fun h0=>(by rw [h0] at he;simp at he);by_cases h3:d<101
   · exact prime_10007 d h3 (by omega) ⟨e,he⟩
   · have he1 : e < 101 := by
       by_cases h4:e<101
       · exact h4
       · have:=Nat.mul_le_mul (show 101≤d by omega) (show 101≤e by omega);omega
     have he0:e≠0:=fun h0=>(by rw [h0] at he;simp at he);have he2:e≠1:=fun h0=>(by rw [h0] at he;omega);exact prime_10007 e he1 (by omega) ⟨d,by rw [Nat.mul_comm];exact he⟩
theorem num_mul_ne {k f:Int} (h1:1≤k) (h2:k≤10006) (h3:1≤f) (h4:f≤10006):¬num (k * f)=0:=by
 intro h
 obtain ⟨a,rfl⟩:=Int.eq_ofNat_of_zero_le (show 0≤k by omega)
 obtain ⟨b,rfl⟩:=Int.eq_ofNat_of_zero_le (show 0≤f by omega)
 have h5:(10007:Nat) ∣ a * b:=by
  unfold num at h;rw [←Int.natCast_mul] at h;exact Nat.dvd_of_mod_eq_zero (by omega)
 have h6:(10007:Nat) ∣ b:=(coprime_10007 (by omega) (by omega)).symm.dvd_of_dvd_mul_left h5
 have:=Nat.le_of_dvd (by omega) h6
 omega
def scT (k:Int) (ts:List Tm):List Tm:=ts.map fun t=>⟨t.m,num (k * t.f)⟩
theorem scT_add {k:Int} (h1:1≤k) (h2:k≤10006):∀ts:List Tm,(∀t∈ts,1≤t.f∧t.f≤10006)→addT k [] ts=scT k ts
 | [],_=>by rw [addT];rfl
 | t :: ts, h => by
   have ht:=h t (by simp);rw [addT_left,own1_yes (num_mul_ne h1 h2 ht.1 ht.2),scT_add h1 h2 ts (fun t ht=>h t (by simp [ht]))];rfl
end Go.Proofs.YtfheammnkmjabaaGreat
