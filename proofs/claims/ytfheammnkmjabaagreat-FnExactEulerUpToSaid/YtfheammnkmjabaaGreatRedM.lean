
import Derived.Test.YtfheammnkmjabaaGreatSpan
namespace Go.Proofs.YtfheammnkmjabaaGreat
def vec (r:List Int):Vec:=fun c=>toK (r.getD c 0)
structure RowOk (m:Nat) (r:List Int):Prop where
 len:r.length=m
 bd:∀x∈r,0≤x∧x≤10006
theorem RowOk.at_ {m:Nat} {r:List Int} (h:RowOk m r) (c:Nat):0≤r.getD c 0∧r.getD c 0≤10006:=by
 rw [List.getD_eq_getElem?_getD]
 cases hc:r[c]? with
 | none=>simp
 | some x=>exact h.bd x (List.mem_of_getElem? hc)
theorem vec_zero_iff {m:Nat} {r:List Int} (h:RowOk m r) (c:Nat):vec r c=0↔r.getD c 0=0:=by
 constructor
 · intro e;exact toK_inj (h.at_ c) ⟨by omega,by omega⟩ (e.trans toK_zero.symm)
 · intro e;rw [vec,e,toK_zero]
def fstN:List Int→Nat
 | []=>0
 | x::r=>if x=0 then fstN r+1 else 0
theorem fstN_le:∀r:List Int,fstN r≤r.length
 | []=>Nat.le_refl _
 | x :: r => by
   have:=fstN_le r;rw [fstN,List.length_cons];split <;> omega
theorem fstN_low:∀{r:List Int} {c:Nat},c<fstN r→r.getD c 0=0
 | [],c,h=>by simp [fstN] at h
 | x :: r, c, h => by
   rw [fstN] at h;split at h
   · rename_i hx
     cases c with
     | zero=>simpa using hx
     | succ c=>simpa using fstN_low (r:=r) (c:=c) (by omega)
   · omega
theorem fstN_at:∀{r:List Int},fstN r<r.length→¬r.getD (fstN r) 0=0
 | [],h=>by simp [fstN] at h
 | x :: r, h => by
   rw [fstN] at h ⊢;split
   · rename_i hx;rw [if_pos hx,List.length_cons] at h;simpa using fstN_at (r:=r) (by omega)
   · rename_i hx;simpa using hx
theorem fstN_eq {r:List Int} {k:Nat} (h1:∀c,c<k→r.getD c 0=0) (h2:¬r.getD k 0=0):fstN r=k:=by
 have hk:k<r.length:=by
  by_cases h:k<r.length
  · exact h
  · rw [List.getD_eq_getElem?_getD,List.getElem?_eq_none (by omega)] at h2;exact absurd rfl h2
 rcases Nat.lt_trichotomy (fstN r) k with h | h | h
 · exact absurd (h1 _ h) (fstN_at (by omega))
 · exact h
 · exact absurd (fstN_low h) h2
def lessR (r o:List Int) (k:Int):List Int:=List.zipWith (fun a b=>num (a - k * b)) r o
theorem lessR_ok {m:Nat} {r o:List Int} (hr:r.length=m) (ho:o.length=m) (k:Int):RowOk m (lessR r o k):=⟨by rw [lessR,List.length_zipWith];omega,fun x hx=>by
 rw [lessR,List.mem_iff_getElem] at hx
 obtain ⟨i,hi,rfl⟩:=hx
 rw [List.getElem_zipWith]
 have:=num_lo (r[i]'(by simp at hi;omega) - k * o[i]'(by simp at hi;omega))
 have:=num_hi (r[i]'(by simp at hi;omega) - k * o[i]'(by simp at hi;omega))
 omega⟩
theorem lessR_get {m:Nat} {r o:List Int} (hr:r.length=m) (ho:o.length=m) (k:Int) (c:Nat):(lessR r o k).getD c 0=num (r.getD c 0 - k * o.getD c 0):=by
 rw [lessR,List.getD_eq_getElem?_getD,List.getD_eq_getElem?_getD,List.getD_eq_getElem?_getD]
 by_cases hc:c<m
 · rw [List.getElem?_zipWith,List.getElem?_eq_getElem (show c<r.length by omega),List.getElem?_eq_getElem (show c<o.length by omega)];rfl
 · rw [List.getElem?_eq_none (by simp;omega),List.getElem?_eq_none (by omega),List.getElem?_eq_none (by omega)];simp [num]
theorem lessR_vec {m:Nat} {r o:List Int} (hr:r.length=m) (ho:o.length=m) (k:Int):vec (lessR r o k)=fun c=>vec r c+toK (-k) * vec o c:=by
 funext c
 rw [vec,lessR_get hr ho,toK_num,show r.getD c 0 - k * o.getD c 0=r.getD c 0+(-k) * o.getD c 0 by rw [Int.neg_mul];omega,toK_add,toK_mul]
 rfl
theorem toK_neg_add (k:Int):toK (-k)+toK k=0:=by
 rw [←toK_add,Int.add_left_neg,toK_zero]
def byR (r:List Int):List (List Int)→List Int
 | []=>r
 | s::L=>byR (if r.getD (fstN s) 0=0 then r else lessR r s (r.getD (fstN s) 0)) L
def pairs (L:List (List Int)):List (Nat × Vec):=L.map (fun r=>(fstN r,vec r))
theorem pairs_vec (L:List (List Int)):(pairs L).map (·.2)=L.map vec:=by simp [pairs]
structure RedI (m:Nat) (L:List (List Int)):Prop where
 ok:∀r∈L,RowOk m r
 red:Red (pairs L)
 fst:∀r∈L,fstN r<m
theorem byR_ok {m:Nat}:∀{L:List (List Int)} {r:List Int},RowOk m r→(∀s∈L,RowOk m s)→RowOk m (byR r L)
 | [],r,h,_=>h
 | s :: L, r, h, hL => by
   rw [byR];refine byR_ok ?_ (fun t ht=>hL t (by simp [ht]));split
   · exact h
   · exact lessR_ok h.len (hL s (by simp)).len _
theorem byR_span {m:Nat} {W:List Vec}:∀{L:List (List Int)} {r:List Int},RowOk m r→(∀s∈L,RowOk m s)→(∀s∈L,Sp W (vec s))→∃y,Sp W y∧vec (byR r L)=fun c=>vec r c+y c
 | [],r,_,_,_=>⟨_,Sp.zero,by funext c;simp only [byR];grind⟩
 | s :: L, r, h, hL, hW => by
   rw [byR];split
   · exact byR_span h (fun t ht=>hL t (List.mem_cons_of_mem _ ht)) (fun t ht=>hW t (List.mem_cons_of_mem _ ht))
   · obtain ⟨y,h1,h2⟩:=byR_span (lessR_ok h.len (hL s (by simp)).len (r.getD (fstN s) 0)) (fun t ht=>hL t (List.mem_cons_of_mem _ ht)) (fun t ht=>hW t (List.mem_cons_of_mem _ ht));refine ⟨_,Sp.add h1 (toK (-(r.getD (fstN s) 0))) (hW s (by simp)),?_⟩;rw [h2,lessR_vec h.len (hL s (by simp)).len];funext c
     grind
theorem byR_keep {m q:Nat}:∀{L:List (List Int)} {r:List Int},RowOk m r→(∀s∈L,RowOk m s)→(∀s∈L,s.getD q 0=0)→(byR r L).getD q 0=r.getD q 0
 | [],r,_,_,_=>rfl
 | s :: L, r, h, hL, hq => by
   rw [byR]
   have ih:=byR_keep (m:=m) (q:=q) (L:=L) (r:=if r.getD (fstN s) 0=0 then r else lessR r s (r.getD (fstN s) 0)) (by
    split
    · exact h
    · exact lessR_ok h.len (hL s (by simp)).len _) (fun t ht=>hL t (List.mem_cons_of_mem _ ht)) (fun t ht=>hq t (List.mem_cons_of_mem _ ht))
   rw [ih];split
   · rfl
   · rw [lessR_get h.len (hL s (by simp)).len,hq s (by simp),Int.mul_zero,Int.sub_zero];have:=h.at_ q;unfold num;omega
theorem pairs_mem {L:List (List Int)} {s:List Int} (h:s∈L):(fstN s,vec s)∈pairs L:=List.mem_map.2 ⟨s,h,rfl⟩
theorem RedI.one {m:Nat} {L:List (List Int)} (h:RedI m L) {s:List Int} (hs:s∈L):s.getD (fstN s) 0=1:=by
 have h1:=h.red.one _ (pairs_mem hs)
 exact toK_inj ((h.ok s hs).at_ _) ⟨by omega,by omega⟩ (h1.trans toK_one.symm)
theorem RedI.off {m:Nat} {L:List (List Int)} (h:RedI m L) {s t:List Int} (hs:s∈L) (ht:t∈L) (hne:¬fstN s=fstN t):s.getD (fstN t) 0=0:=
 (vec_zero_iff (h.ok s hs) _).1 (h.red.off _ (pairs_mem hs) _ (pairs_mem ht) hne)
theorem RedI.tail {m:Nat} {s:List Int} {L:List (List Int)} (h:RedI m (s::L)):RedI m L:=
 ⟨fun r hr=>h.ok r (by simp [hr]),⟨by have:=h.red.srt;simp only [pairs,List.map_cons,List.pairwise_cons] at this;exact this.2,
  fun e he=>h.red.one e (by simp only [pairs,List.map_cons,List.mem_cons];exact Or.inr he),fun e he=>h.red.low e (by simp only [pairs,List.map_cons,List.mem_cons];exact Or.inr he),
  fun e he f hf=>h.red.off e (by simp only [pairs,List.map_cons,List.mem_cons];exact Or.inr he) f (by simp only [pairs,List.map_cons,List.mem_cons];exact Or.inr hf)⟩,fun r hr=>h.fst r (by simp [hr])⟩
theorem RedI.lt {m:Nat} {s:List Int} {L:List (List Int)} (h:RedI m (s::L)):∀t∈L,fstN s<fstN t:=by
 have:=h.red.srt
 simp only [pairs,List.map_cons,List.pairwise_cons] at this
 intro t ht
 exact this.1 _ (pairs_mem ht)
theorem byR_done {m:Nat}:∀{L:List (List Int)} {r:List Int},RowOk m r→RedI m L→∀s∈L,(byR r L).getD (fstN s) 0=0
 | [],_,_,_,s,hs=>by simp at hs
 | t :: L, r, h, hR, s, hs => by
   rw [byR]
   have hok:RowOk m (if r.getD (fstN t) 0=0 then r else lessR r t (r.getD (fstN t) 0)):=by
    split
    · exact h
    · exact lessR_ok h.len (hR.ok t (by simp)).len _
   rw [List.mem_cons] at hs
   rcases hs with rfl | hs
   · rw [byR_keep hok (fun u hu=>hR.ok u (by simp [hu])) (fun u hu=>hR.off (s:=u) (by simp [hu]) (by simp) (by have:=hR.lt u hu;omega))];split
     · assumption
     · rw [lessR_get h.len (hR.ok s (by simp)).len,hR.one (by simp),Int.mul_one,Int.sub_self];rfl
   · exact byR_done hok hR.tail s hs
def insR (r:List Int) (p:Nat):List (List Int)→List (List Int)
 | []=>[r]
 | s::L=>if p<fstN s then r::(s::L).map (fun t=>lessR t r (t.getD p 0)) else lessR s r (s.getD p 0)::insR r p L
def normR (r:List Int):List Int:=lessR (List.replicate r.length 0) r (num (-(invOf (r.getD (fstN r) 0))))
def putR (L:List (List Int)) (r:List Int):List (List Int):=if fstN (byR r L)<(byR r L).length then insR (normR (byR r L)) (fstN (byR r L)) L else L
def redR (V:List (List Int)):List (List Int):=V.foldl putR []
theorem RedI.nil (m:Nat):RedI m []:=⟨by simp,⟨by simp [pairs],by simp [pairs],by simp [pairs],by simp [pairs]⟩,by simp⟩
theorem normR_ok {m:Nat} {r:List Int} (h:RowOk m r):RowOk m (normR r):=lessR_ok (m:=m) (by rw [List.length_replicate,h.len]) h.len _
theorem normR_vec {m:Nat} {r:List Int} (h:RowOk m r):vec (normR r)=fun c=>toK (invOf (r.getD (fstN r) 0)) * vec r c:=by
 rw [normR,lessR_vec (m:=m) (by rw [List.length_replicate,h.len]) h.len]
 funext c
 have e:vec (List.replicate r.length 0) c=0:=by
  rw [vec,show (List.replicate r.length (0:Int)).getD c 0=0 by
   rw [List.getD_eq_getElem?_getD,List.getElem?_replicate]
   split <;> rfl,toK_zero]
 rw [e]
 have e2:toK (-(num (-(invOf (r.getD (fstN r) 0)))))=toK (invOf (r.getD (fstN r) 0)):=by
  apply Fin.ext
  simp only [toK,num];omega
 rw [e2]
 grind
theorem normR_inv {m:Nat} {r:List Int} (h:RowOk m r) (hl:fstN r<r.length):toK (invOf (r.getD (fstN r) 0)) * vec r (fstN r)=1:=by
 have h1:=h.at_ (fstN r)
 have h2:=fstN_at hl
 have:=inv_one (x:=r.getD (fstN r) 0) (by omega) h1.2
 rw [vec,←toK_mul,Int.mul_comm,←toK_num,num,this]
 rfl
def clr (r:List Int) (p:Nat) (s:List Int):List Int:=lessR s r (s.getD p 0)
theorem insR_mem {r:List Int} {p:Nat}:∀{L:List (List Int)} {t:List Int},t∈insR r p L↔t=r∨∃s∈L,t=clr r p s
 | [],t=>by simp [insR]
 | s :: L, t => by
   rw [insR];split
   · simp only [List.mem_cons,List.mem_map,List.map_cons,clr];constructor
     · rintro (h | h | ⟨u,hu,rfl⟩)
       · exact Or.inl h
       · exact Or.inr ⟨s,Or.inl rfl,h⟩
       · exact Or.inr ⟨u,Or.inr hu,rfl⟩
     · rintro (h | ⟨u,rfl | hu,rfl⟩)
       · exact Or.inl h
       · exact Or.inr (Or.inl rfl)
       · exact Or.inr (Or.inr ⟨u,hu,rfl⟩)
   · rw [List.mem_cons,insR_mem (L:=L)];constructor
     · rintro (h | h | ⟨u,hu,rfl⟩)
       · exact Or.inr ⟨s,by simp,h⟩
       · exact Or.inl h
       · exact Or.inr ⟨u,by simp [hu],rfl⟩
     · rintro (h | ⟨u,hu,rfl⟩)
       · exact Or.inr (Or.inl h)
       · rw [List.mem_cons] at hu
         rcases hu with rfl | hu
         · exact Or.inl rfl
         · exact Or.inr (Or.inr ⟨u,hu,rfl⟩)
section
variable {m p:Nat} {r:List Int} {L:List (List Int)}
structure NewR (m p:Nat) (r:List Int) (L:List (List Int)):Prop where
 ok:RowOk m r
 low:∀c,c<p→r.getD c 0=0
 one:r.getD p 0=1
 at_:∀s∈L,r.getD (fstN s) 0=0
theorem NewR.fst (h:NewR m p r L):fstN r=p:=fstN_eq h.low (by rw [h.one];omega)
theorem NewR.lt (h:NewR m p r L):p<m:=by
 rw [←h.fst,←h.ok.len]
 have h1:=fstN_le r
 by_cases e:fstN r=r.length
 · have:=h.one;rw [←h.fst,e,List.getD_eq_getElem?_getD,List.getElem?_eq_none (Nat.le_refl _)] at this;simp at this
 · omega
theorem NewR.tail {s:List Int} (h:NewR m p r (s::L)):NewR m p r L:=⟨h.ok,h.low,h.one,fun t ht=>h.at_ t (List.mem_cons_of_mem _ ht)⟩
theorem clr_get (h:NewR m p r L) {s:List Int} (hs:RowOk m s) (c:Nat):(clr r p s).getD c 0=num (s.getD c 0 - s.getD p 0 * r.getD c 0):=lessR_get hs.len h.ok.len _ c
theorem clr_ok (h:NewR m p r L) {s:List Int} (hs:RowOk m s):RowOk m (clr r p s):=lessR_ok hs.len h.ok.len _
theorem num_idK {x:Int} (h:0≤x∧x≤10006):num x=x:=by unfold num;omega
theorem clr_same (h:NewR m p r L) {s:List Int} (hs:RowOk m s) {c:Nat} (hc:r.getD c 0=0):(clr r p s).getD c 0=s.getD c 0:=by
 rw [clr_get h hs,hc,Int.mul_zero,Int.sub_zero,num_idK (hs.at_ c)]
theorem clr_p (h:NewR m p r L) {s:List Int} (hs:RowOk m s):(clr r p s).getD p 0=0:=by
 rw [clr_get h hs,h.one,Int.mul_one,Int.sub_self];rfl
theorem clr_fst (h:NewR m p r L) (hL:RedI m L) {s:List Int} (hs:s∈L):fstN (clr r p s)=fstN s:=by
 have hne:¬fstN s=p:=fun e=>by
  have:=h.at_ s hs;rw [e,h.one] at this;omega
 refine fstN_eq (fun c hc=>?_) ?_
 · rcases Nat.lt_or_gt_of_ne hne with hl | hg
   · rw [clr_same h (hL.ok s hs) (h.low c (by omega)),fstN_low hc]
   · rw [clr_get h (hL.ok s hs),fstN_low hc,fstN_low (r:=s) hg,Int.zero_mul];rfl
 · rw [clr_same h (hL.ok s hs) (h.at_ s hs),hL.one hs];omega
theorem insR_fst (h:NewR m p r L) (hL:RedI m L) {t:List Int} (ht:t∈insR r p L):(t=r∧fstN t=p)∨∃s∈L,t=clr r p s∧fstN t=fstN s:=by
 rcases insR_mem.1 ht with rfl | ⟨s,hs,rfl⟩
 · exact Or.inl ⟨rfl,h.fst⟩
 · exact Or.inr ⟨s,hs,rfl,clr_fst h hL hs⟩
end
theorem insR_srt {m p:Nat} {r:List Int}:∀{L:List (List Int)},NewR m p r L→RedI m L→(insR r p L).Pairwise fun a b=>fstN a<fstN b
 | [],_,_=>by simp [insR]
 | s :: L, h, hL => by
   have hne:¬fstN s=p:=fun e=>by
    have:=h.at_ s (by simp);rw [e,h.one] at this;omega
   have hlt:=hL.lt;rw [insR];split
   · rename_i hp;rw [List.pairwise_cons];refine ⟨fun t ht=>?_,?_⟩
     · obtain ⟨u,hu,rfl⟩:=List.mem_map.1 ht;have e:=clr_fst h hL hu;rw [clr] at e;rw [h.fst,e];rw [List.mem_cons] at hu
       rcases hu with rfl | hu
       · exact hp
       · have:=hlt u hu;omega
     · rw [List.pairwise_map]
       have hp2:(s::L).Pairwise fun a b=>fstN a<fstN b:=by
        have:=hL.red.srt
        rwa [pairs,List.pairwise_map] at this
       refine List.Pairwise.imp_of_mem (fun {a b} ha hb hab=>?_) hp2;have e1:=clr_fst h hL ha;have e2:=clr_fst h hL hb;rw [clr] at e1 e2;rw [e1,e2];exact hab
   · rename_i hp;rw [List.pairwise_cons];refine ⟨fun t ht=>?_,insR_srt h.tail hL.tail⟩;have e:=clr_fst h hL (s:=s) (by simp);rw [clr] at e;rw [e]
     rcases insR_fst h.tail hL.tail ht with ⟨_,e2⟩ | ⟨u,hu,_,e2⟩
     · omega
     · have:=hlt u hu;omega
theorem insR_red {m p:Nat} {r:List Int} {L:List (List Int)} (h:NewR m p r L) (hL:RedI m L):RedI m (insR r p L):=by
 have hok:∀t∈insR r p L,RowOk m t:=fun t ht=>by
  rcases insR_mem.1 ht with rfl | ⟨s,hs,rfl⟩
  · exact h.ok
  · exact clr_ok h (hL.ok s hs)
 refine ⟨hok,⟨by rw [pairs,List.pairwise_map];exact insR_srt h hL,fun e he=>?_,fun e he c hc=>?_,fun e he f hf hne=>?_⟩,fun t ht=>?_⟩
 · obtain ⟨t,ht,rfl⟩:=List.mem_map.1 he
   rcases insR_fst h hL ht with ⟨rfl,e2⟩ | ⟨s,hs,e1,e2⟩
   · show toK (t.getD (fstN t) 0)=1
     rw [e2,h.one,toK_one]
   · show toK (t.getD (fstN t) 0)=1
     rw [e2,e1,clr_same h (hL.ok s hs) (h.at_ s hs),hL.one hs,toK_one]
 · obtain ⟨t,ht,rfl⟩:=List.mem_map.1 he;show toK (t.getD c 0)=0
   rw [fstN_low hc,toK_zero]
 · obtain ⟨t,ht,rfl⟩:=List.mem_map.1 he;obtain ⟨u,hu,rfl⟩:=List.mem_map.1 hf;show toK (t.getD (fstN u) 0)=0
   rw [←toK_zero];congr 1
   dsimp only at hne
   rcases insR_fst h hL ht with ⟨rfl,e2⟩ | ⟨s,hs,rfl,e2⟩
   · rcases insR_fst h hL hu with ⟨rfl,e3⟩ | ⟨v,hv,rfl,e3⟩
     · omega
     · rw [e3];exact h.at_ v hv
   · rcases insR_fst h hL hu with ⟨rfl,e3⟩ | ⟨v,hv,rfl,e3⟩
     · rw [e3];exact clr_p h (hL.ok s hs)
     · rw [e3,clr_same h (hL.ok s hs) (h.at_ v hv)];exact hL.off hs hv (by rw [e2,e3] at hne;exact hne)
 · rcases insR_fst h hL ht with ⟨_,e2⟩ | ⟨s,hs,_,e2⟩
   · rw [e2];exact h.lt
   · rw [e2];exact hL.fst s hs
theorem insR_span {m p:Nat} {r:List Int} {L:List (List Int)} (h:NewR m p r L) (hL:∀s∈L,RowOk m s):SameSp ((insR r p L).map vec) (vec r::L.map vec):=by
 have hr:Sp ((insR r p L).map vec) (vec r):=Sp.mem (List.mem_map.2 ⟨r,insR_mem.2 (Or.inl rfl),rfl⟩)
 constructor
 · intro v hv;obtain ⟨t,ht,rfl⟩:=List.mem_map.1 hv
   rcases insR_mem.1 ht with rfl | ⟨s,hs,rfl⟩
   · exact Sp.mem (by simp)
   · rw [clr,lessR_vec (hL s hs).len h.ok.len];exact Sp.add (Sp.mem (by simp only [List.mem_cons,List.mem_map];exact Or.inr ⟨s,hs,rfl⟩)) _ (Sp.mem (by simp))
 · intro v hv;rw [List.mem_cons] at hv
   rcases hv with rfl | hv
   · exact hr
   · obtain ⟨s,hs,rfl⟩:=List.mem_map.1 hv;have h1:Sp ((insR r p L).map vec) (vec (clr r p s)):=Sp.mem (List.mem_map.2 ⟨_,insR_mem.2 (Or.inr ⟨s,hs,rfl⟩),rfl⟩);have h2:=Sp.add h1 (toK (s.getD p 0)) hr;rw [clr,lessR_vec (hL s hs).len h.ok.len] at h2
     have e:(fun c=>(vec s c+toK (-(s.getD p 0)) * vec r c)+toK (s.getD p 0) * vec r c)=vec s:=by
      funext c
      have:=toK_neg_add (s.getD p 0)
      grind
     rwa [e] at h2
theorem putR_red {m:Nat} {L:List (List Int)} {r:List Int} (hL:RedI m L) (hr:RowOk m r):RedI m (putR L r)∧SameSp ((putR L r).map vec) (L.map vec++[vec r]):=by
 have hb:=byR_ok hr hL.ok
 obtain ⟨y,hy,hv⟩:=byR_span (W:=L.map vec) hr hL.ok (fun s hs=>Sp.mem (List.mem_map.2 ⟨s,hs,rfl⟩))
 have hsub:∀{W:List Vec},(∀v∈L.map vec,v∈W)→Sp W y:=fun hW=>Sp.of_sub (fun v hv=>Sp.mem (hW v hv)) hy
 rw [putR]
 split
 · rename_i hl;have hn:=normR_ok hb;have hnv:=normR_vec hb;have hni:=normR_inv hb hl
   have hnew : NewR m (fstN (byR r L)) (normR (byR r L)) L := ⟨hn, fun c hc => by
       rw [←vec_zero_iff hn,hnv];show _ * toK ((byR r L).getD c 0)=0
       rw [fstN_low hc,toK_zero]
       grind,by
       refine toK_inj (hn.at_ _) ⟨by omega,by omega⟩ ?_;show vec (normR (byR r L)) _=_
       rw [hnv,toK_one]
       exact hni,fun s hs=>by
       rw [←vec_zero_iff hn,hnv];show _ * toK ((byR r L).getD (fstN s) 0)=0
       rw [byR_done hr hL s hs,toK_zero]
       grind⟩
   refine ⟨insR_red hnew hL,(insR_span hnew hL.ok).trans ⟨fun v hv2=>?_,fun v hv2=>?_⟩⟩
   · rw [List.mem_cons] at hv2
     rcases hv2 with rfl | hv2
     · rw [hnv,hv];have h1:=Sp.add (Sp.zero (V:=L.map vec++[vec r])) (toK (invOf ((byR r L).getD (fstN (byR r L)) 0))) (Sp.add (Sp.mem (V:=L.map vec++[vec r]) (v:=vec r) (by simp)) 1 (hsub (fun v hv=>List.mem_append_left _ hv)));have e:(fun c=>(0:K)+toK (invOf ((byR r L).getD (fstN (byR r L)) 0)) * (vec r c+1 * y c))=(fun c=>toK (invOf ((byR r L).getD (fstN (byR r L)) 0)) * (vec r c+y c)):=by funext c;grind
       rwa [e] at h1
     · exact Sp.mem (List.mem_append_left _ hv2)
   · rw [List.mem_append] at hv2
     rcases hv2 with hv2 | hv2
     · exact Sp.mem (List.mem_cons_of_mem _ hv2)
     · obtain rfl:v=vec r:=(by simpa using hv2);have h1:=Sp.add (Sp.add (Sp.zero (V:=vec (normR (byR r L))::L.map vec)) (vec (byR r L) (fstN (byR r L))) (Sp.mem (v:=vec (normR (byR r L))) (by simp))) (toK (-1)) (hsub (W:=vec (normR (byR r L))::L.map vec) (fun v hv=>List.mem_cons_of_mem _ hv))
       have e:(fun c=>((0:K)+vec (byR r L) (fstN (byR r L)) * vec (normR (byR r L)) c)+toK (-1) * y c)=vec r:=by
        funext c
        have e1:=congrFun hnv c;have e2:=congrFun hv c;have e3:toK (-1)+1=0:=by decide
        grind
       rwa [e] at h1
 · rename_i hl
   have hz:∀c,vec (byR r L) c=0:=fun c=>by
    rw [vec_zero_iff hb];by_cases hc:c<fstN (byR r L)
    · exact fstN_low hc
    · rw [List.getD_eq_getElem?_getD,List.getElem?_eq_none (by omega)];rfl
   refine ⟨hL,fun v hv2=>Sp.mem (List.mem_append_left _ hv2),fun v hv2=>?_⟩;rw [List.mem_append] at hv2
   rcases hv2 with hv2 | hv2
   · exact Sp.mem hv2
   · obtain rfl:v=vec r:=(by simpa using hv2);have h1:=Sp.add (Sp.zero (V:=L.map vec)) (toK (-1)) hy
     have e:(fun c=>(0:K)+toK (-1) * y c)=vec r:=by
      funext c
      have e2:=congrFun hv c;have e3:toK (-1)+1=0:=(by decide);rw [hz c] at e2
      grind
     rwa [e] at h1
theorem redR_red {m:Nat}:∀{V L:List (List Int)},RedI m L→(∀r∈V,RowOk m r)→RedI m (V.foldl putR L)∧SameSp ((V.foldl putR L).map vec) (L.map vec++V.map vec)
 | [],L,hL,_=>⟨hL,by simpa using SameSp.refl _⟩
 | r :: V, L, hL, hV => by
   obtain ⟨h1,h2⟩:=putR_red hL (hV r (by simp));obtain ⟨h3,h4⟩:=redR_red h1 (V:=V) (fun s hs=>hV s (by simp [hs]));refine ⟨h3,h4.trans ⟨fun v hv=>?_,fun v hv=>?_⟩⟩
   · rw [List.mem_append] at hv
     rcases hv with hv | hv
     · exact Sp.of_sub (fun w hw=>Sp.mem (by simp only [List.mem_append,List.map_cons,List.mem_cons,List.not_mem_nil,or_false] at hw ⊢;rcases hw with hw | hw;exact Or.inl hw;exact Or.inr (Or.inl hw))) (h2.1 v hv)
     · exact Sp.mem (by simp only [List.mem_append,List.map_cons,List.mem_cons];exact Or.inr (Or.inr hv))
   · rw [List.mem_append,List.map_cons,List.mem_cons] at hv
     rcases hv with hv | hv | hv
     · exact Sp.of_sub (fun w hw=>Sp.mem (List.mem_append_left _ hw)) (h2.2 v (List.mem_append_left _ hv))
     · exact Sp.of_sub (fun w hw=>Sp.mem (List.mem_append_left _ hw)) (h2.2 v (by rw [hv];simp))
     · exact Sp.mem (List.mem_append_right _ hv)
theorem redR_rank {m:Nat} {V:List (List Int)} (hV:∀r∈V,RowOk m r):IsRank (V.map vec) (redR V).length:=by
 obtain ⟨h1,h2⟩:=redR_red (RedI.nil m) hV
 refine ⟨pairs (redR V),h1.red,?_,by simp [pairs]⟩
 rw [pairs_vec,redR]
 simpa using h2
end Go.Proofs.YtfheammnkmjabaaGreat
