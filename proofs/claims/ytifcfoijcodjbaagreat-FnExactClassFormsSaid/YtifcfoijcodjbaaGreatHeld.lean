
import Derived.Test.YtifcfoijcodjbaaGreatSpan
import Derived.Deep.RegionHeld3
import Derived.WalkKit
namespace Go.Proofs.YtifcfoijcodjbaaGreat
def vec (r:List Int):Vec:=fun c=>toK (r.getD c 0)
structure RowOk (m:Nat) (r:List Int):Prop where
 len:r.length=m
 bd:∀x∈r,0≤x∧x≤10006
theorem RowOk.at_ {m:Nat} {r:List Int} (h:RowOk m r) (c:Nat):0≤r.getD c 0∧r.getD c 0≤10006:=by
 rw [List.getD_eq_getElem?_getD]
 cases hc:r[c]? with
 | none=>simp
 | some x=>exact h.bd x (List.mem_of_getElem? hc)
theorem vec_zero_iff {m:Nat} {r:List Int} (h:RowOk m r) (c:Nat):vec r c=0↔r.getD c 0=0:=by
 constructor
 · intro e;exact toK_inj (h.at_ c) ⟨by omega,by omega⟩ (e.trans toK_zero.symm)
 · intro e;rw [vec,e,toK_zero]
def fstN:List Int→Nat
 | []=>0
 | x::r=>if x=0 then fstN r+1 else 0
theorem fstN_le:∀r:List Int,fstN r≤r.length
 | []=>Nat.le_refl _
 | x :: r => by
   have:=fstN_le r;rw [fstN,List.length_cons];split <;> omega
theorem fstN_low:∀{r:List Int} {c:Nat},c<fstN r→r.getD c 0=0
 | [],c,h=>by simp [fstN] at h
 | x :: r, c, h => by
   rw [fstN] at h;split at h
   · rename_i hx
     cases c with
     | zero=>simpa using hx
     | succ c=>simpa using fstN_low (r:=r) (c:=c) (by omega)
   · omega
theorem fstN_at:∀{r:List Int},fstN r<r.length→¬r.getD (fstN r) 0=0
 | [],h=>by simp [fstN] at h
 | x :: r, h => by
   rw [fstN] at h ⊢;split
   · rename_i hx;rw [if_pos hx,List.length_cons] at h;simpa using fstN_at (r:=r) (by omega)
   · rename_i hx;simpa using hx
theorem fstN_eq {r:List Int} {k:Nat} (h1:∀c,c<k→r.getD c 0=0) (h2:¬r.getD k 0=0):fstN r=k:=by
 have hk:k<r.length:=by
  by_cases h:k<r.length
  · exact h
  · rw [List.getD_eq_getElem?_getD,List.getElem?_eq_none (by omega)] at h2;exact absurd rfl h2
 rcases Nat.lt_trichotomy (fstN r) k with h | h | h
 · exact absurd (h1 _ h) (fstN_at (by omega))
 · exact h
 · exact absurd (fstN_low h) h2
def lessR (r o:List Int) (k:Int):List Int:=List.zipWith (fun a b=>num (a - k * b)) r o
theorem lessR_ok {m:Nat} {r o:List Int} (hr:r.length=m) (ho:o.length=m) (k:Int):RowOk m (lessR r o k):=⟨by rw [lessR,List.length_zipWith];omega,fun x hx=>by
 rw [lessR,List.mem_iff_getElem] at hx
 obtain ⟨i,hi,rfl⟩:=hx
 rw [List.getElem_zipWith]
 have:=num_lo (r[i]'(by simp at hi;omega) - k * o[i]'(by simp at hi;omega))
 have:=num_hi (r[i]'(by simp at hi;omega) - k * o[i]'(by simp at hi;omega))
 omega⟩
theorem lessR_get {m:Nat} {r o:List Int} (hr:r.length=m) (ho:o.length=m) (k:Int) (c:Nat):(lessR r o k).getD c 0=num (r.getD c 0 - k * o.getD c 0):=by
 rw [lessR,List.getD_eq_getElem?_getD,List.getD_eq_getElem?_getD,List.getD_eq_getElem?_getD]
 by_cases hc:c<m
 · rw [List.getElem?_zipWith,List.getElem?_eq_getElem (show c<r.length by omega),List.getElem?_eq_getElem (show c<o.length by omega)];rfl
 · rw [List.getElem?_eq_none (by simp;omega),List.getElem?_eq_none (by omega),List.getElem?_eq_none (by omega)];simp [num]
theorem lessR_vec {m:Nat} {r o:List Int} (hr:r.length=m) (ho:o.length=m) (k:Int):vec (lessR r o k)=fun c=>vec r c+toK (-k) * vec o c:=by
 funext c
 rw [vec,lessR_get hr ho,toK_num,show r.getD c 0 - k * o.getD c 0=r.getD c 0+(-k) * o.getD c 0 by rw [Int.neg_mul];omega,toK_add,toK_mul]
 rfl
theorem toK_neg_add (k:Int):toK (-k)+toK k=0:=by
 rw [←toK_add,Int.add_left_neg,toK_zero]
def byR (r:List Int):List (List Int)→List Int
 | []=>r
 | s::L=>byR (if r.getD (fstN s) 0=0 then r else lessR r s (r.getD (fstN s) 0)) L
def pairs (L:List (List Int)):List (Nat × Vec):=L.map (fun r=>(fstN r,vec r))
theorem pairs_vec (L:List (List Int)):(pairs L).map (·.2)=L.map vec:=by simp [pairs]
structure RedI (m:Nat) (L:List (List Int)):Prop where
 ok:∀r∈L,RowOk m r
 red:Red (pairs L)
 fst:∀r∈L,fstN r<m
theorem byR_ok {m:Nat}:∀{L:List (List Int)} {r:List Int},RowOk m r→(∀s∈L,RowOk m s)→RowOk m (byR r L)
 | [],r,h,_=>h
 | s :: L, r, h, hL => by
   rw [byR];refine byR_ok ?_ (fun t ht=>hL t (by simp [ht]));split
   · exact h
   · exact lessR_ok h.len (hL s (by simp)).len _
theorem byR_span {m:Nat} {W:List Vec}:∀{L:List (List Int)} {r:List Int},RowOk m r→(∀s∈L,RowOk m s)→(∀s∈L,Sp W (vec s))→∃y,Sp W y∧vec (byR r L)=fun c=>vec r c+y c
 | [],r,_,_,_=>⟨_,Sp.zero,by funext c;simp only [byR];grind⟩
 | s :: L, r, h, hL, hW => by
   rw [byR];split
   · exact byR_span h (fun t ht=>hL t (List.mem_cons_of_mem _ ht)) (fun t ht=>hW t (List.mem_cons_of_mem _ ht))
   · obtain ⟨y,h1,h2⟩:=byR_span (lessR_ok h.len (hL s (by simp)).len (r.getD (fstN s) 0)) (fun t ht=>hL t (List.mem_cons_of_mem _ ht)) (fun t ht=>hW t (List.mem_cons_of_mem _ ht));refine ⟨_,Sp.add h1 (toK (-(r.getD (fstN s) 0))) (hW s (by simp)),?_⟩;rw [h2,lessR_vec h.len (hL s (by simp)).len];funext c
     grind
theorem byR_keep {m q:Nat}:∀{L:List (List Int)} {r:List Int},RowOk m r→(∀s∈L,RowOk m s)→(∀s∈L,s.getD q 0=0)→(byR r L).getD q 0=r.getD q 0
 | [],r,_,_,_=>rfl
 | s :: L, r, h, hL, hq => by
   rw [byR]
   have ih:=byR_keep (m:=m) (q:=q) (L:=L) (r:=if r.getD (fstN s) 0=0 then r else lessR r s (r.getD (fstN s) 0)) (by
    split
    · exact h
    · exact lessR_ok h.len (hL s (by simp)).len _) (fun t ht=>hL t (List.mem_cons_of_mem _ ht)) (fun t ht=>hq t (List.mem_cons_of_mem _ ht))
   rw [ih];split
   · rfl
   · rw [lessR_get h.len (hL s (by simp)).len,hq s (by simp),Int.mul_zero,Int.sub_zero];have:=h.at_ q;unfold num;omega
theorem pairs_mem {L:List (List Int)} {s:List Int} (h:s∈L):(fstN s,vec s)∈pairs L:=List.mem_map.2 ⟨s,h,rfl⟩
theorem RedI.one {m:Nat} {L:List (List Int)} (h:RedI m L) {s:List Int} (hs:s∈L):s.getD (fstN s) 0=1:=by
 have h1:=h.red.one _ (pairs_mem hs)
 exact toK_inj ((h.ok s hs).at_ _) ⟨by omega,by omega⟩ (h1.trans toK_one.symm)
theorem RedI.off {m:Nat} {L:List (List Int)} (h:RedI m L) {s t:List Int} (hs:s∈L) (ht:t∈L) (hne:¬fstN s=fstN t):s.getD (fstN t) 0=0:=
 (vec_zero_iff (h.ok s hs) _).1 (h.red.off _ (pairs_mem hs) _ (pairs_mem ht) hne)
theorem RedI.tail {m:Nat} {s:List Int} {L:List (List Int)} (h:RedI m (s::L)):RedI m L:=
 ⟨fun r hr=>h.ok r (by simp [hr]),⟨by have:=h.red.srt;simp only [pairs,List.map_cons,List.pairwise_cons] at this;exact this.2,
  fun e he=>h.red.one e (by simp only [pairs,List.map_cons,List.mem_cons];exact Or.inr he),fun e he=>h.red.low e (by simp only [pairs,List.map_cons,List.mem_cons];exact Or.inr he),
  fun e he f hf=>h.red.off e (by simp only [pairs,List.map_cons,List.mem_cons];exact Or.inr he) f (by simp only [pairs,List.map_cons,List.mem_cons];exact Or.inr hf)⟩,fun r hr=>h.fst r (by simp [hr])⟩
theorem RedI.lt {m:Nat} {s:List Int} {L:List (List Int)} (h:RedI m (s::L)):∀t∈L,fstN s<fstN t:=by
 have:=h.red.srt
 simp only [pairs,List.map_cons,List.pairwise_cons] at this
 intro t ht
 exact this.1 _ (pairs_mem ht)
theorem byR_done {m:Nat}:∀{L:List (List Int)} {r:List Int},RowOk m r→RedI m L→∀s∈L,(byR r L).getD (fstN s) 0=0
 | [],_,_,_,s,hs=>by simp at hs
 | t :: L, r, h, hR, s, hs => by
   rw [byR]
   have hok:RowOk m (if r.getD (fstN t) 0=0 then r else lessR r t (r.getD (fstN t) 0)):=by
    split
    · exact h
    · exact lessR_ok h.len (hR.ok t (by simp)).len _
   rw [List.mem_cons] at hs
   rcases hs with rfl | hs
   · rw [byR_keep hok (fun u hu=>hR.ok u (by simp [hu])) (fun u hu=>hR.off (s:=u) (by simp [hu]) (by simp) (by have:=hR.lt u hu;omega))];split
     · assumption
     · rw [lessR_get h.len (hR.ok s (by simp)).len,hR.one (by simp),Int.mul_one,Int.sub_self];rfl
   · exact byR_done hok hR.tail s hs
def insR (r:List Int) (p:Nat):List (List Int)→List (List Int)
 | []=>[r]
 | s::L=>if p<fstN s then r::(s::L).map (fun t=>lessR t r (t.getD p 0)) else lessR s r (s.getD p 0)::insR r p L
def normR (r:List Int):List Int:=lessR (List.replicate r.length 0) r (num (-(invOf (r.getD (fstN r) 0))))
def putR (L:List (List Int)) (r:List Int):List (List Int):=if fstN (byR r L)<(byR r L).length then insR (normR (byR r L)) (fstN (byR r L)) L else L
def redR (V:List (List Int)):List (List Int):=V.foldl putR []
theorem RedI.nil (m:Nat):RedI m []:=⟨by simp,⟨by simp [pairs],by simp [pairs],by simp [pairs],by simp [pairs]⟩,by simp⟩
theorem normR_ok {m:Nat} {r:List Int} (h:RowOk m r):RowOk m (normR r):=lessR_ok (m:=m) (by rw [List.length_replicate,h.len]) h.len _
theorem normR_vec {m:Nat} {r:List Int} (h:RowOk m r):vec (normR r)=fun c=>toK (invOf (r.getD (fstN r) 0)) * vec r c:=by
 rw [normR,lessR_vec (m:=m) (by rw [List.length_replicate,h.len]) h.len]
 funext c
 have e:vec (List.replicate r.length 0) c=0:=by
  rw [vec,show (List.replicate r.length (0:Int)).getD c 0=0 by
   rw [List.getD_eq_getElem?_getD,List.getElem?_replicate]
   split <;> rfl,toK_zero]
 rw [e]
 have e2:toK (-(num (-(invOf (r.getD (fstN r) 0)))))=toK (invOf (r.getD (fstN r) 0)):=by
  apply Fin.ext
  simp only [toK,num];omega
 rw [e2]
 grind
theorem normR_inv {m:Nat} {r:List Int} (h:RowOk m r) (hl:fstN r<r.length):toK (invOf (r.getD (fstN r) 0)) * vec r (fstN r)=1:=by
 have h1:=h.at_ (fstN r)
 have h2:=fstN_at hl
 have:=inv_one (x:=r.getD (fstN r) 0) (by omega) h1.2
 rw [vec,←toK_mul,Int.mul_comm,←toK_num,num,this]
 rfl
def clr (r:List Int) (p:Nat) (s:List Int):List Int:=lessR s r (s.getD p 0)
theorem insR_mem {r:List Int} {p:Nat}:∀{L:List (List Int)} {t:List Int},t∈insR r p L↔t=r∨∃s∈L,t=clr r p s
 | [],t=>by simp [insR]
 | s :: L, t => by
   rw [insR];split
   · simp only [List.mem_cons,List.mem_map,List.map_cons,clr];constructor
     · rintro (h | h | ⟨u,hu,rfl⟩)
       · exact Or.inl h
       · exact Or.inr ⟨s,Or.inl rfl,h⟩
       · exact Or.inr ⟨u,Or.inr hu,rfl⟩
     · rintro (h | ⟨u,rfl | hu,rfl⟩)
       · exact Or.inl h
       · exact Or.inr (Or.inl rfl)
       · exact Or.inr (Or.inr ⟨u,hu,rfl⟩)
   · rw [List.mem_cons,insR_mem (L:=L)];constructor
     · rintro (h | h | ⟨u,hu,rfl⟩)
       · exact Or.inr ⟨s,by simp,h⟩
       · exact Or.inl h
       · exact Or.inr ⟨u,by simp [hu],rfl⟩
     · rintro (h | ⟨u,hu,rfl⟩)
       · exact Or.inr (Or.inl h)
       · rw [List.mem_cons] at hu
         rcases hu with rfl | hu
         · exact Or.inl rfl
         · exact Or.inr (Or.inr ⟨u,hu,rfl⟩)
section
variable {m p:Nat} {r:List Int} {L:List (List Int)}
structure NewR (m p:Nat) (r:List Int) (L:List (List Int)):Prop where
 ok:RowOk m r
 low:∀c,c<p→r.getD c 0=0
 one:r.getD p 0=1
 at_:∀s∈L,r.getD (fstN s) 0=0
theorem NewR.fst (h:NewR m p r L):fstN r=p:=fstN_eq h.low (by rw [h.one];omega)
theorem NewR.lt (h:NewR m p r L):p<m:=by
 rw [←h.fst,←h.ok.len]
 have h1:=fstN_le r
 by_cases e:fstN r=r.length
 · have:=h.one;rw [←h.fst,e,List.getD_eq_getElem?_getD,List.getElem?_eq_none (Nat.le_refl _)] at this;simp at this
 · omega
theorem NewR.tail {s:List Int} (h:NewR m p r (s::L)):NewR m p r L:=⟨h.ok,h.low,h.one,fun t ht=>h.at_ t (List.mem_cons_of_mem _ ht)⟩
theorem clr_get (h:NewR m p r L) {s:List Int} (hs:RowOk m s) (c:Nat):(clr r p s).getD c 0=num (s.getD c 0 - s.getD p 0 * r.getD c 0):=lessR_get hs.len h.ok.len _ c
theorem clr_ok (h:NewR m p r L) {s:List Int} (hs:RowOk m s):RowOk m (clr r p s):=lessR_ok hs.len h.ok.len _
theorem num_idK {x:Int} (h:0≤x∧x≤10006):num x=x:=by unfold num;omega
theorem clr_same (h:NewR m p r L) {s:List Int} (hs:RowOk m s) {c:Nat} (hc:r.getD c 0=0):(clr r p s).getD c 0=s.getD c 0:=by
 rw [clr_get h hs,hc,Int.mul_zero,Int.sub_zero,num_idK (hs.at_ c)]
theorem clr_p (h:NewR m p r L) {s:List Int} (hs:RowOk m s):(clr r p s).getD p 0=0:=by
 rw [clr_get h hs,h.one,Int.mul_one,Int.sub_self];rfl
theorem clr_fst (h:NewR m p r L) (hL:RedI m L) {s:List Int} (hs:s∈L):fstN (clr r p s)=fstN s:=by
 have hne:¬fstN s=p:=fun e=>by
  have:=h.at_ s hs;rw [e,h.one] at this;omega
 refine fstN_eq (fun c hc=>?_) ?_
 · rcases Nat.lt_or_gt_of_ne hne with hl | hg
   · rw [clr_same h (hL.ok s hs) (h.low c (by omega)),fstN_low hc]
   · rw [clr_get h (hL.ok s hs),fstN_low hc,fstN_low (r:=s) hg,Int.zero_mul];rfl
 · rw [clr_same h (hL.ok s hs) (h.at_ s hs),hL.one hs];omega
theorem insR_fst (h:NewR m p r L) (hL:RedI m L) {t:List Int} (ht:t∈insR r p L):(t=r∧fstN t=p)∨∃s∈L,t=clr r p s∧fstN t=fstN s:=by
 rcases insR_mem.1 ht with rfl | ⟨s,hs,rfl⟩
 · exact Or.inl ⟨rfl,h.fst⟩
 · exact Or.inr ⟨s,hs,rfl,clr_fst h hL hs⟩
end
theorem insR_srt {m p:Nat} {r:List Int}:∀{L:List (List Int)},NewR m p r L→RedI m L→(insR r p L).Pairwise fun a b=>fstN a<fstN b
 | [],_,_=>by simp [insR]
 | s :: L, h, hL => by
   have hne:¬fstN s=p:=fun e=>by
    have:=h.at_ s (by simp);rw [e,h.one] at this;omega
   have hlt:=hL.lt;rw [insR];split
   · rename_i hp;rw [List.pairwise_cons];refine ⟨fun t ht=>?_,?_⟩
     · obtain ⟨u,hu,rfl⟩:=List.mem_map.1 ht;have e:=clr_fst h hL hu;rw [clr] at e;rw [h.fst,e];rw [List.mem_cons] at hu
       rcases hu with rfl | hu
       · exact hp
       · have:=hlt u hu;omega
     · rw [List.pairwise_map]
       have hp2:(s::L).Pairwise fun a b=>fstN a<fstN b:=by
        have:=hL.red.srt
        rwa [pairs,List.pairwise_map] at this
       refine List.Pairwise.imp_of_mem (fun {a b} ha hb hab=>?_) hp2;have e1:=clr_fst h hL ha;have e2:=clr_fst h hL hb;rw [clr] at e1 e2;rw [e1,e2];exact hab
   · rename_i hp;rw [List.pairwise_cons];refine ⟨fun t ht=>?_,insR_srt h.tail hL.tail⟩;have e:=clr_fst h hL (s:=s) (by simp);rw [clr] at e;rw [e]
     rcases insR_fst h.tail hL.tail ht with ⟨_,e2⟩ | ⟨u,hu,_,e2⟩
     · omega
     · have:=hlt u hu;omega
theorem insR_red {m p:Nat} {r:List Int} {L:List (List Int)} (h:NewR m p r L) (hL:RedI m L):RedI m (insR r p L):=by
 have hok:∀t∈insR r p L,RowOk m t:=fun t ht=>by
  rcases insR_mem.1 ht with rfl | ⟨s,hs,rfl⟩
  · exact h.ok
  · exact clr_ok h (hL.ok s hs)
 refine ⟨hok,⟨by rw [pairs,List.pairwise_map];exact insR_srt h hL,fun e he=>?_,fun e he c hc=>?_,fun e he f hf hne=>?_⟩,fun t ht=>?_⟩
 · obtain ⟨t,ht,rfl⟩:=List.mem_map.1 he
   rcases insR_fst h hL ht with ⟨rfl,e2⟩ | ⟨s,hs,e1,e2⟩
   · show toK (t.getD (fstN t) 0)=1
     rw [e2,h.one,toK_one]
   · show toK (t.getD (fstN t) 0)=1
     rw [e2,e1,clr_same h (hL.ok s hs) (h.at_ s hs),hL.one hs,toK_one]
 · obtain ⟨t,ht,rfl⟩:=List.mem_map.1 he;show toK (t.getD c 0)=0
   rw [fstN_low hc,toK_zero]
 · obtain ⟨t,ht,rfl⟩:=List.mem_map.1 he;obtain ⟨u,hu,rfl⟩:=List.mem_map.1 hf;show toK (t.getD (fstN u) 0)=0
   rw [←toK_zero];congr 1
   dsimp only at hne
   rcases insR_fst h hL ht with ⟨rfl,e2⟩ | ⟨s,hs,rfl,e2⟩
   · rcases insR_fst h hL hu with ⟨rfl,e3⟩ | ⟨v,hv,rfl,e3⟩
     · omega
     · rw [e3];exact h.at_ v hv
   · rcases insR_fst h hL hu with ⟨rfl,e3⟩ | ⟨v,hv,rfl,e3⟩
     · rw [e3];exact clr_p h (hL.ok s hs)
     · rw [e3,clr_same h (hL.ok s hs) (h.at_ v hv)];exact hL.off hs hv (by rw [e2,e3] at hne;exact hne)
 · rcases insR_fst h hL ht with ⟨_,e2⟩ | ⟨s,hs,_,e2⟩
   · rw [e2];exact h.lt
   · rw [e2];exact hL.fst s hs
theorem insR_span {m p:Nat} {r:List Int} {L:List (List Int)} (h:NewR m p r L) (hL:∀s∈L,RowOk m s):SameSp ((insR r p L).map vec) (vec r::L.map vec):=by
 have hr:Sp ((insR r p L).map vec) (vec r):=Sp.mem (List.mem_map.2 ⟨r,insR_mem.2 (Or.inl rfl),rfl⟩)
 constructor
 · intro v hv;obtain ⟨t,ht,rfl⟩:=List.mem_map.1 hv
   rcases insR_mem.1 ht with rfl | ⟨s,hs,rfl⟩
   · exact Sp.mem (by simp)
   · rw [clr,lessR_vec (hL s hs).len h.ok.len];exact Sp.add (Sp.mem (by simp only [List.mem_cons,List.mem_map];exact Or.inr ⟨s,hs,rfl⟩)) _ (Sp.mem (by simp))
 · intro v hv;rw [List.mem_cons] at hv
   rcases hv with rfl | hv
   · exact hr
   · obtain ⟨s,hs,rfl⟩:=List.mem_map.1 hv;have h1:Sp ((insR r p L).map vec) (vec (clr r p s)):=Sp.mem (List.mem_map.2 ⟨_,insR_mem.2 (Or.inr ⟨s,hs,rfl⟩),rfl⟩);have h2:=Sp.add h1 (toK (s.getD p 0)) hr;rw [clr,lessR_vec (hL s hs).len h.ok.len] at h2
     have e:(fun c=>(vec s c+toK (-(s.getD p 0)) * vec r c)+toK (s.getD p 0) * vec r c)=vec s:=by
      funext c
      have:=toK_neg_add (s.getD p 0)
      grind
     rwa [e] at h2
theorem putR_red {m:Nat} {L:List (List Int)} {r:List Int} (hL:RedI m L) (hr:RowOk m r):RedI m (putR L r)∧SameSp ((putR L r).map vec) (L.map vec++[vec r]):=by
 have hb:=byR_ok hr hL.ok
 obtain ⟨y,hy,hv⟩:=byR_span (W:=L.map vec) hr hL.ok (fun s hs=>Sp.mem (List.mem_map.2 ⟨s,hs,rfl⟩))
 have hsub:∀{W:List Vec},(∀v∈L.map vec,v∈W)→Sp W y:=fun hW=>Sp.of_sub (fun v hv=>Sp.mem (hW v hv)) hy
 rw [putR]
 split
 · rename_i hl;have hn:=normR_ok hb;have hnv:=normR_vec hb;have hni:=normR_inv hb hl
   have hnew : NewR m (fstN (byR r L)) (normR (byR r L)) L := ⟨hn, fun c hc => by
       rw [←vec_zero_iff hn,hnv];show _ * toK ((byR r L).getD c 0)=0
       rw [fstN_low hc,toK_zero]
       grind,by
       refine toK_inj (hn.at_ _) ⟨by omega,by omega⟩ ?_;show vec (normR (byR r L)) _=_
       rw [hnv,toK_one]
       exact hni,fun s hs=>by
       rw [←vec_zero_iff hn,hnv];show _ * toK ((byR r L).getD (fstN s) 0)=0
       rw [byR_done hr hL s hs,toK_zero]
       grind⟩
   refine ⟨insR_red hnew hL,(insR_span hnew hL.ok).trans ⟨fun v hv2=>?_,fun v hv2=>?_⟩⟩
   · rw [List.mem_cons] at hv2
     rcases hv2 with rfl | hv2
     · rw [hnv,hv];have h1:=Sp.add (Sp.zero (V:=L.map vec++[vec r])) (toK (invOf ((byR r L).getD (fstN (byR r L)) 0))) (Sp.add (Sp.mem (V:=L.map vec++[vec r]) (v:=vec r) (by simp)) 1 (hsub (fun v hv=>List.mem_append_left _ hv)));have e:(fun c=>(0:K)+toK (invOf ((byR r L).getD (fstN (byR r L)) 0)) * (vec r c+1 * y c))=(fun c=>toK (invOf ((byR r L).getD (fstN (byR r L)) 0)) * (vec r c+y c)):=by funext c;grind
       rwa [e] at h1
     · exact Sp.mem (List.mem_append_left _ hv2)
   · rw [List.mem_append] at hv2
     rcases hv2 with hv2 | hv2
     · exact Sp.mem (List.mem_cons_of_mem _ hv2)
     · obtain rfl:v=vec r:=(by simpa using hv2);have h1:=Sp.add (Sp.add (Sp.zero (V:=vec (normR (byR r L))::L.map vec)) (vec (byR r L) (fstN (byR r L))) (Sp.mem (v:=vec (normR (byR r L))) (by simp))) (toK (-1)) (hsub (W:=vec (normR (byR r L))::L.map vec) (fun v hv=>List.mem_cons_of_mem _ hv))
       have e:(fun c=>((0:K)+vec (byR r L) (fstN (byR r L)) * vec (normR (byR r L)) c)+toK (-1) * y c)=vec r:=by
        funext c
        have e1:=congrFun hnv c;have e2:=congrFun hv c;have e3:toK (-1)+1=0:=by decide
        grind
       rwa [e] at h1
 · rename_i hl
   have hz:∀c,vec (byR r L) c=0:=fun c=>by
    rw [vec_zero_iff hb];by_cases hc:c<fstN (byR r L)
    · exact fstN_low hc
    · rw [List.getD_eq_getElem?_getD,List.getElem?_eq_none (by omega)];rfl
   refine ⟨hL,fun v hv2=>Sp.mem (List.mem_append_left _ hv2),fun v hv2=>?_⟩;rw [List.mem_append] at hv2
   rcases hv2 with hv2 | hv2
   · exact Sp.mem hv2
   · obtain rfl:v=vec r:=(by simpa using hv2);have h1:=Sp.add (Sp.zero (V:=L.map vec)) (toK (-1)) hy
     have e:(fun c=>(0:K)+toK (-1) * y c)=vec r:=by
      funext c
      have e2:=congrFun hv c;have e3:toK (-1)+1=0:=(by decide);rw [hz c] at e2
      grind
     rwa [e] at h1
theorem redR_red {m:Nat}:∀{V L:List (List Int)},RedI m L→(∀r∈V,RowOk m r)→RedI m (V.foldl putR L)∧SameSp ((V.foldl putR L).map vec) (L.map vec++V.map vec)
 | [],L,hL,_=>⟨hL,by simpa using SameSp.refl _⟩
 | r :: V, L, hL, hV => by
   obtain ⟨h1,h2⟩:=putR_red hL (hV r (by simp));obtain ⟨h3,h4⟩:=redR_red h1 (V:=V) (fun s hs=>hV s (by simp [hs]));refine ⟨h3,h4.trans ⟨fun v hv=>?_,fun v hv=>?_⟩⟩
   · rw [List.mem_append] at hv
     rcases hv with hv | hv
     · exact Sp.of_sub (fun w hw=>Sp.mem (by simp only [List.mem_append,List.map_cons,List.mem_cons,List.not_mem_nil,or_false] at hw ⊢;rcases hw with hw | hw;exact Or.inl hw;exact Or.inr (Or.inl hw))) (h2.1 v hv)
     · exact Sp.mem (by simp only [List.mem_append,List.map_cons,List.mem_cons];exact Or.inr (Or.inr hv))
   · rw [List.mem_append,List.map_cons,List.mem_cons] at hv
     rcases hv with hv | hv | hv
     · exact Sp.of_sub (fun w hw=>Sp.mem (List.mem_append_left _ hw)) (h2.2 v (List.mem_append_left _ hv))
     · exact Sp.of_sub (fun w hw=>Sp.mem (List.mem_append_left _ hw)) (h2.2 v (by rw [hv];simp))
     · exact Sp.mem (List.mem_append_right _ hv)
abbrev rw_ (R:List (List Int)) (j:Nat):List Int:=R.getD j []
structure GJ (V:List Vec) (m:Nat) (R:List (List Int)) (F:List Nat) (c:Nat):Prop where
 ok:∀r∈R,RowOk m r
 span:SameSp (R.map vec) V
 le:F.length≤R.length
 srt:F.Pairwise (· < ·)
 lt:∀f∈F,f<c
 one:∀(i f:Nat),F[i]? = some f→(rw_ R i).getD f 0=1
 low:∀(i f:Nat),F[i]? = some f→∀q,q<f→(rw_ R i).getD q 0=0
 off:∀(i f j:Nat),F[i]? = some f→j<R.length→¬j=i→(rw_ R j).getD f 0=0
 rest:∀j,F.length≤j→j<R.length→∀q,q<c→(rw_ R j).getD q 0=0
theorem rw_mem {R:List (List Int)} {j:Nat} (h:j<R.length):rw_ R j∈R:=by
 rw [rw_,List.getD_eq_getElem?_getD,List.getElem?_eq_getElem h]
 exact List.getElem_mem h
theorem rw_at {R:List (List Int)} {j:Nat} {r:List Int} (h:R[j]? = some r):rw_ R j=r:=by
 rw [rw_,List.getD_eq_getElem?_getD,h];rfl
theorem GJ.start {V:List (List Int)} {m:Nat} (h:∀r∈V,RowOk m r):GJ (V.map vec) m V [] 0:=
 ⟨h,SameSp.refl _,by simp,by simp,by simp,by simp,by simp,by simp,fun j _ _ q hq=>absurd hq (by omega)⟩
theorem GJ.skip {V:List Vec} {m c:Nat} {R:List (List Int)} {F:List Nat} (h:GJ V m R F c) (h0:∀j,F.length≤j→j<R.length→(rw_ R j).getD c 0=0):GJ V m R F (c+1):=
 ⟨h.ok,h.span,h.le,h.srt,fun f hf=>Nat.lt_succ_of_lt (h.lt f hf),h.one,h.low,h.off,fun j h1 h2 q hq=>by
  by_cases e:q=c
  · rw [e];exact h0 j h1 h2
  · exact h.rest j h1 h2 q (by omega)⟩
theorem GJ.step {V : List Vec} {m c i : Nat} {R R' : List (List Int)} {F : List Nat} (h : GJ V m R F c) (hi : F.length ≤ i) (hn : i < R.length) (hne : ¬ (rw_ R i).getD c 0 = 0)
    (hl:R'.length=R.length) (hN:rw_ R' F.length=normR (rw_ R i)) (hO:∀j,j<R.length→¬j=F.length→rw_ R' j=clr (normR (rw_ R i)) c (if j=i then rw_ R F.length else rw_ R j)):GJ V m R' (F++[c]) (c+1):=by
 have hfi:fstN (rw_ R i)=c:=fstN_eq (fun q hq=>h.rest i hi hn q hq) hne
 have hoi:=h.ok _ (rw_mem hn)
 have hlen:fstN (rw_ R i)<(rw_ R i).length:=by
  by_cases e:fstN (rw_ R i)<(rw_ R i).length
  · exact e
  · rw [hfi] at e;rw [List.getD_eq_getElem?_getD,List.getElem?_eq_none (by omega)] at hne;exact absurd rfl hne
 have hcm:c<m:=by rw [hfi,hoi.len] at hlen;exact hlen
 obtain ⟨N,hNe⟩:∃N,normR (rw_ R i)=N:=⟨_,rfl⟩
 have hnv:=normR_vec hoi
 have hni:=normR_inv hoi hlen
 have hnok:=normR_ok hoi
 rw [hNe] at hN hO hnv hnok
 rw [hfi] at hni
 have hNlow:∀q,q<c→N.getD q 0=0:=fun q hq=>by
  rw [←vec_zero_iff hnok,hnv];show _ * toK ((rw_ R i).getD q 0)=0
  rw [h.rest i hi hn q hq,toK_zero]
  grind
 have hNone:N.getD c 0=1:=by
  refine toK_inj (hnok.at_ _) ⟨by omega,by omega⟩ ?_;show vec N c=_
  rw [hnv,toK_one,hfi];exact hni
 have hnew:NewR m c N []:=⟨hnok,hNlow,hNone,by simp⟩
 have hd:F.length<R.length:=by omega
 have hold:∀j,j<R.length→RowOk m (if j=i then rw_ R F.length else rw_ R j):=fun j hj=>by
  split
  · exact h.ok _ (rw_mem hd)
  · exact h.ok _ (rw_mem hj)
 have hok':∀j,j<R.length→RowOk m (rw_ R' j):=fun j hj=>by
  by_cases e:j=F.length
  · rw [e,hN];exact hnok
  · rw [hO j hj e];exact clr_ok hnew (hold j hj)
 have hF:∀(k f:Nat),(F++[c])[k]? = some f→(k<F.length∧F[k]? = some f∧f<c)∨(k=F.length∧f=c):=fun k f hk=>by
  by_cases e:k<F.length
  · rw [List.getElem?_append_left e] at hk;exact Or.inl ⟨e,hk,h.lt f (List.mem_of_getElem? hk)⟩
  · rw [List.getElem?_append_right (by omega)] at hk;obtain ⟨h1,h2⟩:=List.getElem?_eq_some_iff.1 hk;simp at h1 h2
    exact Or.inr ⟨by omega,h2.symm⟩
 have hsame:∀j,j<R.length→¬j=F.length→∀q,q<c→(rw_ R' j).getD q 0=(if j=i then rw_ R F.length else rw_ R j).getD q 0:=fun j hj hne q hq=>by
  rw [hO j hj hne,clr_same hnew (hold j hj) (hNlow q hq)]
 refine ⟨fun r hr=>?_,?_,by rw [List.length_append,hl];simp;omega,?_,fun f hf=>?_,fun k f hk=>?_,fun k f hk q hq=>?_,fun k f j hk hj hjk=>?_,fun j h1 h2 q hq=>?_⟩
 · obtain ⟨j,hj,rfl⟩:=List.mem_iff_getElem.1 hr;have:=hok' j (by omega)
   rwa [rw_at (List.getElem?_eq_getElem hj)] at this
 · refine SameSp.trans ⟨fun v hv=>?_,fun v hv=>?_⟩ h.span
   · obtain ⟨r,hr,rfl⟩:=List.mem_map.1 hv;obtain ⟨j,hj,rfl⟩:=List.mem_iff_getElem.1 hr;have hmem:∀k,k<R.length→Sp (R.map vec) (vec (rw_ R k)):=fun k hk=>Sp.mem (List.mem_map.2 ⟨_,rw_mem hk,rfl⟩)
     have hspN:Sp (R.map vec) (vec N):=by
      have:=Sp.add (Sp.zero (V:=R.map vec)) (toK (invOf ((rw_ R i).getD (fstN (rw_ R i)) 0))) (hmem i hn);rw [hnv];have e:(fun q=>(0:K)+toK (invOf ((rw_ R i).getD (fstN (rw_ R i)) 0)) * vec (rw_ R i) q)=(fun q=>toK (invOf ((rw_ R i).getD (fstN (rw_ R i)) 0)) * vec (rw_ R i) q):=by funext q;grind
      rwa [e] at this
     have hj':j<R.length:=(by omega);rw [←rw_at (List.getElem?_eq_getElem hj)];by_cases e:j=F.length
     · rw [e,hN];exact hspN
     · rw [hO j hj' e,clr,lessR_vec (hold j hj').len hnok.len];refine Sp.add ?_ _ hspN;split
       · exact hmem _ hd
       · exact hmem j hj'
   · obtain ⟨r,hr,rfl⟩:=List.mem_map.1 hv;obtain ⟨j,hj,rfl⟩:=List.mem_iff_getElem.1 hr;have hmem:∀k,k<R.length→Sp (R'.map vec) (vec (rw_ R' k)):=fun k hk=>Sp.mem (List.mem_map.2 ⟨_,rw_mem (by omega),rfl⟩);have hspN:Sp (R'.map vec) (vec N):=by rw [←hN];exact hmem _ hd
     have hback:∀k,k<R.length→¬k=F.length→Sp (R'.map vec) (vec (if k=i then rw_ R F.length else rw_ R k)):=fun k hk hkd=>by
      have h1:=Sp.add (hmem k hk) (toK ((if k=i then rw_ R F.length else rw_ R k).getD c 0)) hspN;rw [hO k hk hkd,clr,lessR_vec (hold k hk).len hnok.len] at h1;obtain ⟨o,ho⟩:∃o,(if k=i then rw_ R F.length else rw_ R k)=o:=⟨_,rfl⟩;rw [ho] at h1 ⊢
      have e:(fun q=>(vec o q+toK (-(o.getD c 0)) * vec N q)+toK (o.getD c 0) * vec N q)=vec o:=by
       funext q
       have:=toK_neg_add (o.getD c 0)
       grind
      rwa [e] at h1
     rw [←rw_at (List.getElem?_eq_getElem hj)];by_cases e:j=i
     · -- the row of the place itself
       have h1:=Sp.add (Sp.zero (V:=R'.map vec)) (vec (rw_ R i) c) hspN
       have e2:(fun q=>(0:K)+vec (rw_ R i) c * vec N q)=vec (rw_ R i):=by
        funext q
        have e1:=congrFun hnv q;rw [hfi] at e1
        grind
       rw [e2] at h1;rw [e];exact h1
     · by_cases e2:j=F.length
       · have:=hback i hn (by omega);rw [if_pos rfl] at this;rw [e2];exact this
       · have:=hback j hj e2
         rwa [if_neg e] at this
 · rw [List.pairwise_append]
   exact ⟨h.srt,by simp,fun a ha b hb=>by
    obtain rfl:b=c:=by simpa using hb
    exact h.lt a ha⟩
 · rw [List.mem_append] at hf
   rcases hf with hf | hf
   · have:=h.lt f hf;omega
   · obtain rfl:f=c:=(by simpa using hf);omega
 · rcases hF k f hk with ⟨h1,h2,h3⟩ | ⟨rfl,rfl⟩
   · rw [hsame k (by omega) (by omega) f h3,if_neg (by omega)];exact h.one k f h2
   · rw [hN];exact hNone
 · rcases hF k f hk with ⟨h1,h2,h3⟩ | ⟨rfl,rfl⟩
   · rw [hsame k (by omega) (by omega) q (by omega),if_neg (by omega)];exact h.low k f h2 q hq
   · rw [hN];exact hNlow q hq
 · rw [hl] at hj
   rcases hF k f hk with ⟨h1,h2,h3⟩ | ⟨rfl,rfl⟩
   · by_cases e:j=F.length
     · rw [e,hN];exact hNlow f h3
     · rw [hsame j hj e f h3];split
       · exact h.off k f F.length h2 hd (by omega)
       · exact h.off k f j h2 hj hjk
   · rw [hO j hj hjk];exact clr_p hnew (hold j hj)
 · rw [List.length_append] at h1;simp at h1
   rw [hl] at h2;by_cases e:q=c
   · rw [e,hO j h2 (by omega)];exact clr_p hnew (hold j h2)
   · rw [hsame j h2 (by omega) q (by omega)];split
     · exact h.rest F.length (Nat.le_refl _) hd q (by omega)
     · exact h.rest j (by omega) h2 q (by omega)
end Go.Proofs.YtifcfoijcodjbaaGreat
namespace Go
section
variable {P:Program} {ops:Array Oper} {Q:Exit→Act→World→Prop} {md:Region.Mode} {S:World→Prop}
theorem pA {l:List Value} {i:Nat} {a:Value}:l.toArray.setIfInBounds i a=(l.set i a).toArray:=by simp
theorem pB {a b:Value} {l:List Value}:(a::l).set 0 b=b::l:=rfl
theorem pC {a b:Value} {l:List Value} {n:Nat}:(a::l).set (n+1) b=a::l.set n b:=rfl
theorem hdAt {i:Nat} {oi:Oper} (h:(ops.toList.drop i).head? = some oi):ops[i]? = some oi:=by
 rw [List.head?_drop] at h
 simpa using h
theorem hdTake {i : Nat} {oi : Oper} {v : Value} {fuel : Nat} {listed : Array Bool} {a : Act} {w : World} (hi : (ops.toList.drop i).head? = some oi)
    (hs:Region.noSelect ops=true) (hf:Region.free md ops listed i=true) (hr:(Region.ready md ops listed).contains i=true)
    (hQ:∀c a w,Q (.panic c) (a.put oi.dst v) w→Q (.panic c) a w) (hw:Region.wanted oi (yielded ops a.tmps)=true) (hy:∀w,S w→(execOp a.eval oi).run P w=.ok (.value v) w) (hS:S w)
    (h:wpAnyH P md ops Q S fuel (listed.setIfInBounds i true) (a.put oi.dst v) w):wpAnyH P md ops Q S (fuel+1) listed a w:=
 wpAnyH_take (hdAt hi) hs hf hr hQ (Or.inl ⟨hw,hy⟩) hS h
theorem hdSkip {i : Nat} {oi : Oper} {fuel : Nat} {listed : Array Bool} {a : Act} {w : World} (hi : (ops.toList.drop i).head? = some oi)
    (hs:Region.noSelect ops=true) (hf:Region.free md ops listed i=true) (hr:(Region.ready md ops listed).contains i=true)
    (hQ:∀c a w,Q (.panic c) (a.put oi.dst undef) w→Q (.panic c) a w) (hw:Region.wanted oi (yielded ops a.tmps)=false) (hS:S w)
    (h:wpAnyH P md ops Q S fuel (listed.setIfInBounds i true) (a.put oi.dst undef) w):wpAnyH P md ops Q S (fuel+1) listed a w:=
 wpAnyH_take (hdAt hi) hs hf hr hQ (Or.inr ⟨hw,rfl⟩) hS h
theorem hdCall {i : Nat} {o : Oper} {fuel : Nat} {listed : Array Bool} {a : Act} {w : World} (hr : Region.ready md ops listed = [i]) (ho : (ops.toList.drop i).head? = some o)
    (h:∀K':Act→World→Prop,Shut (∀a w,S w→(S w→wpAnyH P md ops Q S fuel (listed.setIfInBounds i true) a w)→K' a w)→if Region.wanted o (yielded ops a.tmps)=true then Oper.wp P o a w K' Q else K' (a.put o.dst undef) w) :
    wpAnyH P md ops Q S (fuel+1) listed a w:=
 wpAnyH_ready hr (List.cons_ne_nil _ _) (AllReadyH.cons (hdAt ho) h AllReadyH.nil)
theorem hdT (i : Nat) {oi : Oper} {v : Value} {fuel : Nat} {listed : Array Bool} {a b : Act} {w : World}
    (h:wpAnyH P md ops Q S fuel (listed.setIfInBounds i true) b w)
    (hi:(ops.toList.drop i).head? = some oi:=by exact rfl)
    (hs:Region.noSelect ops=true:=by kernel_rfl) (hf:Region.free md ops listed i=true:=by kernel_rfl) (hr:(Region.ready md ops listed).contains i=true:=by kernel_rfl)
    (hQ:∀c a w,Q (.panic c) (a.put oi.dst v) w→Q (.panic c) a w:=by exact fun _ _ _ h=>h) (hw:Region.wanted oi (yielded ops a.tmps)=true:=by rfl) (hy:∀w,S w→(execOp a.eval oi).run P w=.ok (.value v) w:=by intro w hSw;(try dsimp only at hSw);go_simp;(try with_reducible rfl)) (hS:S w:=by assumption) (hb:a.put oi.dst v=b:=by simp only [Act.put,pA,pB,pC];(try with_reducible rfl))
    : wpAnyH P md ops Q S (fuel+1) listed a w:=
 hdTake hi hs hf hr hQ hw hy hS (hb ▸ h)
theorem hdU (i : Nat) {oi : Oper} {fuel : Nat} {listed : Array Bool} {a b : Act} {w : World}
    (h:wpAnyH P md ops Q S fuel (listed.setIfInBounds i true) b w)
    (hi:(ops.toList.drop i).head? = some oi:=by exact rfl)
    (hs:Region.noSelect ops=true:=by kernel_rfl) (hf:Region.free md ops listed i=true:=by kernel_rfl) (hr:(Region.ready md ops listed).contains i=true:=by kernel_rfl)
    (hQ:∀c a w,Q (.panic c) (a.put oi.dst undef) w→Q (.panic c) a w:=by exact fun _ _ _ h=>h) (hw:Region.wanted oi (yielded ops a.tmps)=false:=by rfl) (hS:S w:=by assumption) (hb:a.put oi.dst undef=b:=by simp only [Act.put,pA,pB,pC];(try with_reducible rfl))
    : wpAnyH P md ops Q S (fuel+1) listed a w:=
 hdSkip hi hs hf hr hQ hw hS (hb ▸ h)
theorem hdC (i : Nat) {o : Oper} {fuel : Nat} {listed : Array Bool} {a : Act} {w : World}
    (h:∀K':Act→World→Prop,Shut (∀a w,S w→(S w→wpAnyH P md ops Q S fuel (listed.setIfInBounds i true) a w)→K' a w)→if Region.wanted o (yielded ops a.tmps)=true then Oper.wp P o a w K' Q else K' (a.put o.dst undef) w)
    (hr:Region.ready md ops listed=[i]:=by kernel_rfl) (ho:(ops.toList.drop i).head? = some o:=by exact rfl):wpAnyH P md ops Q S (fuel+1) listed a w:=
 hdCall hr ho h
end
end Go
