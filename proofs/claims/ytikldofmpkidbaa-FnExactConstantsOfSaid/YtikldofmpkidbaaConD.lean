
import Derived.Test.YtikldofmpkidbaaSingle
import Derived.Test.YtikldofmpkidbaaTimesM
import Derived.Test.YtikldofmpkidbaaProd
import Derived.Test.YtikldofmpkidbaaConS
namespace Go.Proofs.Ytikldofmpkidbaa
def gensW (m:List Int):Nat→List Int
 | 0=>[]
 | j+1=>gensW m j++List.replicate (m.getD j 0).toNat (j:Int)
def rowK (i:Nat) (t:Tm):List Int:=[(i:Int)]++gensW t.m 8++[t.f]
theorem gensW_pair:∀j:Nat,j<8→∀k:Nat,k<8→j≤k→gensW (pairM j k) 8=[(j:Int),(k:Int)]:=by decide
theorem pair_up:∀j:Nat,j<8→∀k:Nat,k<8→∀l:Nat,l<8→j≤k→k<l→before (pairM j k) (pairM j l)=true:=by decide
theorem pair_lex0:((List.range 8).all fun j=>(List.range 8).all fun k=>(List.range 8).all fun p=>(List.range 8).all fun q=>!(decide (j≤k∧p≤q∧j<p)) || before (pairM j k) (pairM p q))=true:=by decide
theorem pair_lex (j:Nat) (hj:j<8) (k:Nat) (hk:k<8) (p:Nat) (hp:p<8) (q:Nat) (hq:q<8) (h1:j≤k) (h2:p≤q) (h3:j<p):before (pairM j k) (pairM p q)=true:=by
 have h:=List.all_eq_true.1 (List.all_eq_true.1 (List.all_eq_true.1 (List.all_eq_true.1 pair_lex0 j (by simpa using hj)) k (by simpa using hk)) p (by simpa using hp)) q (by simpa using hq)
 rw [decide_eq_true (show j≤k∧p≤q∧j<p from ⟨h1,h2,h3⟩)] at h
 simpa using h
theorem rowK_pair {i j k:Nat} {t:Tm} (hj:j≤k) (hk:k<8) (h:t.m=pairM j k):rowK i t=[(i:Int),(j:Int),(k:Int),t.f]:=by
 rw [rowK,h,gensW_pair j (by omega) k hk hj];rfl
def terT (j k:Nat) (ts:List Tm):List Tm:=ts.filter fun t=>decide (t.m=pairM j k)
def terK (j:Nat) (ts:List Tm):Nat→List Tm
 | 0=>[]
 | d+1=>terK j ts d++terT j (j+d) ts
def terJ (n:Nat) (ts:List Tm):Nat→List Tm
 | 0=>[]
 | j+1=>terJ n ts j++terK j ts (n - j)
theorem conT_ter {i j k:Nat} {ts:List Tm} (hj:j≤k) (hk:k<8):∀t,conT i j k ts t=((ts.take t).filter fun t=>decide (t.m=pairM j k)).map (rowK i)
 | 0=>by simp [conT]
 | t + 1 => by
   rw [conT,conT_ter hj hk t,List.take_add_one,List.filter_append,List.map_append];congr 1
   cases h:ts[t]? with
   | none=>rfl
   | some x =>
     by_cases hx:x.m=pairM j k
     · simp [hx,rowK_pair hj hk hx]
     · simp [hx]
theorem conK_ter {n i j:Nat} {ts:List Tm} (hn:n≤8):∀d,d≤n - j→conK i j ts d=(terK j ts d).map (rowK i)
 | 0,_=>rfl
 | d + 1, h => by
   rw [conK,terK,List.map_append,conK_ter hn d (by omega),conT_ter (by omega) (by omega),List.take_of_length_le (Nat.le_refl _)];rfl
theorem conJ_ter {n i:Nat} {ts:List Tm} (hn:n≤8):∀j,conJ n i ts j=(terJ n ts j).map (rowK i)
 | 0=>rfl
 | j + 1 => by
   rw [conJ,terJ,List.map_append,conJ_ter hn j,conK_ter hn (n - j) (Nat.le_refl _)]
theorem terK_mem {j:Nat} {ts:List Tm} {x:Tm}:∀d,x∈terK j ts d↔x∈ts∧∃e,e<d∧x.m=pairM j (j+e)
 | 0=>by simp [terK]
 | d + 1 => by
   rw [terK,List.mem_append,terK_mem d,terT,List.mem_filter,decide_eq_true_eq];constructor
   · rintro (⟨h1,e,h2,h3⟩ | ⟨h1,h2⟩)
     · exact ⟨h1,e,by omega,h3⟩
     · exact ⟨h1,d,by omega,h2⟩
   · rintro ⟨h1,e,h2,h3⟩;by_cases he:e=d
     · subst he;exact Or.inr ⟨h1,h3⟩
     · exact Or.inl ⟨h1,e,by omega,h3⟩
theorem terJ_mem {n:Nat} {ts:List Tm} {x:Tm}:∀J,x∈terJ n ts J↔x∈ts∧∃j,j<J∧∃e,e<n - j∧x.m=pairM j (j+e)
 | 0=>by simp [terJ]
 | J + 1 => by
   rw [terJ,List.mem_append,terJ_mem J,terK_mem];constructor
   · rintro (⟨h1,j,h2,h3⟩ | ⟨h1,h2⟩)
     · exact ⟨h1,j,by omega,h3⟩
     · exact ⟨h1,J,by omega,h2⟩
   · rintro ⟨h1,j,h2,h3⟩;by_cases he:j=J
     · subst he;exact Or.inr ⟨h1,h3⟩
     · exact Or.inl ⟨h1,j,by omega,h3⟩
theorem srt_same:∀{ts:List Tm} {m:List Int},Srt ts→Srt (ts.filter fun t=>decide (t.m=m)):=fun h=>List.Pairwise.filter _ h
theorem terK_srt {n j:Nat} {ts:List Tm} (hn:n≤8) (h:Srt ts):∀d,d≤n - j→Srt (terK j ts d)
 | 0,_=>List.Pairwise.nil
 | d + 1, hd => by
   rw [terK];refine List.pairwise_append.2 ⟨terK_srt hn h d (by omega),srt_same h,fun x hx y hy=>?_⟩;obtain ⟨-,e,he,hxm⟩:=(terK_mem d).1 hx;have hym:=of_decide_eq_true (List.mem_filter.1 hy).2;rw [hxm,hym];exact pair_up j (by omega) (j+e) (by omega) (j+d) (by omega) (by omega) (by omega)
theorem terJ_srt {n:Nat} {ts:List Tm} (hn:n≤8) (h:Srt ts):∀J,J≤n→Srt (terJ n ts J)
 | 0,_=>List.Pairwise.nil
 | J + 1, hJ => by
   rw [terJ];refine List.pairwise_append.2 ⟨terJ_srt hn h J (by omega),terK_srt hn h (n - J) (Nat.le_refl _),fun x hx y hy=>?_⟩;obtain ⟨-,j,hj,e,he,hxm⟩:=(terJ_mem J).1 hx;obtain ⟨-,d,hd,hym⟩:=(terK_mem (n - J)).1 hy;rw [hxm,hym];exact pair_lex j (by omega) (j+e) (by omega) J (by omega) (J+d) (by omega) (by omega) (by omega) hj
theorem srt_same_eq:∀{xs ys:List Tm},Srt xs→Srt ys→(∀x,x∈xs↔x∈ys)→xs=ys
 | [],[],_,_,_=>rfl
 | [],y::ys,_,_,h=>absurd ((h y).2 (by simp)) (by simp)
 | x::xs,[],_,_,h=>absurd ((h x).1 (by simp)) (by simp)
 | x :: xs, y :: ys, h1, h2, h => by
   obtain ⟨a1,a2⟩:=List.pairwise_cons.1 h1;obtain ⟨b1,b2⟩:=List.pairwise_cons.1 h2;have hself:∀t:Tm,¬before t.m t.m=true:=fun t ht=>by have:=before_asymm ht;rw [ht] at this;cases this
   have e:x=y:=by
    rcases List.mem_cons.1 ((h x).1 (by simp)) with e | e
    · exact e
    · rcases List.mem_cons.1 ((h y).2 (by simp)) with e' | e'
      · exact e'.symm
      · have:=before_asymm (b1 x e);rw [a1 y e'] at this;cases this
   subst e;rw [srt_same_eq a2 b2 fun t=>⟨fun ht=>?_,fun ht=>?_⟩]
   · rcases List.mem_cons.1 ((h t).1 (by simp [ht])) with e | e
     · subst e;exact absurd (a1 t ht) (hself t)
     · exact e
   · rcases List.mem_cons.1 ((h t).2 (by simp [ht])) with e | e
     · subst e;exact absurd (b1 t ht) (hself t)
     · exact e
theorem bump_cons_succ (a:Int) (l:List Int) (j:Nat):bump (a::l) (j+1)=a::bump l j:=by simp [bump]
theorem bump_cons_zero (a:Int) (l:List Int):bump (a::l) 0=(a+1)::l:=by simp [bump]
theorem all_zero:∀{l:List Int},(∀x∈l,0≤x)→l.sum=0→l=List.replicate l.length 0
 | [],_,_=>rfl
 | a :: l, h, hs => by
   have h1:=h a (by simp)
   have h2:0≤l.sum:=by
    have:∀l:List Int,(∀x∈l,0≤x)→0≤l.sum:=by
     intro l
     induction l with
     | nil=>intro _;simp
     | cons b l ih=>intro h;rw [List.sum_cons];have:=h b (by simp);have:=ih (fun x hx=>h x (by simp [hx]));omega
    exact this l (fun x hx=>h x (by simp [hx]))
   rw [List.sum_cons] at hs;have ih:=all_zero (l:=l) (fun x hx=>h x (by simp [hx])) (by omega);rw [List.length_cons,List.replicate_succ,←ih,show a=0 by omega]
theorem sum_nn:∀{l:List Int},(∀x∈l,0≤x)→0≤l.sum
 | [],_=>by simp
 | a::l,h=>by rw [List.sum_cons];have:=h a (by simp);have:=sum_nn (l:=l) (fun x hx=>h x (by simp [hx]));omega
theorem one_of:∀{l:List Int},(∀x∈l,0≤x)→l.sum=1→∃k,k<l.length∧l=bump (List.replicate l.length 0) k
 | [],_,hs=>by simp at hs
 | a :: l, h, hs => by
   have h1:=h a (by simp);have h2:=sum_nn (l:=l) (fun x hx=>h x (by simp [hx]));rw [List.sum_cons] at hs;by_cases ha:a=0
   · subst ha;obtain ⟨k,hk,e⟩:=one_of (l:=l) (fun x hx=>h x (by simp [hx])) (by omega);refine ⟨k+1,by simpa using hk,?_⟩;rw [List.length_cons,List.replicate_succ,bump_cons_succ,←e]
   · have:=all_zero (l:=l) (fun x hx=>h x (by simp [hx])) (by omega);refine ⟨0,by simp,?_⟩;rw [List.length_cons,List.replicate_succ,bump_cons_zero,←this,show a=0+1 by omega]
theorem two_of:∀{l:List Int},(∀x∈l,0≤x)→l.sum=2→∃j k,j≤k∧k<l.length∧l=bump (bump (List.replicate l.length 0) j) k
 | [],_,hs=>by simp at hs
 | a :: l, h, hs => by
   have h1:=h a (by simp);have h2:=sum_nn (l:=l) (fun x hx=>h x (by simp [hx]));rw [List.sum_cons] at hs;by_cases ha:a=0
   · subst ha;obtain ⟨j,k,hj,hk,e⟩:=two_of (l:=l) (fun x hx=>h x (by simp [hx])) (by omega);refine ⟨j+1,k+1,by omega,by simpa using hk,?_⟩;rw [List.length_cons,List.replicate_succ,bump_cons_succ,bump_cons_succ,←e]
   · by_cases hb:a=1
     · subst hb;obtain ⟨k,hk,e⟩:=one_of (l:=l) (fun x hx=>h x (by simp [hx])) (by omega);refine ⟨0,k+1,by omega,by simpa using hk,?_⟩;rw [List.length_cons,List.replicate_succ,bump_cons_zero,bump_cons_succ,←e];rfl
     · have:=all_zero (l:=l) (fun x hx=>h x (by simp [hx])) (by omega);refine ⟨0,0,by omega,by simp,?_⟩;rw [List.length_cons,List.replicate_succ,bump_cons_zero,bump_cons_zero,←this,show a=0+1+1 by omega]
theorem wlen_sum {m:List Int} (h:m.length=8):wlen m=m.sum:=by
 match m,h with
 | [a,b,c,d,e,f,g,i],_=>simp [wlen,wlTo];omega
theorem pair_at (j k:Nat) (hk:k<8):1≤(pairM j k).getD k 0:=by
 rw [pairM,bump]
 generalize hb:bump (List.replicate 8 0) j=b
 have hl:b.length=8:=by rw [←hb,bump,List.length_set];rfl
 have h0:0≤b.getD k 0:=by
  have hz:∀i,(List.replicate 8 (0:Int)).getD i 0=0:=fun i=>by
   rw [List.getD_eq_getElem?_getD,List.getElem?_replicate];split <;> rfl
  rw [←hb,bump,hz,List.getD_eq_getElem?_getD,List.getElem?_set];split
  · split
    · simp
    · simp
  · rw [←List.getD_eq_getElem?_getD,hz];omega
 rw [List.getD_eq_getElem?_getD,List.getElem?_set,if_pos rfl,if_pos (by omega)]
 simp only [Option.getD_some]
 omega
theorem pair_of {m:List Int} {n:Nat} (hm:IsMono m) (hw:wlen m=2) (ht:Tail0 m n):∃j,j<n∧∃e,e<n - j∧m=pairM j (j+e):=by
 rw [wlen_sum hm.1] at hw
 obtain ⟨j,k,hj,hk,e⟩:=two_of (fun x hx=>(hm.2 x hx).1) hw
 rw [hm.1] at hk e
 have hkn:k<n:=by
  apply Decidable.byContradiction
  intro hh;have h1:=ht k (by omega) hk;have h2:=pair_at j k hk
  have h3:(pairM j k).getD k 0=0:=by
   show (bump (bump (List.replicate 8 0) j) k).getD k 0=0
   rw [←e,List.getD_eq_getElem?_getD,h1];rfl
  omega
 exact ⟨j,by omega,k - j,by omega,by rw [show j+(k - j)=k by omega];exact e⟩
theorem conJ_rows {n i:Nat} {ts:List Tm} (hn:n≤8) (hs:Srt ts) (h:∀t∈ts,IsMono t.m∧wlen t.m=2∧Tail0 t.m n):conJ n i ts n=ts.map (rowK i):=by
 rw [conJ_ter hn,srt_same_eq (terJ_srt hn hs n (Nat.le_refl _)) hs fun x=>⟨fun hx=>((terJ_mem n).1 hx).1,fun hx=>(terJ_mem n).2 ⟨hx,?_⟩⟩]
 obtain ⟨h1,h2,h3⟩:=h x hx
 exact pair_of h1 h2 h3
theorem rowK_four {n i:Nat} {t:Tm} (hn:n≤8) (h:IsMono t.m∧wlen t.m=2∧Tail0 t.m n):(rowK i t).length=4:=by
 obtain ⟨j,hj,e,he,hm⟩:=pair_of h.1 h.2.1 h.2.2
 rw [rowK_pair (by omega) (by omega) hm];rfl
open Go.RowKit Go.Deep
structure CoD (w:World) (B:Nat) (R:List Rw) (T:List (List Int)):Prop where
 len:R.length=T.length
 pw:R.Pairwise fun x y=>x.g<y.g
 lo:∀x∈R,B≤x.g∧x.g<w.heap.size
 own:∀(q:Nat) x r,R[q]? = some x→T[q]? = some r→x.a=some ⟨x.g,0,none⟩∧x.m=4∧Own w x.g 2 x.cs∧4≤x.cs.size∧∀k,k<4→x.cs[k]? = some (.int .i64 (r.getD k 0))
 r4:∀r∈T,r.length=4
def rowsD (R:List Rw):List Value:=R.map fun x=>.slice x.a x.m x.c
section
variable {w w':World} {B n:Nat} {R:List Rw} {T:List (List Int)}
theorem CoD.nil (w:World) (B:Nat):CoD w B [] []:=⟨rfl,List.Pairwise.nil,by simp,by simp,by simp⟩
theorem CoD.keep (h:CoD w B R T) (hb:Below w.heap.size w w'):CoD w' B R T:=
 ⟨h.len,h.pw,fun x hx=>⟨(h.lo x hx).1,Nat.lt_of_lt_of_le (h.lo x hx).2 hb.size⟩,fun q x r h1 h2=>by
  obtain ⟨e1,e2,e3,e4⟩:=h.own q x r h1 h2
  exact ⟨e1,e2,e3.keep hb (h.lo x (List.mem_of_getElem? h1)).2,e4⟩,h.r4⟩
theorem CoD.grown {C:Nat} {v:Value} {xs:List Value} (h:CoD w B R T) (ho:w.ownsRow C 22 1 v n xs) (hg:w.grownBy w' v.ownBlock):CoD w' B R T:=
 ⟨h.len,h.pw,fun x hx=>⟨(h.lo x hx).1,Nat.lt_of_lt_of_le (h.lo x hx).2 hg.size⟩,fun q x r h1 h2=>by
  obtain ⟨e1,e2,e3,e4⟩:=h.own q x r h1 h2
  exact ⟨e1,e2,e3.grown hg (own_ne_row e3 ho (by decide)),e4⟩,h.r4⟩
theorem CoD.snoc {x:Rw} {r:List Int} (h:CoD w B R T) (hl:∀y∈R,y.g<x.g) (hB:B≤x.g) (ha:x.a=some ⟨x.g,0,none⟩) (hm:x.m=4) (ho:Own w x.g 2 x.cs) (hs:4≤x.cs.size) (hc:∀k,k<4→x.cs[k]? = some (.int .i64 (r.getD k 0))) (h4:r.length=4):CoD w B (R++[x]) (T++[r]):=
 ⟨by simp [h.len],List.pairwise_append.2 ⟨h.pw,List.pairwise_singleton _ _,fun y hy z hz=>by rw [List.mem_singleton.1 hz];exact hl y hy⟩,fun y hy=>by
  rcases List.mem_append.1 hy with h1 | h1
  · exact h.lo y h1
  · rw [List.mem_singleton.1 h1];exact ⟨hB,ho.lt⟩,fun q y s h1 h2=>by
  by_cases e:q<R.length
  · rw [List.getElem?_append_left e] at h1;rw [List.getElem?_append_left (by rw [←h.len];exact e)] at h2;exact h.own q y s h1 h2
  · rw [List.getElem?_append_right (by omega)] at h1;rw [List.getElem?_append_right (by rw [←h.len];omega)] at h2;obtain ⟨g1,g2⟩:=List.getElem?_eq_some_iff.1 h1;obtain ⟨g3,g4⟩:=List.getElem?_eq_some_iff.1 h2;simp at g1 g2 g3 g4
    subst g2 g4
    exact ⟨ha,hm,ho,hs,hc⟩,fun s hs=>by
  rcases List.mem_append.1 hs with h1 | h1
  · exact h.r4 s h1
  · rw [List.mem_singleton.1 h1];exact h4⟩
theorem CoD.ownT {C lo c:Nat} {a:Option Addr} (h:CoD w B R T) (ho:w.ownsRow C 22 1 (.slice a n c) n (rowsD R)) (h1:lo≤B) (h2:lo≤C):OwnT w lo w.heap.size a n T:=by
 have hl:R.length=n:=by have:=ho.1;rw [rowsD,List.length_map,Nat.mul_one] at this;exact this
 have hT:∀(i:Nat) x,R[i]? = some x→∃r,T[i]? = some r:=fun i x hx=>by
  have h3:=(List.getElem?_eq_some_iff.1 hx).1;exact ⟨T[i]'(by rw [←h.len];exact h3),List.getElem?_eq_getElem _⟩
 refine ⟨by rw [←h.len];exact hl,fun hn=>?_⟩
 rcases ho.2 with ⟨h4,h5⟩ | ⟨g,cap,cur,hv,hCg,hg,hnc,hcm,hcs,htk⟩
 · omega
 · simp only [Value.slice.injEq] at hv;obtain ⟨rfl,-,rfl⟩:=hv;have hO:Own w g 22 cur:=hg;refine ⟨g,R,rfl,by omega,hO.lt,⟨hl,⟨cur,hO,fun i x hx=>?_⟩,fun i x hx hm=>?_,fun i j x y hij hx hy _ _=>?_⟩,fun x hx hm=>?_,?_,fun i x row hx hr=>?_⟩
   · have hi:i<n:=(by have:=(List.getElem?_eq_some_iff.1 hx).1;omega);have hx2:(rowsD R)[i]? = some (.slice x.a x.m x.c):=(by rw [rowsD,List.getElem?_map,hx];rfl);rw [←htk,List.getElem?_take,if_pos (by omega)] at hx2;simpa using hx2
   · obtain ⟨r,hr⟩:=hT i x hx;obtain ⟨e1,e2,e3,e4,-⟩:=h.own i x r hx hr;exact ⟨e1,e3,by rw [e2];exact e4⟩
   · obtain ⟨e1,rfl⟩:=List.getElem?_eq_some_iff.1 hx;obtain ⟨e2,rfl⟩:=List.getElem?_eq_some_iff.1 hy;exact Nat.ne_of_lt (List.pairwise_iff_getElem.1 h.pw i j e1 e2 hij)
   · have:=h.lo x hx;omega
   · have e1:T.map List.length=List.replicate n 4:=List.eq_replicate_iff.2 ⟨by rw [List.length_map,←h.len];exact hl,fun b hb=>by obtain ⟨r,hr,rfl⟩:=List.mem_map.1 hb;exact h.r4 r hr⟩
     have e2:R.map Rw.m=List.replicate n 4:=List.eq_replicate_iff.2 ⟨by rw [List.length_map];exact hl,fun b hb=>by
      obtain ⟨x,hx,rfl⟩:=List.mem_map.1 hb;obtain ⟨i,hi,rfl⟩:=List.mem_iff_getElem.1 hx;obtain ⟨r,hr⟩:=hT i _ (List.getElem?_eq_getElem hi)
      exact (h.own i _ r (List.getElem?_eq_getElem hi) hr).2.1⟩
     rw [e1,e2]
   · obtain ⟨e1,e2,e3,e4,e5⟩:=h.own i x row hx hr;have h4:=h.r4 row (List.mem_of_getElem? hr);refine ⟨by rw [e2];exact h4,fun _=>⟨x.g,0,e1,e3.lt,fun k hk=>?_⟩⟩;rw [Nat.zero_add,e3.cell k];exact e5 k (by omega)
end
structure CoQ (w wr:World) (Q:Nat) (oa:Option Addr) (oc:Nat) (R:List Rw) (T:List (List Int)):Prop where
 b:Below Q w wr
 sz:Q≤wr.heap.size
 rw_:wr.ownsRow Q 22 1 (.slice oa R.length oc) R.length (rowsD R)
 co:CoD wr Q R T
section
variable {w wr w':World} {Q oc:Nat} {oa:Option Addr} {R:List Rw} {T:List (List Int)}
theorem CoQ.start (w:World):CoQ w w w.heap.size none 0 [] []:=⟨Below.refl _ _,Nat.le_refl _,⟨rfl,Or.inl ⟨rfl,rfl⟩⟩,CoD.nil _ _⟩
theorem CoQ.keep (h:CoQ w wr Q oa oc R T) (hb:Below wr.heap.size wr w'):CoQ w w' Q oa oc R T:=
 ⟨bT' h.b hb h.sz,Nat.le_trans h.sz hb.size,World.ownsRow.kept h.rw_ (row:=none) ⟨hb.os,hb.tape,hb.output,hb.size,fun j hj _=>hb.block j hj⟩ (by cases oa <;> simp [Value.ownBlock]),h.co.keep hb⟩
theorem CoQ.push {wc : World} {r : List Int} {g c : Nat} {cs : Array Value} {v' : Value} (h : CoQ w wr Q oa oc R T) (hb : Below wr.heap.size wr wc) (hg : wr.heap.size ≤ g) (ho : Own wc g 2 cs) (hs : 4 ≤ cs.size) (hc : ∀ k, k < 4 → cs[k]? = some (.int .i64 (r.getD k 0))) (h4 : r.length = 4)
    (h2:w'.ownsRow Q 22 1 v' (R.length+1) (rowsD R++[.slice (some ⟨g,0,none⟩) 4 c]))
    (h3:(wc.alloc (.cells #[.slice (some ⟨g,0,none⟩) 4 c] 22)).grownBy w' (Value.slice oa R.length oc).ownBlock) :
    ∃xa xc R',v'=.slice xa R'.length xc∧CoQ w w' Q xa xc R' (T++[r])∧∀gM tM cM,Own wc gM tM cM→tM≠22→Own w' gM tM cM:=by
 have hba:=bA1 wc (.cells #[.slice (some ⟨g,0,none⟩) 4 c] 22)
 have h5:=(h.keep hb).keep hba
 have hC:=h5.co.snoc (x:=⟨some ⟨g,0,none⟩,4,c,g,cs⟩) (r:=r) (fun y hy=>Nat.lt_of_lt_of_le (h.co.lo y hy).2 hg) (Nat.le_trans h.sz hg) rfl rfl (ho.keep hba ho.lt) hs hc h4
 obtain ⟨xa,xc,rfl⟩:=row_slice h2
 refine ⟨xa,xc,R++[⟨some ⟨g,0,none⟩,4,c,g,cs⟩],by simp,⟨grown_below h5.b h3 (fun j e=>(h5.rw_.lt j e).1) h5.sz,Nat.le_trans h5.sz h3.size,?_,hC.grown h5.rw_ h3⟩,fun gM tM cM hM ht=>?_⟩
 · rw [rowsD,List.map_append,List.length_append];exact h2
 · have hM2:=hM.keep hba hM.lt;exact hM2.grown h3 (own_ne_row hM2 h5.rw_ ht)
end
def conQ (ims:List (List Tm)):Nat→List (List Int)
 | 0=>[]
 | i+1=>conQ ims i++(wordsOf 2 (ims.getD i [])).map (rowK i)
theorem words_ok {zs:List Int} {ts:List Tm} (hf:isForm zs ts=true) (hT:∀t∈ts,IsTm t):Srt (wordsOf 2 ts)∧∀t∈wordsOf 2 ts,IsMono t.m∧wlen t.m=2∧Tail0 t.m zs.length:=by
 refine ⟨List.Pairwise.filter _ (isForm_srt hf),fun t ht=>?_⟩
 obtain ⟨h1,h2⟩:=List.mem_filter.1 ht
 exact ⟨(hT t h1).1,of_decide_eq_true h2,tail0 (hT t h1).1 (isForm_fit hf t h1)⟩
theorem conQ_eq {zs:List Int} {ims:List (List Tm)} (h8:zs.length≤8) (hf:∀im∈ims,isForm zs im=true) (hT:∀im∈ims,∀t∈im,IsTm t):∀i,i≤ims.length→conI zs.length ims i=conQ ims i
 | 0,_=>rfl
 | i + 1, hi => by
   have hm:ims.getD i []∈ims:=by
    rw [List.getD_eq_getElem?_getD,List.getElem?_eq_getElem (show i<ims.length by omega)];exact List.getElem_mem _
   obtain ⟨h1,h2⟩:=words_ok (hf _ hm) (hT _ hm);rw [conI,conQ,conQ_eq h8 hf hT i (by omega),conJ_rows h8 h1 h2]
end Go.Proofs.Ytikldofmpkidbaa
