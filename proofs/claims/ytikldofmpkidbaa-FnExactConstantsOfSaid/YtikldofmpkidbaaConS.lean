
import Derived.Test.YtikldofmpkidbaaSortL
import Derived.Test.YtikldofmpkidbaaResult
import Derived.Test.YtikldofmpkidbaaAddM
import Derived.Test.YtikldofmpkidbaaWrite
import Derived.Test.YtikldofmpkidbaaIsAlg
import Derived.Test.YtikldofmpkidbaaSumK
import Derived.Test.YtikldofmpkidbaaRedG
import Derived.WalkMore
import Derived.OwnWalk
import Derived.Test.YtikldofmpkidbaaSingle
import Derived.Test.YtikldofmpkidbaaLinS
import Derived.Test.YtikldofmpkidbaaClosed
import Derived.Lib.AppendZerosOnto
import Derived.Deep.DeepAppendWide
import Derived.Test.YtikldofmpkidbaaOpen
import Derived.Lib.AppendZeros
namespace Go.Proofs.Ytikldofmpkidbaa
open Go.RowKit Go.Deep
abbrev TmS:={t:Tm // IsTm t}
theorem tm0_is:IsTm ⟨nul8,0⟩:=⟨⟨rfl,by decide⟩,by decide,by decide⟩
instance:Inhabited TmS:=⟨⟨⟨nul8,0⟩,tm0_is⟩⟩
theorem OwnR.touch {w w':World} {B g:Nat} {v:Value} {ts:List Tm} (h:OwnR w B v ts) (ht:Touch (fun k=>k=g) w w') (hg:g<B):OwnR w' B v ts:=by
 refine World.ownsRow.kept h (row:=some g) ⟨ht.below.os,ht.below.tape,ht.below.output,ht.below.size,fun k hk hne=>ht.other k hk (by simpa using hne)⟩ ?_
 rcases hv:v.ownBlock with _ | q
 · exact Or.inl rfl
 · right
   have:=(World.ownsRow.lt h q hv).1;simp
   omega
section
variable {w w':World} {g:Nat} {R:List Int}
end
def putAt (Fl:List Int) (W i:Nat) (r:List Int):List Int:=Fl.take (i * W)++r++Fl.drop (i * W+W)
structure Mat (Fl:List Int) (W n:Nat) (o:List Nat):Prop where
 len:Fl.length=n * W
 ol:o.length=n
 nd:o.Nodup
 lt:∀i∈o,i<n
 bd:∀x∈Fl,0≤x∧x≤10006
theorem mul_fit {n W i:Nat} (h:i<n):i * W+W≤n * W:=by
 have:(i+1) * W≤n * W:=Nat.mul_le_mul_right W h
 rw [Nat.add_mul,Nat.one_mul] at this
 exact this
section
variable {Fl:List Int} {W n:Nat} {o:List Nat}
theorem take_lenW (hl:Fl.length=n * W) {i:Nat} (h:i<n):(Fl.take (i * W)).length=i * W:=by
 have:=mul_fit (W:=W) h
 rw [List.length_take];omega
theorem putAt_len (hl:Fl.length=n * W) {i:Nat} (h:i<n) {r:List Int} (hr:r.length=W):(putAt Fl W i r).length=n * W:=by
 have:=mul_fit (W:=W) h
 rw [putAt,List.length_append,List.length_append,List.length_drop,take_lenW hl h]
 omega
theorem Mat.put (h:Mat Fl W n o) {i:Nat} (hi:i<n) {r:List Int} (hr:RowOk W r):Mat (putAt Fl W i r) W n o:=
 ⟨putAt_len h.len hi hr.len,h.ol,h.nd,h.lt,fun x hx=>by
  rw [putAt,List.mem_append,List.mem_append] at hx
  rcases hx with (hx | hx) | hx
  · exact h.bd x (List.mem_of_mem_take hx)
  · exact hr.bd x hx
  · exact h.bd x (List.mem_of_mem_drop hx)⟩
end
def InP (ps:List (Nat × Nat)) (k:Nat):Prop:=∃p∈ps,p.1=k
section
variable {w w':World} {ps:List (Nat × Nat)} {R:List (List Int)}
end
structure FG2 (w w':World) (u v u' v':Value):Prop where
 b:Below 0 w w'
 k:∀i,i<w.heap.size→u.ownBlock≠some i→v.ownBlock≠some i→w'.heap[i]? = w.heap[i]?
 r1:∀q,u'.ownBlock=some q→u.ownBlock=some q∨w.heap.size≤q
 r2:∀q,v'.ownBlock=some q→v.ownBlock=some q∨w.heap.size≤q
section
variable {w w1 w2:World} {u v u1 v1 x:Value}
theorem FG2.refl (w:World) (u v:Value):FG2 w w u v u v:=⟨Below.refl _ _,fun _ _ _ _=>rfl,fun _ h=>Or.inl h,fun _ h=>Or.inl h⟩
theorem FG2.below (h:FG2 w w1 u v u1 v1) (hb:Below w1.heap.size w1 w2):FG2 w w2 u v u1 v1:=
 ⟨h.b.trans (hb.mono (Nat.zero_le _)),fun i hi h1 h2=>(hb.block i (Nat.lt_of_lt_of_le hi h.b.size)).trans (h.k i hi h1 h2),h.r1,h.r2⟩
theorem FG2.own (h:FG2 w w1 u v u1 v1) {g:Nat} {t:TypeId} {cs:Array Value} (o:Own w g t cs) (h1:u.ownBlock≠some g) (h2:v.ownBlock≠some g):Own w1 g t cs:=(h.k g o.lt h1 h2).trans o
def Apt (x y:Value):Prop:=∀q,x.ownBlock=some q→y.ownBlock≠some q
theorem Apt.symm {x y:Value} (h:Apt x y):Apt y x:=fun q h1 h2=>h q h2 h1
theorem Apt.types {B B' sz sz' n n':Nat} {t t':TypeId} {y:Value} {xs ys:List Value} (h:w.ownsRow B t sz x n xs) (h':w.ownsRow B' t' sz' y n' ys) (ht:t≠t'):Apt x y:=fun q h1 h2=>by
 obtain ⟨os,ho⟩:=row_own h h1
 exact own_ne_row ho h' ht h2.symm
theorem FG2.touch (h:FG2 w w1 u v u1 v1):∀i,i<w.heap.size→u.ownBlock≠some i→v.ownBlock≠some i→w1.heap[i]? = w.heap[i]? := h.k
end
structure CoB (w:World) (B:Nat) (gs:List Nat) (T:List (List Int)):Prop where
 len:gs.length=T.length
 pw:gs.Pairwise (· < ·)
 lo:∀g∈gs,B≤g∧g<w.heap.size
 own:∀(q:Nat) g r,gs[q]? = some g→T[q]? = some r→Own w g 2 (r.map (Value.int .i64)).toArray
 r4:∀r∈T,r.length=4
def rowsC (gs:List Nat):List Value:=gs.map fun g=>.slice (some ⟨g,0,none⟩) 4 4
def rwC (g:Nat) (r:List Int):Rw:=⟨some ⟨g,0,none⟩,4,4,g,(r.map (Value.int .i64)).toArray⟩
section
variable {w w':World} {B n:Nat} {gs:List Nat} {T:List (List Int)}
theorem CoB.nil (w:World) (B:Nat):CoB w B [] []:=⟨rfl,List.Pairwise.nil,by simp,by simp,by simp⟩
theorem CoB.keep (h:CoB w B gs T) (hb:Below w.heap.size w w'):CoB w' B gs T:=
 ⟨h.len,h.pw,fun g hg=>⟨(h.lo g hg).1,Nat.lt_of_lt_of_le (h.lo g hg).2 hb.size⟩,fun q g r h1 h2=>(h.own q g r h1 h2).keep hb (h.lo g (List.mem_of_getElem? h1)).2,h.r4⟩
theorem CoB.grown {C:Nat} {x:Value} {xs:List Value} (h:CoB w B gs T) (ho:w.ownsRow C 22 1 x n xs) (hg:w.grownBy w' x.ownBlock):CoB w' B gs T:=
 ⟨h.len,h.pw,fun g hm=>⟨(h.lo g hm).1,Nat.lt_of_lt_of_le (h.lo g hm).2 hg.size⟩,fun q g r h1 h2=>by
  have h3:=h.own q g r h1 h2;refine (hg.block g (h.lo g (List.mem_of_getElem? h1)).2 ?_).trans h3;intro e
  rcases ho.2 with ⟨h4,-⟩ | ⟨g',cap,cur,hv,-,h5,-⟩
  · rw [h4] at e;simp [Value.ownBlock] at e
  · rw [hv] at e;simp [Value.ownBlock] at e
    subst e;have:=(show w.heap[g]? = _ from h3).symm.trans (show w.heap[g]? = _ from h5)
    simp at this,h.r4⟩
theorem CoB.snoc {g:Nat} {r:List Int} (h:CoB w B gs T) (hl:∀x∈gs,x<g) (hB:B≤g) (ho:Own w g 2 (r.map (Value.int .i64)).toArray) (h4:r.length=4):CoB w B (gs++[g]) (T++[r]):=
 ⟨by simp [h.len],List.pairwise_append.2 ⟨h.pw,List.pairwise_singleton _ _,fun x hx y hy=>by rw [List.mem_singleton.1 hy];exact hl x hx⟩,fun x hx=>by
  rcases List.mem_append.1 hx with h1 | h1
  · exact h.lo x h1
  · rw [List.mem_singleton.1 h1];exact ⟨hB,ho.lt⟩,fun q x s h1 h2=>by
  by_cases e:q<gs.length
  · rw [List.getElem?_append_left e] at h1;rw [List.getElem?_append_left (by rw [←h.len];exact e)] at h2;exact h.own q x s h1 h2
  · rw [List.getElem?_append_right (by omega)] at h1;rw [List.getElem?_append_right (by rw [←h.len];omega)] at h2;obtain ⟨g1,g2⟩:=List.getElem?_eq_some_iff.1 h1;obtain ⟨g3,g4⟩:=List.getElem?_eq_some_iff.1 h2;simp at g1 g2 g3 g4
    subst g2 g4
    exact ho,fun s hs=>by
  rcases List.mem_append.1 hs with h1 | h1
  · exact h.r4 s h1
  · rw [List.mem_singleton.1 h1];exact h4⟩
theorem rwC_at {i:Nat} {x:Rw} (h:(List.zipWith rwC gs T)[i]? = some x):∃g r,gs[i]? = some g∧T[i]? = some r∧x=rwC g r:=by
 rw [List.getElem?_zipWith] at h
 cases hg:gs[i]? with
 | none=>rw [hg] at h;simp at h
 | some g =>
   cases hr:T[i]? with
   | none=>rw [hg,hr] at h;simp at h
   | some r=>rw [hg,hr] at h;simp at h;exact ⟨g,r,rfl,rfl,h.symm⟩
theorem CoB.ownT {C lo c:Nat} {a:Option Addr} (h:CoB w B gs T) (ho:w.ownsRow C 22 1 (.slice a n c) n (rowsC gs)) (h1:lo≤B) (h2:lo≤C):OwnT w lo w.heap.size a n T:=by
 have hl:gs.length=n:=by have:=ho.1;rw [rowsC,List.length_map,Nat.mul_one] at this;exact this
 refine ⟨by rw [←h.len];exact hl,fun hn=>?_⟩
 rcases ho.2 with ⟨h4,h5⟩ | ⟨g,cap,cur,hv,hCg,hg,hnc,hcm,hcs,htk⟩
 · omega
 · simp only [Value.slice.injEq] at hv;obtain ⟨rfl,-,rfl⟩:=hv;have hO:Own w g 22 cur:=hg;refine ⟨g,List.zipWith rwC gs T,rfl,by omega,hO.lt,⟨by rw [List.length_zipWith,←h.len,Nat.min_self];exact hl,⟨cur,hO,fun i x hx=>?_⟩,fun i x hx hm=>?_,fun i j x y hij hx hy _ _=>?_⟩,fun x hx hm=>?_,?_,fun i x row hx hr=>?_⟩
   · obtain ⟨q,r,hq,hr,rfl⟩:=rwC_at hx;have hi:i<n:=(by have:=(List.getElem?_eq_some_iff.1 hq).1;omega);have hx2:(rowsC gs)[i]? = some (.slice (some ⟨q,0,none⟩) 4 4):=(by rw [rowsC,List.getElem?_map,hq];rfl);rw [←htk,List.getElem?_take,if_pos (by omega)] at hx2;show cur[i]? = some (Value.slice (some ⟨q,0,none⟩) 4 4)
     simpa using hx2
   · obtain ⟨q,r,hq,hr,rfl⟩:=rwC_at hx;exact ⟨rfl,h.own i q r hq hr,by simp [rwC,h.r4 r (List.mem_of_getElem? hr)]⟩
   · obtain ⟨q,r,hq,hr,rfl⟩:=rwC_at hx;obtain ⟨q',r',hq',hr',rfl⟩:=rwC_at hy;obtain ⟨e1,rfl⟩:=List.getElem?_eq_some_iff.1 hq;obtain ⟨e2,rfl⟩:=List.getElem?_eq_some_iff.1 hq';exact Nat.ne_of_lt (List.pairwise_iff_getElem.1 h.pw i j e1 e2 hij)
   · obtain ⟨i,hi,rfl⟩:=List.mem_iff_getElem.1 hx;obtain ⟨q,r,hq,hr,e⟩:=rwC_at (List.getElem?_eq_getElem hi);rw [e];have:=h.lo q (List.mem_of_getElem? hq);exact ⟨by show lo≤q;omega,this.2⟩
   · have e1:T.map List.length=List.replicate n 4:=List.eq_replicate_iff.2 ⟨by rw [List.length_map,←h.len];exact hl,fun b hb=>by obtain ⟨r,hr,rfl⟩:=List.mem_map.1 hb;exact h.r4 r hr⟩
     have e2:(List.zipWith rwC gs T).map Rw.m=List.replicate n 4:=List.eq_replicate_iff.2 ⟨by rw [List.length_map,List.length_zipWith,←h.len,Nat.min_self];exact hl,fun b hb=>by
      obtain ⟨x,hx,rfl⟩:=List.mem_map.1 hb;obtain ⟨i,hi,rfl⟩:=List.mem_iff_getElem.1 hx;obtain ⟨q,r,hq,hr,e⟩:=rwC_at (List.getElem?_eq_getElem hi)
      rw [e];rfl⟩
     rw [e1,e2]
   · obtain ⟨q,r,hq,hr2,rfl⟩:=rwC_at hx;rw [hr] at hr2;obtain rfl:=Option.some.inj hr2;have h4:=h.r4 row (List.mem_of_getElem? hr);have hw:=h.own i q row hq hr
     exact ⟨h4,fun _=>⟨q,0,rfl,hw.lt,fun k hk=>by
      rw [Nat.zero_add,hw.cell k];have hk2:k<row.length:=by have:k<4:=hk;omega
      simp [List.getD_eq_getElem?_getD,List.getElem?_eq_getElem hk2]⟩⟩
end
theorem bump_cells (m:List Int) (j:Nat):(mcells m).toArray.setIfInBounds j (.int .u8 (m.getD j 0+1))=(mcells (bump m j)).toArray:=by simp [mcells,bump,List.map_set]
theorem mcell_at {m:List Int} {j:Nat} (hm:IsMono m) (hj:j<8):(mcells m).toArray[j]? = some (.int .u8 (m.getD j 0)):=by
 have h:j<m.length:=by rw [hm.1];exact hj
 simp [mcells,List.getD_eq_getElem?_getD,List.getElem?_eq_getElem h]
theorem con_bd {n i j d t k : Nat} {ims : List (List Tm)} {qT : List Tm} (hn : n ≤ 8) (hi : i ≤ 8) (hj : j ≤ 8) (hd : d ≤ 8) (ht : t ≤ 400) (hL : ∀ im ∈ ims, im.length ≤ 400) (hq : qT.length ≤ 400) :
    (((conI n ims i++conJ n i qT j)++conK i j qT d)++conT i j k qT t).length≤300000:=by
 have h1:=(conI_fours (n:=n) hL i).2
 have h2:=(conJ_fours (n:=n) (i:=i) (ts:=qT) j).2
 have h3:=(conK_fours (i:=i) (j:=j) (ts:=qT) d).2
 have h4:=(conT_fours (i:=i) (j:=j) (k:=k) (ts:=qT) t).2
 have a1:n * 400≤8 * 400:=Nat.mul_le_mul_right _ hn
 have a2:=Nat.mul_le_mul hn a1
 have a3:=Nat.mul_le_mul hi a2
 have b1:=Nat.mul_le_mul hn hq
 have b2:=Nat.mul_le_mul hj b1
 have b3:=Nat.mul_le_mul hd hq
 rw [List.length_append,List.length_append,List.length_append]
 omega
theorem news1c (w:World) (v:Value) (t:TypeId):∀j u,([v]:List Value)[j]? = some u→(w.alloc (.cells #[v] t)).cell? ((⟨w.heap.size,0,none⟩:Addr).add j)=some u:=fun j u hu=>by
 rw [Addr.add_mid]
 exact (Own.new w t #[v]).range j u hu
structure CoI (w wr:World) (lo:Nat) (AC:Array Value) (gQ:Nat) (qa:Option Addr) (qn qc:Nat) (qT:List Tm) (oa:Option Addr) (oc:Nat) (gs:List Nat) (T:List (List Int)):Prop where
 b:Below lo w wr
 sz:lo≤wr.heap.size
 al:Own wr lo 33 AC
 q:Own wr gQ 61 #[.slice qa qn qc]
 r:OwnR wr lo (.slice qa qn qc) qT
 rw_:wr.ownsRow lo 22 1 (.slice oa gs.length oc) gs.length (rowsC gs)
 co:CoB wr lo gs T
section
variable {w wr w':World} {lo gQ qn qc oc:Nat} {AC:Array Value} {qa oa:Option Addr} {qT:List Tm} {gs:List Nat} {T:List (List Int)}
theorem CoI.keep (h:CoI w wr lo AC gQ qa qn qc qT oa oc gs T) (hb:Below wr.heap.size wr w'):CoI w w' lo AC gQ qa qn qc qT oa oc gs T:=
 ⟨bT' h.b hb h.sz,Nat.le_trans h.sz hb.size,h.al.keep hb h.al.lt,h.q.keep hb h.q.lt,h.r.keep hb,World.ownsRow.kept h.rw_ (row:=none) ⟨hb.os,hb.tape,hb.output,hb.size,fun j hj _=>hb.block j hj⟩ (by cases oa <;> simp [Value.ownBlock]),h.co.keep hb⟩
theorem CoI.push {r : List Int} {v' : Value} (h : CoI w wr lo AC gQ qa qn qc qT oa oc gs T) (h4 : r.length = 4)
    (h2:w'.ownsRow lo 22 1 v' (gs.length+1) (rowsC gs++[.slice (some ⟨wr.heap.size,0,none⟩) 4 4]))
    (h3:((wr.alloc (.cells (r.map (Value.int .i64)).toArray 2)).alloc (.cells #[.slice (some ⟨wr.heap.size,0,none⟩) 4 4] 22)).grownBy w' (Value.slice oa gs.length oc).ownBlock) :
    ∃xa xc,v'=.slice xa (gs++[wr.heap.size]).length xc∧CoI w w' lo AC gQ qa qn qc qT xa xc (gs++[wr.heap.size]) (T++[r])∧∀gM tM cM,Own wr gM tM cM→tM≠22→Own w' gM tM cM:=by
 have hb:=bTn (bA1 wr (.cells (r.map (Value.int .i64)).toArray 2)) (bA1 _ (.cells #[.slice (some ⟨wr.heap.size,0,none⟩) 4 4] 22))
 have hO:=(Own.new wr 2 (r.map (Value.int .i64)).toArray).alloc (.cells #[.slice (some ⟨wr.heap.size,0,none⟩) 4 4] 22)
 have h5:=h.keep hb
 have hC:=h5.co.snoc (g:=wr.heap.size) (r:=r) (fun x hx=>(h.co.lo x hx).2) h.sz hO h4
 obtain ⟨xa,xc,rfl⟩:=row_slice h2
 refine ⟨xa,xc,by simp,⟨grown_below h5.b h3 (fun j e=>(h5.rw_.lt j e).1) h5.sz,Nat.le_trans h5.sz h3.size,h5.al.grown h3 (own_ne_row h5.al h5.rw_ (by decide)),h5.q.grown h3 (own_ne_row h5.q h5.rw_ (by decide)),?_,?_,hC.grown h5.rw_ h3⟩,fun gM tM cM hM ht=>?_⟩
 · refine World.ownsRow.kept h5.r h3 ?_
   cases hv:(Value.slice qa qn qc).ownBlock with
   | none=>exact Or.inl rfl
   | some b=>exact Or.inr (fun e=>Apt.types h5.r h5.rw_ (by decide) b hv e.symm)
 · rw [rowsC,List.map_append,List.length_append];exact h2
 · have hM2:=hM.keep hb hM.lt;exact hM2.grown h3 (own_ne_row hM2 h5.rw_ ht)
end
end Go.Proofs.Ytikldofmpkidbaa
