
import Derived.Test.YtikldofmpkidbaaMonoB
import Derived.Test.YtikldofmpkidbaaIsAlg
import Derived.Test.YtikldofmpkidbaaRedG
import Derived.Test.YtikldofmpkidbaaAddM
import Derived.Test.YtikldofmpkidbaaResult
import Derived.Test.YtikldofmpkidbaaHeld
import Derived.Test.YtikldofmpkidbaaKeep
import Derived.Test.YtikldofmpkidbaaFree
import Derived.Laws.Cover3
import Derived.Test.YtikldofmpkidbaaSingle
import Derived.Test.YtikldofmpkidbaaAlgS
import Derived.Test.YtikldofmpkidbaaTimesM
namespace Go.Proofs.Ytikldofmpkidbaa
open Go.RowKit Go.Deep
def down {α:Type} (f:Nat→List α):Nat→List α
 | 0=>[]
 | k+1=>f k++down f k
def gx (d:Int):Nat:=if odd d then 1 else 20
def mons:List Int→Nat→List (List Int)
 | [],n=>if n=0 then [[]] else []
 | d::zs,n=>down (fun e=>(mons zs (n - e * d.toNat)).map ((e:Int)::·)) (min (gx d) (n / d.toNat)+1)
def cnt (zs:List Int) (n:Nat):Nat:=(mons zs n).length
def cntR (zs:List Int) (r:Nat):List Int:=(List.range (r+1)).map fun s=>(cnt zs s:Int)
structure Deg1 (zs k:List Int) (N:Int):Prop where
 wt:_root_.Go.Proofs.Ytikldofmpkidbaa.wt zs k=N
 odd1:∀(j:Nat) (z y:Int),zs[j]? = some z→k[j]? = some y→odd z=true→y≤1
 tail:Tail0 k zs.length
theorem wtTo_ge {zs m:List Int} (hz:∀z∈zs,1≤z) (hm:∀x∈m,0≤x):∀j,0≤wtTo zs m j∧∀i,i<j→zs.getD i 0 * m.getD i 0≤wtTo zs m j
 | 0=>⟨by simp [wtTo],fun i h=>absurd h (by omega)⟩
 | j + 1 => by
   obtain ⟨h1,h2⟩:=wtTo_ge hz hm j
   have g:∀(l:List Int) (i:Nat),(∀x∈l,0≤x)→0≤l.getD i 0:=fun l i hl=>by
    rw [List.getD_eq_getElem?_getD]
    cases h:l[i]? with
    | none=>simp
    | some x=>simpa using hl x (List.mem_of_getElem? h)
   have h3:0≤zs.getD j 0 * m.getD j 0:=Int.mul_nonneg (g zs j (fun z hzz=>by have:=hz z hzz;omega)) (g m j hm);rw [wtTo];refine ⟨by omega,fun i hi=>?_⟩;by_cases e:i=j
   · subst e;omega
   · have:=h2 i (by omega);omega
theorem Deg1.ok {zs k:List Int} {N:Int} (h:Deg1 zs k N) (hz:∀z∈zs,1≤z) (_h8:zs.length≤8) (hk:IsMono k) (hN:N≤41):monoOk zs k=true:=by
 rw [monoOk,List.all_eq_true]
 intro i hi
 have hi8:i<8:=by simpa using hi
 obtain ⟨y,hy0,-,-,HY⟩:=mono_at hk hi8
 cases hzi:zs[i]? with
 | none =>
   have hle:=List.getElem?_eq_none_iff.1 hzi;have:=h.tail i hle hi8;rw [HY.out,Option.some.injEq] at this;rw [fits_out hle HY.out,decide_eq_true_eq];omega
 | some z =>
   have hlt:=(List.getElem?_eq_some_iff.1 hzi).1;rw [fits_in hzi HY.out,decide_eq_true_eq]
   cases ho:odd z with
   | true =>
     simpa using h.odd1 i z y hzi HY.out ho
   | false =>
     have h1:=(wtTo_ge hz (fun x hx=>(hk.2 x hx).1) zs.length).2 i hlt;rw [show wtTo zs k zs.length=_root_.Go.Proofs.Ytikldofmpkidbaa.wt zs k from rfl,h.wt,List.getD_eq_getElem?_getD,List.getD_eq_getElem?_getD,hzi,HY.out] at h1;simp only [Option.getD_some] at h1;have hz1:=hz z (List.mem_of_getElem? hzi)
     have hz2:2≤z:=by
      have hne:¬z=1:=fun e=>(by subst e;revert ho;decide);omega
     have h2:2 * y≤z * y:=Int.mul_le_mul_of_nonneg_right hz2 hy0;simp
     omega
def tabC (gf:Nat→Nat) (lo n r:Nat):List Value:=(List.range (n+1)).map fun j=>if lo≤j then Value.slice (some ⟨gf j,0,none⟩) (r+1) (r+1) else .slice none 0 0
def ofI (zs:List Int):Array Value:=(zs.map (Value.int .i64)).toArray
def upd (gf:Nat→Nat) (i q:Nat) (j:Nat):Nat:=if j=i then q else gf j
structure CntT (w:World) (g:Nat) (gf:Nat→Nat) (lo n r:Nat) (zs:List Int):Prop where
 own:Own w g 22 (tabC gf lo n r).toArray
 row:∀j,lo≤j→j≤n→Own w (gf j) 2 (ofI (cntR (zs.drop j) r))
theorem own_neC {w:World} {g g':Nat} {t t':TypeId} {cs cs':Array Value} (h:Own w g t cs) (h':Own w g' t' cs') (hne:t≠t'):g≠g':=fun e=>by
 subst e
 have:=h.symm.trans h'
 simp only [Option.some.injEq,Obj.cells.injEq] at this
 exact hne this.2.1
theorem CntT.keep {w w':World} {g:Nat} {gf:Nat→Nat} {lo n r:Nat} {zs:List Int} (h:CntT w g gf lo n r zs) (hb:Below w.heap.size w w'):CntT w' g gf lo n r zs:=
 ⟨h.own.keep hb h.own.lt,fun j h1 h2=>(h.row j h1 h2).keep hb (h.row j h1 h2).lt⟩
theorem CntT.put {w:World} {g q:Nat} {gf:Nat→Nat} {lo n r:Nat} {zs:List Int} (h:CntT w g gf (lo+1) n r zs) (hn:lo≤n) (hq:∀j,lo+1≤j→j≤n→gf j≠q) (ho:Own w q 2 (ofI (cntR (zs.drop lo) r))) (hO:Own w g 22 (tabC (upd gf lo q) lo n r).toArray):CntT w g (upd gf lo q) lo n r zs:=by
 refine ⟨hO,fun j h1 h2=>?_⟩
 by_cases e:j=lo
 · subst e;simpa [upd] using ho
 · have:upd gf lo q j=gf j:=(by simp [upd,e]);rw [this];exact h.row j (by omega) h2
theorem row_keep {w w':World} {B sz n:Nat} {t:TypeId} {v:Value} {xs:List Value} (h:w.ownsRow B t sz v n xs) (hb:Below w.heap.size w w'):w'.ownsRow B t sz v n xs:=
 World.ownsRow.kept h (row:=none) ⟨hb.os,hb.tape,hb.output,hb.size,fun k hk _=>hb.block k hk⟩ (by cases h0:v.ownBlock <;> simp)
def mrowsV (X:List (List Int)):List Value:=X.flatMap mcells
theorem mrowsV_app (X Y:List (List Int)):mrowsV (X++Y)=mrowsV X++mrowsV Y:=by simp [mrowsV]
theorem mrowsV_one (m:List Int):mrowsV [m]=mcells m:=by simp [mrowsV]
theorem CntT.grown {w w':World} {g B n' sz:Nat} {gf:Nat→Nat} {lo n r:Nat} {zs:List Int} {v:Value} {xs:List Value} (h:CntT w g gf lo n r zs) (ho:w.ownsRow B 86 sz v n' xs) (hg:w.grownBy w' v.ownBlock):CntT w' g gf lo n r zs:=
 ⟨h.own.grown hg (own_ne_row h.own ho (by decide)),fun j h1 h2=>(h.row j h1 h2).grown hg (own_ne_row (h.row j h1 h2) ho (by decide))⟩
theorem CntT.far {w:World} {g:Nat} {gf:Nat→Nat} {lo n r:Nat} {zs:List Int} {p:Addr} {t:TypeId} {cs:Array Value} (h:CntT w g gf lo n r zs) (ho:Own w p.block t cs) (h1:22≠t) (h2:2≠t) (u:Value):CntT (w.setCell p u) g gf lo n r zs:=
 ⟨h.own.far (own_neC h.own ho h1) u,fun j k1 k2=>(h.row j k1 k2).far (own_neC (h.row j k1 k2) ho h2) u⟩
theorem FG.far {w w':World} {v v':Value} {p:Addr} (h:FG w w' v v') (hp:w.heap.size≤p.block) (u:Value):FG w (w'.setCell p u) v v':=
 ⟨h.b.setCell (Nat.zero_le _) u,fun i hi hv=>(Below.heap_setCell w' p u i (by omega)).trans (h.k i hi hv),h.r⟩
theorem FG.drew {w w':World} {v v':Value} (h:FG w w' v v'):FG w w'.drew v v':=⟨h.b.drew,h.k,h.r⟩
def OwnM (w:World) (lo hi:Nat) (a:Option Addr) (n:Nat) (V:List (List Int)):Prop:=
 V.length=n∧(∀m∈V,IsMono m)∧(0<n→∃g cs,a=some ⟨g,0,none⟩∧lo≤g∧g<hi∧Own w g 86 cs∧n * 8≤cs.size∧∀(j:Nat) (v:Value),(mrowsV V)[j]? = some v→cs[j]? = some v)
theorem OwnM.none_ {w:World} {lo hi:Nat}:OwnM w lo hi none 0 []:=⟨rfl,by simp,fun h=>absurd h (by omega)⟩
theorem OwnM.keep {w w':World} {lo hi n:Nat} {a:Option Addr} {V:List (List Int)} (h:OwnM w lo hi a n V) (hb:Below w.heap.size w w'):OwnM w' lo hi a n V:=
 ⟨h.1,h.2.1,fun hn=>by obtain ⟨g,cs,h1,h2,h3,h4,h5⟩:=h.2.2 hn;exact ⟨g,cs,h1,h2,h3,h4.keep hb h4.lt,h5⟩⟩
theorem OwnM.touch {w w':World} {lo hi n:Nat} {a:Option Addr} {V:List (List Int)} {p:Nat→Prop} (h:OwnM w lo hi a n V) (ht:Touch p w w') (hp:∀g,lo≤g→g<hi→¬p g):OwnM w' lo hi a n V:=
 ⟨h.1,h.2.1,fun hn=>by obtain ⟨g,cs,h1,h2,h3,h4,h5⟩:=h.2.2 hn;exact ⟨g,cs,h1,h2,h3,ht.own h4 (hp g h2 h3),h5⟩⟩
theorem OwnM.weaken {w:World} {lo hi n:Nat} {a:Option Addr} {V:List (List Int)} {lo' hi':Nat} (h:OwnM w lo hi a n V) (h1:lo'≤lo) (h2:hi≤hi'):OwnM w lo' hi' a n V:=
 ⟨h.1,h.2.1,fun hn=>by obtain ⟨g,cs,e,h3,h4,h5⟩:=h.2.2 hn;exact ⟨g,cs,e,by omega,by omega,h5⟩⟩
theorem mrowsV_len {V:List (List Int)} (h:∀m∈V,IsMono m):(mrowsV V).length=V.length * 8:=by
 induction V with
 | nil=>rfl
 | cons m V ih =>
   have h1:=ih (fun x hx=>h x (by simp [hx]));have h2:=(h m (by simp)).1;rw [show m::V=[m]++V from rfl,mrowsV_app,mrowsV_one,List.length_append,mcells_length,h1,h2,List.length_append,List.length_singleton];omega
theorem OwnM.of_row {w:World} {B n:Nat} {v:Value} {V:List (List Int)} (h:w.ownsRow B 86 8 v n (mrowsV V)) (hV:∀m∈V,IsMono m):∃a c,v=.slice a n c∧OwnM w B w.heap.size a n V:=by
 have hl:V.length=n:=by have:=mrowsV_len hV;have:=h.1;omega
 rcases h.2 with ⟨hv,h0⟩ | ⟨g,cap,cur,hv,hb,hg,hn,_,hs,ht⟩
 · subst h0;exact ⟨none,0,hv,hl,hV,fun hp=>absurd hp (by omega)⟩
 · have ho:Own w g 86 cur:=hg;refine ⟨some ⟨g,0,none⟩,cap,hv,hl,hV,fun _=>⟨g,cur,rfl,hb,ho.lt,ho,by rw [hs];exact Nat.mul_le_mul_right _ hn,fun j u hu=>?_⟩⟩;have hj:=(List.getElem?_eq_some_iff.1 hu).1;rw [←ht] at hu hj;rw [List.getElem?_take] at hu;split at hu
   · rw [Array.getElem?_toList] at hu;exact hu
   · cases hu
def Mos (w:World) (a:Option Addr) (n:Nat) (V:List (List Int)):Prop:=
 V.length=n∧(∀m∈V,IsMono m)∧(0<n→∃b off,a=some ⟨b,off,none⟩∧b<w.heap.size∧w.rangeAt b off (mrowsV V))
theorem Mos.keep {w w':World} {a:Option Addr} {n:Nat} {V:List (List Int)} (h:Mos w a n V) (hb:Below w.heap.size w w'):Mos w' a n V:=
 ⟨h.1,h.2.1,fun hn=>by
  obtain ⟨b,off,ha,hlt,hc⟩:=h.2.2 hn
  exact ⟨b,off,ha,Nat.lt_of_lt_of_le hlt hb.size,rgK hc (hb.block b hlt)⟩⟩
theorem mrowsV_get {V:List (List Int)} (h:∀m∈V,IsMono m):∀{k j:Nat} {m:List Int} {v:Value},V[k]? = some m→(mcells m)[j]? = some v→(mrowsV V)[k * 8+j]? = some v:=by
 induction V with
 | nil=>intro k j m v hm _;simp at hm
 | cons x V ih =>
   intro k j m v hm hv;have h8:=(h x (by simp)).1;rw [show x::V=[x]++V from rfl,mrowsV_app,mrowsV_one]
   cases k with
   | zero =>
     simp only [List.getElem?_cons_zero,Option.some.injEq] at hm;subst hm;rw [Nat.zero_mul,Nat.zero_add,List.getElem?_append_left (List.getElem?_eq_some_iff.1 hv).1];exact hv
   | succ k =>
     rw [List.getElem?_cons_succ] at hm;rw [List.getElem?_append_right (by rw [mcells_length];omega),mcells_length,h8,show (k+1) * 8+j - 8=k * 8+j by omega];exact ih (fun y hy=>h y (by simp [hy])) hm hv
theorem Mos.at_ {w:World} {a:Option Addr} {n:Nat} {V:List (List Int)} (h:Mos w a n V) {k:Nat} (hk:k<n):∃b off m,a=some ⟨b,off,none⟩∧b<w.heap.size∧w.rangeAt b (off+k * 8) (mcells m)∧IsMono m∧Hid (V[k]? = some m):=by
 obtain ⟨b,off,ha,hb,hr⟩:=h.2.2 (by omega)
 have hx:V[k]? = some (V[k]'(by have:=h.1;omega)):=List.getElem?_eq_getElem (by have:=h.1;omega)
 refine ⟨b,off,_,ha,hb,fun j v hv=>?_,h.2.1 _ (List.mem_of_getElem? hx),hx⟩
 have:=hr (k * 8+j) v (mrowsV_get h.2.1 hx hv)
 rwa [←Nat.add_assoc] at this
theorem OwnM.block {w : World} {lo hi n : Nat} {a : Option Addr} {V : List (List Int)} {gx : Nat} {tx : TypeId} {csx : Array Value} (h : OwnM w lo hi a n V) (hx : Own w gx tx csx) :
    ∃g t cs,Own w g t cs∧n * 8≤cs.size∧(0<n→a=some ⟨g,0,none⟩)∧(g=gx∨(lo≤g∧g<hi)):=by
 by_cases hn:0<n
 · obtain ⟨g,cs,e,h1,h2,h3,h4,-⟩:=h.2.2 hn;exact ⟨g,_,cs,h3,h4,fun _=>e,Or.inr ⟨h1,h2⟩⟩
 · exact ⟨gx,_,csx,hx,by omega,fun hh=>absurd hh hn,Or.inl rfl⟩
def Ord (V:List (List Int)):Prop:=V.Pairwise fun m k=>before m k=true
theorem Ord.lt {V:List (List Int)} (h:Ord V) {i j:Nat} {m k:List Int} (hi:V[i]? = some m) (hj:V[j]? = some k) (hij:i<j):cmpM m k=-1:=by
 obtain ⟨h1,e1⟩:=List.getElem?_eq_some_iff.1 hi
 obtain ⟨h2,e2⟩:=List.getElem?_eq_some_iff.1 hj
 have:=List.pairwise_iff_getElem.1 h i j h1 h2 hij
 rw [e1,e2,before,decide_eq_true_eq] at this
 exact this
theorem Ord.cmp {V:List (List Int)} (h:Ord V) {i j:Nat} {m k:List Int} (hi:V[i]? = some m) (hj:V[j]? = some k):cmpM k m=if j<i then -1 else if j=i then 0 else 1:=by
 by_cases h1:j<i
 · rw [if_pos h1];exact h.lt hj hi h1
 · rw [if_neg h1];by_cases h2:j=i
   · subst h2;rw [hi,Option.some.injEq] at hj;subst hj;rw [if_pos rfl,cmpM_self]
   · rw [if_neg h2,cmpM_turn m k,h.lt hi hj (by omega)];decide
theorem Ord.inj {V:List (List Int)} (h:Ord V) {i j:Nat} {m:List Int} (hi:V[i]? = some m) (hj:V[j]? = some m):i=j:=by
 have h1:=h.cmp hi hj
 rw [cmpM_self] at h1
 split at h1
 · omega
 · split at h1
   · omega
   · omega
end Go.Proofs.Ytikldofmpkidbaa
