
import Derived.Test.YtfheammnkmjabaaGreatAlgS
import Derived.Deep.DeepAppendWide
import Derived.Deep.RegionWith
import Derived.Laws.AppendOwnNone
namespace Go.Proofs.YtfheammnkmjabaaGreat
open Go.RowKit Go.Deep
theorem Tryz.info_intA:∃i z,Tryz.prog.info? 2=some i∧i.zero=some z∧i.size=1∧i.bytes=8∧z.cells.size=1:=by
 obtain ⟨i,hi,hzz⟩:=Option.map_eq_some_iff.1 Tryz.info_int64
 simp only [Prod.mk.injEq] at hzz
 obtain ⟨hz,hs,hb⟩:=hzz
 exact ⟨i,_,hi,hz,hs,hb,rfl⟩
def OwnV (w:World) (lo hi:Nat) (a:Option Addr) (n:Nat) (V:List Int):Prop:=V.length=n∧(0<n→∃g cs,a=some ⟨g,0,none⟩∧lo≤g∧g<hi∧Own w g 2 cs∧n≤cs.size∧∀i,i<n→cs[i]? = some (.int .i64 (V.getD i 0)))
section
variable {w w':World} {lo hi n:Nat} {a:Option Addr} {V:List Int}
theorem OwnV.none_:OwnV w lo hi none 0 []:=⟨rfl,fun h=>absurd h (by omega)⟩
theorem OwnV.keep (h:OwnV w lo hi a n V) (hb:Below w.heap.size w w'):OwnV w' lo hi a n V:=
 ⟨h.1,fun hn=>by obtain ⟨g,cs,h1,h2,h3,h4,h5⟩:=h.2 hn;exact ⟨g,cs,h1,h2,h3,h4.keep hb h4.lt,h5⟩⟩
theorem OwnV.touch {p:Nat→Prop} (h:OwnV w lo hi a n V) (ht:Touch p w w') (hp:∀g,lo≤g→g<hi→¬p g):OwnV w' lo hi a n V:=
 ⟨h.1,fun hn=>by obtain ⟨g,cs,h1,h2,h3,h4,h5⟩:=h.2 hn;exact ⟨g,cs,h1,h2,h3,ht.own h4 (hp g h2 h3),h5⟩⟩
theorem OwnV.ints (h:OwnV w lo hi a n V):Ints w a n V:=
 ⟨h.1,fun hn=>by
  obtain ⟨g,cs,rfl,h2,h3,h4,h5,h6⟩:=h.2 hn
  exact ⟨g,0,rfl,h4.lt,fun i hi=>by rw [Nat.zero_add,h4.cell i];exact h6 i hi⟩⟩
theorem OwnV.weaken {lo' hi':Nat} (h:OwnV w lo hi a n V) (h1:lo'≤lo) (h2:hi≤hi'):OwnV w lo' hi' a n V:=
 ⟨h.1,fun hn=>by obtain ⟨g,cs,e,h3,h4,h5⟩:=h.2 hn;exact ⟨g,cs,e,by omega,by omega,h5⟩⟩
theorem OwnV.block {gx : Nat} {csx : Array Value} (h : OwnV w lo hi a n V) (hx : Own w gx 2 csx) :
    ∃g cs,Own w g 2 cs∧n≤cs.size∧(0<n→a=some ⟨g,0,none⟩)∧(g=gx∨(lo≤g∧g<hi)):=by
 by_cases hn:0<n
 · obtain ⟨g,cs,e,h1,h2,h3,h4,-⟩:=h.2 hn;exact ⟨g,cs,h3,h4,fun _=>e,Or.inr ⟨h1,h2⟩⟩
 · exact ⟨gx,csx,hx,by omega,fun hh=>absurd hh hn,Or.inl rfl⟩
theorem OwnV.of_row {B:Nat} {v:Value} (h:w.ownsRow B 2 1 v n (V.map (Value.int .i64))):∃a c,v=.slice a n c∧OwnV w B w.heap.size a n V:=by
 have hl:V.length=n:=by simpa using h.1
 have hc:=fun g=>World.ownsRow.cells (g:=g) h
 rcases h.2 with ⟨hv,h0⟩ | ⟨g,cap,cur,hv,hb,hg,hn,_,hs,_⟩
 · have h00:n=0:=(by simpa using h0);subst h00;exact ⟨none,0,hv,hl,fun hp=>absurd hp (by omega)⟩
 · have ho:Own w g 2 cur:=hg;refine ⟨some ⟨g,0,none⟩,cap,hv,hl,fun _=>⟨g,cur,rfl,hb,ho.lt,ho,by omega,fun i hi=>?_⟩⟩;have h1:=hc g (by rw [hv];rfl) i (.int .i64 (V.getD i 0)) (by rw [List.getElem?_map,getD_of (by omega)];rfl);rw [Addr.add_mid,ho.cell] at h1
   rwa [Nat.zero_add] at h1
end
theorem rep_get (n i:Nat) (h:i<n) (v:Value):(Array.replicate n v)[i]? = some v:=by simp [h]
def OwnE (w:World) (lo hi:Nat) (a:Option Addr) (n:Nat):Prop:=0<n→∃g,a=some ⟨g,0,none⟩∧lo≤g∧g<hi∧Own w g 53 (Array.replicate n (Value.slice none 0 0))
theorem OwnE.keep {w w':World} {lo hi n:Nat} {a:Option Addr} (h:OwnE w lo hi a n) (hb:Below w.heap.size w w'):OwnE w' lo hi a n:=
 fun hn=>by obtain ⟨g,h1,h2,h3,h4⟩:=h hn;exact ⟨g,h1,h2,h3,h4.keep hb h4.lt⟩
theorem OwnE.weaken {w:World} {lo hi lo' hi' n:Nat} {a:Option Addr} (h:OwnE w lo hi a n) (h1:lo'≤lo) (h2:hi≤hi'):OwnE w lo' hi' a n:=
 fun hn=>by obtain ⟨g,e,h3,h4,h5⟩:=h hn;exact ⟨g,e,by omega,by omega,h5⟩
theorem OwnE.touch {p:Nat→Prop} {w w':World} {lo hi n:Nat} {a:Option Addr} (h:OwnE w lo hi a n) (ht:Touch p w w') (hp:∀g,lo≤g→g<hi→¬p g):OwnE w' lo hi a n:=
 fun hn=>by obtain ⟨g,h1,h2,h3,h4⟩:=h hn;exact ⟨g,h1,h2,h3,ht.own h4 (hp g h2 h3)⟩
theorem OwnE.frms {w:World} {lo hi n:Nat} {a:Option Addr} (h:OwnE w lo hi a n):Frms w a n (List.replicate n []):=by
 refine ⟨by simp,fun hn=>?_⟩
 obtain ⟨g,rfl,-,-,ho⟩:=h hn
 refine ⟨g,0,rfl,ho.lt,fun i ts hi=>?_⟩
 have hl:i<n:=by have:=(List.getElem?_eq_some_iff.1 hi).1;simpa using this
 obtain rfl:ts=[]:=by rw [List.getElem?_replicate,if_pos hl] at hi;injection hi with hi;exact hi.symm
 refine ⟨none,0,0,?_,⟨rfl,fun t ht=>absurd ht (by simp),fun hp=>absurd hp (by omega)⟩,by omega⟩
 rw [Nat.zero_add,ho.cell i]
 exact rep_get n i hl _
def markO (mk:Nat→Value) (cs:Array Value) (o p:Nat):Array Value:=(Array.range cs.size).map fun i=>if o≤i∧i<o+p then mk (i - o) else cs.getD i undef
theorem markO_size (mk:Nat→Value) (cs:Array Value) (o p:Nat):(markO mk cs o p).size=cs.size:=by simp [markO]
theorem markO_get {mk:Nat→Value} {cs:Array Value} {o p i:Nat} (hi:i<cs.size):(markO mk cs o p)[i]? = some (if o≤i∧i<o+p then mk (i - o) else cs.getD i undef):=by
 simp [markO,hi]
theorem markO_in {mk:Nat→Value} {cs:Array Value} {o p j:Nat} (hi:o+p≤cs.size) (hj:j<p):(markO mk cs o p)[o+j]? = some (mk j):=by
 rw [markO_get (by omega),if_pos (by omega),Nat.add_sub_cancel_left]
theorem markO_out {mk:Nat→Value} {cs:Array Value} {o p i:Nat} (h:i<o∨o+p≤i):(markO mk cs o p)[i]? = cs[i]? := by
 by_cases hi:i<cs.size
 · rw [markO_get hi,if_neg (by omega)];simp [hi]
 · rw [Array.getElem?_eq_none (by rw [markO_size];omega),Array.getElem?_eq_none (by omega)]
structure Fw where
 a:Option Addr
 m:Nat
 c:Nat
 g:Nat
 o:Nat
def FwApart (r s:Fw):Prop:=r.g≠s.g∨r.o+r.m * 9≤s.o∨s.o+s.m * 9≤r.o
structure Fls (w:World) (g n:Nat) (R:List Fw):Prop where
 len:R.length=n
 own:∃os:Array Value,Own w g 53 os∧∀(i:Nat) r,R[i]? = some r→os[i]? = some (Value.slice r.a r.m r.c)
 each:∀(i:Nat) r,R[i]? = some r→0<r.m→r.a=some ⟨r.g,r.o,none⟩∧∃cs,Own w r.g 80 cs∧r.o+r.m * 9≤cs.size
 apart:∀(i j:Nat) r s,i<j→R[i]? = some r→R[j]? = some s→0<r.m→0<s.m→FwApart r s
theorem Fls.keep {w w':World} {g n:Nat} {R:List Fw} (h:Fls w g n R) (hb:Below w.heap.size w w'):Fls w' g n R:=
 ⟨h.len,by obtain ⟨os,h1,h2⟩:=h.own;exact ⟨os,h1.keep hb h1.lt,h2⟩,fun i r h1 h2=>by obtain ⟨h3,cs,h4,h5⟩:=h.each i r h1 h2;exact ⟨h3,cs,h4.keep hb h4.lt,h5⟩,h.apart⟩
theorem Fls.touch {p:Nat→Prop} {w w':World} {g n:Nat} {R:List Fw} (h:Fls w g n R) (ht:Touch p w w') (hg:¬p g) (hp:∀r∈R,0<r.m→¬p r.g):Fls w' g n R:=
 ⟨h.len,by obtain ⟨os,h1,h2⟩:=h.own;exact ⟨os,ht.own h1 hg,h2⟩,fun i r h1 h2=>by obtain ⟨h3,cs,h4,h5⟩:=h.each i r h1 h2;exact ⟨h3,cs,ht.own h4 (hp r (List.mem_of_getElem? h1) h2),h5⟩,h.apart⟩
theorem Fls.row {w:World} {g n:Nat} {R:List Fw} (h:Fls w g n R) {k:Nat} {r:Fw} (hr:R[k]? = some r):w.cell? ⟨g,k,none⟩=some (.slice r.a r.m r.c):=by
 obtain ⟨os,h1,h2⟩:=h.own
 rw [h1.cell k]
 exact h2 k r hr
def totF (R:List Fw):Nat:=(R.map Fw.m).sum
def MarkF (w:World) (K:Int) (R:List Fw) (k:Nat):Prop:=∀(i:Nat) r,i<k→R[i]? = some r→∀j,j<r.m * 9→w.cell? ⟨r.g,r.o+j,none⟩=some (mkT (K+(totF (R.take i) * 9:Nat)) j)
theorem MarkF.zero {w:World} {K:Int} {R:List Fw}:MarkF w K R 0:=fun i r h=>absurd h (by omega)
theorem MarkF.keep {w w':World} {K:Int} {R:List Fw} {k g n:Nat} (h:MarkF w K R k) (hF:Fls w g n R) (hb:Below w.heap.size w w'):MarkF w' K R k:=fun i r hi hr j hj=>by
 obtain ⟨-,cs,h4,-⟩:=hF.each i r hr (by omega)
 exact (World.cell?_of_block (a:=⟨r.g,r.o+j,none⟩) (hb.block r.g h4.lt)).trans (h i r hi hr j hj)
theorem Fls.ne {w:World} {g n:Nat} {R:List Fw} (h:Fls w g n R) {k:Nat} {r:Fw} (hr:R[k]? = some r) (hp:0<r.m):g≠r.g:=fun e=>by
 obtain ⟨os,h1,-⟩:=h.own
 obtain ⟨-,cs,h4,-⟩:=h.each k r hr hp
 have hne:(53:TypeId)≠80:=by decide
 refine hne ?_
 have q:some (Obj.cells os 53 (0,0))=some (Obj.cells cs 80 (0,0)):=(show w.heap[g]? = _ from h1).symm.trans (show w.heap[g]? = _ by rw [e];exact h4)
 cases q
theorem MarkF.step {w w' : World} {g n k : Nat} {R : List Fw} {r : Fw} {K : Int} {cs : Array Value} (hM : MarkF w K R k) (h : Fls w g n R) (hr : R[k]? = some r) (hp : 0 < r.m)
    (hc:Own w r.g 80 cs) (hs:r.o+r.m * 9≤cs.size) (ho:Only r.g w w') (hm:Own w' r.g 80 (markO (mkT (K+(totF (R.take k) * 9:Nat))) cs r.o (r.m * 9))):MarkF w' K R (k+1):=by
 intro i s hi hs0 j hj
 by_cases hik:i=k
 · subst hik;rw [hr] at hs0
   injection hs0 with hs0
   subst hs0;rw [hm.cell,markO_in hs hj]
 · have h1:=hM i s (by omega) hs0 j hj;by_cases e:s.g=r.g
   · have h2:=h.apart i k s r (by omega) hs0 hr (by omega) hp
     have h3:r.o+r.m * 9≤s.o∨s.o+s.m * 9≤r.o:=by
      rcases h2 with h2 | h2 | h2
      · exact absurd e h2
      · exact Or.inr h2
      · exact Or.inl h2
     rw [e] at h1 ⊢;rw [hm.cell,markO_out (by omega),←hc.cell];exact h1
   · exact (World.cell?_of_block (a:=⟨s.g,s.o+j,none⟩) (ho.other s.g e)).trans h1
def OwnF (w:World) (lo hi:Nat) (a:Option Addr) (n:Nat) (V:List (List Tm)):Prop:=
 V.length=n∧(0<n→∃g R,a=some ⟨g,0,none⟩∧lo≤g∧g<hi∧Fls w g n R∧(∀r∈R,0<r.m→lo≤r.g∧r.g<hi)∧∀(i:Nat) r ts,R[i]? = some r→V[i]? = some ts→Terms w r.a r.m ts)
section
variable {w w':World} {lo hi n:Nat} {a:Option Addr} {V:List (List Tm)}
theorem OwnF.none_:OwnF w lo hi none 0 []:=⟨rfl,fun h=>absurd h (by omega)⟩
theorem OwnF.keep (h:OwnF w lo hi a n V) (hb:Below w.heap.size w w'):OwnF w' lo hi a n V:=
 ⟨h.1,fun hn=>by
  obtain ⟨g,R,h1,h2,h3,h4,h5,h7⟩:=h.2 hn
  exact ⟨g,R,h1,h2,h3,h4.keep hb,h5,fun i r ts hr hv=>(h7 i r ts hr hv).keep hb⟩⟩
theorem OwnF.weaken {lo' hi':Nat} (h:OwnF w lo hi a n V) (k1:lo'≤lo) (k2:hi≤hi'):OwnF w lo' hi' a n V:=
 ⟨h.1,fun hn=>by
  obtain ⟨g,R,h1,h2,h3,h4,h5,h6⟩:=h.2 hn
  exact ⟨g,R,h1,by omega,by omega,h4,fun r hr hm=>by have:=h5 r hr hm;omega,h6⟩⟩
theorem terms_touch {p:Nat→Prop} {b o m:Nat} {ts:List Tm} (h:Terms w (some ⟨b,o,none⟩) m ts) (ht:Touch p w w') (hp:¬p b):Terms w' (some ⟨b,o,none⟩) m ts:=
 ⟨h.1,h.2.1,fun hm=>by
  obtain ⟨b',o',e,hb,hc⟩:=h.2.2 hm
  injection e with e
  injection e with e1 e2
  subst e1 e2
  exact ⟨b,o,rfl,Nat.lt_of_lt_of_le hb ht.below.size,rgK hc (ht.other b hb hp)⟩⟩
theorem OwnF.touch {p:Nat→Prop} (h:OwnF w lo hi a n V) (ht:Touch p w w') (hp:∀g,lo≤g→g<hi→¬p g):OwnF w' lo hi a n V:=
 ⟨h.1,fun hn=>by
  obtain ⟨g,R,h1,h2,h3,h4,h5,h7⟩:=h.2 hn;refine ⟨g,R,h1,h2,h3,h4.touch ht (hp g h2 h3) (fun r hr hm=>hp r.g (h5 r hr hm).1 (h5 r hr hm).2),h5,fun i r ts hr hv=>?_⟩;have hI:=h7 i r ts hr hv;by_cases hm:0<r.m
  · obtain ⟨e2,-⟩:=h4.each i r hr hm;rw [e2] at hI ⊢;have hq:=h5 r (List.mem_of_getElem? hr) hm;exact terms_touch hI ht (hp r.g hq.1 hq.2)
  · exact ⟨hI.1,hI.2.1,fun hm'=>absurd hm' hm⟩⟩
theorem OwnF.at_ (h:OwnF w lo hi a n V) {g:Nat} {R:List Fw} (hF:Fls w g n R) {i:Nat} {ts:List Tm} (hi:V[i]? = some ts):∃r,R[i]? = some r:=by
 have h1:=(List.getElem?_eq_some_iff.1 hi).1
 have h2:=hF.len
 have h3:=h.1
 exact ⟨_,List.getElem?_eq_getElem (by omega)⟩
theorem OwnF.frms (h:OwnF w lo hi a n V) (hL:∀ts∈V,(ts.length:Int)≤1048576):Frms w a n V:=
 ⟨h.1,fun hn=>by
  obtain ⟨g,R,rfl,h2,h3,h4,h5,h7⟩:=h.2 hn;obtain ⟨os,ho,-⟩:=h4.own;refine ⟨g,0,rfl,ho.lt,fun i ts hi=>?_⟩;obtain ⟨r,hr⟩:=h.at_ h4 hi;have hT:=h7 i r ts hr hi;refine ⟨r.a,r.m,r.c,?_,hT,?_⟩
  · rw [Nat.zero_add];exact h4.row hr
  · have:=hL ts (List.mem_of_getElem? hi);have:=hT.len
    omega⟩
end
def MarkedF (w:World) (a:Option Addr) (n:Nat) (K:Int) (tot:Nat):Prop:=
 (n=0∧tot=0)∨∃g R,a=some ⟨g,0,none⟩∧Fls w g n R∧MarkF w K R n∧totF R=tot
theorem MarkedF.keep {w w':World} {a:Option Addr} {n:Nat} {K:Int} {tot:Nat} (h:MarkedF w a n K tot) (hb:Below w.heap.size w w'):MarkedF w' a n K tot:=by
 rcases h with h | ⟨g,R,h1,h2,h3,h4⟩
 · exact Or.inl h
 · exact Or.inr ⟨g,R,h1,h2.keep hb,h3.keep h2 hb,h4⟩
theorem own_ne_row {w:World} {g B sz n:Nat} {t t':TypeId} {cs:Array Value} {v:Value} {xs:List Value} (h:Own w g t cs) (ho:w.ownsRow B t' sz v n xs) (ht:t≠t'):some g≠v.ownBlock:=by
 intro e
 rcases ho.2 with ⟨hv,_⟩ | ⟨g',cap,cur,hv,_,hg,_⟩
 · rw [hv] at e;cases e
 · rw [hv] at e
   have e':g=g':=by
    have:some g=some g':=e
    injection this
   subst e';refine ht ?_;have q:some (Obj.cells cs t (0,0))=some (Obj.cells cur t' (0,0)):=(show w.heap[g]? = _ from h).symm.trans hg;cases q
   rfl
theorem row_slice {w:World} {B sz n:Nat} {t:TypeId} {v:Value} {xs:List Value} (h:w.ownsRow B t sz v n xs):∃a c,v=.slice a n c:=by
 rcases h.2 with ⟨hv,h0⟩ | ⟨g,cap,cur,hv,_⟩
 · exact ⟨none,0,by rw [hv,h0]⟩
 · exact ⟨_,_,hv⟩
theorem OwnR.ne_form {w:World} {B g:Nat} {v:Value} {ts:List Tm} {os:Array Value} (h:OwnR w B v ts) (ho:Own w g 53 os):v.ownBlock≠some g:=by
 intro e
 rcases h.2 with ⟨hv,_⟩ | ⟨g',cap,cur,hv,_,hg,_⟩
 · rw [hv] at e;cases e
 · rw [hv] at e
   have e':g'=g:=by
    have:some g'=some g:=e
    injection this
   subst e';have hne:(53:TypeId)≠80:=(by decide);refine hne ?_;have q:some (Obj.cells os 53 (0,0))=some (Obj.cells cur 80 (0,0)):=(show w.heap[g']? = _ from ho).symm.trans hg;cases q
structure Vals (w:World) (B:Nat) (vs:List Value) (V:List (List Tm)):Prop where
 len:vs.length=V.length
 each:∀(i:Nat) v ts,vs[i]? = some v→V[i]? = some ts→OwnR w B v ts
 apart:∀(i j:Nat) v u q r,i<j→vs[i]? = some v→vs[j]? = some u→v.ownBlock=some q→u.ownBlock=some r→q≠r
section
variable {w w':World} {B:Nat} {vs:List Value} {V:List (List Tm)}
theorem Vals.nil (w:World) (B:Nat):Vals w B [] []:=⟨rfl,fun i v ts h=>by simp at h,fun i j v u q r _ h=>by simp at h⟩
theorem Vals.at_ (h:Vals w B vs V) {i:Nat} {v:Value} (hv:vs[i]? = some v):∃ts,V[i]? = some ts∧OwnR w B v ts:=by
 have h1:=(List.getElem?_eq_some_iff.1 hv).1
 have h2:=h.len
 have h3:V[i]? = some (V[i]'(by omega)):=List.getElem?_eq_getElem (by omega)
 exact ⟨_,h3,h.each i v _ hv h3⟩
theorem Vals.keep (h:Vals w B vs V) (hb:Below w.heap.size w w'):Vals w' B vs V:=⟨h.len,fun i v ts h1 h2=>(h.each i v ts h1 h2).keep hb,h.apart⟩
theorem Vals.far (h:Vals w B vs V) {p:Addr} {os:Array Value} (ho:Own w p.block 53 os) (u:Value):Vals (w.setCell p u) B vs V:=
 ⟨h.len,fun i v ts h1 h2=>(h.each i v ts h1 h2).far ((h.each i v ts h1 h2).ne_form ho) u,h.apart⟩
theorem Vals.weaken {B':Nat} (h:Vals w B vs V) (hB:B'≤B):Vals w B' vs V:=⟨h.len,fun i v ts h1 h2=>(h.each i v ts h1 h2).weaken hB,h.apart⟩
theorem Vals.grownN {row:Option Nat} (h:Vals w B vs V) (hg:w.grownBy w' row) (hr:∀(i:Nat) u q,vs[i]? = some u→u.ownBlock=some q→row≠some q):Vals w' B vs V:=
 ⟨h.len,fun i v ts h1 h2=>World.ownsRow.kept (h.each i v ts h1 h2) hg (by
  cases hv:v.ownBlock with
  | none=>exact Or.inl rfl
  | some q=>exact Or.inr (fun e=>hr i v q h1 hv e.symm)),h.apart⟩
theorem Vals.grown {row:Option Nat} (h:Vals w B vs V) (hg:w.grownBy w' row) (hr:∀q,row=some q→∃os,Own w q 53 os):Vals w' B vs V:=
 h.grownN hg (fun i u q h1 h2 e=>by
  obtain ⟨os,ho⟩:=hr q e;obtain ⟨ts,-,ho2⟩:=h.at_ h1
  exact ho2.ne_form ho h2)
theorem Vals.snoc {C:Nat} {v:Value} {ts:List Tm} (h:Vals w' B vs V) (hC:∀(i:Nat) u q,vs[i]? = some u→u.ownBlock=some q→q<C) (hB:B≤C) (hv:OwnR w' C v ts):Vals w' B (vs++[v]) (V++[ts]):=by
 have hl:=h.len
 refine ⟨by simp [hl],fun i u us h1 h2=>?_,fun i j u x q r hij h1 h2 h3 h4=>?_⟩
 · by_cases hi:i<vs.length
   · rw [List.getElem?_append_left hi] at h1;rw [List.getElem?_append_left (by omega)] at h2;exact h.each i u us h1 h2
   · rw [List.getElem?_append_right (by omega)] at h1 h2
     have hi2:i - vs.length=0:=by
      have:=(List.getElem?_eq_some_iff.1 h1).1;simp at this
      omega
     rw [←hl] at h2;rw [hi2] at h1 h2;simp only [List.getElem?_cons_zero,Option.some.injEq] at h1 h2;subst h1 h2;exact hv.weaken hB
 · have hj:=(List.getElem?_eq_some_iff.1 h2).1;rw [List.length_append,List.length_singleton] at hj;rw [List.getElem?_append_left (show i<vs.length by omega)] at h1;by_cases hj2:j<vs.length
   · rw [List.getElem?_append_left hj2] at h2;exact h.apart i j u x q r hij h1 h2 h3 h4
   · rw [List.getElem?_append_right (by omega),show j - vs.length=0 by omega] at h2;simp only [List.getElem?_cons_zero,Option.some.injEq] at h2;subst h2;have h5:=hC i u q h1 h3;have h6:=(hv.at_ h4).1;omega
theorem Vals.lt (h:Vals w B vs V):∀(i:Nat) u q,vs[i]? = some u→u.ownBlock=some q→q<w.heap.size:=fun i u q h1 h2=>by
 obtain ⟨ts,-,ho⟩:=h.at_ h1
 exact (ho.at_ h2).2
end
def FrmsN (w:World) (a:Option Addr) (n:Nat) (fss:List (List Tm)):Prop:=
 fss.length=n∧(0<n→∃b off,a=some ⟨b,off,none⟩∧b<w.heap.size∧∀i ts,fss[i]? = some ts→∃ai ni ci,w.cell? ⟨b,off+i,none⟩=some (.slice ai ni ci)∧Terms w ai ni ts∧((ai=none∧ni=0∧ci=0)∨∃bi oi,ai=some ⟨bi,oi,none⟩))
theorem FrmsN.keep {w w':World} {a:Option Addr} {n:Nat} {fss:List (List Tm)} (h:FrmsN w a n fss) (hb:Below w.heap.size w w'):FrmsN w' a n fss:=
 ⟨h.1,fun hn=>by
  obtain ⟨b,off,ha,hlt,hc⟩:=h.2 hn;refine ⟨b,off,ha,Nat.lt_of_lt_of_le hlt hb.size,fun i ts hi=>?_⟩;obtain ⟨ai,ni,ci,h1,h2,h3⟩:=hc i ts hi
  exact ⟨ai,ni,ci,(World.cell?_of_block (a:=⟨b,off+i,none⟩) (hb.block b hlt)).trans h1,h2.keep hb,h3⟩⟩
theorem FrmsN.at_ {w : World} {a : Option Addr} {n : Nat} {fss : List (List Tm)} (h : FrmsN w a n fss) {i : Nat} (hi : i < n) :
    ∃b off ts ai ni ci,a=some ⟨b,off,none⟩∧b<w.heap.size∧w.cell? ⟨b,off+i,none⟩=some (.slice ai ni ci)∧Terms w ai ni ts∧((ai=none∧ni=0∧ci=0)∨∃bi oi,ai=some ⟨bi,oi,none⟩)∧Hid (fss[i]? = some ts):=by
 obtain ⟨b,off,ha,hlt,hc⟩:=h.2 (by omega)
 have hl:=h.1
 have hx:fss[i]? = some fss[i]:=List.getElem?_eq_getElem (by omega)
 obtain ⟨ai,ni,ci,h1,h2,h3⟩:=hc i _ hx
 exact ⟨b,off,_,ai,ni,ci,ha,hlt,h1,h2,h3,hx⟩
def kv (a:Option Addr) (fss:List (List Tm)) (i:Nat):Value:=.slice (if (fss.getD i []).length=0 then a else a.map (·.add (sumLen (fss.take i) * 9))) (fss.getD i []).length (fss.getD i []).length
theorem own_neR {w:World} {g g':Nat} {t t':TypeId} {cs cs':Array Value} (h:Own w g t cs) (h':Own w g' t' cs') (hne:t≠t'):g≠g':=
 fun e=>hne (by
  have k:some (Obj.cells cs t (0,0))=some (Obj.cells cs' t' (0,0)):=(show w.heap[g]? = _ from h).symm.trans (show w.heap[g]? = _ by rw [e];exact h');cases k
  rfl)
theorem Fls.other {w w':World} {g n q:Nat} {R:List Fw} {t':TypeId} {os:Array Value} (h:Fls w g n R) (ho:Own w q t' os) (h1:53≠t') (h2:80≠t') (hk:∀b,b≠q→w'.heap[b]? = w.heap[b]?):Fls w' g n R:=
 ⟨h.len,by obtain ⟨xs,h3,h4⟩:=h.own;exact ⟨xs,(hk g (own_neR h3 ho h1)).trans h3,h4⟩,fun i r hr hp=>by
  obtain ⟨h3,cs,h4,h5⟩:=h.each i r hr hp
  exact ⟨h3,cs,(hk r.g (own_neR h4 ho h2)).trans h4,h5⟩,h.apart⟩
theorem OwnF.other {w w':World} {lo hi n q:Nat} {a:Option Addr} {V:List (List Tm)} {t':TypeId} {os:Array Value} (h:OwnF w lo hi a n V) (ho:Own w q t' os) (h1:53≠t') (h2:80≠t') (hs:w.heap.size≤w'.heap.size) (hk:∀b,b≠q→w'.heap[b]? = w.heap[b]?):OwnF w' lo hi a n V:=
 ⟨h.1,fun hn=>by
  obtain ⟨g,R,e1,e2,e3,e4,e5,e7⟩:=h.2 hn;refine ⟨g,R,e1,e2,e3,e4.other ho h1 h2 hk,e5,fun i r ts hr hv=>?_⟩;have hI:=e7 i r ts hr hv;by_cases hm:0<r.m
  · obtain ⟨e8,cs,e9,-⟩:=e4.each i r hr hm;rw [e8] at hI ⊢;refine ⟨hI.1,hI.2.1,fun hm2=>?_⟩;obtain ⟨b',o',e,hb,hc⟩:=hI.2.2 hm2
    injection e with e
    injection e with e1' e2'
    subst e1' e2';exact ⟨r.g,r.o,rfl,Nat.lt_of_lt_of_le hb hs,rgK hc (hk r.g (own_neR e9 ho h2))⟩
  · exact ⟨hI.1,hI.2.1,fun hm'=>absurd hm' hm⟩⟩
def MarkedV (w:World) (a:Option Addr) (n:Nat) (K:Int):Prop:=n=0∨∃g cs,a=some ⟨g,0,none⟩∧Own w g 2 (markA (mkI K) cs n)∧n≤cs.size
theorem MarkedV.keep {w w':World} {a:Option Addr} {n:Nat} {K:Int} (h:MarkedV w a n K) (hb:Below w.heap.size w w'):MarkedV w' a n K:=by
 rcases h with h | ⟨g,cs,h1,h2,h3⟩
 · exact Or.inl h
 · exact Or.inr ⟨g,cs,h1,h2.keep hb h2.lt,h3⟩
end Go.Proofs.YtfheammnkmjabaaGreat
