
import Derived.Test.YtefjinnpofojnaaAlgS
import Derived.Deep.DeepAppendWide
import Derived.Laws.AppendOwnNone
namespace Go.Proofs.Ytefjinnpofojnaa
open Go.RowKit Go.Deep
structure Fw where
 a:Option Addr
 m:Nat
 c:Nat
 g:Nat
 o:Nat
def FwApart (r s:Fw):Prop:=r.g≠s.g∨r.o+r.m * 9≤s.o∨s.o+s.m * 9≤r.o
structure Fls (w:World) (g n:Nat) (R:List Fw):Prop where
 len:R.length=n
 own:∃os:Array Value,Own w g 36 os∧∀(i:Nat) r,R[i]? = some r→os[i]? = some (Value.slice r.a r.m r.c)
 each:∀(i:Nat) r,R[i]? = some r→0<r.m→r.a=some ⟨r.g,r.o,none⟩∧∃cs,Own w r.g 97 cs∧r.o+r.m * 9≤cs.size
 apart:∀(i j:Nat) r s,i<j→R[i]? = some r→R[j]? = some s→0<r.m→0<s.m→FwApart r s
theorem Fls.keep {w w':World} {g n:Nat} {R:List Fw} (h:Fls w g n R) (hb:Below w.heap.size w w'):Fls w' g n R:=
 ⟨h.len,by obtain ⟨os,h1,h2⟩:=h.own;exact ⟨os,h1.keep hb h1.lt,h2⟩,fun i r h1 h2=>by obtain ⟨h3,cs,h4,h5⟩:=h.each i r h1 h2;exact ⟨h3,cs,h4.keep hb h4.lt,h5⟩,h.apart⟩
theorem Fls.touch {p:Nat→Prop} {w w':World} {g n:Nat} {R:List Fw} (h:Fls w g n R) (ht:Touch p w w') (hg:¬p g) (hp:∀r∈R,0<r.m→¬p r.g):Fls w' g n R:=
 ⟨h.len,by obtain ⟨os,h1,h2⟩:=h.own;exact ⟨os,ht.own h1 hg,h2⟩,fun i r h1 h2=>by obtain ⟨h3,cs,h4,h5⟩:=h.each i r h1 h2;exact ⟨h3,cs,ht.own h4 (hp r (List.mem_of_getElem? h1) h2),h5⟩,h.apart⟩
theorem Fls.row {w:World} {g n:Nat} {R:List Fw} (h:Fls w g n R) {k:Nat} {r:Fw} (hr:R[k]? = some r):w.cell? ⟨g,k,none⟩=some (.slice r.a r.m r.c):=by
 obtain ⟨os,h1,h2⟩:=h.own
 rw [h1.cell k]
 exact h2 k r hr
def totF (R:List Fw):Nat:=(R.map Fw.m).sum
def MarkF (w:World) (K:Int) (R:List Fw) (k:Nat):Prop:=∀(i:Nat) r,i<k→R[i]? = some r→∀j,j<r.m * 9→w.cell? ⟨r.g,r.o+j,none⟩=some (mkT (K+(totF (R.take i) * 9:Nat)) j)
theorem MarkF.keep {w w':World} {K:Int} {R:List Fw} {k g n:Nat} (h:MarkF w K R k) (hF:Fls w g n R) (hb:Below w.heap.size w w'):MarkF w' K R k:=fun i r hi hr j hj=>by
 obtain ⟨-,cs,h4,-⟩:=hF.each i r hr (by omega)
 exact (World.cell?_of_block (a:=⟨r.g,r.o+j,none⟩) (hb.block r.g h4.lt)).trans (h i r hi hr j hj)
def OwnF (w:World) (lo hi:Nat) (a:Option Addr) (n:Nat) (V:List (List Tm)):Prop:=
 V.length=n∧(0<n→∃g R,a=some ⟨g,0,none⟩∧lo≤g∧g<hi∧Fls w g n R∧(∀r∈R,0<r.m→lo≤r.g∧r.g<hi)∧∀(i:Nat) r ts,R[i]? = some r→V[i]? = some ts→Terms w r.a r.m ts)
section
variable {w w':World} {lo hi n:Nat} {a:Option Addr} {V:List (List Tm)}
theorem OwnF.keep (h:OwnF w lo hi a n V) (hb:Below w.heap.size w w'):OwnF w' lo hi a n V:=
 ⟨h.1,fun hn=>by
  obtain ⟨g,R,h1,h2,h3,h4,h5,h7⟩:=h.2 hn
  exact ⟨g,R,h1,h2,h3,h4.keep hb,h5,fun i r ts hr hv=>(h7 i r ts hr hv).keep hb⟩⟩
theorem OwnF.weaken {lo' hi':Nat} (h:OwnF w lo hi a n V) (k1:lo'≤lo) (k2:hi≤hi'):OwnF w lo' hi' a n V:=
 ⟨h.1,fun hn=>by
  obtain ⟨g,R,h1,h2,h3,h4,h5,h6⟩:=h.2 hn
  exact ⟨g,R,h1,by omega,by omega,h4,fun r hr hm=>by have:=h5 r hr hm;omega,h6⟩⟩
theorem terms_touch {p:Nat→Prop} {b o m:Nat} {ts:List Tm} (h:Terms w (some ⟨b,o,none⟩) m ts) (ht:Touch p w w') (hp:¬p b):Terms w' (some ⟨b,o,none⟩) m ts:=
 ⟨h.1,h.2.1,fun hm=>by
  obtain ⟨b',o',e,hb,hc⟩:=h.2.2 hm
  injection e with e
  injection e with e1 e2
  subst e1 e2
  exact ⟨b,o,rfl,Nat.lt_of_lt_of_le hb ht.below.size,rgK hc (ht.other b hb hp)⟩⟩
theorem OwnF.touch {p:Nat→Prop} (h:OwnF w lo hi a n V) (ht:Touch p w w') (hp:∀g,lo≤g→g<hi→¬p g):OwnF w' lo hi a n V:=
 ⟨h.1,fun hn=>by
  obtain ⟨g,R,h1,h2,h3,h4,h5,h7⟩:=h.2 hn;refine ⟨g,R,h1,h2,h3,h4.touch ht (hp g h2 h3) (fun r hr hm=>hp r.g (h5 r hr hm).1 (h5 r hr hm).2),h5,fun i r ts hr hv=>?_⟩;have hI:=h7 i r ts hr hv;by_cases hm:0<r.m
  · obtain ⟨e2,-⟩:=h4.each i r hr hm;rw [e2] at hI ⊢;have hq:=h5 r (List.mem_of_getElem? hr) hm;exact terms_touch hI ht (hp r.g hq.1 hq.2)
  · exact ⟨hI.1,hI.2.1,fun hm'=>absurd hm' hm⟩⟩
theorem OwnF.at_ (h:OwnF w lo hi a n V) {g:Nat} {R:List Fw} (hF:Fls w g n R) {i:Nat} {ts:List Tm} (hi:V[i]? = some ts):∃r,R[i]? = some r:=by
 have h1:=(List.getElem?_eq_some_iff.1 hi).1
 have h2:=hF.len
 have h3:=h.1
 exact ⟨_,List.getElem?_eq_getElem (by omega)⟩
theorem OwnF.frms (h:OwnF w lo hi a n V) (hL:∀ts∈V,(ts.length:Int)≤1048576):Frms w a n V:=
 ⟨h.1,fun hn=>by
  obtain ⟨g,R,rfl,h2,h3,h4,h5,h7⟩:=h.2 hn;obtain ⟨os,ho,-⟩:=h4.own;refine ⟨g,0,rfl,ho.lt,fun i ts hi=>?_⟩;obtain ⟨r,hr⟩:=h.at_ h4 hi;have hT:=h7 i r ts hr hi;refine ⟨r.a,r.m,r.c,?_,hT,?_⟩
  · rw [Nat.zero_add];exact h4.row hr
  · have:=hL ts (List.mem_of_getElem? hi);have:=hT.len
    omega⟩
end
def MarkedF (w:World) (a:Option Addr) (n:Nat) (K:Int) (tot:Nat):Prop:=
 (n=0∧tot=0)∨∃g R,a=some ⟨g,0,none⟩∧Fls w g n R∧MarkF w K R n∧totF R=tot
theorem MarkedF.keep {w w':World} {a:Option Addr} {n:Nat} {K:Int} {tot:Nat} (h:MarkedF w a n K tot) (hb:Below w.heap.size w w'):MarkedF w' a n K tot:=by
 rcases h with h | ⟨g,R,h1,h2,h3,h4⟩
 · exact Or.inl h
 · exact Or.inr ⟨g,R,h1,h2.keep hb,h3.keep h2 hb,h4⟩
theorem own_ne_row {w:World} {g B sz n:Nat} {t t':TypeId} {cs:Array Value} {v:Value} {xs:List Value} (h:Own w g t cs) (ho:w.ownsRow B t' sz v n xs) (ht:t≠t'):some g≠v.ownBlock:=by
 intro e
 rcases ho.2 with ⟨hv,_⟩ | ⟨g',cap,cur,hv,_,hg,_⟩
 · rw [hv] at e;cases e
 · rw [hv] at e
   have e':g=g':=by
    have:some g=some g':=e
    injection this
   subst e';refine ht ?_;have q:some (Obj.cells cs t (0,0))=some (Obj.cells cur t' (0,0)):=(show w.heap[g]? = _ from h).symm.trans hg;cases q
   rfl
theorem OwnR.ne_form {w:World} {B g:Nat} {v:Value} {ts:List Tm} {os:Array Value} (h:OwnR w B v ts) (ho:Own w g 36 os):v.ownBlock≠some g:=by
 intro e
 rcases h.2 with ⟨hv,_⟩ | ⟨g',cap,cur,hv,_,hg,_⟩
 · rw [hv] at e;cases e
 · rw [hv] at e
   have e':g'=g:=by
    have:some g'=some g:=e
    injection this
   subst e';have hne:(36:TypeId)≠97:=(by decide);refine hne ?_;have q:some (Obj.cells os 36 (0,0))=some (Obj.cells cur 97 (0,0)):=(show w.heap[g']? = _ from ho).symm.trans hg;cases q
structure Vals (w:World) (B:Nat) (vs:List Value) (V:List (List Tm)):Prop where
 len:vs.length=V.length
 each:∀(i:Nat) v ts,vs[i]? = some v→V[i]? = some ts→OwnR w B v ts
 apart:∀(i j:Nat) v u q r,i<j→vs[i]? = some v→vs[j]? = some u→v.ownBlock=some q→u.ownBlock=some r→q≠r
section
variable {w w':World} {B:Nat} {vs:List Value} {V:List (List Tm)}
theorem Vals.nil (w:World) (B:Nat):Vals w B [] []:=⟨rfl,fun i v ts h=>by simp at h,fun i j v u q r _ h=>by simp at h⟩
theorem Vals.at_ (h:Vals w B vs V) {i:Nat} {v:Value} (hv:vs[i]? = some v):∃ts,V[i]? = some ts∧OwnR w B v ts:=by
 have h1:=(List.getElem?_eq_some_iff.1 hv).1
 have h2:=h.len
 have h3:V[i]? = some (V[i]'(by omega)):=List.getElem?_eq_getElem (by omega)
 exact ⟨_,h3,h.each i v _ hv h3⟩
theorem Vals.keep (h:Vals w B vs V) (hb:Below w.heap.size w w'):Vals w' B vs V:=⟨h.len,fun i v ts h1 h2=>(h.each i v ts h1 h2).keep hb,h.apart⟩
theorem Vals.far (h:Vals w B vs V) {p:Addr} {os:Array Value} (ho:Own w p.block 36 os) (u:Value):Vals (w.setCell p u) B vs V:=
 ⟨h.len,fun i v ts h1 h2=>(h.each i v ts h1 h2).far ((h.each i v ts h1 h2).ne_form ho) u,h.apart⟩
theorem Vals.weaken {B':Nat} (h:Vals w B vs V) (hB:B'≤B):Vals w B' vs V:=⟨h.len,fun i v ts h1 h2=>(h.each i v ts h1 h2).weaken hB,h.apart⟩
theorem Vals.grownN {row:Option Nat} (h:Vals w B vs V) (hg:w.grownBy w' row) (hr:∀(i:Nat) u q,vs[i]? = some u→u.ownBlock=some q→row≠some q):Vals w' B vs V:=
 ⟨h.len,fun i v ts h1 h2=>World.ownsRow.kept (h.each i v ts h1 h2) hg (by
  cases hv:v.ownBlock with
  | none=>exact Or.inl rfl
  | some q=>exact Or.inr (fun e=>hr i v q h1 hv e.symm)),h.apart⟩
theorem Vals.grown {row:Option Nat} (h:Vals w B vs V) (hg:w.grownBy w' row) (hr:∀q,row=some q→∃os,Own w q 36 os):Vals w' B vs V:=
 h.grownN hg (fun i u q h1 h2 e=>by
  obtain ⟨os,ho⟩:=hr q e;obtain ⟨ts,-,ho2⟩:=h.at_ h1
  exact ho2.ne_form ho h2)
theorem Vals.lt (h:Vals w B vs V):∀(i:Nat) u q,vs[i]? = some u→u.ownBlock=some q→q<w.heap.size:=fun i u q h1 h2=>by
 obtain ⟨ts,-,ho⟩:=h.at_ h1
 exact (ho.at_ h2).2
end
def FrmsN (w:World) (a:Option Addr) (n:Nat) (fss:List (List Tm)):Prop:=
 fss.length=n∧(0<n→∃b off,a=some ⟨b,off,none⟩∧b<w.heap.size∧∀i ts,fss[i]? = some ts→∃ai ni ci,w.cell? ⟨b,off+i,none⟩=some (.slice ai ni ci)∧Terms w ai ni ts∧((ai=none∧ni=0∧ci=0)∨∃bi oi,ai=some ⟨bi,oi,none⟩))
theorem FrmsN.keep {w w':World} {a:Option Addr} {n:Nat} {fss:List (List Tm)} (h:FrmsN w a n fss) (hb:Below w.heap.size w w'):FrmsN w' a n fss:=
 ⟨h.1,fun hn=>by
  obtain ⟨b,off,ha,hlt,hc⟩:=h.2 hn;refine ⟨b,off,ha,Nat.lt_of_lt_of_le hlt hb.size,fun i ts hi=>?_⟩;obtain ⟨ai,ni,ci,h1,h2,h3⟩:=hc i ts hi
  exact ⟨ai,ni,ci,(World.cell?_of_block (a:=⟨b,off+i,none⟩) (hb.block b hlt)).trans h1,h2.keep hb,h3⟩⟩
theorem FrmsN.at_ {w : World} {a : Option Addr} {n : Nat} {fss : List (List Tm)} (h : FrmsN w a n fss) {i : Nat} (hi : i < n) :
    ∃b off ts ai ni ci,a=some ⟨b,off,none⟩∧b<w.heap.size∧w.cell? ⟨b,off+i,none⟩=some (.slice ai ni ci)∧Terms w ai ni ts∧((ai=none∧ni=0∧ci=0)∨∃bi oi,ai=some ⟨bi,oi,none⟩)∧Hid (fss[i]? = some ts):=by
 obtain ⟨b,off,ha,hlt,hc⟩:=h.2 (by omega)
 have hl:=h.1
 have hx:fss[i]? = some fss[i]:=List.getElem?_eq_getElem (by omega)
 obtain ⟨ai,ni,ci,h1,h2,h3⟩:=hc i _ hx
 exact ⟨b,off,_,ai,ni,ci,ha,hlt,h1,h2,h3,hx⟩
theorem FrmsBlk.frmsN {w:World} {g n:Nat} {fss:List (List Tm)} {gs:List Nat} (h:FrmsBlk w g fss gs) (hT:∀ts∈fss,∀t∈ts,IsTm t) (hn:fss.length=n):FrmsN w (some ⟨g,0,none⟩) n fss:=by
 refine ⟨hn,fun _=>⟨g,0,rfl,h.own.lt,fun i ts hi=>?_⟩⟩
 have hl:i<gs.length:=by rw [h.len];exact (List.getElem?_eq_some_iff.1 hi).1
 have hg:gs[i]? = some gs[i]:=List.getElem?_eq_getElem hl
 have hm:=List.mem_of_getElem? hi
 refine ⟨some ⟨gs[i],0,none⟩,ts.length,ts.length,?_,Terms.of_own (h.each i _ ts hg hi) (hT ts hm) rfl,Or.inr ⟨_,_,rfl⟩⟩
 rw [Nat.zero_add,h.own.cell i,List.getElem?_toArray]
 exact slCells_get hi hg
def kv (a:Option Addr) (fss:List (List Tm)) (i:Nat):Value:=.slice (if (fss.getD i []).length=0 then a else a.map (·.add (sumLen (fss.take i) * 9))) (fss.getD i []).length (fss.getD i []).length
end Go.Proofs.Ytefjinnpofojnaa
