
import Derived.Test.YtndnkeijddagiaaPart
import Derived.Test.YtndnkeijddagiaaMark
namespace Go.Proofs.Ytndnkeijddagiaa
open Go.RowKit Go.Deep
def OwnR (w:World) (base:Nat) (v:Value) (ts:List Tm):Prop:=w.ownsRow base 76 9 v ts.length (rcells ts)
theorem OwnForm.r {w:World} {B:Nat} {v:Value} {ts:List Tm} (h:OwnForm w B v ts):OwnR w B v ts:=h.1
theorem OwnR.keep {w w':World} {B:Nat} {v:Value} {ts:List Tm} (h:OwnR w B v ts) (hb:Below w.heap.size w w'):OwnR w' B v ts:=
 World.ownsRow.kept h (row:=none) ⟨hb.os,hb.tape,hb.output,hb.size,fun k hk _=>hb.block k hk⟩ (by cases h0:v.ownBlock <;> simp)
theorem OwnR.weaken {w:World} {B B':Nat} {v:Value} {ts:List Tm} (h:OwnR w B v ts) (hB:B'≤B):OwnR w B' v ts:=by
 obtain ⟨hl,h1⟩:=h
 refine ⟨hl,?_⟩
 rcases h1 with h0 | ⟨g,cap,cur,hv,hb,r⟩
 · exact Or.inl h0
 · exact Or.inr ⟨g,cap,cur,hv,by omega,r⟩
theorem OwnR.isSlice {w:World} {B:Nat} {v:Value} {ts:List Tm} (h:OwnR w B v ts):∃a n c,v=.slice a n c:=by
 rcases h.2 with ⟨h0,_⟩ | ⟨g,cap,cur,hv,_⟩
 · exact ⟨_,_,_,h0⟩
 · exact ⟨_,_,_,hv⟩
theorem OwnR.at_ {w:World} {B q:Nat} {v:Value} {ts:List Tm} (h:OwnR w B v ts) (e:v.ownBlock=some q):B≤q∧q<w.heap.size:=World.ownsRow.lt h q e
theorem OwnR.far {w:World} {B:Nat} {v:Value} {ts:List Tm} (h:OwnR w B v ts) {p:Addr} (hp:v.ownBlock≠some p.block) (u:Value):OwnR (w.setCell p u) B v ts:=by
 have hb:=(Below.refl p.block w).setCell (p:=p) (Nat.le_refl _) u
 exact World.ownsRow.kept h (row:=some p.block) ⟨hb.os,hb.tape,hb.output,hb.size,fun k _ hk=>Below.heap_setCell w p u k (fun e=>hk (by rw [e]))⟩ (Or.inr hp)
theorem OwnR.set {w:World} {B:Nat} {v:Value} {ts:List Tm} (h:OwnR w B v ts) {p:Addr} (hp:p.block<B) (u:Value):OwnR (w.setCell p u) B v ts:=
 h.far (fun e=>by have:=(h.at_ e).1;omega) u
theorem OwnR.terms {w:World} {B n:Nat} {v:Value} {ts:List Tm} (h:OwnR w B v ts) (hT:∀t∈ts,IsTm t) (hn:ts.length=n):∃a c,v=.slice a n c∧Terms w a n ts:=by
 subst hn
 have hc:=fun g=>World.ownsRow.cells (g:=g) h
 rcases h.2 with ⟨hv,h0⟩ | ⟨g,cap,cur,hv,hb,hg,hn,_,hs,_⟩
 · rw [h0,hv];exact ⟨none,0,rfl,h0,hT,fun hp=>absurd hp (by omega)⟩
 · refine ⟨some ⟨g,0,none⟩,cap,hv,rfl,hT,fun _=>⟨g,0,rfl,(Array.getElem?_eq_some_iff.1 hg).1,fun j u hu=>?_⟩⟩;have:=hc g (by rw [hv];rfl) j u hu
   rwa [Addr.add_mid] at this
theorem OwnR.read {w:World} {B n c:Nat} {a:Option Addr} {ts:List Tm} (h:OwnR w B (.slice a n c) ts) (hT:∀t∈ts,IsTm t):Terms w a n ts:=by
 obtain ⟨a',c',he,hx⟩:=h.terms hT rfl
 simp only [Value.slice.injEq] at he
 obtain ⟨rfl,rfl,rfl⟩:=he
 exact hx
theorem OwnR.block {w : World} {B n c gx : Nat} {a : Option Addr} {ts : List Tm} {tx : TypeId} {csx : Array Value} (h : OwnR w B (.slice a n c) ts) (hx : Own w gx tx csx) :
    ∃g t cs,Own w g t cs∧n * 9≤cs.size∧(0<n→a=some ⟨g,0,none⟩)∧(g=gx∨B≤g):=by
 rcases h.2 with ⟨hv,h0⟩ | ⟨g,cap,cur,hv,hb,hg,hn,_,hs,_⟩
 · simp only [Value.slice.injEq] at hv;exact ⟨gx,tx,csx,hx,by omega,fun hp=>absurd hp (by omega),Or.inl rfl⟩
 · simp only [Value.slice.injEq] at hv;obtain ⟨rfl,rfl,rfl⟩:=hv;refine ⟨g,_,cur,hg,?_,fun _=>rfl,Or.inr hb⟩;rw [hs];exact Nat.mul_le_mul_right 9 hn
section
variable {B:Nat} {a c d:World} {o:Obj} {t:TypeId} {cs:Array Value}
theorem below_pl (h:Below B a c) (k:Below c.heap.size c d) (hB:B≤c.heap.size):Below B a d:=bT' h k hB
theorem below_alw (h:Below B a c) (hB:B≤c.heap.size) (o:Obj):Below B a (c.alloc o):=bT' h (bA1 c o) hB
theorem below_ahw (w:World) (o:Obj):Below w.heap.size w (w.alloc o).drew:=(bA1 w o).drew
theorem below_al (h:Below B a c) (k:Below (c.alloc o).heap.size (c.alloc o) d) (hB:B≤c.heap.size):Below B a d:=
 bT' (below_alw h hB o) k (by rw [sAl];omega)
theorem below_ah (k:Below (a.alloc o).drew.heap.size (a.alloc o).drew d):Below a.heap.size a d:=
 bT' (below_ahw a o) k (Nat.le_trans (Nat.le_succ _) (Nat.le_of_eq (sAl a o).symm))
theorem own_al (k:Below (c.alloc (.cells cs t)).heap.size (c.alloc (.cells cs t)) d):Own d c.heap.size t cs:=(Own.new c t cs).keep k (Own.new c t cs).lt
theorem own_ah (k:Below (a.alloc (.cells cs t)).drew.heap.size (a.alloc (.cells cs t)).drew d):Own d a.heap.size t cs:=(Own.new a t cs).drew.keep k (Own.new a t cs).lt
end
end Go.Proofs.Ytndnkeijddagiaa
