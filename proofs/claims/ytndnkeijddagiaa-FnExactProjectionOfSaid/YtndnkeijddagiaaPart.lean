
import Derived.Test.YtndnkeijddagiaaDegForm
import Derived.Deep.DeepAppendWide
namespace Go.Proofs.Ytndnkeijddagiaa
open Go.RowKit Go.Deep
def OwnForm (w:World) (base:Nat) (v:Value) (ts:List Tm):Prop:=w.ownsRow base 76 9 v ts.length (rcells ts)∧(v=.slice none 0 0↔ts.length=0)
theorem grown_below {B:Nat} {a w w':World} {row:Option Nat} (h:Below B a w) (hg:w.grownBy w' row) (hr:∀k,row=some k→B≤k) (hB:B≤w.heap.size):Below B a w':=
 h.trans ⟨hg.os,hg.tape,hg.output,hg.size,fun k hk=>hg.block k (by omega) (fun e=>by have:=hr k e.symm;omega)⟩
theorem Try.info_termA:∃i z,Try.prog.info? 76=some i∧i.zero=some z∧i.size=9∧i.bytes=16∧z.cells.size=9:=by
 obtain ⟨i,hi,hzz⟩:=Option.map_eq_some_iff.1 Try.info_term3
 simp only [Prod.mk.injEq] at hzz
 obtain ⟨hz,hs,hb⟩:=hzz
 exact ⟨i,_,hi,hz,hs,hb,rfl⟩
theorem OwnForm.set {w:World} {base:Nat} {v:Value} {ts:List Tm} (h:OwnForm w base v ts) {p:Addr} (hp:p.block<base) (u:Value):OwnForm (w.setCell p u) base v ts:=by
 have hb:=(Below.refl p.block w).setCell (p:=p) (Nat.le_refl _) u
 exact ⟨h.1.kept (row:=some p.block) ⟨hb.os,hb.tape,hb.output,hb.size,fun k _ hk=>Below.heap_setCell w p u k (fun e=>hk (by rw [e]))⟩ (Or.inr (fun e=>by have:=(h.1.lt _ e).1;omega)),h.2⟩
theorem OwnForm.weaken {w:World} {B B':Nat} {v:Value} {ts:List Tm} (h:OwnForm w B v ts) (hB:B'≤B):OwnForm w B' v ts:=by
 obtain ⟨⟨hl,h1⟩,h2⟩:=h
 refine ⟨⟨hl,?_⟩,h2⟩
 rcases h1 with h0 | ⟨g,cap,cur,hv,hb,r⟩
 · exact Or.inl h0
 · exact Or.inr ⟨g,cap,cur,hv,by omega,r⟩
theorem OwnForm.keep {w w':World} {B:Nat} {v:Value} {ts:List Tm} (h:OwnForm w B v ts) (hb:Below w.heap.size w w'):OwnForm w' B v ts:=
 ⟨h.1.kept (row:=none) ⟨hb.os,hb.tape,hb.output,hb.size,fun k hk _=>hb.block k hk⟩ (by cases h0:v.ownBlock <;> simp),h.2⟩
theorem OwnForm.isSlice {w:World} {B:Nat} {v:Value} {ts:List Tm} (h:OwnForm w B v ts):∃a n c,v=.slice a n c:=by
 rcases h.1.2 with ⟨h0,_⟩ | ⟨g,cap,cur,hv,_⟩
 · exact ⟨_,_,_,h0⟩
 · exact ⟨_,_,_,hv⟩
theorem OwnForm.of {w:World} {B:Nat} {v:Value} {n:Nat} {ts:List Tm} {xs:List Value} (h:w.ownsRow B 76 9 v n xs) (hn:ts.length=n) (hx:rcells ts=xs) (hv:v=.slice none 0 0↔n=0):OwnForm w B v ts:=by
 subst hn
 subst hx
 exact ⟨h,hv⟩
end Go.Proofs.Ytndnkeijddagiaa
