
import Derived.Test.YtndnkeijddagiaaAlgS
import Derived.Deep.DeepAppendWide
import Derived.Deep.RegionWith
namespace Go.Proofs.Ytndnkeijddagiaa
open Go.RowKit Go.Deep
theorem Try.info_intA:∃i z,Try.prog.info? 2=some i∧i.zero=some z∧i.size=1∧i.bytes=8∧z.cells.size=1:=by
 obtain ⟨i,hi,hzz⟩:=Option.map_eq_some_iff.1 Try.info_int64
 simp only [Prod.mk.injEq] at hzz
 obtain ⟨hz,hs,hb⟩:=hzz
 exact ⟨i,_,hi,hz,hs,hb,rfl⟩
def OwnV (w:World) (lo hi:Nat) (a:Option Addr) (n:Nat) (V:List Int):Prop:=V.length=n∧(0<n→∃g cs,a=some ⟨g,0,none⟩∧lo≤g∧g<hi∧Own w g 2 cs∧n≤cs.size∧∀i,i<n→cs[i]? = some (.int .i64 (V.getD i 0)))
section
variable {w w':World} {lo hi n:Nat} {a:Option Addr} {V:List Int}
theorem OwnV.none_:OwnV w lo hi none 0 []:=⟨rfl,fun h=>absurd h (by omega)⟩
theorem OwnV.keep (h:OwnV w lo hi a n V) (hb:Below w.heap.size w w'):OwnV w' lo hi a n V:=
 ⟨h.1,fun hn=>by obtain ⟨g,cs,h1,h2,h3,h4,h5⟩:=h.2 hn;exact ⟨g,cs,h1,h2,h3,h4.keep hb h4.lt,h5⟩⟩
theorem OwnV.touch {p:Nat→Prop} (h:OwnV w lo hi a n V) (ht:Touch p w w') (hp:∀g,lo≤g→g<hi→¬p g):OwnV w' lo hi a n V:=
 ⟨h.1,fun hn=>by obtain ⟨g,cs,h1,h2,h3,h4,h5⟩:=h.2 hn;exact ⟨g,cs,h1,h2,h3,ht.own h4 (hp g h2 h3),h5⟩⟩
theorem OwnV.ints (h:OwnV w lo hi a n V):Ints w a n V:=
 ⟨h.1,fun hn=>by
  obtain ⟨g,cs,rfl,h2,h3,h4,h5,h6⟩:=h.2 hn
  exact ⟨g,0,rfl,h4.lt,fun i hi=>by rw [Nat.zero_add,h4.cell i];exact h6 i hi⟩⟩
theorem OwnV.weaken {lo' hi':Nat} (h:OwnV w lo hi a n V) (h1:lo'≤lo) (h2:hi≤hi'):OwnV w lo' hi' a n V:=
 ⟨h.1,fun hn=>by obtain ⟨g,cs,e,h3,h4,h5⟩:=h.2 hn;exact ⟨g,cs,e,by omega,by omega,h5⟩⟩
theorem OwnV.block {gx : Nat} {csx : Array Value} (h : OwnV w lo hi a n V) (hx : Own w gx 2 csx) :
    ∃g cs,Own w g 2 cs∧n≤cs.size∧(0<n→a=some ⟨g,0,none⟩)∧(g=gx∨(lo≤g∧g<hi)):=by
 by_cases hn:0<n
 · obtain ⟨g,cs,e,h1,h2,h3,h4,-⟩:=h.2 hn;exact ⟨g,cs,h3,h4,fun _=>e,Or.inr ⟨h1,h2⟩⟩
 · exact ⟨gx,csx,hx,by omega,fun hh=>absurd hh hn,Or.inl rfl⟩
theorem OwnV.of_row {B:Nat} {v:Value} (h:w.ownsRow B 2 1 v n (V.map (Value.int .i64))):∃a c,v=.slice a n c∧OwnV w B w.heap.size a n V:=by
 have hl:V.length=n:=by simpa using h.1
 have hc:=fun g=>World.ownsRow.cells (g:=g) h
 rcases h.2 with ⟨hv,h0⟩ | ⟨g,cap,cur,hv,hb,hg,hn,_,hs,_⟩
 · have h00:n=0:=(by simpa using h0);subst h00;exact ⟨none,0,hv,hl,fun hp=>absurd hp (by omega)⟩
 · have ho:Own w g 2 cur:=hg;refine ⟨some ⟨g,0,none⟩,cap,hv,hl,fun _=>⟨g,cur,rfl,hb,ho.lt,ho,by omega,fun i hi=>?_⟩⟩;have h1:=hc g (by rw [hv];rfl) i (.int .i64 (V.getD i 0)) (by rw [List.getElem?_map,getD_of (by omega)];rfl);rw [Addr.add_mid,ho.cell] at h1
   rwa [Nat.zero_add] at h1
end
theorem eq_nil_some {x:Addr} {n c:Nat} (w:World):(binOp BinOp.eql 22 (.slice (some x) n c) (.slice none 0 0)).run Try.prog w=.ok (.bool false) w:=by kernel_rfl
theorem rep_get (n i:Nat) (h:i<n) (v:Value):(Array.replicate n v)[i]? = some v:=by simp [h]
def OwnE (w:World) (lo hi:Nat) (a:Option Addr) (n:Nat):Prop:=0<n→∃g,a=some ⟨g,0,none⟩∧lo≤g∧g<hi∧Own w g 47 (Array.replicate n (Value.slice none 0 0))
theorem OwnE.keep {w w':World} {lo hi n:Nat} {a:Option Addr} (h:OwnE w lo hi a n) (hb:Below w.heap.size w w'):OwnE w' lo hi a n:=
 fun hn=>by obtain ⟨g,h1,h2,h3,h4⟩:=h hn;exact ⟨g,h1,h2,h3,h4.keep hb h4.lt⟩
theorem OwnE.weaken {w:World} {lo hi lo' hi' n:Nat} {a:Option Addr} (h:OwnE w lo hi a n) (h1:lo'≤lo) (h2:hi≤hi'):OwnE w lo' hi' a n:=
 fun hn=>by obtain ⟨g,e,h3,h4,h5⟩:=h hn;exact ⟨g,e,by omega,by omega,h5⟩
theorem OwnE.touch {p:Nat→Prop} {w w':World} {lo hi n:Nat} {a:Option Addr} (h:OwnE w lo hi a n) (ht:Touch p w w') (hp:∀g,lo≤g→g<hi→¬p g):OwnE w' lo hi a n:=
 fun hn=>by obtain ⟨g,h1,h2,h3,h4⟩:=h hn;exact ⟨g,h1,h2,h3,ht.own h4 (hp g h2 h3)⟩
theorem OwnE.frms {w:World} {lo hi n:Nat} {a:Option Addr} (h:OwnE w lo hi a n):Frms w a n (List.replicate n []):=by
 refine ⟨by simp,fun hn=>?_⟩
 obtain ⟨g,rfl,-,-,ho⟩:=h hn
 refine ⟨g,0,rfl,ho.lt,fun i ts hi=>?_⟩
 have hl:i<n:=by have:=(List.getElem?_eq_some_iff.1 hi).1;simpa using this
 obtain rfl:ts=[]:=by rw [List.getElem?_replicate,if_pos hl] at hi;injection hi with hi;exact hi.symm
 refine ⟨none,0,0,?_,⟨rfl,fun t ht=>absurd ht (by simp),fun hp=>absurd hp (by omega)⟩,by omega⟩
 rw [Nat.zero_add,ho.cell i]
 exact rep_get n i hl _
end Go.Proofs.Ytndnkeijddagiaa
