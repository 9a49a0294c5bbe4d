
import Derived.Test.YtikldofmpkidbaaFree
import Derived.Test.YtikldofmpkidbaaKeep
import Derived.Test.YtikldofmpkidbaaIsFormB
namespace Go.Proofs.Ytikldofmpkidbaa
open Go.RowKit Go.Deep
theorem own_neR {w:World} {g g':Nat} {t t':TypeId} {cs cs':Array Value} (h:Own w g t cs) (h':Own w g' t' cs') (hne:t≠t'):g≠g':=
 fun e=>hne (by
  have k:some (Obj.cells cs t (0,0))=some (Obj.cells cs' t' (0,0)):=(show w.heap[g]? = _ from h).symm.trans (show w.heap[g]? = _ by rw [e];exact h');cases k
  rfl)
theorem Fls.other {w w':World} {g n q:Nat} {R:List Fw} {t':TypeId} {os:Array Value} (h:Fls w g n R) (ho:Own w q t' os) (h1:61≠t') (h2:88≠t') (hk:∀b,b≠q→w'.heap[b]? = w.heap[b]?):Fls w' g n R:=
 ⟨h.len,by obtain ⟨xs,h3,h4⟩:=h.own;exact ⟨xs,(hk g (own_neR h3 ho h1)).trans h3,h4⟩,fun i r hr hp=>by
  obtain ⟨h3,cs,h4,h5⟩:=h.each i r hr hp
  exact ⟨h3,cs,(hk r.g (own_neR h4 ho h2)).trans h4,h5⟩,h.apart⟩
theorem OwnF.other {w w':World} {lo hi n q:Nat} {a:Option Addr} {V:List (List Tm)} {t':TypeId} {os:Array Value} (h:OwnF w lo hi a n V) (ho:Own w q t' os) (h1:61≠t') (h2:88≠t') (hs:w.heap.size≤w'.heap.size) (hk:∀b,b≠q→w'.heap[b]? = w.heap[b]?):OwnF w' lo hi a n V:=
 ⟨h.1,fun hn=>by
  obtain ⟨g,R,e1,e2,e3,e4,e5,e7⟩:=h.2 hn;refine ⟨g,R,e1,e2,e3,e4.other ho h1 h2 hk,e5,fun i r ts hr hv=>?_⟩;have hI:=e7 i r ts hr hv;by_cases hm:0<r.m
  · obtain ⟨e8,cs,e9,-⟩:=e4.each i r hr hm;rw [e8] at hI ⊢;refine ⟨hI.1,hI.2.1,fun hm2=>?_⟩;obtain ⟨b',o',e,hb,hc⟩:=hI.2.2 hm2
    injection e with e
    injection e with e1' e2'
    subst e1' e2';exact ⟨r.g,r.o,rfl,Nat.lt_of_lt_of_le hb hs,rgK hc (hk r.g (own_neR e9 ho h2))⟩
  · exact ⟨hI.1,hI.2.1,fun hm'=>absurd hm' hm⟩⟩
def MarkedV (w:World) (a:Option Addr) (n:Nat) (K:Int):Prop:=n=0∨∃g cs,a=some ⟨g,0,none⟩∧Own w g 2 (markA (mkI K) cs n)∧n≤cs.size
theorem MarkedV.keep {w w':World} {a:Option Addr} {n:Nat} {K:Int} (h:MarkedV w a n K) (hb:Below w.heap.size w w'):MarkedV w' a n K:=by
 rcases h with h | ⟨g,cs,h1,h2,h3⟩
 · exact Or.inl h
 · exact Or.inr ⟨g,cs,h1,h2.keep hb h2.lt,h3⟩
open Go.RowKit Go.Deep Go.ChangeShapes Go.WideShapes
section
variable {H:Type} {enc:TypeId × Value→H} {w:World} {spare:Nat→Bool} {held:Bool}
theorem form_len {t u : TypeId} {a : Option Addr} {n c : Nat} {d : DataW H} {p : List MemPlace} {fd : Field} (ht : Try.prog.underlying t = some (.struct #[fd])) (hfd : fd.type = u) (hof : fd.offset = 0) (hCu : Try.prog.cellsOf u = 1)
    (hu:Try.prog.underlying u=some (.slice 134)) (h:DataW.Trod enc Try.prog w 0 spare held t (.agg #[.slice a n c]) d p):(n:Int)≤9223372036854775807:=by
 obtain ⟨fuel,hf⟩:=h
 obtain ⟨xs,k,_,_,hlen,hxl,hx⟩:=DataW.trod_struct ht hf
 have h0:=hx 0 fd rfl
 rw [hfd,hof,hCu,List.drop_zero,List.getElem?_eq_getElem (by rw [hxl];simp)] at h0
 simp only [Value.cells] at h0
 rcases open_slice hu h0 with ⟨hcs,_⟩ | ⟨x,l,c',m,k,D,Pl,hcs,_,hl,hm,hmm,_,hx⟩
 · simp at hcs;omega
 · simp at hcs
   have:(maxLen:Int)≤9223372036854775807:=(by decide);omega
end
theorem Own.terms {w:World} {g n:Nat} {t:TypeId} {ts:List Tm} (h:Own w g t (rcells ts).toArray) (hT:∀t∈ts,IsTm t) (hn:ts.length=n):Terms w (some ⟨g,0,none⟩) n ts:=Terms.of_own h hT hn
end Go.Proofs.Ytikldofmpkidbaa
