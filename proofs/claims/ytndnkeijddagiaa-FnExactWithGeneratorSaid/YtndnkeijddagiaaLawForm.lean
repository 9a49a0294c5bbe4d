
import Derived.Test.YtndnkeijddagiaaIsFormB
namespace Go.Proofs.Ytndnkeijddagiaa
open Go.RowKit Go.Deep Go.ChangeShapes Go.WideShapes
section
variable {H:Type} {enc:TypeId × Value→H} {w:World} {spare:Nat→Bool} {held:Bool}
theorem form_len {t u : TypeId} {a : Option Addr} {n c : Nat} {d : DataW H} {p : List MemPlace} {fd : Field} (ht : Try.prog.underlying t = some (.struct #[fd])) (hfd : fd.type = u) (hof : fd.offset = 0) (hCu : Try.prog.cellsOf u = 1)
    (hu:Try.prog.underlying u=some (.slice 125)) (h:DataW.Trod enc Try.prog w 0 spare held t (.agg #[.slice a n c]) d p):(n:Int)≤9223372036854775807:=by
 obtain ⟨fuel,hf⟩:=h
 obtain ⟨xs,k,_,_,hlen,hxl,hx⟩:=DataW.trod_struct ht hf
 have h0:=hx 0 fd rfl
 rw [hfd,hof,hCu,List.drop_zero,List.getElem?_eq_getElem (by rw [hxl];simp)] at h0
 simp only [Value.cells] at h0
 rcases open_slice hu h0 with ⟨hcs,_⟩ | ⟨x,l,c',m,k,D,Pl,hcs,_,hl,hm,hmm,_,hx⟩
 · simp at hcs;omega
 · simp at hcs
   have:(maxLen:Int)≤9223372036854775807:=(by decide);omega
end
theorem Own.terms {w:World} {g n:Nat} {t:TypeId} {ts:List Tm} (h:Own w g t (rcells ts).toArray) (hT:∀t∈ts,IsTm t) (hn:ts.length=n):Terms w (some ⟨g,0,none⟩) n ts:=Terms.of_own h hT hn
end Go.Proofs.Ytndnkeijddagiaa
