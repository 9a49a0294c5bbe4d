
import Derived.Test.YtndnkeijddagiaaMulM
import Derived.Test.YtndnkeijddagiaaLawMono
namespace Go.Proofs.Ytndnkeijddagiaa
open Go.RowKit Go.Deep
theorem Ints.drew {w:World} {a:Option Addr} {n:Nat} {zs:List Int} (h:Ints w a n zs):Ints w.drew a n zs:=h
theorem storeCells_own {w : World} {g : Nat} {t : TypeId} {old : Array Value} {R : List Int} (h : Own w g t old) (hs : old.size = 8) (hR : IsMono R) :
    (storeCells ⟨g,0,none⟩ (mcells R) 0).run Try.prog w=.ok () (w.setRow g (mcells R).toArray):=by
 have:=run_storeCells_from (P:=Try.prog) g t (mcells R) 0 old w h (by simp [mcells_length,hR.1,hs]) (fun v hv=>by simp only [mcells,List.mem_map] at hv;obtain ⟨x,_,rfl⟩:=hv;rfl)
 simpa using this
end Go.Proofs.Ytndnkeijddagiaa
