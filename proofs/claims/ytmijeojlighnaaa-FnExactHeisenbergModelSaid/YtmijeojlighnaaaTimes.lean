
import Derived.Test.YtmijeojlighnaaaAddM
import Derived.Test.YtmijeojlighnaaaProd
import Derived.Test.YtmijeojlighnaaaMap
import Derived.Test.YtmijeojlighnaaaAddS
import Derived.Deep.DeepCutAuto
import Derived.Test.YtmijeojlighnaaaLawMul
import Derived.Test.YtmijeojlighnaaaResult
import Derived.Test.YtmijeojlighnaaaPart
import Derived.Test.YtmijeojlighnaaaHeld
namespace Go.Proofs.Ytmijeojlighnaaa
open Go.RowKit Go.Deep
structure Two (zs : List Int) (fs gs : List Tm) : Prop where
  t1 : ∀ t ∈ fs, IsTm t
  t2 : ∀ t ∈ gs, IsTm t
  fit : ∀ t ∈ fs, ∀ u ∈ gs, FitW zs t.m u.m
  f1 : ∀ t ∈ fs, 1 ≤ t.f ∧ t.f ≤ 10006
  f2 : ∀ t ∈ gs, 1 ≤ t.f ∧ t.f ≤ 10006
  s2 : Srt gs
theorem Two.take {zs : List Int} {fs gs : List Tm} (h : Two zs fs gs) (i : Nat) : Two zs (fs.take i) gs :=
  ⟨fun t ht => h.t1 t (List.mem_of_mem_take ht), h.t2, fun t ht => h.fit t (List.mem_of_mem_take ht), fun t ht => h.f1 t (List.mem_of_mem_take ht), h.f2, h.s2⟩
end Go.Proofs.Ytmijeojlighnaaa
