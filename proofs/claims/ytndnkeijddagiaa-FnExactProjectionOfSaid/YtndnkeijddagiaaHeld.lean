
import Derived.Deep.RegionHeld3
import Derived.WalkKit
namespace Go
section
variable {P:Program} {ops:Array Oper} {Q:Exit→Act→World→Prop} {md:Region.Mode} {S:World→Prop}
theorem pA {l:List Value} {i:Nat} {a:Value}:l.toArray.setIfInBounds i a=(l.set i a).toArray:=by simp
theorem pB {a b:Value} {l:List Value}:(a::l).set 0 b=b::l:=rfl
theorem pC {a b:Value} {l:List Value} {n:Nat}:(a::l).set (n+1) b=a::l.set n b:=rfl
theorem hdAt {i:Nat} {oi:Oper} (h:(ops.toList.drop i).head? = some oi):ops[i]? = some oi:=by
 rw [List.head?_drop] at h
 simpa using h
theorem hdTake {i : Nat} {oi : Oper} {v : Value} {fuel : Nat} {listed : Array Bool} {a : Act} {w : World} (hi : (ops.toList.drop i).head? = some oi)
    (hs:Region.noSelect ops=true) (hf:Region.free md ops listed i=true) (hr:(Region.ready md ops listed).contains i=true)
    (hQ:∀c a w,Q (.panic c) (a.put oi.dst v) w→Q (.panic c) a w) (hw:Region.wanted oi (yielded ops a.tmps)=true) (hy:∀w,S w→(execOp a.eval oi).run P w=.ok (.value v) w) (hS:S w)
    (h:wpAnyH P md ops Q S fuel (listed.setIfInBounds i true) (a.put oi.dst v) w):wpAnyH P md ops Q S (fuel+1) listed a w:=
 wpAnyH_take (hdAt hi) hs hf hr hQ (Or.inl ⟨hw,hy⟩) hS h
theorem hdSkip {i : Nat} {oi : Oper} {fuel : Nat} {listed : Array Bool} {a : Act} {w : World} (hi : (ops.toList.drop i).head? = some oi)
    (hs:Region.noSelect ops=true) (hf:Region.free md ops listed i=true) (hr:(Region.ready md ops listed).contains i=true)
    (hQ:∀c a w,Q (.panic c) (a.put oi.dst undef) w→Q (.panic c) a w) (hw:Region.wanted oi (yielded ops a.tmps)=false) (hS:S w)
    (h:wpAnyH P md ops Q S fuel (listed.setIfInBounds i true) (a.put oi.dst undef) w):wpAnyH P md ops Q S (fuel+1) listed a w:=
 wpAnyH_take (hdAt hi) hs hf hr hQ (Or.inr ⟨hw,rfl⟩) hS h
theorem hdCall {i : Nat} {o : Oper} {fuel : Nat} {listed : Array Bool} {a : Act} {w : World} (hr : Region.ready md ops listed = [i]) (ho : (ops.toList.drop i).head? = some o)
    (h:∀K':Act→World→Prop,Shut (∀a w,S w→(S w→wpAnyH P md ops Q S fuel (listed.setIfInBounds i true) a w)→K' a w)→if Region.wanted o (yielded ops a.tmps)=true then Oper.wp P o a w K' Q else K' (a.put o.dst undef) w) :
    wpAnyH P md ops Q S (fuel+1) listed a w:=
 wpAnyH_ready hr (List.cons_ne_nil _ _) (AllReadyH.cons (hdAt ho) h AllReadyH.nil)
theorem hdT (i : Nat) {oi : Oper} {v : Value} {fuel : Nat} {listed : Array Bool} {a b : Act} {w : World}
    (h:wpAnyH P md ops Q S fuel (listed.setIfInBounds i true) b w)
    (hi:(ops.toList.drop i).head? = some oi:=by exact rfl)
    (hs:Region.noSelect ops=true:=by kernel_rfl) (hf:Region.free md ops listed i=true:=by kernel_rfl) (hr:(Region.ready md ops listed).contains i=true:=by kernel_rfl)
    (hQ:∀c a w,Q (.panic c) (a.put oi.dst v) w→Q (.panic c) a w:=by exact fun _ _ _ h=>h) (hw:Region.wanted oi (yielded ops a.tmps)=true:=by rfl) (hy:∀w,S w→(execOp a.eval oi).run P w=.ok (.value v) w:=by intro w hSw;(try dsimp only at hSw);go_simp;(try with_reducible rfl)) (hS:S w:=by assumption) (hb:a.put oi.dst v=b:=by simp only [Act.put,pA,pB,pC];(try with_reducible rfl))
    : wpAnyH P md ops Q S (fuel+1) listed a w:=
 hdTake hi hs hf hr hQ hw hy hS (hb ▸ h)
theorem hdU (i : Nat) {oi : Oper} {fuel : Nat} {listed : Array Bool} {a b : Act} {w : World}
    (h:wpAnyH P md ops Q S fuel (listed.setIfInBounds i true) b w)
    (hi:(ops.toList.drop i).head? = some oi:=by exact rfl)
    (hs:Region.noSelect ops=true:=by kernel_rfl) (hf:Region.free md ops listed i=true:=by kernel_rfl) (hr:(Region.ready md ops listed).contains i=true:=by kernel_rfl)
    (hQ:∀c a w,Q (.panic c) (a.put oi.dst undef) w→Q (.panic c) a w:=by exact fun _ _ _ h=>h) (hw:Region.wanted oi (yielded ops a.tmps)=false:=by rfl) (hS:S w:=by assumption) (hb:a.put oi.dst undef=b:=by simp only [Act.put,pA,pB,pC];(try with_reducible rfl))
    : wpAnyH P md ops Q S (fuel+1) listed a w:=
 hdSkip hi hs hf hr hQ hw hS (hb ▸ h)
theorem hdC (i : Nat) {o : Oper} {fuel : Nat} {listed : Array Bool} {a : Act} {w : World}
    (h:∀K':Act→World→Prop,Shut (∀a w,S w→(S w→wpAnyH P md ops Q S fuel (listed.setIfInBounds i true) a w)→K' a w)→if Region.wanted o (yielded ops a.tmps)=true then Oper.wp P o a w K' Q else K' (a.put o.dst undef) w)
    (hr:Region.ready md ops listed=[i]:=by kernel_rfl) (ho:(ops.toList.drop i).head? = some o:=by exact rfl):wpAnyH P md ops Q S (fuel+1) listed a w:=
 hdCall hr ho h
end
end Go
