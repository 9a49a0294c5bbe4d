
import Derived.Test.YtefjinnpofojnaaProd
import Derived.Deep.DeepCutAuto
namespace Go.Proofs.Ytefjinnpofojnaa
open Go.RowKit Go.Deep
def mxTo (m:List Int):Nat→Int
 | 0=>m.getD 0 0
 | j+1=>max (mxTo m j) (m.getD (j+1) 0)
def within (m:List Int):Bool:=m.all fun x=>decide (x≤20)
theorem mxTo_le (m:List Int) (j:Nat) (B:Int):mxTo m j≤B↔∀i,i≤j→m.getD i 0≤B:=by
 induction j with
 | zero=>simp [mxTo]
 | succ j ih =>
   simp only [mxTo];rw [Int.max_le,ih];constructor
   · rintro ⟨h1,h2⟩ i hi;by_cases h:i=j+1
     · subst h;exact h2
     · exact h1 i (by omega)
   · intro h;exact ⟨fun i hi=>h i (by omega),h (j+1) (Nat.le_refl _)⟩
theorem within_mx {m:List Int} (h:m.length=8):decide (mxTo m 7≤20)=within m:=by
 rw [Bool.eq_iff_iff,decide_eq_true_eq,mxTo_le,within,List.all_eq_true]
 constructor
 · intro hh x hx;obtain ⟨i,hi,rfl⟩:=List.mem_iff_getElem.1 hx;have:=hh i (by omega);simpa [List.getD,hi] using this
 · intro hh i hi;have hl:i<m.length:=(by omega);have:=hh m[i] (List.getElem_mem hl);simpa [List.getD,hl] using this
theorem mxTo_succ {m:List Int} {j:Nat} {y:Int} (hy:m[j+1]? = some y):mxTo m (j+1)=max (mxTo m j) y:=by
 simp [mxTo,List.getD,hy]
theorem Max_c {w : World} {g c : Nat} {m : List Int} (hm : IsMono m) (hO : Own w g 95 (mcells m).toArray) :
    Calls Try.prog 89 #[.slice (some ⟨g,0,none⟩) 8 c] w fun e w'=>e=.returned (.int .u8 (mxTo m 7))∧w=w':=by
 obtain ⟨y0,-,-,hy0,HY0⟩:=mono_at hm (show 0<8 by omega)
 have c0:=hO.cell 0
 rw [List.getElem?_toArray,hy0] at c0
 go_enter Try.func89,Try.ntmps89
 go_wp2
 go_loop [3,4] (fun v i=>∃j:Nat,j≤7∧i=.int .i64 ((j:Int)+1)∧v=.int .u8 (mxTo m j)) (fun _ i=>8 - (intOf i).toNat)
 case atStart=>exact ⟨0,by omega,rfl,by simp [mxTo,List.getD,HY0.out]⟩
 case round=>
  obtain ⟨j,hj,rfl,rfl⟩:=hrel;by_cases hlt:j<7
  · obtain ⟨y,h0,h1,hy,HY⟩:=mono_at hm (show j+1<8 by omega);have cj:=hO.cell (j+1);rw [List.getElem?_toArray,hy] at cj
    go_wp2
    go_round
    case rel=>exact ⟨j+1,by omega,by go_num,by rw [mxTo_succ HY.out];congr 1;split <;> omega⟩
    case measure=>simp [intOf] <;> omega
  · have:j=7:=(by omega);subst this
    go_wp2
    go_ret
    exact ⟨rfl,rfl⟩
theorem withinPowers_c {w : World} {m : List Int} (hm : IsMono m) :
    Calls Try.prog 68 #[monoV m] w fun e w'=>e=.returned (.bool (within m))∧Below w.heap.size w w':=by
 have hW:=Lib.hid (within_mx hm.1)
 unfold monoV
 go_enter Try.func68,Try.ntmps68
 go_wp2_with (go_at_call 89;refine (Max_c hm (Own.new w 95 (mcells m).toArray)).mono ?_;rintro e w' ⟨rfl,rfl⟩)
 go_ret
 exact ⟨ret_b (by rw [←hW.out]),bA1 w _⟩
theorem joinS_bd (zs m k:List Int):-1≤joinS zs m k∧joinS zs m k≤1:=by
 unfold joinS
 split
 · decide
 · rcases (sgn3_pm (trip zs m k)).1 with h | h <;> rw [h] <;> decide
end Go.Proofs.Ytefjinnpofojnaa
