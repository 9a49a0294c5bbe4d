
import Derived.Test.YtndnkeijddagiaaMono
import Derived.Deep.WholeRow
namespace Go.Proofs.Ytndnkeijddagiaa
set_option maxRecDepth 100000
open Go.RowKit Go.Deep
def mrow (m:List Int) (k:Nat):Array Value:=(mcells (m.take k)++List.replicate (8 - k) (Value.int .u8 0)).toArray
theorem mrow_zero (m:List Int):mrow m 0=#[.int .u8 0,.int .u8 0,.int .u8 0,.int .u8 0,.int .u8 0,.int .u8 0,.int .u8 0,.int .u8 0]:=by
 simp [mrow,mcells]
theorem mrow_step {m:List Int} {k:Nat} {y:Int} (hk:k<8) (hy:m[k]? = some y):(mrow m k).setIfInBounds k (.int .u8 y)=mrow m (k+1):=by
 have hlt:k<m.length:=(List.getElem?_eq_some_iff.1 hy).1
 apply Array.ext'
 simp only [mrow,Array.toList_setIfInBounds,mcells]
 have hlen:((m.take k).map (Value.int .u8)).length=k:=by simp;omega
 rw [List.set_append_right _ _ (by rw [hlen];exact Nat.le_refl _),hlen,Nat.sub_self,List.take_add_one,hy]
 obtain ⟨r,hr⟩:∃r,8 - k=r+1:=⟨8 - k - 1,by omega⟩
 rw [hr,show 8 - (k+1)=r by omega]
 simp [List.replicate_succ]
theorem mrow_end {m:List Int} (h:IsMono m):mrow m 8=(mcells m).toArray:=by
 simp [mrow,List.take_of_length_le (Nat.le_of_eq h.1)]
theorem mrow_size {m:List Int} (h:IsMono m) {k:Nat} (hk:k≤8):(mrow m k).size=8:=by
 simp [mrow,mcells,h.1];omega
theorem toMonomial_c {w : World} {m : List Int} (hm : IsMono m) :
    Calls Try.prog 129 #[monoV m] w fun e w'=>e=.returned (monoV m)∧Below w.heap.size w w':=by
 unfold monoV
 go_enter Try.func129,Try.ntmps129
 go_wp2
 rw [←mrow_zero m]
 have o1:=(((Own.new w 73 (mcells m).toArray).alloc (.cells (mrow m 0) 74)).alloc (.cells (mrow m 0) 74))
 have o2:=((Own.new (w.alloc (.cells (mcells m).toArray 73)) 74 (mrow m 0)).alloc (.cells (mrow m 0) 74))
 have o3:=Own.new ((w.alloc (.cells (mcells m).toArray 73)).alloc (.cells (mrow m 0) 74)) 74 (mrow m 0)
 have hb:Below w.heap.size w (((w.alloc (.cells (mcells m).toArray 73)).alloc (.cells (mrow m 0) 74)).alloc (.cells (mrow m 0) 74)):=bTn (bTn (bA1 w _) (bA1 _ _)) (bA1 _ _)
 rw [sAl] at o2
 rw [sAl,sAl] at o3
 generalize ((w.alloc (.cells (mcells m).toArray 73)).alloc (.cells (mrow m 0) 74)).alloc (.cells (mrow m 0) 74)=w0 at *
 go_loopw [4] (fun i wr=>∃k:Nat,k≤8∧i=.int .i64 k∧Own wr w.heap.size 73 (mcells m).toArray∧Own wr (w.heap.size+1) 74 (mrow m 0)∧Own wr (w.heap.size+1+1) 74 (mrow m k)∧Below w.heap.size w wr) (fun i _=>8 - (intOf i).toNat)
 case atStart=>exact ⟨0,Nat.zero_le _,rfl,o1,o2,o3,hb⟩
 case round=>
  clear o1 o2 o3 hb;obtain ⟨k,hk,rfl,o1,o2,o3,hb⟩:=hrel;by_cases hlt:k<8
  · obtain ⟨y,hy0,hy1,hy,HY⟩:=mono_at hm hlt;have c1:=o1.cell k;have c3:=o3.cell k;have f3:=o3.frozen k;have hsz:=mrow_size hm (Nat.le_of_lt hlt);rw [Array.getElem?_eq_getElem (by omega)] at c3
    go_wp2
    go_roundw
    case rel=>exact ⟨k+1,by omega,by go_num,o1.far (by dsimp only;omega) _,o2.far (by dsimp only;omega) _,by rw [←mrow_step hlt HY.out];exact o3.set k _,hb.setCell (by dsimp only;omega) _⟩
    case measure=>simp [intOf];omega
  · have he:k=8:=(by omega);subst he;rw [mrow_end hm] at o3
    go_wp2_with (first
     | (refine wpList_load_row rfl 74 (.tmp 3) rfl _ rfl 74 (mcells m).toArray (0,0) _ o3 Try.underlying74 rfl (by rw [msize hm];exact Try.info_mono) ?_)
     | (refine wpList_store_row rfl 74 (.tmp 2) (.tmp 14) rfl _ (mcells m).toArray rfl rfl 74 _ o2 (by rw [msize hm];exact Try.info_mono) (by rw [msize hm,mrow_size hm (Nat.zero_le _)]) (by simp [mcells,Value.oneCell']) ?_))
    exact bodyPost_ret (results_cell_row rfl _ _ (w.heap.size+1) 74 (mcells m).toArray (0,0) _ rfl (o2.setRow _) Try.underlying74 rfl (by rw [msize hm];exact Try.info_mono)) rfl ⟨rfl,below_setRow hb (by omega) _⟩
theorem eqMonomial_c {w : World} {m m' : List Int} (hm : IsMono m) (hm' : IsMono m') :
    Calls Try.prog 134 #[monoV m,monoV m'] w fun e w'=>e=.returned (.bool (decide (m=m')))∧Below w.heap.size w w':=by
 unfold monoV
 go_enter Try.func134,Try.ntmps134
 go_wp2
 have o1:=(Own.new w 74 (mcells m).toArray).alloc (.cells (mcells m').toArray 74)
 have o2:=Own.new (w.alloc (.cells (mcells m).toArray 74)) 74 (mcells m').toArray
 have hb:Below w.heap.size w ((w.alloc (.cells (mcells m).toArray 74)).alloc (.cells (mcells m').toArray 74)):=bTn (bA1 w _) (bA1 _ _)
 rw [sAl] at o2
 generalize (w.alloc (.cells (mcells m).toArray 74)).alloc (.cells (mcells m').toArray 74)=w0 at *
 go_loopw [5] (fun i wr=>∃k q:Nat,k≤8∧i=.int .i64 k∧wr=w0.drewN q∧Hid (m.take k=m'.take k)) (fun i _=>8 - (intOf i).toNat)
 case atStart=>exact ⟨0,0,Nat.zero_le _,rfl,rfl,rfl⟩
 case round=>
  obtain ⟨k,q,hk,rfl,rfl,H⟩:=hrel;by_cases hlt:k<8
  · obtain ⟨y,hy0,hy1,hy,HY⟩:=mono_at hm hlt;obtain ⟨y',hy0',hy1',hy',HY'⟩:=mono_at hm' hlt;have c1:=o1.cell k;have c2:=o2.cell k;rw [List.getElem?_toArray,hy] at c1;rw [List.getElem?_toArray,hy'] at c2;have h8:(k:Int)<8:=(by omega);by_cases hxy:y=y'
    · subst hxy
      go_wp2
      go_quiet (fail)
      go_wp2
      go_roundw
      case rel=>exact ⟨k+1,_,by omega,by go_num,rfl,take_eq HY.out HY'.out H.out⟩
      case measure=>simp [intOf];omega
    · have hq:(y==y')=false:=(by simpa using hxy);have hq':(y != y')=true:=by simpa using hxy
      go_wp2
      go_quiet (fail)
      go_wp2
      go_ret
      exact ⟨ret_b (eq_no HY.out HY'.out hxy).symm,below_drewN (below_drewN hb _) _⟩
  · go_wp2
    go_ret
    exact ⟨ret_b (eq_end (by have:=hm.1;omega) (by have:=hm'.1;omega) H.out).symm,below_drewN hb _⟩
def isMono (zs m:List Int):Bool:=degsOk zs && monoOk zs m
theorem degsOk_len {zs:List Int} (h:degsOk zs=true):zs.length≤8:=by
 simp only [degsOk,Bool.and_eq_true,decide_eq_true_eq] at h;exact h.2
theorem degsOk_mild {zs:List Int} (h:degsOk zs=true):Mild zs:=by
 simp only [degsOk,Bool.and_eq_true,List.all_eq_true] at h
 intro x hx
 have:=h.1 x hx
 simp only [okDeg,decide_eq_true_eq] at this
 omega
end Go.Proofs.Ytndnkeijddagiaa
