
import Derived.Test.YtfpniioegjpfeaaGreatDoorMono
import Derived.Deep.WholeRow
import Derived.Lib.Bytealg
import Derived.Lib.Bytes
import Derived.Lib.BytesEntry
import Derived.Laws.MakeOwn
import Derived.Deep.DeepCutAuto
namespace Go.Proofs.YtfpniioegjpfeaaGreatDoor
set_option maxRecDepth 100000
open Go.RowKit Go.Deep
theorem eqMonomial_c {w : World} {m m' : List Int} (hm : IsMono m) (hm' : IsMono m') :
    Calls Tryz.prog 74 #[monoV m,monoV m'] w fun e w'=>e=.returned (.bool (decide (m=m')))∧Below w.heap.size w w':=by
 unfold monoV
 go_enter Tryz.func74,Tryz.ntmps74
 go_wp2
 have o1:=(Own.new w 60 (mcells m).toArray).alloc (.cells (mcells m').toArray 60)
 have o2:=Own.new (w.alloc (.cells (mcells m).toArray 60)) 60 (mcells m').toArray
 have hb:Below w.heap.size w ((w.alloc (.cells (mcells m).toArray 60)).alloc (.cells (mcells m').toArray 60)):=bTn (bA1 w _) (bA1 _ _)
 rw [sAl] at o2
 generalize (w.alloc (.cells (mcells m).toArray 60)).alloc (.cells (mcells m').toArray 60)=w0 at *
 go_loopw [5] (fun i wr=>∃k q:Nat,k≤8∧i=.int .i64 k∧wr=w0.drewN q∧Hid (m.take k=m'.take k)) (fun i _=>8 - (intOf i).toNat)
 case atStart=>exact ⟨0,0,Nat.zero_le _,rfl,rfl,rfl⟩
 case round=>
  obtain ⟨k,q,hk,rfl,rfl,H⟩:=hrel;by_cases hlt:k<8
  · obtain ⟨y,hy0,hy1,hy,HY⟩:=mono_at hm hlt;obtain ⟨y',hy0',hy1',hy',HY'⟩:=mono_at hm' hlt;have c1:=o1.cell k;have c2:=o2.cell k;rw [List.getElem?_toArray,hy] at c1;rw [List.getElem?_toArray,hy'] at c2;have h8:(k:Int)<8:=(by omega);by_cases hxy:y=y'
    · subst hxy
      go_wp2
      go_quiet (fail)
      go_wp2
      go_roundw
      case rel=>exact ⟨k+1,_,by omega,by go_num,rfl,take_eq HY.out HY'.out H.out⟩
      case measure=>simp [intOf];omega
    · have hq:(y==y')=false:=(by simpa using hxy);have hq':(y != y')=true:=by simpa using hxy
      go_wp2
      go_quiet (fail)
      go_wp2
      go_ret
      exact ⟨ret_b (eq_no HY.out HY'.out hxy).symm,below_drewN (below_drewN hb _) _⟩
  · go_wp2
    go_ret
    exact ⟨ret_b (eq_end (by have:=hm.1;omega) (by have:=hm'.1;omega) H.out).symm,below_drewN hb _⟩
def isMono (zs m:List Int):Bool:=degsOk zs && monoOk zs m
theorem degsOk_len {zs:List Int} (h:degsOk zs=true):zs.length≤8:=by
 simp only [degsOk,Bool.and_eq_true,decide_eq_true_eq] at h;exact h.2
theorem degsOk_mild {zs:List Int} (h:degsOk zs=true):Mild zs:=by
 simp only [degsOk,Bool.and_eq_true,List.all_eq_true] at h
 intro x hx
 have:=h.1 x hx
 simp only [okDeg,decide_eq_true_eq] at this
 omega
def cmpM:List Int→List Int→Int
 | a::l1,b::l2=>if b<a then -1 else if a<b then 1 else cmpM l1 l2
 | _,_=>0
def before (m k:List Int):Bool:=decide (cmpM m k=-1)
theorem u8_lt {a b:Int} (ha:0≤a∧a≤255) (hb:0≤b∧b≤255):(UInt8.ofNat a.toNat<UInt8.ofNat b.toNat)↔a<b:=by
 rw [UInt8.lt_iff_toNat_lt,UInt8.toNat_ofNat',UInt8.toNat_ofNat',Nat.mod_eq_of_lt (by omega),Nat.mod_eq_of_lt (by omega)]
 omega
theorem cmpM_bytes:∀(m k:List Int),m.length=k.length→(∀x∈m,0≤x∧x≤255)→(∀x∈k,0≤x∧x≤255)→Lib.compareBytes (Lib.bytesOf k) (Lib.bytesOf m)=cmpM m k
 | [],[],_,_,_=>rfl
 | a :: l1, b :: l2, hl, h1, h2 => by
   have ih:=cmpM_bytes l1 l2 (by simpa using hl) (fun x hx=>h1 x (by simp [hx])) (fun x hx=>h2 x (by simp [hx]));have ha:=h1 a (by simp);have hb:=h2 b (by simp);simp only [Lib.bytesOf,List.map_cons,Lib.compareBytes,cmpM,u8_lt hb ha,u8_lt ha hb];rw [←ih];rfl
 | [],_::_,hl,_,_=>by simp at hl
 | _::_,[],hl,_,_=>by simp at hl
theorem cmpM_range (m k:List Int):cmpM m k=-1∨cmpM m k=0∨cmpM m k=1:=by
 induction m generalizing k with
 | nil=>simp [cmpM]
 | cons a l1 ih =>
   cases k with
   | nil=>simp [cmpM]
   | cons b l2 =>
     simp only [cmpM];split
     · simp
     · split
       · simp
       · exact ih l2
theorem cmpM_take:∀(i:Nat) (m k:List Int),m.take i=k.take i→cmpM m k=cmpM (m.drop i) (k.drop i)
 | 0,m,k,_=>by simp
 | i + 1, [], k, h => by
   cases k with
   | nil=>rfl
   | cons b l2=>simp at h
 | i+1,a::l1,[],h=>by simp at h
 | i + 1, a :: l1, b :: l2, h => by
   simp only [List.take_succ_cons,List.cons.injEq] at h;obtain ⟨rfl,h⟩:=h;rw [cmpM,if_neg (by omega),if_neg (by omega),cmpM_take i l1 l2 h,List.drop_succ_cons,List.drop_succ_cons]
theorem cmpM_at {m k:List Int} {i:Nat} {y z:Int} (hy:m[i]? = some y) (hz:k[i]? = some z) (h:m.take i=k.take i) (hne:y≠z):cmpM m k=if z<y then -1 else 1:=by
 obtain ⟨h1,e1⟩:=List.getElem?_eq_some_iff.1 hy
 obtain ⟨h2,e2⟩:=List.getElem?_eq_some_iff.1 hz
 rw [cmpM_take i m k h,List.drop_eq_getElem_cons h1,List.drop_eq_getElem_cons h2,e1,e2,cmpM]
 split
 · rfl
 · rw [if_pos (by omega)]
theorem cmpM_self (m:List Int):cmpM m m=0:=by
 induction m with
 | nil=>rfl
 | cons a l1 ih=>rw [cmpM,if_neg (by omega),if_neg (by omega),ih]
theorem before_at {m k:List Int} {i:Nat} {y z:Int} (hy:m[i]? = some y) (hz:k[i]? = some z) (h:m.take i=k.take i) (hne:y≠z):before m k=decide (z<y):=by
 rw [before,cmpM_at hy hz h hne]
 by_cases hh:z<y <;> simp [hh]
theorem before_self (m:List Int):before m m=false:=by rw [before,cmpM_self];rfl
theorem l01Before_c {w : World} {m k : List Int} (hm : IsMono m) (hk : IsMono k) :
    Calls Tryz.prog 61 #[monoV m,monoV k] w fun e w'=>e=.returned (.bool (before m k))∧Below w.heap.size w w':=by
 unfold monoV
 go_enter Tryz.func61,Tryz.ntmps61
 go_wp2
 have o1:=(Own.new w 60 (mcells m).toArray).alloc (.cells (mcells k).toArray 60)
 have o2:=Own.new (w.alloc (.cells (mcells m).toArray 60)) 60 (mcells k).toArray
 have hb:Below w.heap.size w ((w.alloc (.cells (mcells m).toArray 60)).alloc (.cells (mcells k).toArray 60)):=bTn (bA1 w _) (bA1 _ _)
 rw [sAl] at o2
 generalize (w.alloc (.cells (mcells m).toArray 60)).alloc (.cells (mcells k).toArray 60)=w0 at *
 go_loopw [5] (fun i wr=>∃j q:Nat,j≤8∧i=.int .i64 j∧wr=w0.drewN q∧Hid (m.take j=k.take j)) (fun i _=>8 - (intOf i).toNat)
 case atStart=>exact ⟨0,0,Nat.zero_le _,rfl,rfl,rfl⟩
 case round=>
  obtain ⟨j,q,hj,rfl,rfl,H⟩:=hrel;by_cases hlt:j<8
  · obtain ⟨y,hy0,hy1,hy,HY⟩:=mono_at hm hlt;obtain ⟨z,hz0,hz1,hz,HZ⟩:=mono_at hk hlt;have c1:=o1.cell j;have c2:=o2.cell j;rw [List.getElem?_toArray,hy] at c1;rw [List.getElem?_toArray,hz] at c2;have h8:(j:Int)<8:=(by omega);by_cases hxy:y=z
    · subst hxy
      go_wp2
      go_quiet (fail)
      go_wp2
      go_roundw
      case rel=>exact ⟨j+1,_,by omega,by go_num,rfl,take_eq HY.out HZ.out H.out⟩
      case measure=>simp [intOf] <;> omega
    · have hq:(y==z)=false:=(by simpa using hxy);have hq':(y != z)=true:=by simpa using hxy
      go_wp2
      go_quiet (fail)
      go_wp2
      go_quiet (fail)
      go_wp2
      go_ret
      exact ⟨ret_b (before_at HY.out HZ.out H.out hxy).symm,below_drewN (below_drewN (below_drewN hb _) _) _⟩
  · go_wp2
    go_ret
    have he:m=k:=by
     have:=H.out
     rwa [List.take_of_length_le (by have:=hm.1;omega),List.take_of_length_le (by have:=hk.1;omega)] at this
    exact ⟨ret_b (by rw [he,before_self]),below_drewN hb _⟩
theorem run_compare8 {P : Program} {w : World} {g g' c c' : Nat} {t t' : TypeId} {m k : List Int} (hm : IsMono m) (hk : IsMono k) (o1 : Own w g t (mcells m).toArray) (o2 : Own w g' t' (mcells k).toArray) :
    (Extern.BytealgCompare.compare #[.slice (some ⟨g',0,none⟩) 8 c',.slice (some ⟨g,0,none⟩) 8 c]).run P w=.ok (.int .i64 (cmpM m k)) w:=by
 have l1:=Lib.run_loadBytesX (P:=P) w m ⟨g,0,none⟩ .empty (fun j x hj=>by
  rw [Addr.add_mid,Nat.zero_add,o1.cell j];simp [mcells,hj])
 have l2:=Lib.run_loadBytesX (P:=P) w k ⟨g',0,none⟩ .empty (fun j x hj=>by
  rw [Addr.add_mid,Nat.zero_add,o2.cell j];simp [mcells,hj])
 rw [hm.1] at l1
 rw [hk.1] at l2
 have he:∀xs:List Int,(⟨ByteArray.empty.data++(Lib.bytesOf xs).toArray⟩:ByteArray)=⟨(Lib.bytesOf xs).toArray⟩:=fun xs=>by
  apply ByteArray.ext
  show (#[]:Array UInt8)++(Lib.bytesOf xs).toArray=(Lib.bytesOf xs).toArray
  simp
 rw [he] at l1 l2
 have hs:=Lib.run_compareString (P:=P) ⟨(Lib.bytesOf k).toArray⟩ ⟨(Lib.bytesOf m).toArray⟩ w
 rw [show (⟨(Lib.bytesOf k).toArray⟩:ByteArray).data.toList=Lib.bytesOf k from rfl,show (⟨(Lib.bytesOf m).toArray⟩:ByteArray).data.toList=Lib.bytesOf m from rfl,cmpM_bytes m k (hm.1.trans hk.1.symm) hm.2 hk.2] at hs
 change Sem.run P (do pure (goInt (Extern.BytealgCompare.cmp (←Extern.Bytes.bytesOf (.slice (some ⟨g',0,none⟩) 8 c')) (←Extern.Bytes.bytesOf (.slice (some ⟨g,0,none⟩) 8 c))))) w=_
 change Sem.run P (do pure (goInt (Extern.BytealgCompare.cmp (←Extern.Bytes.bytesOf (.string ⟨(Lib.bytesOf k).toArray⟩)) (←Extern.Bytes.bytesOf (.string ⟨(Lib.bytesOf m).toArray⟩))))) w=_ at hs
 simp only [Extern.Bytes.bytesOf,Sem.run_bind,Sem.run_pure,l1,l2,Result.andThen] at hs ⊢
 exact hs
theorem Compare_c {w : World} {g g' c c' : Nat} {t t' : TypeId} {m k : List Int} (hm : IsMono m) (hk : IsMono k) (o1 : Own w g t (mcells m).toArray) (o2 : Own w g' t' (mcells k).toArray) :
    Calls Tryz.prog 70 #[.slice (some ⟨g',0,none⟩) 8 c',.slice (some ⟨g,0,none⟩) 8 c] w fun e w'=>e=.returned (.int .i64 (cmpM m k))∧w'=w:=by
 go_enter Tryz.func70,Tryz.ntmps70
 go_wp2
 rw [run_callFunc_extern Tryz.func90 (by kernel_rfl) (by kernel_rfl) (by kernel_rfl) (e:=Extern.BytealgCompare.compare) (by kernel_rfl),run_compare8 hm hk o1 o2]
 simp only [Result.andThen]
 rw [Oper.upon_value]
 go_wp2
 go_ret
 exact ⟨rfl,rfl⟩
theorem compareMonomials_c {w : World} {m k : List Int} (hm : IsMono m) (hk : IsMono k) :
    Calls Tryz.prog 45 #[monoV m,monoV k] w fun e w'=>e=.returned (.int .i64 (cmpM m k))∧Below w.heap.size w w':=by
 unfold monoV
 go_enter Tryz.func45,Tryz.ntmps45
 go_wp2
 have o1:=(Own.new w 60 (mcells m).toArray).alloc (.cells (mcells k).toArray 60)
 have o2:=Own.new (w.alloc (.cells (mcells m).toArray 60)) 60 (mcells k).toArray
 have hb:Below w.heap.size w ((w.alloc (.cells (mcells m).toArray 60)).alloc (.cells (mcells k).toArray 60)):=bTn (bA1 w _) (bA1 _ _)
 rw [sAl] at o2
 generalize (w.alloc (.cells (mcells m).toArray 60)).alloc (.cells (mcells k).toArray 60)=w0 at *
 go_quiet ((go_at_call 70;exact Calls.quiet_of_same (Compare_c hm hk (o1.drewN _) (o2.drewN _))))
 go_wp2
 go_ret
 exact ⟨rfl,below_drewN hb _⟩
theorem rcells_append (xs ys:List Tm):rcells (xs++ys)=rcells xs++rcells ys:=by simp [rcells]
theorem rcells_cons (t:Tm) (ys:List Tm):rcells (t::ys)=tcells t++rcells ys:=by simp [rcells]
theorem Terms.len {w:World} {a:Option Addr} {n:Nat} {ts:List Tm} (h:Terms w a n ts):ts.length=n:=h.1
theorem Terms.drewN {w:World} {a:Option Addr} {n:Nat} {ts:List Tm} (h:Terms w a n ts) (k:Nat):Terms (w.drewN k) a n ts:=h
theorem Terms.drew {w:World} {a:Option Addr} {n:Nat} {ts:List Tm} (h:Terms w a n ts):Terms w.drew a n ts:=h
theorem Terms.at_ {w : World} {a : Option Addr} {n : Nat} {ts : List Tm} (h : Terms w a n ts) {k : Nat} (hk : k < n) :
    ∃b off t,a=some ⟨b,off,none⟩∧b<w.heap.size∧w.rangeAt b (off+k * 9) (tcells t)∧IsTm t∧Hid (ts[k]? = some t):=by
 obtain ⟨hl,hT,hc⟩:=h
 obtain ⟨b,off,ha,hlt,hr⟩:=hc (by omega)
 have hkl:k<ts.length:=by omega
 refine ⟨b,off,ts[k],ha,hlt,fun j v hv=>?_,hT _ (List.getElem_mem hkl),List.getElem?_eq_getElem hkl⟩
 have hpre:(rcells (ts.take k)).length=k * 9:=by
  rw [rcells_length (fun t ht=>hT t (List.mem_of_mem_take ht)),List.length_take];congr 1
  omega
 have hsplit:rcells ts=rcells (ts.take k)++(tcells ts[k]++rcells (ts.drop (k+1))):=by
  rw [←rcells_cons,←rcells_append,←List.drop_eq_getElem_cons hkl,List.take_append_drop]
 have hj:j<(tcells ts[k]).length:=(List.getElem?_eq_some_iff.1 hv).1
 have:=hr (k * 9+j) v (by
  rw [hsplit,List.getElem?_append_right (by omega),hpre,show k * 9+j - k * 9=j by omega,List.getElem?_append_left hj]
  exact hv)
 rw [show off+k * 9+j=off+(k * 9+j) by omega]
 exact this
theorem Terms.of_own {w:World} {g:Nat} {t:TypeId} {ts:List Tm} {n:Nat} (h:Own w g t (rcells ts).toArray) (hT:∀t∈ts,IsTm t) (hn:ts.length=n):Terms w (some ⟨g,0,none⟩) n ts:=
 ⟨hn,hT,fun _=>⟨g,0,rfl,h.lt,by simpa using h.range⟩⟩
theorem Tryz.info_term:(Tryz.prog.info? 65).map (·.size)=some 9:=by kernel_rfl
def zero9:List Value:=[.int .u8 0,.int .u8 0,.int .u8 0,.int .u8 0,.int .u8 0,.int .u8 0,.int .u8 0,.int .u8 0,.int .i64 0]
theorem Tryz.info_term3:(Tryz.prog.info? 65).map (fun i=>(i.zero,i.size,i.bytes))=some (some (.agg zero9.toArray),9,16):=by kernel_rfl
end Go.Proofs.YtfpniioegjpfeaaGreatDoor
