
import Derived.Test.YtifcfoijcodjbaaGreatMonoB
import Derived.Lib.Bytealg
import Derived.Lib.Bytes
import Derived.Lib.BytesEntry
import Derived.Laws.MakeOwn
import Derived.Deep.DeepCutAuto
import Derived.Deep.RegionHeld3
import Derived.Deep.CutRange
import Derived.Test.YtifcfoijcodjbaaGreatOpen
namespace Go.Proofs.YtifcfoijcodjbaaGreat
set_option maxRecDepth 100000
open Go.RowKit Go.Deep
def cmpM:List Int→List Int→Int
 | a::l1,b::l2=>if b<a then -1 else if a<b then 1 else cmpM l1 l2
 | _,_=>0
def before (m k:List Int):Bool:=decide (cmpM m k=-1)
theorem u8_lt {a b:Int} (ha:0≤a∧a≤255) (hb:0≤b∧b≤255):(UInt8.ofNat a.toNat<UInt8.ofNat b.toNat)↔a<b:=by
 rw [UInt8.lt_iff_toNat_lt,UInt8.toNat_ofNat',UInt8.toNat_ofNat',Nat.mod_eq_of_lt (by omega),Nat.mod_eq_of_lt (by omega)]
 omega
theorem cmpM_bytes:∀(m k:List Int),m.length=k.length→(∀x∈m,0≤x∧x≤255)→(∀x∈k,0≤x∧x≤255)→Lib.compareBytes (Lib.bytesOf k) (Lib.bytesOf m)=cmpM m k
 | [],[],_,_,_=>rfl
 | a :: l1, b :: l2, hl, h1, h2 => by
   have ih:=cmpM_bytes l1 l2 (by simpa using hl) (fun x hx=>h1 x (by simp [hx])) (fun x hx=>h2 x (by simp [hx]));have ha:=h1 a (by simp);have hb:=h2 b (by simp);simp only [Lib.bytesOf,List.map_cons,Lib.compareBytes,cmpM,u8_lt hb ha,u8_lt ha hb];rw [←ih];rfl
 | [],_::_,hl,_,_=>by simp at hl
 | _::_,[],hl,_,_=>by simp at hl
theorem cmpM_range (m k:List Int):cmpM m k=-1∨cmpM m k=0∨cmpM m k=1:=by
 induction m generalizing k with
 | nil=>simp [cmpM]
 | cons a l1 ih =>
   cases k with
   | nil=>simp [cmpM]
   | cons b l2 =>
     simp only [cmpM];split
     · simp
     · split
       · simp
       · exact ih l2
theorem cmpM_take:∀(i:Nat) (m k:List Int),m.take i=k.take i→cmpM m k=cmpM (m.drop i) (k.drop i)
 | 0,m,k,_=>by simp
 | i + 1, [], k, h => by
   cases k with
   | nil=>rfl
   | cons b l2=>simp at h
 | i+1,a::l1,[],h=>by simp at h
 | i + 1, a :: l1, b :: l2, h => by
   simp only [List.take_succ_cons,List.cons.injEq] at h;obtain ⟨rfl,h⟩:=h;rw [cmpM,if_neg (by omega),if_neg (by omega),cmpM_take i l1 l2 h,List.drop_succ_cons,List.drop_succ_cons]
theorem cmpM_at {m k:List Int} {i:Nat} {y z:Int} (hy:m[i]? = some y) (hz:k[i]? = some z) (h:m.take i=k.take i) (hne:y≠z):cmpM m k=if z<y then -1 else 1:=by
 obtain ⟨h1,e1⟩:=List.getElem?_eq_some_iff.1 hy
 obtain ⟨h2,e2⟩:=List.getElem?_eq_some_iff.1 hz
 rw [cmpM_take i m k h,List.drop_eq_getElem_cons h1,List.drop_eq_getElem_cons h2,e1,e2,cmpM]
 split
 · rfl
 · rw [if_pos (by omega)]
theorem cmpM_self (m:List Int):cmpM m m=0:=by
 induction m with
 | nil=>rfl
 | cons a l1 ih=>rw [cmpM,if_neg (by omega),if_neg (by omega),ih]
theorem before_at {m k:List Int} {i:Nat} {y z:Int} (hy:m[i]? = some y) (hz:k[i]? = some z) (h:m.take i=k.take i) (hne:y≠z):before m k=decide (z<y):=by
 rw [before,cmpM_at hy hz h hne]
 by_cases hh:z<y <;> simp [hh]
theorem before_self (m:List Int):before m m=false:=by rw [before,cmpM_self];rfl
theorem l01Before_c {w : World} {m k : List Int} (hm : IsMono m) (hk : IsMono k) :
    Calls Tryz.prog 162 #[monoV m,monoV k] w fun e w'=>e=.returned (.bool (before m k))∧Below w.heap.size w w':=by
 unfold monoV
 go_enter Tryz.func162,Tryz.ntmps162
 go_wp2
 have o1:=(Own.new w 156 (mcells m).toArray).alloc (.cells (mcells k).toArray 156)
 have o2:=Own.new (w.alloc (.cells (mcells m).toArray 156)) 156 (mcells k).toArray
 have hb:Below w.heap.size w ((w.alloc (.cells (mcells m).toArray 156)).alloc (.cells (mcells k).toArray 156)):=bTn (bA1 w _) (bA1 _ _)
 rw [sAl] at o2
 generalize (w.alloc (.cells (mcells m).toArray 156)).alloc (.cells (mcells k).toArray 156)=w0 at *
 go_loopw [5] (fun i wr=>∃j q:Nat,j≤8∧i=.int .i64 j∧wr=w0.drewN q∧Hid (m.take j=k.take j)) (fun i _=>8 - (intOf i).toNat)
 case atStart=>exact ⟨0,0,Nat.zero_le _,rfl,rfl,rfl⟩
 case round=>
  obtain ⟨j,q,hj,rfl,rfl,H⟩:=hrel;by_cases hlt:j<8
  · obtain ⟨y,hy0,hy1,hy,HY⟩:=mono_at hm hlt;obtain ⟨z,hz0,hz1,hz,HZ⟩:=mono_at hk hlt;have c1:=o1.cell j;have c2:=o2.cell j;rw [List.getElem?_toArray,hy] at c1;rw [List.getElem?_toArray,hz] at c2;have h8:(j:Int)<8:=(by omega);by_cases hxy:y=z
    · subst hxy
      go_wp2
      go_quiet (fail)
      go_wp2
      go_roundw
      case rel=>exact ⟨j+1,_,by omega,by go_num,rfl,take_eq HY.out HZ.out H.out⟩
      case measure=>simp [intOf] <;> omega
    · have hq:(y==z)=false:=(by simpa using hxy);have hq':(y != z)=true:=by simpa using hxy
      go_wp2
      go_quiet (fail)
      go_wp2
      go_quiet (fail)
      go_wp2
      go_ret
      exact ⟨ret_b (before_at HY.out HZ.out H.out hxy).symm,below_drewN (below_drewN (below_drewN hb _) _) _⟩
  · go_wp2
    go_ret
    have he:m=k:=by
     have:=H.out
     rwa [List.take_of_length_le (by have:=hm.1;omega),List.take_of_length_le (by have:=hk.1;omega)] at this
    exact ⟨ret_b (by rw [he,before_self]),below_drewN hb _⟩
theorem run_compare8 {P : Program} {w : World} {g g' c c' : Nat} {t t' : TypeId} {m k : List Int} (hm : IsMono m) (hk : IsMono k) (o1 : Own w g t (mcells m).toArray) (o2 : Own w g' t' (mcells k).toArray) :
    (Extern.BytealgCompare.compare #[.slice (some ⟨g',0,none⟩) 8 c',.slice (some ⟨g,0,none⟩) 8 c]).run P w=.ok (.int .i64 (cmpM m k)) w:=by
 have l1:=Lib.run_loadBytesX (P:=P) w m ⟨g,0,none⟩ .empty (fun j x hj=>by
  rw [Addr.add_mid,Nat.zero_add,o1.cell j];simp [mcells,hj])
 have l2:=Lib.run_loadBytesX (P:=P) w k ⟨g',0,none⟩ .empty (fun j x hj=>by
  rw [Addr.add_mid,Nat.zero_add,o2.cell j];simp [mcells,hj])
 rw [hm.1] at l1
 rw [hk.1] at l2
 have he:∀xs:List Int,(⟨ByteArray.empty.data++(Lib.bytesOf xs).toArray⟩:ByteArray)=⟨(Lib.bytesOf xs).toArray⟩:=fun xs=>by
  apply ByteArray.ext
  show (#[]:Array UInt8)++(Lib.bytesOf xs).toArray=(Lib.bytesOf xs).toArray
  simp
 rw [he] at l1 l2
 have hs:=Lib.run_compareString (P:=P) ⟨(Lib.bytesOf k).toArray⟩ ⟨(Lib.bytesOf m).toArray⟩ w
 rw [show (⟨(Lib.bytesOf k).toArray⟩:ByteArray).data.toList=Lib.bytesOf k from rfl,show (⟨(Lib.bytesOf m).toArray⟩:ByteArray).data.toList=Lib.bytesOf m from rfl,cmpM_bytes m k (hm.1.trans hk.1.symm) hm.2 hk.2] at hs
 change Sem.run P (do pure (goInt (Extern.BytealgCompare.cmp (←Extern.Bytes.bytesOf (.slice (some ⟨g',0,none⟩) 8 c')) (←Extern.Bytes.bytesOf (.slice (some ⟨g,0,none⟩) 8 c))))) w=_
 change Sem.run P (do pure (goInt (Extern.BytealgCompare.cmp (←Extern.Bytes.bytesOf (.string ⟨(Lib.bytesOf k).toArray⟩)) (←Extern.Bytes.bytesOf (.string ⟨(Lib.bytesOf m).toArray⟩))))) w=_ at hs
 simp only [Extern.Bytes.bytesOf,Sem.run_bind,Sem.run_pure,l1,l2,Result.andThen] at hs ⊢
 exact hs
theorem Compare_c {w : World} {g g' c c' : Nat} {t t' : TypeId} {m k : List Int} (hm : IsMono m) (hk : IsMono k) (o1 : Own w g t (mcells m).toArray) (o2 : Own w g' t' (mcells k).toArray) :
    Calls Tryz.prog 210 #[.slice (some ⟨g',0,none⟩) 8 c',.slice (some ⟨g,0,none⟩) 8 c] w fun e w'=>e=.returned (.int .i64 (cmpM m k))∧w'=w:=by
 go_enter Tryz.func210,Tryz.ntmps210
 go_wp2
 rw [run_callFunc_extern Tryz.func248 (by kernel_rfl) (by kernel_rfl) (by kernel_rfl) (e:=Extern.BytealgCompare.compare) (by kernel_rfl),run_compare8 hm hk o1 o2]
 simp only [Result.andThen]
 rw [Oper.upon_value]
 go_wp2
 go_ret
 exact ⟨rfl,rfl⟩
theorem compareMonomials_c {w : World} {m k : List Int} (hm : IsMono m) (hk : IsMono k) :
    Calls Tryz.prog 177 #[monoV m,monoV k] w fun e w'=>e=.returned (.int .i64 (cmpM m k))∧Below w.heap.size w w':=by
 unfold monoV
 go_enter Tryz.func177,Tryz.ntmps177
 go_wp2
 have o1:=(Own.new w 156 (mcells m).toArray).alloc (.cells (mcells k).toArray 156)
 have o2:=Own.new (w.alloc (.cells (mcells m).toArray 156)) 156 (mcells k).toArray
 have hb:Below w.heap.size w ((w.alloc (.cells (mcells m).toArray 156)).alloc (.cells (mcells k).toArray 156)):=bTn (bA1 w _) (bA1 _ _)
 rw [sAl] at o2
 generalize (w.alloc (.cells (mcells m).toArray 156)).alloc (.cells (mcells k).toArray 156)=w0 at *
 go_quiet ((go_at_call 210;exact Calls.quiet_of_same (Compare_c hm hk (o1.drewN _) (o2.drewN _))))
 go_wp2
 go_ret
 exact ⟨rfl,below_drewN hb _⟩
theorem rcells_append (xs ys:List Tm):rcells (xs++ys)=rcells xs++rcells ys:=by simp [rcells]
theorem rcells_cons (t:Tm) (ys:List Tm):rcells (t::ys)=tcells t++rcells ys:=by simp [rcells]
theorem rcells_take_add {ts:List Tm} {k:Nat} {t:Tm} (h:ts[k]? = some t):rcells (ts.take (k+1))=rcells (ts.take k)++tcells t:=by
 rw [List.take_add_one,h,rcells_append]
 simp [rcells]
theorem Terms.len {w:World} {a:Option Addr} {n:Nat} {ts:List Tm} (h:Terms w a n ts):ts.length=n:=h.1
theorem Terms.drewN {w:World} {a:Option Addr} {n:Nat} {ts:List Tm} (h:Terms w a n ts) (k:Nat):Terms (w.drewN k) a n ts:=h
theorem Terms.drew {w:World} {a:Option Addr} {n:Nat} {ts:List Tm} (h:Terms w a n ts):Terms w.drew a n ts:=h
theorem Terms.at_ {w : World} {a : Option Addr} {n : Nat} {ts : List Tm} (h : Terms w a n ts) {k : Nat} (hk : k < n) :
    ∃b off t,a=some ⟨b,off,none⟩∧b<w.heap.size∧w.rangeAt b (off+k * 9) (tcells t)∧IsTm t∧Hid (ts[k]? = some t):=by
 obtain ⟨hl,hT,hc⟩:=h
 obtain ⟨b,off,ha,hlt,hr⟩:=hc (by omega)
 have hkl:k<ts.length:=by omega
 refine ⟨b,off,ts[k],ha,hlt,fun j v hv=>?_,hT _ (List.getElem_mem hkl),List.getElem?_eq_getElem hkl⟩
 have hpre:(rcells (ts.take k)).length=k * 9:=by
  rw [rcells_length (fun t ht=>hT t (List.mem_of_mem_take ht)),List.length_take];congr 1
  omega
 have hsplit:rcells ts=rcells (ts.take k)++(tcells ts[k]++rcells (ts.drop (k+1))):=by
  rw [←rcells_cons,←rcells_append,←List.drop_eq_getElem_cons hkl,List.take_append_drop]
 have hj:j<(tcells ts[k]).length:=(List.getElem?_eq_some_iff.1 hv).1
 have:=hr (k * 9+j) v (by
  rw [hsplit,List.getElem?_append_right (by omega),hpre,show k * 9+j - k * 9=j by omega,List.getElem?_append_left hj]
  exact hv)
 rw [show off+k * 9+j=off+(k * 9+j) by omega]
 exact this
theorem Terms.of_own {w:World} {g:Nat} {t:TypeId} {ts:List Tm} {n:Nat} (h:Own w g t (rcells ts).toArray) (hT:∀t∈ts,IsTm t) (hn:ts.length=n):Terms w (some ⟨g,0,none⟩) n ts:=
 ⟨hn,hT,fun _=>⟨g,0,rfl,h.lt,by simpa using h.range⟩⟩
theorem setCells_own : ∀ (vs : List Value) (o : Nat) (w : World) {g : Nat} {t : TypeId} {pre mid post : List Value}, Own w g t (pre ++ mid ++ post).toArray → pre.length = o → mid.length = vs.length →
    Own (w.setCells g o vs) g t (pre++vs++post).toArray
 | [], o, w, g, t, pre, mid, post, h, _, hm => by
   have:mid=[]:=List.eq_nil_of_length_eq_zero (by simpa using hm);subst this;simpa [World.setCells] using h
 | v :: vs, o, w, g, t, pre, mid, post, h, hp, hm => by
   cases mid with
   | nil=>simp at hm
   | cons x mid =>
     rw [World.setCells];have h1:=h.set o v
     have e:((pre++x::mid++post).toArray).setIfInBounds o v=((pre++[v])++mid++post).toArray:=by
      apply Array.ext'
      simp only [Array.toList_setIfInBounds];rw [show pre++x::mid++post=pre++(x::(mid++post)) by simp,List.set_append_right _ _ (by omega),hp,Nat.sub_self];simp
     rw [e] at h1;have h2:=setCells_own vs (o+1) _ h1 (by simp [hp]) (by simpa using hm);simpa using h2
theorem setCells_far:∀(vs:List Value) (o:Nat) (w:World) {g k:Nat} {t:TypeId} {cs:Array Value},Own w g t cs→g≠k→Own (w.setCells k o vs) g t cs
 | [],_,_,_,_,_,_,h,_=>h
 | v :: vs, o, w, g, k, t, cs, h, hk => by
   rw [World.setCells];exact setCells_far vs (o+1) _ (h.far (p:=⟨k,o,none⟩) hk v) hk
theorem below_setCells:∀(vs:List Value) (o:Nat) {B k:Nat} {a w:World},Below B a w→B≤k→Below B a (w.setCells k o vs)
 | [],_,_,_,_,_,h,_=>h
 | v :: vs, o, B, k, a, w, h, hk => by
   rw [World.setCells];exact below_setCells vs (o+1) (h.setCell (p:=⟨k,o,none⟩) hk v) hk
theorem there_own {w:World} {g o n:Nat} {t:TypeId} {cs:Array Value} (h:Own w g t cs) (hn:o+n≤cs.size):w.there g o n:=fun j hj=>by
 obtain ⟨v,hv⟩:=h.has (i:=o+j) (by omega)
 exact ⟨by rw [hv];rfl,h.frozen _⟩
theorem tcells_one (t:Tm):(tcells t).toArray.all (·.oneCell')=true:=by simp [tcells,mcells,Value.oneCell']
theorem Tryz.info_term:(Tryz.prog.info? 158).map (·.size)=some 9:=by kernel_rfl
theorem Tryz.info_lterm:(Tryz.prog.info? 161).map (·.size)=some 9:=by kernel_rfl
theorem Tryz.info_mono8':(Tryz.prog.info? 155).map (·.size)=some 8:=by kernel_rfl
theorem tsize {t:Tm} (h:IsTm t):(tcells t).toArray.size=9:=by simp [tcells_length h]
theorem set8 {w:World} {g:Nat} {u:TypeId} {t:Tm} {v:Value} (ht:IsTm t) (h:Own w g u ([]++mcells t.m++[v]).toArray):Own (w.setCell ⟨g,8,none⟩ (.int .i64 t.f)) g u (tcells t).toArray:=by
 have h1:=h.set 8 (.int .i64 t.f)
 have e:([]++mcells t.m++[v]).toArray.setIfInBounds 8 (.int .i64 t.f)=(tcells t).toArray:=by
  apply Array.ext'
  simp only [Array.toList_setIfInBounds,List.nil_append];rw [List.set_append_right _ _ (by rw [mcells_length,ht.1.1];exact Nat.le_refl _),mcells_length,ht.1.1];rfl
 rwa [e] at h1
def zero9:List Value:=[.int .u8 0,.int .u8 0,.int .u8 0,.int .u8 0,.int .u8 0,.int .u8 0,.int .u8 0,.int .u8 0,.int .i64 0]
theorem own3' (w : World) (t u v : TypeId) (A B C : Array Value) :
    Own (((w.alloc (.cells A t)).alloc (.cells B u)).alloc (.cells C v)) w.heap.size t A ∧
    Own (((w.alloc (.cells A t)).alloc (.cells B u)).alloc (.cells C v)) (w.heap.size+1) u B ∧
    Own (((w.alloc (.cells A t)).alloc (.cells B u)).alloc (.cells C v)) (w.heap.size+1+1) v C ∧
    Below w.heap.size w (((w.alloc (.cells A t)).alloc (.cells B u)).alloc (.cells C v)):=by
 have o1:=((Own.new w t A).alloc (.cells B u)).alloc (.cells C v)
 have o2:=(Own.new (w.alloc (.cells A t)) u B).alloc (.cells C v)
 have o3:=Own.new ((w.alloc (.cells A t)).alloc (.cells B u)) v C
 rw [sAl] at o2
 rw [sAl,sAl] at o3
 exact ⟨o1,o2,o3,bTn (bTn (bA1 w _) (bA1 _ _)) (bA1 _ _)⟩
theorem toTerm_c {w : World} {t : Tm} (ht : IsTm t) :
    Calls Tryz.prog 113 #[termV t] w fun e w'=>e=.returned (termV t)∧Below w.heap.size w w':=by
 unfold termV
 go_enter Tryz.func113,Tryz.ntmps113
 go_upto_region 2 with (fail)
 obtain ⟨o1,o2,o3,hb⟩:=own3' w 161 158 158 (tcells t).toArray zero9.toArray zero9.toArray
 simp only [zero9] at o1 o2 o3 hb
 generalize ((w.alloc (.cells (tcells t).toArray 161)).alloc (.cells [Value.int .u8 0,.int .u8 0,.int .u8 0,.int .u8 0,.int .u8 0,.int .u8 0,.int .u8 0,.int .u8 0,.int .i64 0].toArray 158)).alloc (.cells [Value.int .u8 0,.int .u8 0,.int .u8 0,.int .u8 0,.int .u8 0,.int .u8 0,.int .u8 0,.int .u8 0,.int .i64 0].toArray 158)=w0 at *
 have hm8:=Lib.hid (show (mcells t.m).length=8 by rw [mcells_length];exact ht.1.1)
 have hr1:w0.rangeAt w.heap.size 0 (mcells t.m):=fun j v hv=>o1.range j v (by
  have:j<(mcells t.m).length:=(List.getElem?_eq_some_iff.1 hv).1
  simp only [tcells,List.getElem?_append_left this,hv])
 have HR1:=Lib.hid hr1
 clear hr1
 go_wp2_with (refine wpList_load_mid rfl 155 (.tmp 4) rfl w.heap.size 0 rfl (mcells t.m) _ HR1.out Tryz.underlying155 rfl (by rw [hm8.out];exact Tryz.info_mono8') ?_)
 refine (toMonomial_c ht.1).mono ?_
 rintro e w1 ⟨rfl,hb1⟩
 have o1':=o1.keep hb1 o1.lt
 have o2':=o2.keep hb1 o2.lt
 have o3':=o3.keep hb1 o3.lt
 have hb':=bT' hb hb1 hb.size
 clear o1 o2 o3 hb
 unfold monoV
 have p1:=setCells_far (mcells t.m) 0 w1 o1' (k:=w.heap.size+1+1) (by omega)
 have p2:=setCells_far (mcells t.m) 0 w1 o2' (k:=w.heap.size+1+1) (by omega)
 have p3:=setCells_own (mcells t.m) 0 w1 (pre:=[]) (mid:=nul8.map (Value.int .u8)) (post:=[.int .i64 0]) o3' rfl (by rw [hm8.out];rfl)
 have hb2:=below_setCells (mcells t.m) 0 hb' (k:=w.heap.size+1+1) (by omega)
 have HT:=Lib.hid (there_own (o:=0) (n:=(mcells t.m).toArray.size) o3' (by simp [hm8.out]))
 clear o1' o2' o3' hb' HR1
 have c8:=p1.cell 8
 have e8:(tcells t).toArray[8]? = some (.int .i64 t.f):=by
  rw [List.getElem?_toArray,tcells,List.getElem?_append_right (by rw [hm8.out];exact Nat.le_refl _),hm8.out];rfl
 rw [e8] at c8
 have c38:=p3.cell 8
 have e38:([]++mcells t.m++[Value.int .i64 0]).toArray[8]? = some (.int .i64 0):=by
  rw [List.getElem?_toArray,List.nil_append,List.getElem?_append_right (by rw [hm8.out];exact Nat.le_refl _),hm8.out];rfl
 rw [e38] at c38
 have f38:=p3.frozen 8
 clear e8 e38
 have hs9:=Lib.hid (tsize ht)
 go_wp2_with (first
  | (refine wpList_store_mid rfl 156 (.tmp 7) (.tmp 6) rfl (w.heap.size+1+1) 0 (mcells t.m).toArray rfl rfl HT.out (by rw [msize ht.1];exact Tryz.info_mono) (mcells_one _) ?_;generalize w1.setCells (w.heap.size+1+1) 0 (mcells t.m).toArray.toList=w2 at *)
  | (refine wpList_load_row rfl 158 (.tmp 3) rfl _ rfl 158 (tcells t).toArray (0,0) _ (set8 ht p3) Tryz.underlying158 rfl (by rw [hs9.out];exact Tryz.info_term) ?_)
  | (refine wpList_store_row rfl 158 (.tmp 2) (.tmp 11) rfl _ (tcells t).toArray rfl rfl 158 _ (p2.far (p:=⟨w.heap.size+1+1,8,none⟩) (by dsimp only;omega) (.int .i64 t.f)) (by rw [hs9.out];exact Tryz.info_term) (by rw [hs9.out];rfl) (tcells_one _) ?_))
 exact bodyPost_ret (results_cell_row rfl _ _ (w.heap.size+1) 158 (tcells t).toArray (0,0) _ rfl ((p2.far (p:=⟨w.heap.size+1+1,8,none⟩) (by dsimp only;omega) (.int .i64 t.f)).setRow _) Tryz.underlying158 rfl (by rw [hs9.out];exact Tryz.info_term)) rfl ⟨rfl,below_setRow (hb2.setCell (p:=⟨w.heap.size+1+1,8,none⟩) (by dsimp only;omega) _) (by omega) _⟩
theorem Tryz.info_term3:(Tryz.prog.info? 158).map (fun i=>(i.zero,i.size,i.bytes))=some (some (.agg zero9.toArray),9,16):=by kernel_rfl
def zrows (n:Nat):List Value:=(List.replicate n zero9).flatten
theorem zrows_succ (n:Nat):zrows (n+1)=zero9++zrows n:=by simp [zrows,List.replicate_succ]
theorem zrows_length (n:Nat):(zrows n).length=n * 9:=by
 induction n with
 | zero=>rfl
 | succ n ih=>rw [zrows_succ,List.length_append,ih];simp [zero9];omega
theorem zrows_get (n i:Nat) (h:i<n * 9):(zrows n)[i]? = zero9[i % 9]? := by
 induction n generalizing i with
 | zero=>omega
 | succ n ih =>
   rw [zrows_succ];have h9:zero9.length=9:=rfl;by_cases hi:i<9
   · rw [List.getElem?_append_left (by omega),Nat.mod_eq_of_lt hi]
   · rw [List.getElem?_append_right (by omega),h9,ih (i - 9) (by omega)];congr 1
     omega
theorem made_zrows (n:Nat):madeCells zero9.toArray (n * 9)=(zrows n).toArray:=by
 apply Array.ext_getElem?
 intro i
 by_cases hi:i<n * 9
 · have h9:i % 9<9:=Nat.mod_lt _ (by omega);have hz:zero9.length=9:=rfl;have e2:(zrows n).toArray[i]? = (zrows n)[i]? := (by simp);rw [e2,zrows_get n i hi];simp [madeCells,hi,hz,h9]
 · have e2:(zrows n).toArray[i]? = (zrows n)[i]? := (by simp);rw [e2,Array.getElem?_eq_none (by simp [madeCells];omega),List.getElem?_eq_none (by rw [zrows_length];omega)]
theorem make_terms (n : Nat) (hn : n ≤ 1048576) (w : World) :
    (Instr.makeSlice 37 (.int .i64 (n:Int)) (.int .i64 (n:Int))).run Tryz.prog w=.ok (.slice (some ⟨w.heap.size,0,none⟩) n n) (w.alloc (.cells (zrows n).toArray 158)):=by
 obtain ⟨i,hi,hzz⟩:=Option.map_eq_some_iff.1 Tryz.info_term3
 simp only [Prod.mk.injEq] at hzz
 obtain ⟨hz,hs,hb⟩:=hzz
 have hr:=run_make (P:=Tryz.prog) w 37 158 i _ Tryz.underlying37 hi hz .i64 .i64 n n (by omega) (Int.le_refl _) (by rw [hb];omega) (by omega)
 simp only [Int.toNat_natCast,hs,Value.cells,made_zrows] at hr
 exact hr
theorem toTermS_c {w : World} {a : Option Addr} {n : Nat} {ts : List Tm} (c : Nat) (h : Terms w a n ts) (hn : n ≤ 1048576) :
    Calls Tryz.prog 56 #[.slice a n c] w fun e w'=>e=.returned (.slice (some ⟨w.heap.size,0,none⟩) n n)∧Own w' w.heap.size 158 (rcells ts).toArray∧Below w.heap.size w w':=by
 have hl:=h.len
 have HL:=Lib.hid hl
 clear hl
 have HT:=Lib.hid h.2.1
 have hmk:=make_terms n hn
 go_enter Tryz.func56,Tryz.ntmps56
 go_wp2
 have o0:=Own.new w 158 (zrows n).toArray
 have hb0:=bA1 w (.cells (zrows n).toArray 158)
 clear hmk
 generalize w.alloc (.cells (zrows n).toArray 158)=w0 at *
 go_loopw [4] (fun i wr=>∃k:Nat,k≤n∧i=.int .i64 k∧Own wr w.heap.size 158 (rcells (ts.take k)++zrows (n - k)).toArray∧Below w.heap.size w wr) (fun i _=>n - (intOf i).toNat)
 case atStart=>exact ⟨0,Nat.zero_le _,rfl,by simpa [rcells] using o0,hb0⟩
 case round=>
  clear o0 hb0;obtain ⟨k,hk,rfl,o1,hb⟩:=hrel;by_cases hlt:k<n
  · obtain ⟨b,off,t,rfl,hbl,hr,ht,hx⟩:=(h.keep hb).at_ hlt;have HR:=Lib.hid hr;clear hr;have hs9:=Lib.hid (tcells_length ht);go_wp2_with (refine wpList_load_mid rfl 161 (.tmp 18) rfl b (off+k * 9) rfl (tcells t) _ HR.out Tryz.underlying161 rfl (by rw [hs9.out];exact Tryz.info_lterm) ?_)
    refine (toTerm_c ht).mono ?_;rintro e w1 ⟨rfl,hb1⟩
    have hpre:(rcells (ts.take k)).length=k * 9:=by
     rw [rcells_length (fun u hu=>HT.out u (List.mem_of_mem_take hu)),List.length_take,HL.out];congr 1;omega
    have hz:zrows (n - k)=zero9++zrows (n - (k+1)):=(by rw [show n - k=(n - (k+1))+1 by omega,zrows_succ]);have o1':=o1.keep hb1 o1.lt;have hbb:=bT' hb hb1 hb.size;rw [hz,←List.append_assoc] at o1';have o2:=setCells_own (tcells t) (k * 9) w1 (pre:=rcells (ts.take k)) (mid:=zero9) (post:=zrows (n - (k+1))) o1' hpre (by rw [hs9.out];rfl);have hb2:=below_setCells (tcells t) (k * 9) hbb (k:=w.heap.size) (Nat.le_refl _);have HTh:=Lib.hid (there_own (o:=k * 9) (n:=(tcells t).toArray.size) o1' (by simp [hpre,hs9.out,zero9,zrows_length] <;> omega));have HP:=Lib.hid hpre;clear hpre hz o1' hbb o1 hb;unfold termV;go_wp2_with (refine wpList_store_mid rfl 158 (.tmp 21) (.tmp 20) rfl w.heap.size (k * 9) (tcells t).toArray rfl rfl HTh.out (by simp only [List.size_toArray,hs9.out];exact Tryz.info_term) (tcells_one _) ?_;generalize w1.setCells w.heap.size (k * 9) (tcells t).toArray.toList=w2 at *)
    go_roundw
    case rel=>exact ⟨k+1,by omega,by go_num,by rw [rcells_take_add hx.out];exact o2,hb2⟩
    case measure=>simp [intOf] <;> omega
  · have he:k=n:=(by omega);subst he
    go_wp2
    go_ret
    refine ⟨rfl,?_,hb⟩;have:=o1
    rwa [Nat.sub_self,List.take_of_length_le (Nat.le_of_eq HL.out),show zrows 0=[] from rfl,List.append_nil] at this
theorem mono8 {m:List Int} (h:IsMono m):∃m0 m1 m2 m3 m4 m5 m6 m7,m=[m0,m1,m2,m3,m4,m5,m6,m7]:=by
 match m,h.1 with
 | [m0,m1,m2,m3,m4,m5,m6,m7],_=>exact ⟨_,_,_,_,_,_,_,_,rfl⟩
theorem own8 {w':World} {G:Nat} {t:TypeId} {m0 m1 m2 m3 m4 m5 m6 m7:Int} (h:Own w' G t (mcells [m0,m1,m2,m3,m4,m5,m6,m7]).toArray):w'.cell? ⟨G,0,none⟩=some (.int .u8 m0)∧w'.cell? ⟨G,1,none⟩=some (.int .u8 m1)∧w'.cell? ⟨G,2,none⟩=some (.int .u8 m2)∧w'.cell? ⟨G,3,none⟩=some (.int .u8 m3)∧w'.cell? ⟨G,4,none⟩=some (.int .u8 m4)∧w'.cell? ⟨G,5,none⟩=some (.int .u8 m5)∧w'.cell? ⟨G,6,none⟩=some (.int .u8 m6)∧w'.cell? ⟨G,7,none⟩=some (.int .u8 m7):=
 ⟨h.cell 0,h.cell 1,h.cell 2,h.cell 3,h.cell 4,h.cell 5,h.cell 6,h.cell 7⟩
theorem Tryz.info_form:(Tryz.prog.info? 39).map (·.size)=some 1:=by kernel_rfl
theorem szTermS_c {w : World} (a : Option Addr) (n c : Nat) (L : Int) (hL : 0 ≤ L) (hL2 : L ≤ 1048576) (hn : (n : Int) ≤ 9223372036854775807) :
    Calls Tryz.prog 52 #[.slice a n c,.int .i64 L] w fun e w'=>e=.returned (.int .i64 (if (n:Int)≤L then L - n else -1))∧w=w':=by
 by_cases h:(n:Int)≤L
 · go_enter Tryz.func52,Tryz.ntmps52
   go_wp2
   go_ret
   exact ⟨rfl,rfl⟩
 · go_enter Tryz.func52,Tryz.ntmps52
   go_wp2
   go_ret
   exact ⟨rfl,rfl⟩
theorem szForm_c {w : World} (a : Option Addr) (n c : Nat) (L : Int) (hL : 0 ≤ L) (hL2 : L ≤ 1048576) (hn : (n : Int) ≤ 9223372036854775807) :
    Calls Tryz.prog 13 #[.agg #[.slice a n c],.int .i64 L] w fun e w'=>e=.returned (.int .i64 (if (n:Int)≤L then L - n else -1))∧Below w.heap.size w w':=by
 by_cases h:(n:Int)≤L
 · have hv:(if (n:Int)≤L then L - n else -1)=L - n:=(by rw [if_pos h]);go_enter Tryz.func13,Tryz.ntmps13
   go_wp2_with fail
   refine (szTermS_c a n c L hL hL2 hn).mono ?_;rintro e w' ⟨rfl,rfl⟩;rw [hv];go_wp2_with fail
   go_ret
   exact ⟨rfl,bA1 w _⟩
 · have hv:(if (n:Int)≤L then L - n else -1)=-1:=(by rw [if_neg h]);go_enter Tryz.func13,Tryz.ntmps13
   go_wp2_with fail
   refine (szTermS_c a n c L hL hL2 hn).mono ?_;rintro e w' ⟨rfl,rfl⟩;rw [hv];go_wp2_with fail
   go_ret
   exact ⟨rfl,bA1 w _⟩
theorem toForm_c {w : World} {a : Option Addr} {n : Nat} {ts : List Tm} (c : Nat) (h : Terms w a n ts) (hn : n ≤ 1048576) :
    Calls Tryz.prog 16 #[.agg #[.slice a n c]] w fun e w'=>∃g,e=.returned (.agg #[.slice (some ⟨g,0,none⟩) n n])∧w.heap.size≤g∧Own w' g 158 (rcells ts).toArray∧Below w.heap.size w w':=by
 go_enter Tryz.func16,Tryz.ntmps16
 go_wp2_with fail
 obtain ⟨o1,o2,o3,hb⟩:=own3' w 28 39 39 #[.slice a n c] #[.slice none 0 0] #[.slice none 0 0]
 refine (toTermS_c c (h.keep hb) hn).mono ?_
 generalize ((w.alloc (.cells #[.slice a n c] 28)).alloc (.cells #[.slice none 0 0] 39)).alloc (.cells #[.slice none 0 0] 39)=w0 at *
 rintro e w1 ⟨rfl,hO,hb1⟩
 have p2:=o2.keep hb1 o2.lt
 have p3:=o3.keep hb1 o3.lt
 have l3:=o3.lt
 have hbb:=bT' hb hb1 hb.size
 clear o1 o2 o3 hb hb1
 have c2:=p2.cell 0
 have c3:=p3.cell 0
 have f2:=p2.frozen 0
 have f3:=p3.frozen 0
 go_wp2_with fail
 have q2:=(p2.far (p:=⟨w.heap.size+1+1,0,none⟩) (by dsimp only;omega) (.slice (some ⟨w0.heap.size,0,none⟩) n n)).set 0 (.slice (some ⟨w0.heap.size,0,none⟩) n n)
 refine bodyPost_ret (results_cell_row rfl _ _ (w.heap.size+1) 39 #[.slice (some ⟨w0.heap.size,0,none⟩) n n] (0,0) _ rfl q2 Tryz.underlying39 rfl Tryz.info_form) rfl ⟨w0.heap.size,rfl,by omega,?_,?_⟩
 · exact (hO.far (p:=⟨w.heap.size+1+1,0,none⟩) (by dsimp only;omega) _).far (p:=⟨w.heap.size+1,0,none⟩) (by dsimp only;omega) _
 · exact (hbb.setCell (p:=⟨w.heap.size+1+1,0,none⟩) (by dsimp only;omega) _).setCell (p:=⟨w.heap.size+1,0,none⟩) (by dsimp only;omega) _
theorem eqMono8 {w : World} {m0 m1 m2 m3 m4 m5 m6 m7 : Int} (hm : IsMono [m0, m1, m2, m3, m4, m5, m6, m7]) :
    Calls Tryz.prog 178 #[.agg #[.int .u8 m0,.int .u8 m1,.int .u8 m2,.int .u8 m3,.int .u8 m4,.int .u8 m5,.int .u8 m6,.int .u8 m7],.agg #[.int .u8 m0,.int .u8 m1,.int .u8 m2,.int .u8 m3,.int .u8 m4,.int .u8 m5,.int .u8 m6,.int .u8 m7]] w fun e w'=>e=.returned (.bool true)∧Below w.heap.size w w':=by
 have:=eqMonomial_c (w:=w) hm hm
 simp only [decide_true] at this
 exact this
theorem eqTerm9 {w : World} {m0 m1 m2 m3 m4 m5 m6 m7 f : Int} (hm : IsMono [m0, m1, m2, m3, m4, m5, m6, m7]) :
    Calls Tryz.prog 123 #[.agg #[.int .u8 m0,.int .u8 m1,.int .u8 m2,.int .u8 m3,.int .u8 m4,.int .u8 m5,.int .u8 m6,.int .u8 m7,.int .i64 f],.agg #[.int .u8 m0,.int .u8 m1,.int .u8 m2,.int .u8 m3,.int .u8 m4,.int .u8 m5,.int .u8 m6,.int .u8 m7,.int .i64 f]] w fun e w'=>e=.returned (.bool true)∧Below w.heap.size w w':=by
 go_enter Tryz.func123,Tryz.ntmps123
 go_wp2_with fail
 have o1:=(Own.new w 158 #[.int .u8 m0,.int .u8 m1,.int .u8 m2,.int .u8 m3,.int .u8 m4,.int .u8 m5,.int .u8 m6,.int .u8 m7,.int .i64 f]).alloc (.cells #[.int .u8 m0,.int .u8 m1,.int .u8 m2,.int .u8 m3,.int .u8 m4,.int .u8 m5,.int .u8 m6,.int .u8 m7,.int .i64 f] 158)
 have o2:=Own.new (w.alloc (.cells #[.int .u8 m0,.int .u8 m1,.int .u8 m2,.int .u8 m3,.int .u8 m4,.int .u8 m5,.int .u8 m6,.int .u8 m7,.int .i64 f] 158)) 158 #[.int .u8 m0,.int .u8 m1,.int .u8 m2,.int .u8 m3,.int .u8 m4,.int .u8 m5,.int .u8 m6,.int .u8 m7,.int .i64 f]
 have hb0:=bTn (bA1 w (.cells #[.int .u8 m0,.int .u8 m1,.int .u8 m2,.int .u8 m3,.int .u8 m4,.int .u8 m5,.int .u8 m6,.int .u8 m7,.int .i64 f] 158)) (bA1 _ (.cells #[.int .u8 m0,.int .u8 m1,.int .u8 m2,.int .u8 m3,.int .u8 m4,.int .u8 m5,.int .u8 m6,.int .u8 m7,.int .i64 f] 158))
 rw [sAl] at o2
 generalize (w.alloc (.cells #[.int .u8 m0,.int .u8 m1,.int .u8 m2,.int .u8 m3,.int .u8 m4,.int .u8 m5,.int .u8 m6,.int .u8 m7,.int .i64 f] 158)).alloc (.cells #[.int .u8 m0,.int .u8 m1,.int .u8 m2,.int .u8 m3,.int .u8 m4,.int .u8 m5,.int .u8 m6,.int .u8 m7,.int .i64 f] 158)=w0 at *
 refine (eqMono8 hm).mono ?_
 rintro e w1 ⟨rfl,hb1⟩
 have c1:=(o1.keep hb1 o1.lt).cell 8
 have c2:=(o2.keep hb1 o2.lt).cell 8
 go_wp2_with fail
 go_ret
 exact ⟨rfl,bT' hb0 hb1 (Nat.le_of_lt (by have:=o1.lt;omega))⟩
theorem nine {w:World} {b o:Nat} {m0 m1 m2 m3 m4 m5 m6 m7 f:Int} (h:w.rangeAt b o (tcells ⟨[m0,m1,m2,m3,m4,m5,m6,m7],f⟩)):w.cell? ⟨b,o,none⟩=some (.int .u8 m0)∧w.cell? ⟨b,o+1,none⟩=some (.int .u8 m1)∧w.cell? ⟨b,o+2,none⟩=some (.int .u8 m2)∧w.cell? ⟨b,o+3,none⟩=some (.int .u8 m3)∧w.cell? ⟨b,o+4,none⟩=some (.int .u8 m4)∧w.cell? ⟨b,o+5,none⟩=some (.int .u8 m5)∧w.cell? ⟨b,o+6,none⟩=some (.int .u8 m6)∧w.cell? ⟨b,o+7,none⟩=some (.int .u8 m7)∧w.cell? ⟨b,o+8,none⟩=some (.int .i64 f):=
 ⟨h 0 _ rfl,h 1 _ rfl,h 2 _ rfl,h 3 _ rfl,h 4 _ rfl,h 5 _ rfl,h 6 _ rfl,h 7 _ rfl,h 8 _ rfl⟩
theorem nine18 {w:World} {b o b' o':Nat} {m0 m1 m2 m3 m4 m5 m6 m7 f:Int} (h:w.rangeAt b o (tcells ⟨[m0,m1,m2,m3,m4,m5,m6,m7],f⟩)) (h':w.rangeAt b' o' (tcells ⟨[m0,m1,m2,m3,m4,m5,m6,m7],f⟩)):w.cell? ⟨b,o,none⟩=some (.int .u8 m0)∧w.cell? ⟨b,o+1,none⟩=some (.int .u8 m1)∧w.cell? ⟨b,o+2,none⟩=some (.int .u8 m2)∧w.cell? ⟨b,o+3,none⟩=some (.int .u8 m3)∧w.cell? ⟨b,o+4,none⟩=some (.int .u8 m4)∧w.cell? ⟨b,o+5,none⟩=some (.int .u8 m5)∧w.cell? ⟨b,o+6,none⟩=some (.int .u8 m6)∧w.cell? ⟨b,o+7,none⟩=some (.int .u8 m7)∧w.cell? ⟨b,o+8,none⟩=some (.int .i64 f)∧w.cell? ⟨b',o',none⟩=some (.int .u8 m0)∧w.cell? ⟨b',o'+1,none⟩=some (.int .u8 m1)∧w.cell? ⟨b',o'+2,none⟩=some (.int .u8 m2)∧w.cell? ⟨b',o'+3,none⟩=some (.int .u8 m3)∧w.cell? ⟨b',o'+4,none⟩=some (.int .u8 m4)∧w.cell? ⟨b',o'+5,none⟩=some (.int .u8 m5)∧w.cell? ⟨b',o'+6,none⟩=some (.int .u8 m6)∧w.cell? ⟨b',o'+7,none⟩=some (.int .u8 m7)∧w.cell? ⟨b',o'+8,none⟩=some (.int .i64 f):=
 ⟨h 0 _ rfl,h 1 _ rfl,h 2 _ rfl,h 3 _ rfl,h 4 _ rfl,h 5 _ rfl,h 6 _ rfl,h 7 _ rfl,h 8 _ rfl,h' 0 _ rfl,h' 1 _ rfl,h' 2 _ rfl,h' 3 _ rfl,h' 4 _ rfl,h' 5 _ rfl,h' 6 _ rfl,h' 7 _ rfl,h' 8 _ rfl⟩
theorem eqTermS_c {w : World} {a a' : Option Addr} {n : Nat} {ts : List Tm} (c c' : Nat) (h : Terms w a n ts) (h' : Terms w a' n ts) (hn : n ≤ 1048576) :
    Calls Tryz.prog 64 #[.slice a n c,.slice a' n c'] w fun e w'=>e=.returned (.bool true)∧Below w.heap.size w w':=by
 go_enter Tryz.func64,Tryz.ntmps64
 go_wp2
 go_loopw [5] (fun i wr=>∃k:Nat,k≤n∧i=.int .i64 k∧Below w.heap.size w wr) (fun i _=>n - (intOf i).toNat)
 case atStart=>exact ⟨0,Nat.zero_le _,rfl,Below.refl _ _⟩
 case round=>
  obtain ⟨k,hk,rfl,hb⟩:=hrel;by_cases hlt:k<n
  · obtain ⟨b,off,t,rfl,hbl,hr,ht,hx⟩:=(h.keep hb).at_ hlt;obtain ⟨b',off',t',rfl,hbl',hr',ht',hx'⟩:=(h'.keep hb).at_ hlt
    obtain rfl:t=t':=by
     have:=hx.out.symm.trans hx'.out
     injection this
    clear ht' hx hx';obtain ⟨m,f⟩:=t;have hm:IsMono m:=ht.1;obtain ⟨m0,m1,m2,m3,m4,m5,m6,m7,rfl⟩:=mono8 hm;go_upto_region 6 with fail
    go_cut [26] from 11 to 26 (fun v wr=>v=.bool false∧Below w.heap.size w wr)
    case first=>
     go_region_held3 (fun w'=>w'.cell? ⟨b,off+k * 9,none⟩=some (.int .u8 m0)∧w'.cell? ⟨b,off+k * 9+1,none⟩=some (.int .u8 m1)∧w'.cell? ⟨b,off+k * 9+2,none⟩=some (.int .u8 m2)∧w'.cell? ⟨b,off+k * 9+3,none⟩=some (.int .u8 m3)∧w'.cell? ⟨b,off+k * 9+4,none⟩=some (.int .u8 m4)∧w'.cell? ⟨b,off+k * 9+5,none⟩=some (.int .u8 m5)∧w'.cell? ⟨b,off+k * 9+6,none⟩=some (.int .u8 m6)∧w'.cell? ⟨b,off+k * 9+7,none⟩=some (.int .u8 m7)∧w'.cell? ⟨b,off+k * 9+8,none⟩=some (.int .i64 f)∧w'.cell? ⟨b',off'+k * 9,none⟩=some (.int .u8 m0)∧w'.cell? ⟨b',off'+k * 9+1,none⟩=some (.int .u8 m1)∧w'.cell? ⟨b',off'+k * 9+2,none⟩=some (.int .u8 m2)∧w'.cell? ⟨b',off'+k * 9+3,none⟩=some (.int .u8 m3)∧w'.cell? ⟨b',off'+k * 9+4,none⟩=some (.int .u8 m4)∧w'.cell? ⟨b',off'+k * 9+5,none⟩=some (.int .u8 m5)∧w'.cell? ⟨b',off'+k * 9+6,none⟩=some (.int .u8 m6)∧w'.cell? ⟨b',off'+k * 9+7,none⟩=some (.int .u8 m7)∧w'.cell? ⟨b',off'+k * 9+8,none⟩=some (.int .i64 f)) (exact nine18 hr hr')
      (first | (go_at_call 123;refine (eqTerm9 hm).mono ?_;rintro e w2 ⟨rfl,hb2⟩;have hr:=rgK hr (hb2.block b hbl);have hr':=rgK hr' (hb2.block b' hbl')))
     all_goals go_wp2_with fail
     all_goals go_meet
     all_goals exact ⟨rfl,bT' hb.drew hb2 hb.size⟩
    case rest=>
     obtain ⟨rfl,hb2⟩:=hcut;go_wp2_with fail
     go_roundw
     case rel=>exact ⟨k+1,by omega,by go_num,hb2⟩
     case measure=>simp [intOf] <;> omega
  · go_wp2
    go_ret
    exact ⟨rfl,hb⟩
theorem eqForm_c {w : World} {a a' : Option Addr} {n : Nat} {ts : List Tm} (c c' : Nat) (h : Terms w a n ts) (h' : Terms w a' n ts) (hn : n ≤ 1048576) :
    Calls Tryz.prog 20 #[.agg #[.slice a n c],.agg #[.slice a' n c']] w fun e w'=>e=.returned (.bool true)∧Below w.heap.size w w':=by
 go_enter Tryz.func20,Tryz.ntmps20
 go_wp2_with fail
 have hb0:=bTn (bA1 w (.cells #[.slice a n c] 39)) (bA1 _ (.cells #[.slice a' n c'] 39))
 refine (eqTermS_c c c' (h.keep hb0) (h'.keep hb0) hn).mono ?_
 rintro e w1 ⟨rfl,hb1⟩
 go_wp2_with fail
 go_ret
 exact ⟨rfl,bT' hb0 hb1 hb0.size⟩
open Go.RowKit Go.ChangeShapes Go.WideShapes Go.Deep
def Frms (w:World) (a:Option Addr) (n:Nat) (fss:List (List Tm)):Prop:=
 fss.length=n∧(0<n→∃b off,a=some ⟨b,off,none⟩∧b<w.heap.size∧∀i ts,fss[i]? = some ts→∃ai ni ci,w.cell? ⟨b,off+i,none⟩=some (.slice ai ni ci)∧Terms w ai ni ts∧(ni:Int)≤9223372036854775807)
theorem Frms.len {w:World} {a:Option Addr} {n:Nat} {fss:List (List Tm)} (h:Frms w a n fss):fss.length=n:=h.1
theorem Frms.keep {w w':World} {a:Option Addr} {n:Nat} {fss:List (List Tm)} (h:Frms w a n fss) (hb:Below w.heap.size w w'):Frms w' a n fss:=
 ⟨h.1,fun hn=>by
  obtain ⟨b,off,ha,hlt,hc⟩:=h.2 hn;refine ⟨b,off,ha,Nat.lt_of_lt_of_le hlt hb.size,fun i ts hi=>?_⟩;obtain ⟨ai,ni,ci,h1,h2,h3⟩:=hc i ts hi
  exact ⟨ai,ni,ci,(World.cell?_of_block (a:=⟨b,off+i,none⟩) (hb.block b hlt)).trans h1,h2.keep hb,h3⟩⟩
theorem Frms.at_ {w : World} {a : Option Addr} {n : Nat} {fss : List (List Tm)} (h : Frms w a n fss) {i : Nat} (hi : i < n) :
    ∃b off ts ai ni ci,a=some ⟨b,off,none⟩∧b<w.heap.size∧w.cell? ⟨b,off+i,none⟩=some (.slice ai ni ci)∧Terms w ai ni ts∧(ni:Int)≤9223372036854775807∧Hid (fss[i]? = some ts):=by
 obtain ⟨b,off,ha,hlt,hc⟩:=h.2 (by omega)
 have hl:=h.1
 have hx:fss[i]? = some fss[i]:=List.getElem?_eq_getElem (by omega)
 obtain ⟨ai,ni,ci,h1,h2,h3⟩:=hc i _ hx
 exact ⟨b,off,_,ai,ni,ci,ha,hlt,h1,h2,h3,hx⟩
section
variable {H:Type} {enc:TypeId × Value→H} {w:World} {spare:Nat→Bool} {held:Bool}
theorem ints_of_trod {t:TypeId} {fuel:Nat} {cs:List Value} {x:DataW H × List MemPlace} (ht:Tryz.prog.underlying t=some (.slice 2)) (hf:DataW.trod enc Tryz.prog w 0 spare held fuel t cs=some x):∃a n c zs,cs=[.slice a n c]∧Ints w a n zs:=by
 rcases open_ints ht Tryz.underlying2 (by kernel_rfl) hf with ⟨hcs,_⟩ | ⟨x,l,c',zs,hcs,_,hl,hm,hz,_,hcell,hwz⟩
 · exact ⟨_,_,_,[],hcs,rfl,fun h=>absurd h (by omega)⟩
 · have hle:l≤zs.length:=(by rw [hz];split <;> omega);refine ⟨_,_,_,zs.take l,hcs,by simp;omega,fun hn=>?_⟩;obtain ⟨b,off,spot⟩:=x;have h0:=hcell 0 (by omega);have hs:spot=none:=(by simpa [Addr.add] using World.cell?_spot h0);subst hs;refine ⟨b,off,rfl,?_,fun i hi=>?_⟩
   · have:=World.block_lt_of_cell? w _ h0;simpa [Addr.add] using this
   · have:=hcell i (by omega);rw [Addr.add_mid] at this;rw [this];simp [List.getD,hi]
theorem terms_of_trod' {t : TypeId} {fuel : Nat} {cs : List Value} {x : DataW H × List MemPlace} (ht : Tryz.prog.underlying t = some (.slice 161)) (h : DataW.trod enc Tryz.prog w 0 spare held fuel t cs = some x) :
    ∃a n c ts,cs=[.slice a n c]∧Terms w a n ts∧(n:Int)≤9223372036854775807:=by
 obtain ⟨a,n,c,ts,rfl,hT⟩:=terms_of_trod ht h
 refine ⟨a,n,c,ts,rfl,hT,?_⟩
 rcases open_slice ht h with ⟨hcs,_⟩ | ⟨x,l,c',m,k,D,Pl,hcs,_,hl,hm,hmm,_,hx⟩
 · simp at hcs;omega
 · simp at hcs
   have:(maxLen:Int)≤9223372036854775807:=(by decide);omega
theorem form_of_trod {t u : TypeId} {fuel : Nat} {cs : List Value} {x : DataW H × List MemPlace} {fd : Field} (ht : Tryz.prog.underlying t = some (.struct #[fd])) (hfd : fd.type = u) (hof : fd.offset = 0) (hC : Tryz.prog.cellsOf t = 1) (hCu : Tryz.prog.cellsOf u = 1)
    (hu:Tryz.prog.underlying u=some (.slice 161)) (h:DataW.trod enc Tryz.prog w 0 spare held fuel t cs=some x):∃a n c ts,cs=[.slice a n c]∧Terms w a n ts∧(n:Int)≤9223372036854775807:=by
 obtain ⟨xs,k,_,_,hlen,hxl,hx⟩:=DataW.trod_struct ht h
 have h0:=hx 0 fd rfl
 rw [hfd,hof,hCu,List.drop_zero,List.getElem?_eq_getElem (by rw [hxl];simp)] at h0
 rw [hC] at hlen
 rw [List.take_of_length_le (by omega)] at h0
 exact terms_of_trod' hu h0
theorem forms_of_trod {t : TypeId} {fuel : Nat} {cs : List Value} {x : DataW H × List MemPlace} (ht : Tryz.prog.underlying t = some (.slice 28)) (h : DataW.trod enc Tryz.prog w 0 spare held fuel t cs = some x) :
    ∃a n c fss,cs=[.slice a n c]∧Frms w a n fss∧(n:Int)≤9223372036854775807:=by
 have hC:Tryz.prog.cellsOf 28=1:=by kernel_rfl
 rcases open_slice ht h with ⟨hcs,_⟩ | ⟨x,l,c,m,k,D,Pl,hcs,_,hl,hm,hmm,_,hx⟩
 · exact ⟨_,_,_,[],hcs,⟨rfl,fun h=>absurd h (by omega)⟩,by omega⟩
 · rw [hC] at hx;have hle:l≤m:=(by rw [hmm];split <;> omega);have hml:(maxLen:Int)≤9223372036854775807:=by decide
   obtain ⟨f,hf⟩:=choose_lt (α:=List Tm) (n:=l) (p:=fun i ts=>∃ai ni ci,w.cells? 0 (x.add (i * 1)) 1=some [.slice ai ni ci]∧Terms w ai ni ts∧(ni:Int)≤9223372036854775807) (fun i hi=>by
    obtain ⟨cs',h1,h2⟩:=hx i (by omega);obtain ⟨ai,ni,ci,ts,rfl,hT,hb⟩:=form_of_trod Tryz.underlying28 rfl rfl (by kernel_rfl) (by kernel_rfl) Tryz.underlying26 h2
    exact ⟨ts,ai,ni,ci,h1,hT,hb⟩)
   refine ⟨_,_,_,(List.range l).map f,hcs,⟨by simp,fun hn=>?_⟩,by omega⟩;obtain ⟨b,off,spot⟩:=x;obtain ⟨a0,n0,c0,hc0,_,_⟩:=hf 0 hn;obtain ⟨_,hcl,hat⟩:=World.cells?_some hc0;have h0:=hat 0 (by omega)
   have hs:spot=none:=by
    have:=World.cell?_spot (by simpa using h0);simpa [Addr.add] using this
   subst hs;refine ⟨b,off,rfl,?_,fun i ts hi=>?_⟩
   · have:=World.block_lt_of_cell? w _ (by simpa using h0);simpa [Addr.add] using this
   · have hil : i < l := by
       have:=(List.getElem?_eq_some_iff.1 hi).1;simpa using this
     have hfi:f i=ts:=(by simpa [hil] using hi);obtain ⟨ai,ni,ci,hci,hT,hb⟩:=hf i hil;obtain ⟨_,_,hat'⟩:=World.cells?_some hci;have h9:=hat' 0 (by omega);rw [Addr.add_mid,Addr.add_mid,Nat.mul_one,Nat.add_zero] at h9;exact ⟨ai,ni,ci,by simpa using h9,by rw [←hfi];exact hT,hb⟩
theorem ints_of_trod' {t : TypeId} {fuel : Nat} {cs : List Value} {x : DataW H × List MemPlace} (ht : Tryz.prog.underlying t = some (.slice 2)) (h : DataW.trod enc Tryz.prog w 0 spare held fuel t cs = some x) :
    ∃a n c zs,cs=[.slice a n c]∧Ints w a n zs∧(n:Int)≤9223372036854775807:=by
 obtain ⟨a,n,c,zs,rfl,hI⟩:=ints_of_trod ht h
 refine ⟨a,n,c,zs,rfl,hI,?_⟩
 rcases open_slice ht h with ⟨hcs,_⟩ | ⟨x,l,c',m,k,D,Pl,hcs,_,hl,hm,hmm,_,hx⟩
 · simp at hcs;omega
 · simp at hcs
   have:(maxLen:Int)≤9223372036854775807:=(by decide);omega
theorem algebra_open {t u v : TypeId} {r : Reach} {b0 : Nat} {x : Value} {d : DataW H} {p : List MemPlace} {fd fe : Field} (ht : Tryz.prog.underlying t = some (.struct #[fd, fe])) (hfd : fd.type = u) (hof : fd.offset = 0) (hfe : fe.type = v) (hoe : fe.offset = 1)
    (hC:Tryz.prog.cellsOf t=2) (hCu:Tryz.prog.cellsOf u=1) (hCv:Tryz.prog.cellsOf v=1) (hu:Tryz.prog.underlying u=some (.slice 2)) (hv0:Tryz.prog.underlying v=some (.slice 28))
    (hv:Value.okWide Tryz.prog w r b0 t x) (h:DataW.Trod enc Tryz.prog w 0 spare held t x d p):∃da dn dc a n c zs fss,x=.agg #[.slice da dn dc,.slice a n c]∧Ints w da dn zs∧(dn:Int)≤9223372036854775807∧Frms w a n fss∧(n:Int)≤9223372036854775807:=by
 obtain ⟨cs,rfl,hsz⟩:=okWide_struct ht hv
 obtain ⟨fuel,hf⟩:=h
 obtain ⟨xs,k,_,_,hlen,hxl,hx⟩:=DataW.trod_struct ht hf
 have h0:=hx 0 fd rfl
 have h1:=hx 1 fe rfl
 rw [hfd,hof,hCu,List.drop_zero,List.getElem?_eq_getElem (by rw [hxl];simp)] at h0
 rw [hfe,hoe,hCv,List.getElem?_eq_getElem (by rw [hxl];simp)] at h1
 rw [hC] at hlen hsz
 simp only [Value.cells] at h0 h1 hlen
 obtain ⟨da,dn,dc,zs,e0,hI,hb0⟩:=ints_of_trod' hu h0
 obtain ⟨a,n,c,fss,e1,hF,hb⟩:=forms_of_trod hv0 h1
 refine ⟨da,dn,dc,a,n,c,zs,fss,?_,hI,hb0,hF,hb⟩
 obtain ⟨l⟩:=cs
 match l,hlen with
 | [c0, c1], _ =>
   simp at e0 e1
   rw [e0,e1]
end
end Go.Proofs.YtifcfoijcodjbaaGreat
