
import Derived.Test.YtndnkeijddagiaaMonoB
import Derived.Lib.Bytealg
import Derived.Lib.Bytes
import Derived.Lib.BytesEntry
import Derived.Laws.MakeOwn
import Derived.Deep.DeepCutAuto
namespace Go.Proofs.Ytndnkeijddagiaa
set_option maxRecDepth 100000
open Go.RowKit Go.Deep
def cmpM:List Int→List Int→Int
 | a::l1,b::l2=>if b<a then -1 else if a<b then 1 else cmpM l1 l2
 | _,_=>0
def before (m k:List Int):Bool:=decide (cmpM m k=-1)
theorem u8_lt {a b:Int} (ha:0≤a∧a≤255) (hb:0≤b∧b≤255):(UInt8.ofNat a.toNat<UInt8.ofNat b.toNat)↔a<b:=by
 rw [UInt8.lt_iff_toNat_lt,UInt8.toNat_ofNat',UInt8.toNat_ofNat',Nat.mod_eq_of_lt (by omega),Nat.mod_eq_of_lt (by omega)]
 omega
theorem cmpM_bytes:∀(m k:List Int),m.length=k.length→(∀x∈m,0≤x∧x≤255)→(∀x∈k,0≤x∧x≤255)→Lib.compareBytes (Lib.bytesOf k) (Lib.bytesOf m)=cmpM m k
 | [],[],_,_,_=>rfl
 | a :: l1, b :: l2, hl, h1, h2 => by
   have ih:=cmpM_bytes l1 l2 (by simpa using hl) (fun x hx=>h1 x (by simp [hx])) (fun x hx=>h2 x (by simp [hx]));have ha:=h1 a (by simp);have hb:=h2 b (by simp);simp only [Lib.bytesOf,List.map_cons,Lib.compareBytes,cmpM,u8_lt hb ha,u8_lt ha hb];rw [←ih];rfl
 | [],_::_,hl,_,_=>by simp at hl
 | _::_,[],hl,_,_=>by simp at hl
theorem cmpM_range (m k:List Int):cmpM m k=-1∨cmpM m k=0∨cmpM m k=1:=by
 induction m generalizing k with
 | nil=>simp [cmpM]
 | cons a l1 ih =>
   cases k with
   | nil=>simp [cmpM]
   | cons b l2 =>
     simp only [cmpM];split
     · simp
     · split
       · simp
       · exact ih l2
theorem cmpM_take:∀(i:Nat) (m k:List Int),m.take i=k.take i→cmpM m k=cmpM (m.drop i) (k.drop i)
 | 0,m,k,_=>by simp
 | i + 1, [], k, h => by
   cases k with
   | nil=>rfl
   | cons b l2=>simp at h
 | i+1,a::l1,[],h=>by simp at h
 | i + 1, a :: l1, b :: l2, h => by
   simp only [List.take_succ_cons,List.cons.injEq] at h;obtain ⟨rfl,h⟩:=h;rw [cmpM,if_neg (by omega),if_neg (by omega),cmpM_take i l1 l2 h,List.drop_succ_cons,List.drop_succ_cons]
theorem cmpM_at {m k:List Int} {i:Nat} {y z:Int} (hy:m[i]? = some y) (hz:k[i]? = some z) (h:m.take i=k.take i) (hne:y≠z):cmpM m k=if z<y then -1 else 1:=by
 obtain ⟨h1,e1⟩:=List.getElem?_eq_some_iff.1 hy
 obtain ⟨h2,e2⟩:=List.getElem?_eq_some_iff.1 hz
 rw [cmpM_take i m k h,List.drop_eq_getElem_cons h1,List.drop_eq_getElem_cons h2,e1,e2,cmpM]
 split
 · rfl
 · rw [if_pos (by omega)]
theorem cmpM_self (m:List Int):cmpM m m=0:=by
 induction m with
 | nil=>rfl
 | cons a l1 ih=>rw [cmpM,if_neg (by omega),if_neg (by omega),ih]
theorem before_at {m k:List Int} {i:Nat} {y z:Int} (hy:m[i]? = some y) (hz:k[i]? = some z) (h:m.take i=k.take i) (hne:y≠z):before m k=decide (z<y):=by
 rw [before,cmpM_at hy hz h hne]
 by_cases hh:z<y <;> simp [hh]
theorem before_self (m:List Int):before m m=false:=by rw [before,cmpM_self];rfl
theorem l01Before_c {w : World} {m k : List Int} (hm : IsMono m) (hk : IsMono k) :
    Calls Try.prog 127 #[monoV m,monoV k] w fun e w'=>e=.returned (.bool (before m k))∧Below w.heap.size w w':=by
 unfold monoV
 go_enter Try.func127,Try.ntmps127
 go_wp2
 have o1:=(Own.new w 74 (mcells m).toArray).alloc (.cells (mcells k).toArray 74)
 have o2:=Own.new (w.alloc (.cells (mcells m).toArray 74)) 74 (mcells k).toArray
 have hb:Below w.heap.size w ((w.alloc (.cells (mcells m).toArray 74)).alloc (.cells (mcells k).toArray 74)):=bTn (bA1 w _) (bA1 _ _)
 rw [sAl] at o2
 generalize (w.alloc (.cells (mcells m).toArray 74)).alloc (.cells (mcells k).toArray 74)=w0 at *
 go_loopw [5] (fun i wr=>∃j q:Nat,j≤8∧i=.int .i64 j∧wr=w0.drewN q∧Hid (m.take j=k.take j)) (fun i _=>8 - (intOf i).toNat)
 case atStart=>exact ⟨0,0,Nat.zero_le _,rfl,rfl,rfl⟩
 case round=>
  obtain ⟨j,q,hj,rfl,rfl,H⟩:=hrel;by_cases hlt:j<8
  · obtain ⟨y,hy0,hy1,hy,HY⟩:=mono_at hm hlt;obtain ⟨z,hz0,hz1,hz,HZ⟩:=mono_at hk hlt;have c1:=o1.cell j;have c2:=o2.cell j;rw [List.getElem?_toArray,hy] at c1;rw [List.getElem?_toArray,hz] at c2;have h8:(j:Int)<8:=(by omega);by_cases hxy:y=z
    · subst hxy
      go_wp2
      go_quiet (fail)
      go_wp2
      go_roundw
      case rel=>exact ⟨j+1,_,by omega,by go_num,rfl,take_eq HY.out HZ.out H.out⟩
      case measure=>simp [intOf] <;> omega
    · have hq:(y==z)=false:=(by simpa using hxy);have hq':(y != z)=true:=by simpa using hxy
      go_wp2
      go_quiet (fail)
      go_wp2
      go_quiet (fail)
      go_wp2
      go_ret
      exact ⟨ret_b (before_at HY.out HZ.out H.out hxy).symm,below_drewN (below_drewN (below_drewN hb _) _) _⟩
  · go_wp2
    go_ret
    have he:m=k:=by
     have:=H.out
     rwa [List.take_of_length_le (by have:=hm.1;omega),List.take_of_length_le (by have:=hk.1;omega)] at this
    exact ⟨ret_b (by rw [he,before_self]),below_drewN hb _⟩
theorem run_compare8 {P : Program} {w : World} {g g' c c' : Nat} {t t' : TypeId} {m k : List Int} (hm : IsMono m) (hk : IsMono k) (o1 : Own w g t (mcells m).toArray) (o2 : Own w g' t' (mcells k).toArray) :
    (Extern.BytealgCompare.compare #[.slice (some ⟨g',0,none⟩) 8 c',.slice (some ⟨g,0,none⟩) 8 c]).run P w=.ok (.int .i64 (cmpM m k)) w:=by
 have l1:=Lib.run_loadBytesX (P:=P) w m ⟨g,0,none⟩ .empty (fun j x hj=>by
  rw [Addr.add_mid,Nat.zero_add,o1.cell j];simp [mcells,hj])
 have l2:=Lib.run_loadBytesX (P:=P) w k ⟨g',0,none⟩ .empty (fun j x hj=>by
  rw [Addr.add_mid,Nat.zero_add,o2.cell j];simp [mcells,hj])
 rw [hm.1] at l1
 rw [hk.1] at l2
 have he:∀xs:List Int,(⟨ByteArray.empty.data++(Lib.bytesOf xs).toArray⟩:ByteArray)=⟨(Lib.bytesOf xs).toArray⟩:=fun xs=>by
  apply ByteArray.ext
  show (#[]:Array UInt8)++(Lib.bytesOf xs).toArray=(Lib.bytesOf xs).toArray
  simp
 rw [he] at l1 l2
 have hs:=Lib.run_compareString (P:=P) ⟨(Lib.bytesOf k).toArray⟩ ⟨(Lib.bytesOf m).toArray⟩ w
 rw [show (⟨(Lib.bytesOf k).toArray⟩:ByteArray).data.toList=Lib.bytesOf k from rfl,show (⟨(Lib.bytesOf m).toArray⟩:ByteArray).data.toList=Lib.bytesOf m from rfl,cmpM_bytes m k (hm.1.trans hk.1.symm) hm.2 hk.2] at hs
 change Sem.run P (do pure (goInt (Extern.BytealgCompare.cmp (←Extern.Bytes.bytesOf (.slice (some ⟨g',0,none⟩) 8 c')) (←Extern.Bytes.bytesOf (.slice (some ⟨g,0,none⟩) 8 c))))) w=_
 change Sem.run P (do pure (goInt (Extern.BytealgCompare.cmp (←Extern.Bytes.bytesOf (.string ⟨(Lib.bytesOf k).toArray⟩)) (←Extern.Bytes.bytesOf (.string ⟨(Lib.bytesOf m).toArray⟩))))) w=_ at hs
 simp only [Extern.Bytes.bytesOf,Sem.run_bind,Sem.run_pure,l1,l2,Result.andThen] at hs ⊢
 exact hs
theorem Compare_c {w : World} {g g' c c' : Nat} {t t' : TypeId} {m k : List Int} (hm : IsMono m) (hk : IsMono k) (o1 : Own w g t (mcells m).toArray) (o2 : Own w g' t' (mcells k).toArray) :
    Calls Try.prog 140 #[.slice (some ⟨g',0,none⟩) 8 c',.slice (some ⟨g,0,none⟩) 8 c] w fun e w'=>e=.returned (.int .i64 (cmpM m k))∧w'=w:=by
 go_enter Try.func140,Try.ntmps140
 go_wp2
 rw [run_callFunc_extern Try.func142 (by kernel_rfl) (by kernel_rfl) (by kernel_rfl) (e:=Extern.BytealgCompare.compare) (by kernel_rfl),run_compare8 hm hk o1 o2]
 simp only [Result.andThen]
 rw [Oper.upon_value]
 go_wp2
 go_ret
 exact ⟨rfl,rfl⟩
theorem compareMonomials_c {w : World} {m k : List Int} (hm : IsMono m) (hk : IsMono k) :
    Calls Try.prog 131 #[monoV m,monoV k] w fun e w'=>e=.returned (.int .i64 (cmpM m k))∧Below w.heap.size w w':=by
 unfold monoV
 go_enter Try.func131,Try.ntmps131
 go_wp2
 have o1:=(Own.new w 74 (mcells m).toArray).alloc (.cells (mcells k).toArray 74)
 have o2:=Own.new (w.alloc (.cells (mcells m).toArray 74)) 74 (mcells k).toArray
 have hb:Below w.heap.size w ((w.alloc (.cells (mcells m).toArray 74)).alloc (.cells (mcells k).toArray 74)):=bTn (bA1 w _) (bA1 _ _)
 rw [sAl] at o2
 generalize (w.alloc (.cells (mcells m).toArray 74)).alloc (.cells (mcells k).toArray 74)=w0 at *
 go_quiet ((go_at_call 140;exact Calls.quiet_of_same (Compare_c hm hk (o1.drewN _) (o2.drewN _))))
 go_wp2
 go_ret
 exact ⟨rfl,below_drewN hb _⟩
theorem rcells_append (xs ys:List Tm):rcells (xs++ys)=rcells xs++rcells ys:=by simp [rcells]
theorem rcells_cons (t:Tm) (ys:List Tm):rcells (t::ys)=tcells t++rcells ys:=by simp [rcells]
theorem rcells_take_add {ts:List Tm} {k:Nat} {t:Tm} (h:ts[k]? = some t):rcells (ts.take (k+1))=rcells (ts.take k)++tcells t:=by
 rw [List.take_add_one,h,rcells_append]
 simp [rcells]
theorem Terms.len {w:World} {a:Option Addr} {n:Nat} {ts:List Tm} (h:Terms w a n ts):ts.length=n:=h.1
theorem Terms.drewN {w:World} {a:Option Addr} {n:Nat} {ts:List Tm} (h:Terms w a n ts) (k:Nat):Terms (w.drewN k) a n ts:=h
theorem Terms.drew {w:World} {a:Option Addr} {n:Nat} {ts:List Tm} (h:Terms w a n ts):Terms w.drew a n ts:=h
theorem Terms.at_ {w : World} {a : Option Addr} {n : Nat} {ts : List Tm} (h : Terms w a n ts) {k : Nat} (hk : k < n) :
    ∃b off t,a=some ⟨b,off,none⟩∧b<w.heap.size∧w.rangeAt b (off+k * 9) (tcells t)∧IsTm t∧Hid (ts[k]? = some t):=by
 obtain ⟨hl,hT,hc⟩:=h
 obtain ⟨b,off,ha,hlt,hr⟩:=hc (by omega)
 have hkl:k<ts.length:=by omega
 refine ⟨b,off,ts[k],ha,hlt,fun j v hv=>?_,hT _ (List.getElem_mem hkl),List.getElem?_eq_getElem hkl⟩
 have hpre:(rcells (ts.take k)).length=k * 9:=by
  rw [rcells_length (fun t ht=>hT t (List.mem_of_mem_take ht)),List.length_take];congr 1
  omega
 have hsplit:rcells ts=rcells (ts.take k)++(tcells ts[k]++rcells (ts.drop (k+1))):=by
  rw [←rcells_cons,←rcells_append,←List.drop_eq_getElem_cons hkl,List.take_append_drop]
 have hj:j<(tcells ts[k]).length:=(List.getElem?_eq_some_iff.1 hv).1
 have:=hr (k * 9+j) v (by
  rw [hsplit,List.getElem?_append_right (by omega),hpre,show k * 9+j - k * 9=j by omega,List.getElem?_append_left hj]
  exact hv)
 rw [show off+k * 9+j=off+(k * 9+j) by omega]
 exact this
theorem Terms.of_own {w:World} {g:Nat} {t:TypeId} {ts:List Tm} {n:Nat} (h:Own w g t (rcells ts).toArray) (hT:∀t∈ts,IsTm t) (hn:ts.length=n):Terms w (some ⟨g,0,none⟩) n ts:=
 ⟨hn,hT,fun _=>⟨g,0,rfl,h.lt,by simpa using h.range⟩⟩
theorem setCells_own : ∀ (vs : List Value) (o : Nat) (w : World) {g : Nat} {t : TypeId} {pre mid post : List Value}, Own w g t (pre ++ mid ++ post).toArray → pre.length = o → mid.length = vs.length →
    Own (w.setCells g o vs) g t (pre++vs++post).toArray
 | [], o, w, g, t, pre, mid, post, h, _, hm => by
   have:mid=[]:=List.eq_nil_of_length_eq_zero (by simpa using hm);subst this;simpa [World.setCells] using h
 | v :: vs, o, w, g, t, pre, mid, post, h, hp, hm => by
   cases mid with
   | nil=>simp at hm
   | cons x mid =>
     rw [World.setCells];have h1:=h.set o v
     have e:((pre++x::mid++post).toArray).setIfInBounds o v=((pre++[v])++mid++post).toArray:=by
      apply Array.ext'
      simp only [Array.toList_setIfInBounds];rw [show pre++x::mid++post=pre++(x::(mid++post)) by simp,List.set_append_right _ _ (by omega),hp,Nat.sub_self];simp
     rw [e] at h1;have h2:=setCells_own vs (o+1) _ h1 (by simp [hp]) (by simpa using hm);simpa using h2
theorem setCells_far:∀(vs:List Value) (o:Nat) (w:World) {g k:Nat} {t:TypeId} {cs:Array Value},Own w g t cs→g≠k→Own (w.setCells k o vs) g t cs
 | [],_,_,_,_,_,_,h,_=>h
 | v :: vs, o, w, g, k, t, cs, h, hk => by
   rw [World.setCells];exact setCells_far vs (o+1) _ (h.far (p:=⟨k,o,none⟩) hk v) hk
theorem below_setCells:∀(vs:List Value) (o:Nat) {B k:Nat} {a w:World},Below B a w→B≤k→Below B a (w.setCells k o vs)
 | [],_,_,_,_,_,h,_=>h
 | v :: vs, o, B, k, a, w, h, hk => by
   rw [World.setCells];exact below_setCells vs (o+1) (h.setCell (p:=⟨k,o,none⟩) hk v) hk
theorem there_own {w:World} {g o n:Nat} {t:TypeId} {cs:Array Value} (h:Own w g t cs) (hn:o+n≤cs.size):w.there g o n:=fun j hj=>by
 obtain ⟨v,hv⟩:=h.has (i:=o+j) (by omega)
 exact ⟨by rw [hv];rfl,h.frozen _⟩
theorem tcells_one (t:Tm):(tcells t).toArray.all (·.oneCell')=true:=by simp [tcells,mcells,Value.oneCell']
theorem Try.info_term:(Try.prog.info? 76).map (·.size)=some 9:=by kernel_rfl
theorem Try.info_lterm:(Try.prog.info? 125).map (·.size)=some 9:=by kernel_rfl
theorem Try.info_mono8':(Try.prog.info? 73).map (·.size)=some 8:=by kernel_rfl
theorem tsize {t:Tm} (h:IsTm t):(tcells t).toArray.size=9:=by simp [tcells_length h]
theorem set8 {w:World} {g:Nat} {u:TypeId} {t:Tm} {v:Value} (ht:IsTm t) (h:Own w g u ([]++mcells t.m++[v]).toArray):Own (w.setCell ⟨g,8,none⟩ (.int .i64 t.f)) g u (tcells t).toArray:=by
 have h1:=h.set 8 (.int .i64 t.f)
 have e:([]++mcells t.m++[v]).toArray.setIfInBounds 8 (.int .i64 t.f)=(tcells t).toArray:=by
  apply Array.ext'
  simp only [Array.toList_setIfInBounds,List.nil_append];rw [List.set_append_right _ _ (by rw [mcells_length,ht.1.1];exact Nat.le_refl _),mcells_length,ht.1.1];rfl
 rwa [e] at h1
def zero9:List Value:=[.int .u8 0,.int .u8 0,.int .u8 0,.int .u8 0,.int .u8 0,.int .u8 0,.int .u8 0,.int .u8 0,.int .i64 0]
theorem own3' (w : World) (t u v : TypeId) (A B C : Array Value) :
    Own (((w.alloc (.cells A t)).alloc (.cells B u)).alloc (.cells C v)) w.heap.size t A ∧
    Own (((w.alloc (.cells A t)).alloc (.cells B u)).alloc (.cells C v)) (w.heap.size+1) u B ∧
    Own (((w.alloc (.cells A t)).alloc (.cells B u)).alloc (.cells C v)) (w.heap.size+1+1) v C ∧
    Below w.heap.size w (((w.alloc (.cells A t)).alloc (.cells B u)).alloc (.cells C v)):=by
 have o1:=((Own.new w t A).alloc (.cells B u)).alloc (.cells C v)
 have o2:=(Own.new (w.alloc (.cells A t)) u B).alloc (.cells C v)
 have o3:=Own.new ((w.alloc (.cells A t)).alloc (.cells B u)) v C
 rw [sAl] at o2
 rw [sAl,sAl] at o3
 exact ⟨o1,o2,o3,bTn (bTn (bA1 w _) (bA1 _ _)) (bA1 _ _)⟩
theorem toTerm_c {w : World} {t : Tm} (ht : IsTm t) :
    Calls Try.prog 112 #[termV t] w fun e w'=>e=.returned (termV t)∧Below w.heap.size w w':=by
 unfold termV
 go_enter Try.func112,Try.ntmps112
 go_upto_region 2 with (fail)
 obtain ⟨o1,o2,o3,hb⟩:=own3' w 125 76 76 (tcells t).toArray zero9.toArray zero9.toArray
 simp only [zero9] at o1 o2 o3 hb
 generalize ((w.alloc (.cells (tcells t).toArray 125)).alloc (.cells [Value.int .u8 0,.int .u8 0,.int .u8 0,.int .u8 0,.int .u8 0,.int .u8 0,.int .u8 0,.int .u8 0,.int .i64 0].toArray 76)).alloc (.cells [Value.int .u8 0,.int .u8 0,.int .u8 0,.int .u8 0,.int .u8 0,.int .u8 0,.int .u8 0,.int .u8 0,.int .i64 0].toArray 76)=w0 at *
 have hm8:=Lib.hid (show (mcells t.m).length=8 by rw [mcells_length];exact ht.1.1)
 have hr1:w0.rangeAt w.heap.size 0 (mcells t.m):=fun j v hv=>o1.range j v (by
  have:j<(mcells t.m).length:=(List.getElem?_eq_some_iff.1 hv).1
  simp only [tcells,List.getElem?_append_left this,hv])
 have HR1:=Lib.hid hr1
 clear hr1
 go_wp2_with (refine wpList_load_mid rfl 73 (.tmp 4) rfl w.heap.size 0 rfl (mcells t.m) _ HR1.out Try.underlying73 rfl (by rw [hm8.out];exact Try.info_mono8') ?_)
 refine (toMonomial_c ht.1).mono ?_
 rintro e w1 ⟨rfl,hb1⟩
 have o1':=o1.keep hb1 o1.lt
 have o2':=o2.keep hb1 o2.lt
 have o3':=o3.keep hb1 o3.lt
 have hb':=bT' hb hb1 hb.size
 clear o1 o2 o3 hb
 unfold monoV
 have p1:=setCells_far (mcells t.m) 0 w1 o1' (k:=w.heap.size+1+1) (by omega)
 have p2:=setCells_far (mcells t.m) 0 w1 o2' (k:=w.heap.size+1+1) (by omega)
 have p3:=setCells_own (mcells t.m) 0 w1 (pre:=[]) (mid:=nul8.map (Value.int .u8)) (post:=[.int .i64 0]) o3' rfl (by rw [hm8.out];rfl)
 have hb2:=below_setCells (mcells t.m) 0 hb' (k:=w.heap.size+1+1) (by omega)
 have HT:=Lib.hid (there_own (o:=0) (n:=(mcells t.m).toArray.size) o3' (by simp [hm8.out]))
 clear o1' o2' o3' hb' HR1
 have c8:=p1.cell 8
 have e8:(tcells t).toArray[8]? = some (.int .i64 t.f):=by
  rw [List.getElem?_toArray,tcells,List.getElem?_append_right (by rw [hm8.out];exact Nat.le_refl _),hm8.out];rfl
 rw [e8] at c8
 have c38:=p3.cell 8
 have e38:([]++mcells t.m++[Value.int .i64 0]).toArray[8]? = some (.int .i64 0):=by
  rw [List.getElem?_toArray,List.nil_append,List.getElem?_append_right (by rw [hm8.out];exact Nat.le_refl _),hm8.out];rfl
 rw [e38] at c38
 have f38:=p3.frozen 8
 clear e8 e38
 have hs9:=Lib.hid (tsize ht)
 go_wp2_with (first
  | (refine wpList_store_mid rfl 74 (.tmp 7) (.tmp 6) rfl (w.heap.size+1+1) 0 (mcells t.m).toArray rfl rfl HT.out (by rw [msize ht.1];exact Try.info_mono) (mcells_one _) ?_;generalize w1.setCells (w.heap.size+1+1) 0 (mcells t.m).toArray.toList=w2 at *)
  | (refine wpList_load_row rfl 76 (.tmp 3) rfl _ rfl 76 (tcells t).toArray (0,0) _ (set8 ht p3) Try.underlying76 rfl (by rw [hs9.out];exact Try.info_term) ?_)
  | (refine wpList_store_row rfl 76 (.tmp 2) (.tmp 11) rfl _ (tcells t).toArray rfl rfl 76 _ (p2.far (p:=⟨w.heap.size+1+1,8,none⟩) (by dsimp only;omega) (.int .i64 t.f)) (by rw [hs9.out];exact Try.info_term) (by rw [hs9.out];rfl) (tcells_one _) ?_))
 exact bodyPost_ret (results_cell_row rfl _ _ (w.heap.size+1) 76 (tcells t).toArray (0,0) _ rfl ((p2.far (p:=⟨w.heap.size+1+1,8,none⟩) (by dsimp only;omega) (.int .i64 t.f)).setRow _) Try.underlying76 rfl (by rw [hs9.out];exact Try.info_term)) rfl ⟨rfl,below_setRow (hb2.setCell (p:=⟨w.heap.size+1+1,8,none⟩) (by dsimp only;omega) _) (by omega) _⟩
theorem Try.info_term3:(Try.prog.info? 76).map (fun i=>(i.zero,i.size,i.bytes))=some (some (.agg zero9.toArray),9,16):=by kernel_rfl
def zrows (n:Nat):List Value:=(List.replicate n zero9).flatten
theorem zrows_succ (n:Nat):zrows (n+1)=zero9++zrows n:=by simp [zrows,List.replicate_succ]
theorem zrows_length (n:Nat):(zrows n).length=n * 9:=by
 induction n with
 | zero=>rfl
 | succ n ih=>rw [zrows_succ,List.length_append,ih];simp [zero9];omega
theorem zrows_get (n i:Nat) (h:i<n * 9):(zrows n)[i]? = zero9[i % 9]? := by
 induction n generalizing i with
 | zero=>omega
 | succ n ih =>
   rw [zrows_succ];have h9:zero9.length=9:=rfl;by_cases hi:i<9
   · rw [List.getElem?_append_left (by omega),Nat.mod_eq_of_lt hi]
   · rw [List.getElem?_append_right (by omega),h9,ih (i - 9) (by omega)];congr 1
     omega
theorem made_zrows (n:Nat):madeCells zero9.toArray (n * 9)=(zrows n).toArray:=by
 apply Array.ext_getElem?
 intro i
 by_cases hi:i<n * 9
 · have h9:i % 9<9:=Nat.mod_lt _ (by omega);have hz:zero9.length=9:=rfl;have e2:(zrows n).toArray[i]? = (zrows n)[i]? := (by simp);rw [e2,zrows_get n i hi];simp [madeCells,hi,hz,h9]
 · have e2:(zrows n).toArray[i]? = (zrows n)[i]? := (by simp);rw [e2,Array.getElem?_eq_none (by simp [madeCells];omega),List.getElem?_eq_none (by rw [zrows_length];omega)]
theorem make_terms (n : Nat) (hn : n ≤ 1048576) (w : World) :
    (Instr.makeSlice 45 (.int .i64 (n:Int)) (.int .i64 (n:Int))).run Try.prog w=.ok (.slice (some ⟨w.heap.size,0,none⟩) n n) (w.alloc (.cells (zrows n).toArray 76)):=by
 obtain ⟨i,hi,hzz⟩:=Option.map_eq_some_iff.1 Try.info_term3
 simp only [Prod.mk.injEq] at hzz
 obtain ⟨hz,hs,hb⟩:=hzz
 have hr:=run_make (P:=Try.prog) w 45 76 i _ Try.underlying45 hi hz .i64 .i64 n n (by omega) (Int.le_refl _) (by rw [hb];omega) (by omega)
 simp only [Int.toNat_natCast,hs,Value.cells,made_zrows] at hr
 exact hr
theorem toTermS_c {w : World} {a : Option Addr} {n : Nat} {ts : List Tm} (c : Nat) (h : Terms w a n ts) (hn : n ≤ 1048576) :
    Calls Try.prog 74 #[.slice a n c] w fun e w'=>e=.returned (.slice (some ⟨w.heap.size,0,none⟩) n n)∧Own w' w.heap.size 76 (rcells ts).toArray∧Below w.heap.size w w':=by
 have hl:=h.len
 have HL:=Lib.hid hl
 clear hl
 have HT:=Lib.hid h.2.1
 have hmk:=make_terms n hn
 go_enter Try.func74,Try.ntmps74
 go_wp2
 have o0:=Own.new w 76 (zrows n).toArray
 have hb0:=bA1 w (.cells (zrows n).toArray 76)
 clear hmk
 generalize w.alloc (.cells (zrows n).toArray 76)=w0 at *
 go_loopw [4] (fun i wr=>∃k:Nat,k≤n∧i=.int .i64 k∧Own wr w.heap.size 76 (rcells (ts.take k)++zrows (n - k)).toArray∧Below w.heap.size w wr) (fun i _=>n - (intOf i).toNat)
 case atStart=>exact ⟨0,Nat.zero_le _,rfl,by simpa [rcells] using o0,hb0⟩
 case round=>
  clear o0 hb0;obtain ⟨k,hk,rfl,o1,hb⟩:=hrel;by_cases hlt:k<n
  · obtain ⟨b,off,t,rfl,hbl,hr,ht,hx⟩:=(h.keep hb).at_ hlt;have HR:=Lib.hid hr;clear hr;have hs9:=Lib.hid (tcells_length ht);go_wp2_with (refine wpList_load_mid rfl 125 (.tmp 18) rfl b (off+k * 9) rfl (tcells t) _ HR.out Try.underlying125 rfl (by rw [hs9.out];exact Try.info_lterm) ?_)
    refine (toTerm_c ht).mono ?_;rintro e w1 ⟨rfl,hb1⟩
    have hpre:(rcells (ts.take k)).length=k * 9:=by
     rw [rcells_length (fun u hu=>HT.out u (List.mem_of_mem_take hu)),List.length_take,HL.out];congr 1;omega
    have hz:zrows (n - k)=zero9++zrows (n - (k+1)):=(by rw [show n - k=(n - (k+1))+1 by omega,zrows_succ]);have o1':=o1.keep hb1 o1.lt;have hbb:=bT' hb hb1 hb.size;rw [hz,←List.append_assoc] at o1';have o2:=setCells_own (tcells t) (k * 9) w1 (pre:=rcells (ts.take k)) (mid:=zero9) (post:=zrows (n - (k+1))) o1' hpre (by rw [hs9.out];rfl);have hb2:=below_setCells (tcells t) (k * 9) hbb (k:=w.heap.size) (Nat.le_refl _);have HTh:=Lib.hid (there_own (o:=k * 9) (n:=(tcells t).toArray.size) o1' (by simp [hpre,hs9.out,zero9,zrows_length] <;> omega));have HP:=Lib.hid hpre;clear hpre hz o1' hbb o1 hb;unfold termV;go_wp2_with (refine wpList_store_mid rfl 76 (.tmp 21) (.tmp 20) rfl w.heap.size (k * 9) (tcells t).toArray rfl rfl HTh.out (by simp only [List.size_toArray,hs9.out];exact Try.info_term) (tcells_one _) ?_;generalize w1.setCells w.heap.size (k * 9) (tcells t).toArray.toList=w2 at *)
    go_roundw
    case rel=>exact ⟨k+1,by omega,by go_num,by rw [rcells_take_add hx.out];exact o2,hb2⟩
    case measure=>simp [intOf] <;> omega
  · have he:k=n:=(by omega);subst he
    go_wp2
    go_ret
    refine ⟨rfl,?_,hb⟩;have:=o1
    rwa [Nat.sub_self,List.take_of_length_le (Nat.le_of_eq HL.out),show zrows 0=[] from rfl,List.append_nil] at this
end Go.Proofs.Ytndnkeijddagiaa
