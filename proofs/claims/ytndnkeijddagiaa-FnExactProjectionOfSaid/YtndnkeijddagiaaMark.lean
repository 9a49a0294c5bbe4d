
import Derived.Test.YtndnkeijddagiaaForm
namespace Go.Proofs.Ytndnkeijddagiaa
set_option maxRecDepth 100000
open Go.RowKit Go.Deep
structure Only (g:Nat) (w w':World):Prop where
 below:∀B,B≤g→Below B w w'
 size:w'.heap.size=w.heap.size
 other:∀b,b≠g→w'.heap[b]? = w.heap[b]?
theorem Only.refl (g:Nat) (w:World):Only g w w:=⟨fun B _=>Below.refl B w,rfl,fun _ _=>rfl⟩
theorem Only.set {g:Nat} {w w':World} (h:Only g w w') (i:Nat) (v:Value):Only g w (w'.setCell ⟨g,i,none⟩ v):=
 ⟨fun B hB=>(h.below B hB).setCell (p:=⟨g,i,none⟩) hB v,by rw [←h.size];simp,fun b hb=>(Below.heap_setCell w' ⟨g,i,none⟩ v b hb).trans (h.other b hb)⟩
theorem Only.own {g g':Nat} {w w':World} {t:TypeId} {cs:Array Value} (h:Only g w w') (o:Own w g' t cs) (hg:g'≠g):Own w' g' t cs:=(h.other g' hg).trans o
def markA (mk:Nat→Value) (cs:Array Value) (p:Nat):Array Value:=(Array.range cs.size).map fun i=>if i<p then mk i else cs.getD i undef
theorem markA_size (mk:Nat→Value) (cs:Array Value) (p:Nat):(markA mk cs p).size=cs.size:=by simp [markA]
theorem markA_get {mk:Nat→Value} {cs:Array Value} {p i:Nat} (hi:i<cs.size):(markA mk cs p)[i]? = some (if i<p then mk i else cs.getD i undef):=by
 simp [markA,hi]
theorem markA_zero (mk:Nat→Value) (cs:Array Value):markA mk cs 0=cs:=by
 apply Array.ext_getElem?
 intro i
 by_cases hi:i<cs.size
 · rw [markA_get hi];simp [hi]
 · rw [Array.getElem?_eq_none (by rw [markA_size];omega),Array.getElem?_eq_none (by omega)]
theorem markA_step (mk:Nat→Value) (cs:Array Value) (p:Nat):(markA mk cs p).setIfInBounds p (mk p)=markA mk cs (p+1):=by
 apply Array.ext_getElem?
 intro i
 by_cases hi:i<cs.size
 · rw [markA_get hi];by_cases hp:i=p
   · subst hp;rw [Array.getElem?_setIfInBounds_self_of_lt (by rw [markA_size];exact hi),if_pos (by omega)]
   · rw [Array.getElem?_setIfInBounds_ne (by omega),markA_get hi];by_cases h1:i<p
     · rw [if_pos h1,if_pos (by omega)]
     · rw [if_neg h1,if_neg (by omega)]
 · rw [Array.getElem?_eq_none (by simp [markA_size];omega),Array.getElem?_eq_none (by rw [markA_size];omega)]
def mkI (K:Int) (i:Nat):Value:=.int .i64 (K+i)
def mkT (K:Int) (i:Nat):Value:=if i % 9=8 then .int .i64 (K+i) else .int .u8 ((K+i) % 256)
theorem markInt64S_c {w : World} {g n : Nat} {t : TypeId} {cs : Array Value} {a : Option Addr} {K : Int} (c : Nat) (h : Own w g t cs) (hs : n ≤ cs.size) (ha : 0 < n → a = some ⟨g, 0, none⟩) (hn : n ≤ 1048576) (hK : 0 ≤ K) (hK2 : K ≤ 100000000) :
    Calls Try.prog 47 #[.slice a n c,.int .i64 K] w fun e w'=>e=.returned (.int .i64 (K+n))∧Own w' g t (markA (mkI K) cs n)∧Only g w w':=by
 go_enter Try.func47,Try.ntmps47
 go_wp2
 go_loopw [5,1] (fun i v wr=>∃k:Nat,k≤n∧i=.int .i64 k∧v=.int .i64 (K+k)∧Own wr g t (markA (mkI K) cs k)∧Only g w wr) (fun i _ _=>n - (intOf i).toNat)
 case atStart=>exact ⟨0,Nat.zero_le _,rfl,by simp,by rw [markA_zero];exact h,Only.refl _ _⟩
 case round=>
  obtain ⟨k,hk,rfl,rfl,o,ho⟩:=hrel;by_cases hlt:k<n
  · obtain rfl:=ha (by omega);have f0:=o.frozen k;obtain ⟨u,hu⟩:=o.has (i:=k) (by rw [markA_size];omega);have s1:IntKind.i64.wrap (K+(k:Int)+1)=K+(k:Int)+1:=IntWalk.i64_in _ (by omega)
    go_wp2
    go_roundw
    case rel=>exact ⟨k+1,by omega,by go_num,by congr 1;omega,by have:=o.set k (mkI K k);rw [markA_step] at this;exact this,ho.set k _⟩
    case measure=>simp [intOf] <;> omega
  · have he:k=n:=(by omega);subst he
    go_wp2
    go_ret
    exact ⟨rfl,o,ho⟩
theorem mkT_byte (K:Int) (k j:Nat) (hj:j<8):mkT K (k * 9+j)=.int .u8 ((K+(k * 9+j:Nat)) % 256):=by
 rw [mkT,if_neg (by omega)]
theorem mkT_last (K:Int) (k:Nat):mkT K (k * 9+8)=.int .i64 (K+(k * 9+8:Nat)):=by
 rw [mkT,if_pos (by omega)]
theorem markTermS_c {w : World} {g n : Nat} {t : TypeId} {cs : Array Value} {a : Option Addr} {K : Int} (c : Nat) (h : Own w g t cs) (hs : n * 9 ≤ cs.size) (ha : 0 < n → a = some ⟨g, 0, none⟩) (hn : n ≤ 1048576) (hK : 0 ≤ K) (hK2 : K ≤ 100000000) :
    Calls Try.prog 82 #[.slice a n c,.int .i64 K] w fun e w'=>e=.returned (.int .i64 (K+(n * 9:Nat)))∧Own w' g t (markA (mkT K) cs (n * 9))∧Only g w w':=by
 go_enter Try.func82,Try.ntmps82
 go_wp2
 go_loopw [5,1] (fun i v wr=>∃k:Nat,k≤n∧i=.int .i64 k∧v=.int .i64 (K+(k * 9:Nat))∧Own wr g t (markA (mkT K) cs (k * 9))∧Only g w wr) (fun i _ _=>n - (intOf i).toNat)
 case atStart=>exact ⟨0,Nat.zero_le _,rfl,by simp,by rw [Nat.zero_mul,markA_zero];exact h,Only.refl _ _⟩
 case round=>
  obtain ⟨k,hk,rfl,rfl,o,ho⟩:=hrel;by_cases hlt:k<n
  · obtain rfl:=ha (by omega)
    go_wp2
    go_loopw [6,1] (fun i v wx=>∃j:Nat,j≤8∧i=.int .i64 j∧v=.int .i64 (K+(k * 9+j:Nat))∧Own wx g t (markA (mkT K) cs (k * 9+j))∧Only g w wx) (fun i _ _=>8 - (intOf i).toNat)
    case atStart=>exact ⟨0,Nat.zero_le _,rfl,by simp,by simpa using o,ho⟩
    case round=>
     clear o ho;obtain ⟨j,hj,rfl,rfl,o,ho⟩:=hrel;have HB:=Lib.hid (mkT_byte K k j);by_cases hl8:j<8
     · have f0:=o.frozen (k * 9+j);obtain ⟨u,hu⟩:=o.has (i:=k * 9+j) (by rw [markA_size];omega);have s1:IntKind.i64.wrap (K+(k * 9+j:Nat)+1)=K+(k * 9+j:Nat)+1:=IntWalk.i64_in _ (by omega);generalize hx:K+((k * 9+j:Nat):Int)=x at *
       go_wp2
       go_roundw
       case rel=>exact ⟨j+1,by omega,by go_num,by rw [←hx];congr 1;omega,by have:=o.set (k * 9+j) (mkT K (k * 9+j));rw [markA_step,HB.out hl8] at this;exact this,ho.set _ _⟩
       case measure=>simp [intOf] <;> omega
     · have he:j=8:=(by omega);subst he;clear HB;have HB:=Lib.hid (mkT_last K k);have f0:=o.frozen (k * 9+8);obtain ⟨u,hu⟩:=o.has (i:=k * 9+8) (by rw [markA_size];omega);have s1:IntKind.i64.wrap (K+(k * 9+8:Nat)+1)=K+(k * 9+8:Nat)+1:=IntWalk.i64_in _ (by omega);generalize hx:K+((k * 9+8:Nat):Int)=x at *
       go_wp2
       go_roundw
       case rel=>exact ⟨k+1,by omega,by go_num,by rw [←hx];congr 1;omega,by have:=o.set (k * 9+8) (mkT K (k * 9+8));rw [markA_step,HB.out,show k * 9+8+1=(k+1) * 9 by omega] at this;exact this,ho.set _ _⟩
       case measure=>simp [intOf] <;> omega
  · have he:k=n:=(by omega);subst he
    go_wp2
    go_ret
    exact ⟨rfl,o,ho⟩
end Go.Proofs.Ytndnkeijddagiaa
