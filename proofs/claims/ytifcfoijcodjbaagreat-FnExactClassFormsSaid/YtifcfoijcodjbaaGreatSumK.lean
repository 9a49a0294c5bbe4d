
import Derived.Test.YtifcfoijcodjbaaGreatMap
import Derived.Test.YtifcfoijcodjbaaGreatPart
import Derived.Test.YtifcfoijcodjbaaGreatHeld
import Derived.Test.YtifcfoijcodjbaaGreatAddS
import Derived.Test.YtifcfoijcodjbaaGreatAlg
import Derived.Test.YtifcfoijcodjbaaGreatSpan
namespace Go.Proofs.YtifcfoijcodjbaaGreat
set_option maxRecDepth 100000
open Go.RowKit Go.Deep
theorem isForm_f {zs:List Int} {ts:List Tm} (h:isForm zs ts=true):∀t∈ts,1≤t.f∧t.f≤10006:=by
 intro t ht
 simp only [isForm,Bool.and_eq_true] at h
 have:=listOk_all h.2.1 t ht
 simp only [okTm,Bool.and_eq_true,decide_eq_true_eq] at this
 exact this.2
theorem isForm_400 {zs:List Int} {ts:List Tm} (h:isForm zs ts=true):ts.length≤400:=by
 simp only [isForm,Bool.and_eq_true,decide_eq_true_eq] at h
 omega
structure Only (g:Nat) (w w':World):Prop where
 below:∀B,B≤g→Below B w w'
 size:w'.heap.size=w.heap.size
 other:∀b,b≠g→w'.heap[b]? = w.heap[b]?
theorem Only.refl (g:Nat) (w:World):Only g w w:=⟨fun B _=>Below.refl B w,rfl,fun _ _=>rfl⟩
theorem Only.set {g:Nat} {w w':World} (h:Only g w w') (i:Nat) (v:Value):Only g w (w'.setCell ⟨g,i,none⟩ v):=
 ⟨fun B hB=>(h.below B hB).setCell (p:=⟨g,i,none⟩) hB v,by rw [←h.size];simp,fun b hb=>(Below.heap_setCell w' ⟨g,i,none⟩ v b hb).trans (h.other b hb)⟩
theorem Only.own {g g':Nat} {w w':World} {t:TypeId} {cs:Array Value} (h:Only g w w') (o:Own w g' t cs) (hg:g'≠g):Own w' g' t cs:=(h.other g' hg).trans o
def markA (mk:Nat→Value) (cs:Array Value) (p:Nat):Array Value:=(Array.range cs.size).map fun i=>if i<p then mk i else cs.getD i undef
theorem markA_size (mk:Nat→Value) (cs:Array Value) (p:Nat):(markA mk cs p).size=cs.size:=by simp [markA]
theorem markA_get {mk:Nat→Value} {cs:Array Value} {p i:Nat} (hi:i<cs.size):(markA mk cs p)[i]? = some (if i<p then mk i else cs.getD i undef):=by
 simp [markA,hi]
theorem markA_zero (mk:Nat→Value) (cs:Array Value):markA mk cs 0=cs:=by
 apply Array.ext_getElem?
 intro i
 by_cases hi:i<cs.size
 · rw [markA_get hi];simp [hi]
 · rw [Array.getElem?_eq_none (by rw [markA_size];omega),Array.getElem?_eq_none (by omega)]
theorem markA_step (mk:Nat→Value) (cs:Array Value) (p:Nat):(markA mk cs p).setIfInBounds p (mk p)=markA mk cs (p+1):=by
 apply Array.ext_getElem?
 intro i
 by_cases hi:i<cs.size
 · rw [markA_get hi];by_cases hp:i=p
   · subst hp;rw [Array.getElem?_setIfInBounds_self_of_lt (by rw [markA_size];exact hi),if_pos (by omega)]
   · rw [Array.getElem?_setIfInBounds_ne (by omega),markA_get hi];by_cases h1:i<p
     · rw [if_pos h1,if_pos (by omega)]
     · rw [if_neg h1,if_neg (by omega)]
 · rw [Array.getElem?_eq_none (by simp [markA_size];omega),Array.getElem?_eq_none (by rw [markA_size];omega)]
def mkI (K:Int) (i:Nat):Value:=.int .i64 (K+i)
def mkT (K:Int) (i:Nat):Value:=if i % 9=8 then .int .i64 (K+i) else .int .u8 ((K+i) % 256)
theorem markInt64S_c {w : World} {g n : Nat} {t : TypeId} {cs : Array Value} {a : Option Addr} {K : Int} (c : Nat) (h : Own w g t cs) (hs : n ≤ cs.size) (ha : 0 < n → a = some ⟨g, 0, none⟩) (hn : n ≤ 1048576) (hK : 0 ≤ K) (hK2 : K ≤ 100000000) :
    Calls Tryz.prog 23 #[.slice a n c,.int .i64 K] w fun e w'=>e=.returned (.int .i64 (K+n))∧Own w' g t (markA (mkI K) cs n)∧Only g w w':=by
 go_enter Tryz.func23,Tryz.ntmps23
 go_wp2
 go_loopw [5,1] (fun i v wr=>∃k:Nat,k≤n∧i=.int .i64 k∧v=.int .i64 (K+k)∧Own wr g t (markA (mkI K) cs k)∧Only g w wr) (fun i _ _=>n - (intOf i).toNat)
 case atStart=>exact ⟨0,Nat.zero_le _,rfl,by simp,by rw [markA_zero];exact h,Only.refl _ _⟩
 case round=>
  obtain ⟨k,hk,rfl,rfl,o,ho⟩:=hrel;by_cases hlt:k<n
  · obtain rfl:=ha (by omega);have f0:=o.frozen k;obtain ⟨u,hu⟩:=o.has (i:=k) (by rw [markA_size];omega);have s1:IntKind.i64.wrap (K+(k:Int)+1)=K+(k:Int)+1:=IntWalk.i64_in _ (by omega)
    go_wp2
    go_roundw
    case rel=>exact ⟨k+1,by omega,by go_num,by congr 1;omega,by have:=o.set k (mkI K k);rw [markA_step] at this;exact this,ho.set k _⟩
    case measure=>simp [intOf] <;> omega
  · have he:k=n:=(by omega);subst he
    go_wp2
    go_ret
    exact ⟨rfl,o,ho⟩
theorem mkT_byte (K:Int) (k j:Nat) (hj:j<8):mkT K (k * 9+j)=.int .u8 ((K+(k * 9+j:Nat)) % 256):=by
 rw [mkT,if_neg (by omega)]
theorem mkT_last (K:Int) (k:Nat):mkT K (k * 9+8)=.int .i64 (K+(k * 9+8:Nat)):=by
 rw [mkT,if_pos (by omega)]
theorem markTermS_c {w : World} {g n : Nat} {t : TypeId} {cs : Array Value} {a : Option Addr} {K : Int} (c : Nat) (h : Own w g t cs) (hs : n * 9 ≤ cs.size) (ha : 0 < n → a = some ⟨g, 0, none⟩) (hn : n ≤ 1048576) (hK : 0 ≤ K) (hK2 : K ≤ 100000000) :
    Calls Tryz.prog 65 #[.slice a n c,.int .i64 K] w fun e w'=>e=.returned (.int .i64 (K+(n * 9:Nat)))∧Own w' g t (markA (mkT K) cs (n * 9))∧Only g w w':=by
 go_enter Tryz.func65,Tryz.ntmps65
 go_wp2
 go_loopw [5,1] (fun i v wr=>∃k:Nat,k≤n∧i=.int .i64 k∧v=.int .i64 (K+(k * 9:Nat))∧Own wr g t (markA (mkT K) cs (k * 9))∧Only g w wr) (fun i _ _=>n - (intOf i).toNat)
 case atStart=>exact ⟨0,Nat.zero_le _,rfl,by simp,by rw [Nat.zero_mul,markA_zero];exact h,Only.refl _ _⟩
 case round=>
  obtain ⟨k,hk,rfl,rfl,o,ho⟩:=hrel;by_cases hlt:k<n
  · obtain rfl:=ha (by omega)
    go_wp2
    go_loopw [6,1] (fun i v wx=>∃j:Nat,j≤8∧i=.int .i64 j∧v=.int .i64 (K+(k * 9+j:Nat))∧Own wx g t (markA (mkT K) cs (k * 9+j))∧Only g w wx) (fun i _ _=>8 - (intOf i).toNat)
    case atStart=>exact ⟨0,Nat.zero_le _,rfl,by simp,by simpa using o,ho⟩
    case round=>
     clear o ho;obtain ⟨j,hj,rfl,rfl,o,ho⟩:=hrel;have HB:=Lib.hid (mkT_byte K k j);by_cases hl8:j<8
     · have f0:=o.frozen (k * 9+j);obtain ⟨u,hu⟩:=o.has (i:=k * 9+j) (by rw [markA_size];omega);have s1:IntKind.i64.wrap (K+(k * 9+j:Nat)+1)=K+(k * 9+j:Nat)+1:=IntWalk.i64_in _ (by omega);generalize hx:K+((k * 9+j:Nat):Int)=x at *
       go_wp2
       go_roundw
       case rel=>exact ⟨j+1,by omega,by go_num,by rw [←hx];congr 1;omega,by have:=o.set (k * 9+j) (mkT K (k * 9+j));rw [markA_step,HB.out hl8] at this;exact this,ho.set _ _⟩
       case measure=>simp [intOf] <;> omega
     · have he:j=8:=(by omega);subst he;clear HB;have HB:=Lib.hid (mkT_last K k);have f0:=o.frozen (k * 9+8);obtain ⟨u,hu⟩:=o.has (i:=k * 9+8) (by rw [markA_size];omega);have s1:IntKind.i64.wrap (K+(k * 9+8:Nat)+1)=K+(k * 9+8:Nat)+1:=IntWalk.i64_in _ (by omega);generalize hx:K+((k * 9+8:Nat):Int)=x at *
       go_wp2
       go_roundw
       case rel=>exact ⟨k+1,by omega,by go_num,by rw [←hx];congr 1;omega,by have:=o.set (k * 9+8) (mkT K (k * 9+8));rw [markA_step,HB.out,show k * 9+8+1=(k+1) * 9 by omega] at this;exact this,ho.set _ _⟩
       case measure=>simp [intOf] <;> omega
  · have he:k=n:=(by omega);subst he
    go_wp2
    go_ret
    exact ⟨rfl,o,ho⟩
theorem markForm_c {w : World} {g n : Nat} {t : TypeId} {cs : Array Value} {a : Option Addr} {K : Int} (c : Nat) (h : Own w g t cs) (hs : n * 9 ≤ cs.size) (ha : 0 < n → a = some ⟨g, 0, none⟩) (hn : n ≤ 1048576) (hK : 0 ≤ K) (hK2 : K ≤ 100000000) :
    Calls Tryz.prog 22 #[.agg #[.slice a n c],.int .i64 K] w fun e w'=>e=.returned (.int .i64 (K+(n * 9:Nat)))∧Own w' g t (markA (mkT K) cs (n * 9))∧Only g (w.alloc (.cells #[.slice a n c] 39)) w':=by
 go_enter Tryz.func22,Tryz.ntmps22
 go_wp2_with fail
 have o1:=h.alloc (.cells #[.slice a n c] 39)
 refine (markTermS_c c o1 hs ha hn hK hK2).mono ?_
 rintro e w1 ⟨rfl,o,ho⟩
 go_wp2_with fail
 go_ret
 exact ⟨rfl,o,ho⟩
theorem heldTermS_c {w : World} {g n : Nat} {t : TypeId} {cs : Array Value} {a : Option Addr} {K : Int} (c : Nat) (h : Own w g t (markA (mkT K) cs (n * 9))) (hs : n * 9 ≤ cs.size) (ha : 0 < n → a = some ⟨g, 0, none⟩) (hn : n ≤ 1048576) (hK : 0 ≤ K) (hK2 : K ≤ 100000000) :
    Calls Tryz.prog 69 #[.slice a n c,.int .i64 K] w fun e w'=>e=.returned (.int .i64 (K+(n * 9:Nat)))∧∃q,w'=w.drewN q:=by
 go_enter Tryz.func69,Tryz.ntmps69
 go_wp2
 go_loopw [5,1] (fun i v wr=>∃k q:Nat,k≤n∧i=.int .i64 k∧v=.int .i64 (K+(k * 9:Nat))∧wr=w.drewN q) (fun i _ _=>n - (intOf i).toNat)
 case atStart=>exact ⟨0,0,Nat.zero_le _,rfl,by simp,rfl⟩
 case round=>
  obtain ⟨k,q,hk,rfl,rfl,rfl⟩:=hrel;by_cases hlt:k<n
  · obtain rfl:=ha (by omega)
    go_wp2
    go_loopw [6,1] (fun i v wx=>∃j q:Nat,j≤8∧i=.int .i64 j∧v=.int .i64 (K+(k * 9+j:Nat))∧wx=w.drewN q) (fun i _ _=>8 - (intOf i).toNat)
    case atStart=>exact ⟨0,q,Nat.zero_le _,rfl,by simp,rfl⟩
    case round=>
     obtain ⟨j,q,hj,rfl,rfl,rfl⟩:=hrel;by_cases hl8:j<8
     · have c0:=h.cell (k * 9+j);rw [markA_get (by omega),if_pos (by omega),mkT_byte K k j hl8] at c0;have s1:IntKind.i64.wrap (K+(k * 9+j:Nat)+1)=K+(k * 9+j:Nat)+1:=IntWalk.i64_in _ (by omega);generalize hx:K+((k * 9+j:Nat):Int)=x at *;have hq:(x % 256 != x % 256)=false:=by simp
       go_wp2
       go_roundw
       case rel=>exact ⟨j+1,q,by omega,by go_num,by rw [←hx];congr 1;omega,rfl⟩
       case measure=>simp [intOf] <;> omega
     · have he:j=8:=(by omega);subst he;have c0:=h.cell (k * 9+8);rw [markA_get (by omega),if_pos (by omega),mkT_last K k] at c0;have s1:IntKind.i64.wrap (K+(k * 9+8:Nat)+1)=K+(k * 9+8:Nat)+1:=IntWalk.i64_in _ (by omega);generalize hx:K+((k * 9+8:Nat):Int)=x at *
       go_wp2
       go_roundw
       case rel=>exact ⟨k+1,q,by omega,by go_num,by rw [←hx];congr 1;omega,rfl⟩
       case measure=>simp [intOf] <;> omega
  · have he:k=n:=(by omega);subst he
    go_wp2
    go_ret
    exact ⟨rfl,q,rfl⟩
theorem heldForm_c {w : World} {g n : Nat} {t : TypeId} {cs : Array Value} {a : Option Addr} {K : Int} (c : Nat) (h : Own w g t (markA (mkT K) cs (n * 9))) (hs : n * 9 ≤ cs.size) (ha : 0 < n → a = some ⟨g, 0, none⟩) (hn : n ≤ 1048576) (hK : 0 ≤ K) (hK2 : K ≤ 100000000) :
    Calls Tryz.prog 27 #[.agg #[.slice a n c],.int .i64 K] w fun e w'=>e=.returned (.int .i64 (K+(n * 9:Nat)))∧Below w.heap.size w w':=by
 have hnn:¬(K+((n * 9:Nat):Int)<0):=by omega
 have hnp:(0:Int)≤K+((n * 9:Nat):Int):=by omega
 go_enter Tryz.func27,Tryz.ntmps27
 go_wp2_with fail
 have o1:=h.alloc (.cells #[.slice a n c] 39)
 refine (heldTermS_c c o1 hs ha hn hK hK2).mono ?_
 rintro e w1 ⟨rfl,q,rfl⟩
 go_wp2_with fail
 go_ret
 exact ⟨rfl,below_drewN (bA1 w _) q⟩
def OwnR (w:World) (base:Nat) (v:Value) (ts:List Tm):Prop:=w.ownsRow base 158 9 v ts.length (rcells ts)
theorem OwnForm.r {w:World} {B:Nat} {v:Value} {ts:List Tm} (h:OwnForm w B v ts):OwnR w B v ts:=h.1
theorem OwnR.keep {w w':World} {B:Nat} {v:Value} {ts:List Tm} (h:OwnR w B v ts) (hb:Below w.heap.size w w'):OwnR w' B v ts:=
 World.ownsRow.kept h (row:=none) ⟨hb.os,hb.tape,hb.output,hb.size,fun k hk _=>hb.block k hk⟩ (by cases h0:v.ownBlock <;> simp)
theorem OwnR.weaken {w:World} {B B':Nat} {v:Value} {ts:List Tm} (h:OwnR w B v ts) (hB:B'≤B):OwnR w B' v ts:=by
 obtain ⟨hl,h1⟩:=h
 refine ⟨hl,?_⟩
 rcases h1 with h0 | ⟨g,cap,cur,hv,hb,r⟩
 · exact Or.inl h0
 · exact Or.inr ⟨g,cap,cur,hv,by omega,r⟩
theorem OwnR.isSlice {w:World} {B:Nat} {v:Value} {ts:List Tm} (h:OwnR w B v ts):∃a n c,v=.slice a n c:=by
 rcases h.2 with ⟨h0,_⟩ | ⟨g,cap,cur,hv,_⟩
 · exact ⟨_,_,_,h0⟩
 · exact ⟨_,_,_,hv⟩
theorem OwnR.at_ {w:World} {B q:Nat} {v:Value} {ts:List Tm} (h:OwnR w B v ts) (e:v.ownBlock=some q):B≤q∧q<w.heap.size:=World.ownsRow.lt h q e
theorem OwnR.far {w:World} {B:Nat} {v:Value} {ts:List Tm} (h:OwnR w B v ts) {p:Addr} (hp:v.ownBlock≠some p.block) (u:Value):OwnR (w.setCell p u) B v ts:=by
 have hb:=(Below.refl p.block w).setCell (p:=p) (Nat.le_refl _) u
 exact World.ownsRow.kept h (row:=some p.block) ⟨hb.os,hb.tape,hb.output,hb.size,fun k _ hk=>Below.heap_setCell w p u k (fun e=>hk (by rw [e]))⟩ (Or.inr hp)
theorem OwnR.set {w:World} {B:Nat} {v:Value} {ts:List Tm} (h:OwnR w B v ts) {p:Addr} (hp:p.block<B) (u:Value):OwnR (w.setCell p u) B v ts:=
 h.far (fun e=>by have:=(h.at_ e).1;omega) u
theorem OwnR.only {g B:Nat} {w w':World} {v:Value} {ts:List Tm} (o:OwnR w B v ts) (h:Only g w w') (hg:v.ownBlock≠some g):OwnR w' B v ts:=by
 have hb:=h.below 0 (Nat.zero_le _)
 exact World.ownsRow.kept o (row:=some g) ⟨hb.os,hb.tape,hb.output,by rw [h.size];exact Nat.le_refl _,fun k _ hk=>h.other k (fun e=>hk (by rw [e]))⟩ (Or.inr hg)
theorem OwnR.terms {w:World} {B n:Nat} {v:Value} {ts:List Tm} (h:OwnR w B v ts) (hT:∀t∈ts,IsTm t) (hn:ts.length=n):∃a c,v=.slice a n c∧Terms w a n ts:=by
 subst hn
 have hc:=fun g=>World.ownsRow.cells (g:=g) h
 rcases h.2 with ⟨hv,h0⟩ | ⟨g,cap,cur,hv,hb,hg,hn,_,hs,_⟩
 · rw [h0,hv];exact ⟨none,0,rfl,h0,hT,fun hp=>absurd hp (by omega)⟩
 · refine ⟨some ⟨g,0,none⟩,cap,hv,rfl,hT,fun _=>⟨g,0,rfl,(Array.getElem?_eq_some_iff.1 hg).1,fun j u hu=>?_⟩⟩;have:=hc g (by rw [hv];rfl) j u hu
   rwa [Addr.add_mid] at this
theorem OwnR.read {w:World} {B n c:Nat} {a:Option Addr} {ts:List Tm} (h:OwnR w B (.slice a n c) ts) (hT:∀t∈ts,IsTm t):Terms w a n ts:=by
 obtain ⟨a',c',he,hx⟩:=h.terms hT rfl
 simp only [Value.slice.injEq] at he
 obtain ⟨rfl,rfl,rfl⟩:=he
 exact hx
theorem OwnR.block {w : World} {B n c gx : Nat} {a : Option Addr} {ts : List Tm} {tx : TypeId} {csx : Array Value} (h : OwnR w B (.slice a n c) ts) (hx : Own w gx tx csx) :
    ∃g t cs,Own w g t cs∧n * 9≤cs.size∧(0<n→a=some ⟨g,0,none⟩)∧(g=gx∨B≤g):=by
 rcases h.2 with ⟨hv,h0⟩ | ⟨g,cap,cur,hv,hb,hg,hn,_,hs,_⟩
 · simp only [Value.slice.injEq] at hv;exact ⟨gx,tx,csx,hx,by omega,fun hp=>absurd hp (by omega),Or.inl rfl⟩
 · simp only [Value.slice.injEq] at hv;obtain ⟨rfl,rfl,rfl⟩:=hv;refine ⟨g,_,cur,hg,?_,fun _=>rfl,Or.inr hb⟩;rw [hs];exact Nat.mul_le_mul_right 9 hn
section
variable {B:Nat} {a c d:World} {o:Obj} {t:TypeId} {cs:Array Value}
theorem below_pl (h:Below B a c) (k:Below c.heap.size c d) (hB:B≤c.heap.size):Below B a d:=bT' h k hB
theorem below_alw (h:Below B a c) (hB:B≤c.heap.size) (o:Obj):Below B a (c.alloc o):=bT' h (bA1 c o) hB
theorem below_ahw (w:World) (o:Obj):Below w.heap.size w (w.alloc o).drew:=(bA1 w o).drew
theorem below_al (h:Below B a c) (k:Below (c.alloc o).heap.size (c.alloc o) d) (hB:B≤c.heap.size):Below B a d:=
 bT' (below_alw h hB o) k (by rw [sAl];omega)
theorem below_ah (k:Below (a.alloc o).drew.heap.size (a.alloc o).drew d):Below a.heap.size a d:=
 bT' (below_ahw a o) k (Nat.le_trans (Nat.le_succ _) (Nat.le_of_eq (sAl a o).symm))
theorem own_al (k:Below (c.alloc (.cells cs t)).heap.size (c.alloc (.cells cs t)) d):Own d c.heap.size t cs:=(Own.new c t cs).keep k (Own.new c t cs).lt
theorem own_ah (k:Below (a.alloc (.cells cs t)).drew.heap.size (a.alloc (.cells cs t)).drew d):Own d a.heap.size t cs:=(Own.new a t cs).drew.keep k (Own.new a t cs).lt
end
open Go.RowKit Go.Deep Go.Maps
theorem isForm_fit {zs:List Int} {fs:List Tm} (h:isForm zs fs=true):∀t∈fs,monoOk zs t.m=true:=by
 intro t ht
 simp only [isForm,Bool.and_eq_true] at h
 have:=listOk_all h.2.1 t ht
 simp only [okTm,Bool.and_eq_true] at this
 exact this.1
def FormOf (w:World) (S:List Int→Int) (e:Ending) (w':World):Prop:=
 (∃v L,e=.returned (.tuple #[.agg #[v],.int .i64 0])∧OwnR w' w.heap.size v L∧Srt L∧(∀t∈L,IsTm t)∧(∀t∈L,1≤t.f∧t.f≤10006)∧(∀t∈L,within t.m=true)∧L.length≤400∧∀m,IsMono m→coef L m=S m) ∨
 (e=.returned (.tuple #[.agg #[.slice none 0 0],.int .i64 3])∧((∃m,IsMono m∧¬S m=0∧within m=false)∨∃K:List (List Int),K.Nodup∧400<K.length∧∀m∈K,IsMono m∧¬S m=0))
theorem mapM_all {α β:Type} {f:α→Option β}:∀{l:List α} {r:List β},l.mapM f=some r→∀a∈l,∃y,f a=some y
 | [],_,_,a,h=>by simp at h
 | x :: l, r, h, a, ha => by
   rw [List.mapM_cons] at h;simp only [Option.bind_eq_bind,Option.bind_eq_some_iff] at h;obtain ⟨y,hy,ys,hys,_⟩:=h;rw [List.mem_cons] at ha
   rcases ha with rfl | ha
   · exact ⟨y,hy⟩
   · exact mapM_all hys a ha
theorem keyLits_int_inv {P:Program} {t:TypeId} {q:IntKind} {d:Nat} {cs:List Value} {ls:List Lit} (ht:P.underlying t=some (.int q)) (h:P.keyLits (d+1) t cs=some ls):∃x:Int,cs=[.int q x]∧(Lit.int q x).wf=true:=by
 unfold Program.keyLits at h
 rw [ht] at h
 cases cs with
 | nil=>simp at h
 | cons v vs =>
   cases vs with
   | cons u us=>simp at h
   | nil =>
     cases v <;> simp at h
     rename_i q' x;obtain ⟨⟨rfl,hw⟩,_⟩:=h;exact ⟨x,rfl,hw⟩
theorem keyLits_array_inv {P:Program} {t e:TypeId} {n d:Nat} {cs:List Value} {ls:List Lit} (ht:P.underlying t=some (.array n e)) (h:P.keyLits (d+1) t cs=some ls):cs.length=P.cellsOf t∧∃r,((List.range n).mapM fun i=>P.keyLits d e ((cs.drop (i * P.cellsOf e)).take (P.cellsOf e)))=some r:=by
 unfold Program.keyLits at h
 rw [ht] at h
 simp only at h
 split at h
 · rename_i hl;rw [Option.map_eq_some_iff] at h;obtain ⟨r,hr,_⟩:=h;exact ⟨hl,r,hr⟩
 · cases h
theorem keyOf_array_inv {P:Program} {k e:TypeId} {n:Nat} {v:Value} {l:Lit} (hk:P.underlying k=some (.array n e)) (h:keyOf P k v=some l):∃cs:Array Value,v=.agg cs∧∃ls,P.keyLits (P.types.size+1) k cs.toList=some ls:=by
 unfold keyOf at h
 rw [hk] at h
 simp only at h
 split at h
 · rename_i hc;rw [Bool.and_eq_true] at hc;rw [Option.map_eq_some_iff] at h;obtain ⟨ls,hls,-⟩:=h
   have hag:∃cs:Array Value,v=.agg cs:=by
    have hf:=hc.2;cases v <;> simp [Value.formed,hk] at hf
    exact ⟨_,rfl⟩
   obtain ⟨cs,rfl⟩:=hag;exact ⟨cs,rfl,ls,by simpa [Value.cells] using hls⟩
 · cases h
theorem u8_of_wf {x:Int} (h:(Lit.int .u8 x).wf=true):0≤x∧x≤255:=by
 simp only [Lit.wf,Bool.and_eq_true,decide_eq_true_eq] at h
 exact h
theorem keyOf_M_inv {key:Value} {kl:Lit} (h:keyOf Tryz.prog 156 key=some kl):∃m,IsMono m∧key=.agg (mcells m).toArray∧kl=kM m:=by
 obtain ⟨cs,rfl,ls,hls⟩:=keyOf_array_inv Tryz.underlying156 h
 obtain ⟨f,hsz⟩:∃f,Tryz.prog.types.size=f+1:=⟨Tryz.prog.types.size - 1,by have:0 < Tryz.prog.types.size:=of_decide_eq_true (by kernel_rfl);omega⟩
 rw [hsz] at hls
 obtain ⟨hlen,r,hr⟩:=keyLits_array_inv Tryz.underlying156 hls
 rw [Tryz.cellsM] at hlen
 rw [Tryz.cellsU8] at hr
 have hall:=mapM_all hr
 obtain ⟨g,hg⟩:=choose_lt (α:=Int) (n:=8) (p:=fun i x=>cs.toList[i]? = some (Value.int .u8 x)∧0≤x∧x≤255) (fun i hi=>by
  obtain ⟨y,hy⟩:=hall i (List.mem_range.2 hi);obtain ⟨x,hx,hx2⟩:=keyLits_int_inv Tryz.underlying5 hy;rw [Nat.mul_one,one_drop _ i (by omega)] at hx;simp only [List.cons.injEq,and_true] at hx
  exact ⟨x,by rw [List.getElem?_eq_getElem (by omega),hx],u8_of_wf hx2⟩)
 have hm:IsMono ((List.range 8).map g):=⟨by simp,fun x hx=>by
  simp only [List.mem_map,List.mem_range] at hx;obtain ⟨i,hi,rfl⟩:=hx
  exact (hg i hi).2⟩
 have e:cs=(mcells ((List.range 8).map g)).toArray:=by
  apply Array.ext_getElem?
  intro i;by_cases hi:i<8
  · rw [←Array.getElem?_toList,(hg i hi).1];simp [mcells,hi]
  · rw [←Array.getElem?_toList,List.getElem?_eq_none (by omega),Array.getElem?_eq_none (by simp [mcells];omega)]
 refine ⟨_,hm,by rw [e],?_⟩
 rw [e,keyOf_M hm] at h
 exact (Option.some.inj h).symm
structure Part (S:List Int→Int) (left:Lit→Bool) (os:List Tm):Prop where
 coef:∀m,IsMono m→coef os m=if left (kM m)=true then 0 else S m
 tm:∀t∈os,IsTm t
 val:∀t∈os,t.f=S t.m∧¬t.f=0
 win:∀t∈os,within t.m=true
 nd:(os.map (·.m)).Nodup
 len:os.length≤400
theorem coef_mem {ts:List Tm} {t:Tm} (h:t∈ts):∃u∈ts,u.m=t.m∧coef ts t.m=u.f:=by
 induction ts with
 | nil=>simp at h
 | cons x xs ih =>
   by_cases hx:x.m=t.m
   · exact ⟨x,by simp,hx,coef_hit hx⟩
   · rw [List.mem_cons] at h
     rcases h with rfl | h
     · exact absurd rfl hx
     · obtain ⟨u,hu,h1,h2⟩:=ih h;exact ⟨u,by simp [hu],h1,by rw [coef_miss hx,h2]⟩
theorem coef_append {os:List Tm} {t:Tm} {m:List Int}:coef (os++[t]) m=if (∃u∈os,u.m=m) then coef os m else coef [t] m:=by
 induction os with
 | nil=>simp
 | cons x xs ih =>
   by_cases hx:x.m=m
   · rw [List.cons_append,coef_hit hx,if_pos ⟨x,by simp,hx⟩,coef_hit hx]
   · rw [List.cons_append,coef_miss hx,ih,coef_miss hx];by_cases h:∃u∈xs,u.m=m
     · rw [if_pos h,if_pos (by obtain ⟨u,hu,e⟩:=h;exact ⟨u,by simp [hu],e⟩)]
     · rw [if_neg h, if_neg (fun ⟨u, hu, e⟩ => by
         rw [List.mem_cons] at hu
         rcases hu with rfl | hu
         · exact hx e
         · exact h ⟨u,hu,e⟩)]
theorem strike_self {left:Lit→Bool} {m:List Int} (hm:IsMono m):(left (kM m) && !(kM m).sameKey (kM m))=false:=by
 rw [WideAt.sameKey_self (Tryz.keyM.key (keyOf_M hm))];simp
theorem strike_other {left:Lit→Bool} {m k:List Int} (hm:IsMono m) (hk:IsMono k) (h:¬k=m):(left (kM k) && !(kM k).sameKey (kM m))=left (kM k):=by
 rw [sameKey_ne (fun e=>h (kM_inj hk hm e))];simp
theorem Part.fresh {S:List Int→Int} {left:Lit→Bool} {os:List Tm} {m:List Int} (h:Part S left os) (hm:IsMono m) (hl:left (kM m)=true):∀t∈os,¬t.m=m:=by
 intro t ht e
 have h1:=h.coef m hm
 rw [if_pos hl] at h1
 obtain ⟨u,hu,e1,e2⟩:=coef_mem ht
 rw [e] at e2
 rw [h1] at e2
 exact (h.val u hu).2 e2.symm
theorem Part.skip {S:List Int→Int} {left:Lit→Bool} {os:List Tm} {m:List Int} (h:Part S left os) (hm:IsMono m) (hl:left (kM m)=true) (h0:S m=0):Part S (fun z=>left z && !z.sameKey (kM m)) os:=
 ⟨fun k hk=>by
  by_cases e:k=m
  · subst e;rw [strike_self hm,h.coef k hk,if_pos hl,h0];rfl
  · rw [strike_other hm hk e];exact h.coef k hk,h.tm,h.val,h.win,h.nd,h.len⟩
theorem Part.put {S:List Int→Int} {left:Lit→Bool} {os:List Tm} {m:List Int} (h:Part S left os) (hm:IsMono m) (hl:left (kM m)=true) (h0:¬S m=0) (hS:0≤S m∧S m≤10006) (hw:within m=true) (hlen:os.length<400):Part S (fun z=>left z && !z.sameKey (kM m)) (os++[⟨m,S m⟩]):=by
 have hf:=h.fresh hm hl
 refine ⟨fun k hk=>?_,?_,?_,?_,?_,by simp;omega⟩
 · rw [coef_append];by_cases e:k=m
   · subst e;rw [strike_self hm,if_neg (fun ⟨u,hu,e⟩=>hf u hu e)];exact coef_hit rfl
   · rw [strike_other hm hk e,←h.coef k hk];split
     · rfl
     · rename_i hno;rw [coef_miss (t:=⟨m,S m⟩) (fun e2=>e e2.symm),coef_none (fun t ht e2=>hno ⟨t,ht,e2⟩)];rfl
 · intro t ht;rw [List.mem_append,List.mem_singleton] at ht
   rcases ht with ht | rfl
   · exact h.tm t ht
   · exact ⟨hm,by dsimp only;omega,by dsimp only;omega⟩
 · intro t ht;rw [List.mem_append,List.mem_singleton] at ht
   rcases ht with ht | rfl
   · exact h.val t ht
   · exact ⟨rfl,h0⟩
 · intro t ht;rw [List.mem_append,List.mem_singleton] at ht
   rcases ht with ht | rfl
   · exact h.win t ht
   · exact hw
 · rw [List.map_append,List.nodup_append];refine ⟨h.nd,by simp,fun a ha b hb=>?_⟩;simp only [List.mem_map,List.mem_singleton,List.map_cons,List.map_nil] at ha hb;obtain ⟨t,ht,rfl⟩:=ha;rw [hb];exact hf t ht
theorem coef_perm {xs ys:List Tm} (h:xs.Perm ys) (hn:(ys.map (·.m)).Nodup) (m:List Int):coef xs m=coef ys m:=by
 have hn2:(xs.map (·.m)).Nodup:=(h.map _).nodup_iff.2 hn
 have key:∀zs:List Tm,(zs.map (·.m)).Nodup→∀t∈zs,coef zs t.m=t.f:=by
  intro zs hz t ht
  induction zs with
  | nil=>simp at ht
  | cons x zs ih =>
    simp only [List.map_cons,List.nodup_cons] at hz;rw [List.mem_cons] at ht
    rcases ht with rfl | ht
    · exact coef_hit rfl
    · rw [coef_miss (fun e=>hz.1 (by rw [e];exact List.mem_map.2 ⟨t,ht,rfl⟩))];exact ih hz.2 ht
 by_cases hm:∃t∈ys,t.m=m
 · obtain ⟨t,ht,rfl⟩:=hm;rw [key ys hn t ht,key xs hn2 t (h.mem_iff.2 ht)]
 · rw [coef_none (fun t ht e=>hm ⟨t,ht,e⟩),coef_none (fun t ht e=>hm ⟨t,h.mem_iff.1 ht,e⟩)]
theorem srt_of {ts os:List Tm} (h:ts.Pairwise fun s t=>before t.m s.m=false) (hp:ts.Perm os) (hn:(os.map (·.m)).Nodup) (hT:∀t∈ts,IsTm t):Srt ts:=by
 have hn2:(ts.map (·.m)).Nodup:=(hp.map _).nodup_iff.2 hn
 rw [Srt,List.pairwise_iff_getElem]
 rw [List.pairwise_iff_getElem] at h
 rw [List.Nodup,List.pairwise_iff_getElem] at hn2
 intro i j hi hj hij
 have h1:=h i j hi hj hij
 have h2:=hn2 i j (by simpa using hi) (by simpa using hj) hij
 simp only [List.getElem_map] at h2
 cases hb:before ts[i].m ts[j].m with
 | true=>rfl
 | false=>exact absurd (before_tri (by rw [(hT _ (List.getElem_mem hi)).1.1,(hT _ (List.getElem_mem hj)).1.1]) hb h1) h2
theorem withinP8 {w : World} {p0 p1 p2 p3 p4 p5 p6 p7 : Int} {v : Bool} (hm : IsMono [p0, p1, p2, p3, p4, p5, p6, p7]) (hv : within [p0, p1, p2, p3, p4, p5, p6, p7] = v) :
    Calls Tryz.prog 214 #[.agg #[.int .u8 p0,.int .u8 p1,.int .u8 p2,.int .u8 p3,.int .u8 p4,.int .u8 p5,.int .u8 p6,.int .u8 p7]] w fun e w'=>e=.returned (.bool v)∧Below w.heap.size w w':=by
 have:=withinPowers_c (w:=w) hm
 rw [hv] at this
 exact this
theorem ranges_keep {w w':World} {b r n cnt:Nat} {D:DataW Unit} {left:Lit→Bool} (h:w.ranges Tryz.prog 156 (plainElem Tryz.prog 2) b r n D left cnt) (hb:Below w.heap.size w w'):w'.ranges Tryz.prog 156 (plainElem Tryz.prog 2) b r n D left cnt:=
 h.kept (row:=none) ⟨hb.os,hb.tape,hb.output,hb.size,fun k hk _=>hb.block k hk⟩ (by simp) (by simp)
theorem OwnForm.grownR {w w':World} {B r:Nat} {v:Value} {ts:List Tm} (h:OwnForm w B v ts) (hg:w.grownBy w' (some r)) (hr:r<B):OwnForm w' B v ts:=
 ⟨World.ownsRow.kept h.1 hg (Or.inr (fun e=>by have:=(World.ownsRow.lt h.1 _ e).1;omega)),h.2⟩
end Go.Proofs.YtifcfoijcodjbaaGreat
