
import Derived.Test.YtdppjlndcacfnaaGreatDegForm
import Derived.Deep.DeepAppendWide
import Derived.Test.YtdppjlndcacfnaaGreatForm
namespace Go.Proofs.YtdppjlndcacfnaaGreat
set_option maxRecDepth 100000
open Go.RowKit Go.Deep
def OwnForm (w:World) (base:Nat) (v:Value) (ts:List Tm):Prop:=w.ownsRow base 94 9 v ts.length (rcells ts)∧(v=.slice none 0 0↔ts.length=0)
theorem grown_below {B:Nat} {a w w':World} {row:Option Nat} (h:Below B a w) (hg:w.grownBy w' row) (hr:∀k,row=some k→B≤k) (hB:B≤w.heap.size):Below B a w':=
 h.trans ⟨hg.os,hg.tape,hg.output,hg.size,fun k hk=>hg.block k (by omega) (fun e=>by have:=hr k e.symm;omega)⟩
theorem Tryz.info_termA:∃i z,Tryz.prog.info? 94=some i∧i.zero=some z∧i.size=9∧i.bytes=16∧z.cells.size=9:=by
 obtain ⟨i,hi,hzz⟩:=Option.map_eq_some_iff.1 Tryz.info_term3
 simp only [Prod.mk.injEq] at hzz
 obtain ⟨hz,hs,hb⟩:=hzz
 exact ⟨i,_,hi,hz,hs,hb,rfl⟩
theorem OwnForm.set {w:World} {base:Nat} {v:Value} {ts:List Tm} (h:OwnForm w base v ts) {p:Addr} (hp:p.block<base) (u:Value):OwnForm (w.setCell p u) base v ts:=by
 have hb:=(Below.refl p.block w).setCell (p:=p) (Nat.le_refl _) u
 exact ⟨h.1.kept (row:=some p.block) ⟨hb.os,hb.tape,hb.output,hb.size,fun k _ hk=>Below.heap_setCell w p u k (fun e=>hk (by rw [e]))⟩ (Or.inr (fun e=>by have:=(h.1.lt _ e).1;omega)),h.2⟩
theorem OwnForm.weaken {w:World} {B B':Nat} {v:Value} {ts:List Tm} (h:OwnForm w B v ts) (hB:B'≤B):OwnForm w B' v ts:=by
 obtain ⟨⟨hl,h1⟩,h2⟩:=h
 refine ⟨⟨hl,?_⟩,h2⟩
 rcases h1 with h0 | ⟨g,cap,cur,hv,hb,r⟩
 · exact Or.inl h0
 · exact Or.inr ⟨g,cap,cur,hv,by omega,r⟩
theorem OwnForm.keep {w w':World} {B:Nat} {v:Value} {ts:List Tm} (h:OwnForm w B v ts) (hb:Below w.heap.size w w'):OwnForm w' B v ts:=
 ⟨h.1.kept (row:=none) ⟨hb.os,hb.tape,hb.output,hb.size,fun k hk _=>hb.block k hk⟩ (by cases h0:v.ownBlock <;> simp),h.2⟩
theorem OwnForm.isSlice {w:World} {B:Nat} {v:Value} {ts:List Tm} (h:OwnForm w B v ts):∃a n c,v=.slice a n c:=by
 rcases h.1.2 with ⟨h0,_⟩ | ⟨g,cap,cur,hv,_⟩
 · exact ⟨_,_,_,h0⟩
 · exact ⟨_,_,_,hv⟩
theorem OwnForm.of {w:World} {B:Nat} {v:Value} {n:Nat} {ts:List Tm} {xs:List Value} (h:w.ownsRow B 94 9 v n xs) (hn:ts.length=n) (hx:rcells ts=xs) (hv:v=.slice none 0 0↔n=0):OwnForm w B v ts:=by
 subst hn
 subst hx
 exact ⟨h,hv⟩
structure Only (g:Nat) (w w':World):Prop where
 below:∀B,B≤g→Below B w w'
 size:w'.heap.size=w.heap.size
 other:∀b,b≠g→w'.heap[b]? = w.heap[b]?
theorem Only.refl (g:Nat) (w:World):Only g w w:=⟨fun B _=>Below.refl B w,rfl,fun _ _=>rfl⟩
theorem Only.set {g:Nat} {w w':World} (h:Only g w w') (i:Nat) (v:Value):Only g w (w'.setCell ⟨g,i,none⟩ v):=
 ⟨fun B hB=>(h.below B hB).setCell (p:=⟨g,i,none⟩) hB v,by rw [←h.size];simp,fun b hb=>(Below.heap_setCell w' ⟨g,i,none⟩ v b hb).trans (h.other b hb)⟩
theorem Only.own {g g':Nat} {w w':World} {t:TypeId} {cs:Array Value} (h:Only g w w') (o:Own w g' t cs) (hg:g'≠g):Own w' g' t cs:=(h.other g' hg).trans o
def markA (mk:Nat→Value) (cs:Array Value) (p:Nat):Array Value:=(Array.range cs.size).map fun i=>if i<p then mk i else cs.getD i undef
theorem markA_size (mk:Nat→Value) (cs:Array Value) (p:Nat):(markA mk cs p).size=cs.size:=by simp [markA]
theorem markA_get {mk:Nat→Value} {cs:Array Value} {p i:Nat} (hi:i<cs.size):(markA mk cs p)[i]? = some (if i<p then mk i else cs.getD i undef):=by
 simp [markA,hi]
theorem markA_zero (mk:Nat→Value) (cs:Array Value):markA mk cs 0=cs:=by
 apply Array.ext_getElem?
 intro i
 by_cases hi:i<cs.size
 · rw [markA_get hi];simp [hi]
 · rw [Array.getElem?_eq_none (by rw [markA_size];omega),Array.getElem?_eq_none (by omega)]
theorem markA_step (mk:Nat→Value) (cs:Array Value) (p:Nat):(markA mk cs p).setIfInBounds p (mk p)=markA mk cs (p+1):=by
 apply Array.ext_getElem?
 intro i
 by_cases hi:i<cs.size
 · rw [markA_get hi];by_cases hp:i=p
   · subst hp;rw [Array.getElem?_setIfInBounds_self_of_lt (by rw [markA_size];exact hi),if_pos (by omega)]
   · rw [Array.getElem?_setIfInBounds_ne (by omega),markA_get hi];by_cases h1:i<p
     · rw [if_pos h1,if_pos (by omega)]
     · rw [if_neg h1,if_neg (by omega)]
 · rw [Array.getElem?_eq_none (by simp [markA_size];omega),Array.getElem?_eq_none (by rw [markA_size];omega)]
def mkI (K:Int) (i:Nat):Value:=.int .i64 (K+i)
def mkT (K:Int) (i:Nat):Value:=if i % 9=8 then .int .i64 (K+i) else .int .u8 ((K+i) % 256)
theorem markInt64S_c {w : World} {g n : Nat} {t : TypeId} {cs : Array Value} {a : Option Addr} {K : Int} (c : Nat) (h : Own w g t cs) (hs : n ≤ cs.size) (ha : 0 < n → a = some ⟨g, 0, none⟩) (hn : n ≤ 1048576) (hK : 0 ≤ K) (hK2 : K ≤ 100000000) :
    Calls Tryz.prog 40 #[.slice a n c,.int .i64 K] w fun e w'=>e=.returned (.int .i64 (K+n))∧Own w' g t (markA (mkI K) cs n)∧Only g w w':=by
 go_enter Tryz.func40,Tryz.ntmps40
 go_wp2
 go_loopw [5,1] (fun i v wr=>∃k:Nat,k≤n∧i=.int .i64 k∧v=.int .i64 (K+k)∧Own wr g t (markA (mkI K) cs k)∧Only g w wr) (fun i _ _=>n - (intOf i).toNat)
 case atStart=>exact ⟨0,Nat.zero_le _,rfl,by simp,by rw [markA_zero];exact h,Only.refl _ _⟩
 case round=>
  obtain ⟨k,hk,rfl,rfl,o,ho⟩:=hrel;by_cases hlt:k<n
  · obtain rfl:=ha (by omega);have f0:=o.frozen k;obtain ⟨u,hu⟩:=o.has (i:=k) (by rw [markA_size];omega);have s1:IntKind.i64.wrap (K+(k:Int)+1)=K+(k:Int)+1:=IntWalk.i64_in _ (by omega)
    go_wp2
    go_roundw
    case rel=>exact ⟨k+1,by omega,by go_num,by congr 1;omega,by have:=o.set k (mkI K k);rw [markA_step] at this;exact this,ho.set k _⟩
    case measure=>simp [intOf] <;> omega
  · have he:k=n:=(by omega);subst he
    go_wp2
    go_ret
    exact ⟨rfl,o,ho⟩
theorem mkT_byte (K:Int) (k j:Nat) (hj:j<8):mkT K (k * 9+j)=.int .u8 ((K+(k * 9+j:Nat)) % 256):=by
 rw [mkT,if_neg (by omega)]
theorem mkT_last (K:Int) (k:Nat):mkT K (k * 9+8)=.int .i64 (K+(k * 9+8:Nat)):=by
 rw [mkT,if_pos (by omega)]
theorem markTermS_c {w : World} {g n : Nat} {t : TypeId} {cs : Array Value} {a : Option Addr} {K : Int} (c : Nat) (h : Own w g t cs) (hs : n * 9 ≤ cs.size) (ha : 0 < n → a = some ⟨g, 0, none⟩) (hn : n ≤ 1048576) (hK : 0 ≤ K) (hK2 : K ≤ 100000000) :
    Calls Tryz.prog 69 #[.slice a n c,.int .i64 K] w fun e w'=>e=.returned (.int .i64 (K+(n * 9:Nat)))∧Own w' g t (markA (mkT K) cs (n * 9))∧Only g w w':=by
 go_enter Tryz.func69,Tryz.ntmps69
 go_wp2
 go_loopw [5,1] (fun i v wr=>∃k:Nat,k≤n∧i=.int .i64 k∧v=.int .i64 (K+(k * 9:Nat))∧Own wr g t (markA (mkT K) cs (k * 9))∧Only g w wr) (fun i _ _=>n - (intOf i).toNat)
 case atStart=>exact ⟨0,Nat.zero_le _,rfl,by simp,by rw [Nat.zero_mul,markA_zero];exact h,Only.refl _ _⟩
 case round=>
  obtain ⟨k,hk,rfl,rfl,o,ho⟩:=hrel;by_cases hlt:k<n
  · obtain rfl:=ha (by omega)
    go_wp2
    go_loopw [6,1] (fun i v wx=>∃j:Nat,j≤8∧i=.int .i64 j∧v=.int .i64 (K+(k * 9+j:Nat))∧Own wx g t (markA (mkT K) cs (k * 9+j))∧Only g w wx) (fun i _ _=>8 - (intOf i).toNat)
    case atStart=>exact ⟨0,Nat.zero_le _,rfl,by simp,by simpa using o,ho⟩
    case round=>
     clear o ho;obtain ⟨j,hj,rfl,rfl,o,ho⟩:=hrel;have HB:=Lib.hid (mkT_byte K k j);by_cases hl8:j<8
     · have f0:=o.frozen (k * 9+j);obtain ⟨u,hu⟩:=o.has (i:=k * 9+j) (by rw [markA_size];omega);have s1:IntKind.i64.wrap (K+(k * 9+j:Nat)+1)=K+(k * 9+j:Nat)+1:=IntWalk.i64_in _ (by omega);generalize hx:K+((k * 9+j:Nat):Int)=x at *
       go_wp2
       go_roundw
       case rel=>exact ⟨j+1,by omega,by go_num,by rw [←hx];congr 1;omega,by have:=o.set (k * 9+j) (mkT K (k * 9+j));rw [markA_step,HB.out hl8] at this;exact this,ho.set _ _⟩
       case measure=>simp [intOf] <;> omega
     · have he:j=8:=(by omega);subst he;clear HB;have HB:=Lib.hid (mkT_last K k);have f0:=o.frozen (k * 9+8);obtain ⟨u,hu⟩:=o.has (i:=k * 9+8) (by rw [markA_size];omega);have s1:IntKind.i64.wrap (K+(k * 9+8:Nat)+1)=K+(k * 9+8:Nat)+1:=IntWalk.i64_in _ (by omega);generalize hx:K+((k * 9+8:Nat):Int)=x at *
       go_wp2
       go_roundw
       case rel=>exact ⟨k+1,by omega,by go_num,by rw [←hx];congr 1;omega,by have:=o.set (k * 9+8) (mkT K (k * 9+8));rw [markA_step,HB.out,show k * 9+8+1=(k+1) * 9 by omega] at this;exact this,ho.set _ _⟩
       case measure=>simp [intOf] <;> omega
  · have he:k=n:=(by omega);subst he
    go_wp2
    go_ret
    exact ⟨rfl,o,ho⟩
def OwnR (w:World) (base:Nat) (v:Value) (ts:List Tm):Prop:=w.ownsRow base 94 9 v ts.length (rcells ts)
theorem OwnForm.r {w:World} {B:Nat} {v:Value} {ts:List Tm} (h:OwnForm w B v ts):OwnR w B v ts:=h.1
theorem OwnR.keep {w w':World} {B:Nat} {v:Value} {ts:List Tm} (h:OwnR w B v ts) (hb:Below w.heap.size w w'):OwnR w' B v ts:=
 World.ownsRow.kept h (row:=none) ⟨hb.os,hb.tape,hb.output,hb.size,fun k hk _=>hb.block k hk⟩ (by cases h0:v.ownBlock <;> simp)
theorem OwnR.weaken {w:World} {B B':Nat} {v:Value} {ts:List Tm} (h:OwnR w B v ts) (hB:B'≤B):OwnR w B' v ts:=by
 obtain ⟨hl,h1⟩:=h
 refine ⟨hl,?_⟩
 rcases h1 with h0 | ⟨g,cap,cur,hv,hb,r⟩
 · exact Or.inl h0
 · exact Or.inr ⟨g,cap,cur,hv,by omega,r⟩
theorem OwnR.isSlice {w:World} {B:Nat} {v:Value} {ts:List Tm} (h:OwnR w B v ts):∃a n c,v=.slice a n c:=by
 rcases h.2 with ⟨h0,_⟩ | ⟨g,cap,cur,hv,_⟩
 · exact ⟨_,_,_,h0⟩
 · exact ⟨_,_,_,hv⟩
theorem OwnR.at_ {w:World} {B q:Nat} {v:Value} {ts:List Tm} (h:OwnR w B v ts) (e:v.ownBlock=some q):B≤q∧q<w.heap.size:=World.ownsRow.lt h q e
theorem OwnR.far {w:World} {B:Nat} {v:Value} {ts:List Tm} (h:OwnR w B v ts) {p:Addr} (hp:v.ownBlock≠some p.block) (u:Value):OwnR (w.setCell p u) B v ts:=by
 have hb:=(Below.refl p.block w).setCell (p:=p) (Nat.le_refl _) u
 exact World.ownsRow.kept h (row:=some p.block) ⟨hb.os,hb.tape,hb.output,hb.size,fun k _ hk=>Below.heap_setCell w p u k (fun e=>hk (by rw [e]))⟩ (Or.inr hp)
theorem OwnR.set {w:World} {B:Nat} {v:Value} {ts:List Tm} (h:OwnR w B v ts) {p:Addr} (hp:p.block<B) (u:Value):OwnR (w.setCell p u) B v ts:=
 h.far (fun e=>by have:=(h.at_ e).1;omega) u
theorem OwnR.terms {w:World} {B n:Nat} {v:Value} {ts:List Tm} (h:OwnR w B v ts) (hT:∀t∈ts,IsTm t) (hn:ts.length=n):∃a c,v=.slice a n c∧Terms w a n ts:=by
 subst hn
 have hc:=fun g=>World.ownsRow.cells (g:=g) h
 rcases h.2 with ⟨hv,h0⟩ | ⟨g,cap,cur,hv,hb,hg,hn,_,hs,_⟩
 · rw [h0,hv];exact ⟨none,0,rfl,h0,hT,fun hp=>absurd hp (by omega)⟩
 · refine ⟨some ⟨g,0,none⟩,cap,hv,rfl,hT,fun _=>⟨g,0,rfl,(Array.getElem?_eq_some_iff.1 hg).1,fun j u hu=>?_⟩⟩;have:=hc g (by rw [hv];rfl) j u hu
   rwa [Addr.add_mid] at this
theorem OwnR.read {w:World} {B n c:Nat} {a:Option Addr} {ts:List Tm} (h:OwnR w B (.slice a n c) ts) (hT:∀t∈ts,IsTm t):Terms w a n ts:=by
 obtain ⟨a',c',he,hx⟩:=h.terms hT rfl
 simp only [Value.slice.injEq] at he
 obtain ⟨rfl,rfl,rfl⟩:=he
 exact hx
theorem OwnR.block {w : World} {B n c gx : Nat} {a : Option Addr} {ts : List Tm} {tx : TypeId} {csx : Array Value} (h : OwnR w B (.slice a n c) ts) (hx : Own w gx tx csx) :
    ∃g t cs,Own w g t cs∧n * 9≤cs.size∧(0<n→a=some ⟨g,0,none⟩)∧(g=gx∨B≤g):=by
 rcases h.2 with ⟨hv,h0⟩ | ⟨g,cap,cur,hv,hb,hg,hn,_,hs,_⟩
 · simp only [Value.slice.injEq] at hv;exact ⟨gx,tx,csx,hx,by omega,fun hp=>absurd hp (by omega),Or.inl rfl⟩
 · simp only [Value.slice.injEq] at hv;obtain ⟨rfl,rfl,rfl⟩:=hv;refine ⟨g,_,cur,hg,?_,fun _=>rfl,Or.inr hb⟩;rw [hs];exact Nat.mul_le_mul_right 9 hn
section
variable {B:Nat} {a c d:World} {o:Obj} {t:TypeId} {cs:Array Value}
theorem below_pl (h:Below B a c) (k:Below c.heap.size c d) (hB:B≤c.heap.size):Below B a d:=bT' h k hB
theorem below_alw (h:Below B a c) (hB:B≤c.heap.size) (o:Obj):Below B a (c.alloc o):=bT' h (bA1 c o) hB
theorem below_ahw (w:World) (o:Obj):Below w.heap.size w (w.alloc o).drew:=(bA1 w o).drew
theorem below_al (h:Below B a c) (k:Below (c.alloc o).heap.size (c.alloc o) d) (hB:B≤c.heap.size):Below B a d:=
 bT' (below_alw h hB o) k (by rw [sAl];omega)
theorem below_ah (k:Below (a.alloc o).drew.heap.size (a.alloc o).drew d):Below a.heap.size a d:=
 bT' (below_ahw a o) k (Nat.le_trans (Nat.le_succ _) (Nat.le_of_eq (sAl a o).symm))
theorem own_al (k:Below (c.alloc (.cells cs t)).heap.size (c.alloc (.cells cs t)) d):Own d c.heap.size t cs:=(Own.new c t cs).keep k (Own.new c t cs).lt
theorem own_ah (k:Below (a.alloc (.cells cs t)).drew.heap.size (a.alloc (.cells cs t)).drew d):Own d a.heap.size t cs:=(Own.new a t cs).drew.keep k (Own.new a t cs).lt
end
end Go.Proofs.YtdppjlndcacfnaaGreat
