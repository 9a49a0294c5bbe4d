
import Derived.Test.YtndnkeijddagiaaAlgS
import Derived.Deep.DeepAppendWide
import Derived.Laws.AppendOwnNone
namespace Go.Proofs.Ytndnkeijddagiaa
set_option maxRecDepth 100000
open Go.RowKit Go.Deep
def markO (mk:Nat→Value) (cs:Array Value) (o p:Nat):Array Value:=(Array.range cs.size).map fun i=>if o≤i∧i<o+p then mk (i - o) else cs.getD i undef
theorem markO_size (mk:Nat→Value) (cs:Array Value) (o p:Nat):(markO mk cs o p).size=cs.size:=by simp [markO]
theorem markO_get {mk:Nat→Value} {cs:Array Value} {o p i:Nat} (hi:i<cs.size):(markO mk cs o p)[i]? = some (if o≤i∧i<o+p then mk (i - o) else cs.getD i undef):=by
 simp [markO,hi]
theorem markO_in {mk:Nat→Value} {cs:Array Value} {o p j:Nat} (hi:o+p≤cs.size) (hj:j<p):(markO mk cs o p)[o+j]? = some (mk j):=by
 rw [markO_get (by omega),if_pos (by omega),Nat.add_sub_cancel_left]
theorem markO_out {mk:Nat→Value} {cs:Array Value} {o p i:Nat} (h:i<o∨o+p≤i):(markO mk cs o p)[i]? = cs[i]? := by
 by_cases hi:i<cs.size
 · rw [markO_get hi,if_neg (by omega)];simp [hi]
 · rw [Array.getElem?_eq_none (by rw [markO_size];omega),Array.getElem?_eq_none (by omega)]
theorem markO_zero (mk:Nat→Value) (cs:Array Value) (o:Nat):markO mk cs o 0=cs:=by
 apply Array.ext_getElem?
 intro i
 exact markO_out (by omega)
theorem markO_step (mk:Nat→Value) (cs:Array Value) (o p:Nat):(markO mk cs o p).setIfInBounds (o+p) (mk p)=markO mk cs o (p+1):=by
 apply Array.ext_getElem?
 intro i
 by_cases hi:i<cs.size
 · rw [markO_get hi];by_cases hp:i=o+p
   · subst hp;rw [Array.getElem?_setIfInBounds_self_of_lt (by rw [markO_size];exact hi),if_pos (by omega),Nat.add_sub_cancel_left]
   · rw [Array.getElem?_setIfInBounds_ne (by omega),markO_get hi];by_cases h1:o≤i∧i<o+p
     · rw [if_pos h1,if_pos (by omega)]
     · rw [if_neg h1,if_neg (by omega)]
 · rw [Array.getElem?_eq_none (by simp [markO_size];omega),Array.getElem?_eq_none (by rw [markO_size];omega)]
theorem markTermSo_c {w : World} {g of n : Nat} {t : TypeId} {cs : Array Value} {K : Int} (c : Nat) (h : Own w g t cs) (hs : of + n * 9 ≤ cs.size) (hn : n ≤ 1048576) (hK : 0 ≤ K) (hK2 : K ≤ 100000000) :
    Calls Try.prog 82 #[.slice (some ⟨g,of,none⟩) n c,.int .i64 K] w fun e w'=>e=.returned (.int .i64 (K+(n * 9:Nat)))∧Own w' g t (markO (mkT K) cs of (n * 9))∧Only g w w':=by
 go_enter Try.func82,Try.ntmps82
 go_wp2
 go_loopw [5,1] (fun i v wr=>∃k:Nat,k≤n∧i=.int .i64 k∧v=.int .i64 (K+(k * 9:Nat))∧Own wr g t (markO (mkT K) cs of (k * 9))∧Only g w wr) (fun i _ _=>n - (intOf i).toNat)
 case atStart=>exact ⟨0,Nat.zero_le _,rfl,by simp,by rw [Nat.zero_mul,markO_zero];exact h,Only.refl _ _⟩
 case round=>
  obtain ⟨k,hk,rfl,rfl,o,ho⟩:=hrel;by_cases hlt:k<n
  · go_wp2
    go_loopw [6,1] (fun i v wx=>∃j:Nat,j≤8∧i=.int .i64 j∧v=.int .i64 (K+(k * 9+j:Nat))∧Own wx g t (markO (mkT K) cs of (k * 9+j))∧Only g w wx) (fun i _ _=>8 - (intOf i).toNat)
    case atStart=>exact ⟨0,Nat.zero_le _,rfl,by simp,by simpa using o,ho⟩
    case round=>
     clear o ho;obtain ⟨j,hj,rfl,rfl,o,ho⟩:=hrel;have HB:=Lib.hid (mkT_byte K k j);by_cases hl8:j<8
     · have f0:=o.frozen (of+k * 9+j);obtain ⟨u,hu⟩:=o.has (i:=of+k * 9+j) (by rw [markO_size];omega);have s1:IntKind.i64.wrap (K+(k * 9+j:Nat)+1)=K+(k * 9+j:Nat)+1:=IntWalk.i64_in _ (by omega);generalize hx:K+((k * 9+j:Nat):Int)=x at *
       go_wp2
       go_roundw
       case rel=>
        refine ⟨j+1,by omega,by go_num,by rw [←hx];congr 1;omega,?_,ho.set _ _⟩;have:=o.set (of+k * 9+j) (mkT K (k * 9+j));rw [show (markO (mkT K) cs of (k * 9+j)).setIfInBounds (of+k * 9+j) (mkT K (k * 9+j))=markO (mkT K) cs of (k * 9+j+1) by rw [Nat.add_assoc];exact markO_step _ _ _ _,HB.out hl8] at this;exact this
       case measure=>simp [intOf] <;> omega
     · have he:j=8:=(by omega);subst he;clear HB;have HB:=Lib.hid (mkT_last K k);have f0:=o.frozen (of+k * 9+8);obtain ⟨u,hu⟩:=o.has (i:=of+k * 9+8) (by rw [markO_size];omega);have s1:IntKind.i64.wrap (K+(k * 9+8:Nat)+1)=K+(k * 9+8:Nat)+1:=IntWalk.i64_in _ (by omega);generalize hx:K+((k * 9+8:Nat):Int)=x at *
       go_wp2
       go_roundw
       case rel=>
        refine ⟨k+1,by omega,by go_num,by rw [←hx];congr 1;omega,?_,ho.set _ _⟩;have:=o.set (of+k * 9+8) (mkT K (k * 9+8));rw [show (markO (mkT K) cs of (k * 9+8)).setIfInBounds (of+k * 9+8) (mkT K (k * 9+8))=markO (mkT K) cs of ((k+1) * 9) by rw [Nat.add_assoc,show (k+1) * 9=k * 9+8+1 by omega];exact markO_step _ _ _ _,HB.out] at this;exact this
       case measure=>simp [intOf] <;> omega
  · have he:k=n:=(by omega);subst he
    go_wp2
    go_ret
    exact ⟨rfl,o,ho⟩
theorem heldTermSo_c {w : World} {g of n : Nat} {K : Int} (c : Nat) (h : ∀ j, j < n * 9 → w.cell? ⟨g, of + j, none⟩ = some (mkT K j)) (hn : n ≤ 1048576) (hK : 0 ≤ K) (hK2 : K ≤ 100000000) :
    Calls Try.prog 88 #[.slice (some ⟨g,of,none⟩) n c,.int .i64 K] w fun e w'=>e=.returned (.int .i64 (K+(n * 9:Nat)))∧∃q,w'=w.drewN q:=by
 have HH:=Lib.hid h
 clear h
 go_enter Try.func88,Try.ntmps88
 go_wp2
 go_loopw [5,1] (fun i v wr=>∃k q:Nat,k≤n∧i=.int .i64 k∧v=.int .i64 (K+(k * 9:Nat))∧wr=w.drewN q) (fun i _ _=>n - (intOf i).toNat)
 case atStart=>exact ⟨0,0,Nat.zero_le _,rfl,by simp,rfl⟩
 case round=>
  obtain ⟨k,q,hk,rfl,rfl,rfl⟩:=hrel;by_cases hlt:k<n
  · go_wp2
    go_loopw [6,1] (fun i v wx=>∃j q:Nat,j≤8∧i=.int .i64 j∧v=.int .i64 (K+(k * 9+j:Nat))∧wx=w.drewN q) (fun i _ _=>8 - (intOf i).toNat)
    case atStart=>exact ⟨0,q,Nat.zero_le _,rfl,by simp,rfl⟩
    case round=>
     obtain ⟨j,q,hj,rfl,rfl,rfl⟩:=hrel;by_cases hl8:j<8
     · have c0:=HH.out (k * 9+j) (by omega);rw [mkT_byte K k j hl8,←Nat.add_assoc] at c0;have s1:IntKind.i64.wrap (K+(k * 9+j:Nat)+1)=K+(k * 9+j:Nat)+1:=IntWalk.i64_in _ (by omega);generalize hx:K+((k * 9+j:Nat):Int)=x at *;have hq:(x % 256 != x % 256)=false:=by simp
       go_wp2
       go_roundw
       case rel=>exact ⟨j+1,q,by omega,by go_num,by rw [←hx];congr 1;omega,rfl⟩
       case measure=>simp [intOf] <;> omega
     · have he:j=8:=(by omega);subst he;have c0:=HH.out (k * 9+8) (by omega);rw [mkT_last K k,←Nat.add_assoc] at c0;have s1:IntKind.i64.wrap (K+(k * 9+8:Nat)+1)=K+(k * 9+8:Nat)+1:=IntWalk.i64_in _ (by omega);generalize hx:K+((k * 9+8:Nat):Int)=x at *
       go_wp2
       go_roundw
       case rel=>exact ⟨k+1,q,by omega,by go_num,by rw [←hx];congr 1;omega,rfl⟩
       case measure=>simp [intOf] <;> omega
  · have he:k=n:=(by omega);subst he
    go_wp2
    go_ret
    exact ⟨rfl,q,rfl⟩
theorem markTermS0_c {w:World} (a:Option Addr) (c:Nat) (K:Int):Calls Try.prog 82 #[.slice a 0 c,.int .i64 K] w fun e w'=>e=.returned (.int .i64 K)∧Below w.heap.size w w':=by
 go_enter Try.func82,Try.ntmps82
 go_wp2
 go_loopw [5,1] (fun i v wr=>i=.int .i64 0∧v=.int .i64 K∧wr=w) (fun _ _ _=>0)
 case atStart=>exact ⟨rfl,rfl,rfl⟩
 case round=>
  obtain ⟨rfl,rfl,rfl⟩:=hrel
  go_wp2
  go_ret
  exact ⟨rfl,Below.refl _ _⟩
theorem heldTermS0_c {w:World} (a:Option Addr) (c:Nat) (K:Int):Calls Try.prog 88 #[.slice a 0 c,.int .i64 K] w fun e w'=>e=.returned (.int .i64 K)∧Below w.heap.size w w':=by
 go_enter Try.func88,Try.ntmps88
 go_wp2
 go_loopw [5,1] (fun i v wr=>i=.int .i64 0∧v=.int .i64 K∧wr=w) (fun _ _ _=>0)
 case atStart=>exact ⟨rfl,rfl,rfl⟩
 case round=>
  obtain ⟨rfl,rfl,rfl⟩:=hrel
  go_wp2
  go_ret
  exact ⟨rfl,Below.refl _ _⟩
structure Fw where
 a:Option Addr
 m:Nat
 c:Nat
 g:Nat
 o:Nat
def FwApart (r s:Fw):Prop:=r.g≠s.g∨r.o+r.m * 9≤s.o∨s.o+s.m * 9≤r.o
structure Fls (w:World) (g n:Nat) (R:List Fw):Prop where
 len:R.length=n
 own:∃os:Array Value,Own w g 47 os∧∀(i:Nat) r,R[i]? = some r→os[i]? = some (Value.slice r.a r.m r.c)
 each:∀(i:Nat) r,R[i]? = some r→0<r.m→r.a=some ⟨r.g,r.o,none⟩∧∃cs,Own w r.g 76 cs∧r.o+r.m * 9≤cs.size
 apart:∀(i j:Nat) r s,i<j→R[i]? = some r→R[j]? = some s→0<r.m→0<s.m→FwApart r s
theorem Fls.keep {w w':World} {g n:Nat} {R:List Fw} (h:Fls w g n R) (hb:Below w.heap.size w w'):Fls w' g n R:=
 ⟨h.len,by obtain ⟨os,h1,h2⟩:=h.own;exact ⟨os,h1.keep hb h1.lt,h2⟩,fun i r h1 h2=>by obtain ⟨h3,cs,h4,h5⟩:=h.each i r h1 h2;exact ⟨h3,cs,h4.keep hb h4.lt,h5⟩,h.apart⟩
theorem Fls.touch {p:Nat→Prop} {w w':World} {g n:Nat} {R:List Fw} (h:Fls w g n R) (ht:Touch p w w') (hg:¬p g) (hp:∀r∈R,0<r.m→¬p r.g):Fls w' g n R:=
 ⟨h.len,by obtain ⟨os,h1,h2⟩:=h.own;exact ⟨os,ht.own h1 hg,h2⟩,fun i r h1 h2=>by obtain ⟨h3,cs,h4,h5⟩:=h.each i r h1 h2;exact ⟨h3,cs,ht.own h4 (hp r (List.mem_of_getElem? h1) h2),h5⟩,h.apart⟩
theorem Fls.row {w:World} {g n:Nat} {R:List Fw} (h:Fls w g n R) {k:Nat} {r:Fw} (hr:R[k]? = some r):w.cell? ⟨g,k,none⟩=some (.slice r.a r.m r.c):=by
 obtain ⟨os,h1,h2⟩:=h.own
 rw [h1.cell k]
 exact h2 k r hr
def totF (R:List Fw):Nat:=(R.map Fw.m).sum
theorem totF_take {R:List Fw} {k:Nat} {r:Fw} (h:R[k]? = some r):totF (R.take (k+1))=totF (R.take k)+r.m:=by
 obtain ⟨hk,rfl⟩:=List.getElem?_eq_some_iff.1 h
 rw [totF,List.take_succ_eq_append_getElem hk,List.map_append,List.sum_append]
 simp [totF]
theorem totF_le (R:List Fw) (k:Nat):totF (R.take k)≤totF R:=by
 have h:totF R=totF (R.take k)+totF (R.drop k):=by
  rw [totF,totF,totF,←List.sum_append,←List.map_append,List.take_append_drop]
 omega
theorem totF_mem {R:List Fw} {k:Nat} {r:Fw} (h:R[k]? = some r):r.m≤totF R:=by
 have h1:=totF_take h
 have h2:=totF_le R (k+1)
 omega
def MarkF (w:World) (K:Int) (R:List Fw) (k:Nat):Prop:=∀(i:Nat) r,i<k→R[i]? = some r→∀j,j<r.m * 9→w.cell? ⟨r.g,r.o+j,none⟩=some (mkT (K+(totF (R.take i) * 9:Nat)) j)
theorem MarkF.zero {w:World} {K:Int} {R:List Fw}:MarkF w K R 0:=fun i r h=>absurd h (by omega)
theorem MarkF.keep {w w':World} {K:Int} {R:List Fw} {k g n:Nat} (h:MarkF w K R k) (hF:Fls w g n R) (hb:Below w.heap.size w w'):MarkF w' K R k:=fun i r hi hr j hj=>by
 obtain ⟨-,cs,h4,-⟩:=hF.each i r hr (by omega)
 exact (World.cell?_of_block (a:=⟨r.g,r.o+j,none⟩) (hb.block r.g h4.lt)).trans (h i r hi hr j hj)
theorem Fls.ne {w:World} {g n:Nat} {R:List Fw} (h:Fls w g n R) {k:Nat} {r:Fw} (hr:R[k]? = some r) (hp:0<r.m):g≠r.g:=fun e=>by
 obtain ⟨os,h1,-⟩:=h.own
 obtain ⟨-,cs,h4,-⟩:=h.each k r hr hp
 have hne:(47:TypeId)≠76:=by decide
 refine hne ?_
 have q:some (Obj.cells os 47 (0,0))=some (Obj.cells cs 76 (0,0)):=(show w.heap[g]? = _ from h1).symm.trans (show w.heap[g]? = _ by rw [e];exact h4)
 cases q
theorem Fls.marked {w w' : World} {g n k : Nat} {R : List Fw} {r : Fw} {mk : Nat → Value} {cs : Array Value} (h : Fls w g n R) (hr : R[k]? = some r) (hp : 0 < r.m)
    (hc:Own w r.g 76 cs) (ho:Only r.g w w') (hm:Own w' r.g 76 (markO mk cs r.o (r.m * 9))):Fls w' g n R:=by
 refine ⟨h.len,?_,fun i s hs hps=>?_,h.apart⟩
 · obtain ⟨os,h1,h2⟩:=h.own;exact ⟨os,ho.own h1 (h.ne hr hp),h2⟩
 · obtain ⟨h3,ds,h4,h5⟩:=h.each i s hs hps;refine ⟨h3,?_⟩;by_cases e:s.g=r.g
   · have he : ds = cs := by
       have q:some (Obj.cells ds 76 (0,0))=some (Obj.cells cs 76 (0,0)):=(show w.heap[r.g]? = _ by rw [←e];exact h4).symm.trans (show w.heap[r.g]? = _ from hc);cases q
       rfl
     exact ⟨_,by rw [e];exact hm,by rw [markO_size,←he];exact h5⟩
   · exact ⟨ds,ho.own h4 e,h5⟩
theorem MarkF.step {w w' : World} {g n k : Nat} {R : List Fw} {r : Fw} {K : Int} {cs : Array Value} (hM : MarkF w K R k) (h : Fls w g n R) (hr : R[k]? = some r) (hp : 0 < r.m)
    (hc:Own w r.g 76 cs) (hs:r.o+r.m * 9≤cs.size) (ho:Only r.g w w') (hm:Own w' r.g 76 (markO (mkT (K+(totF (R.take k) * 9:Nat))) cs r.o (r.m * 9))):MarkF w' K R (k+1):=by
 intro i s hi hs0 j hj
 by_cases hik:i=k
 · subst hik;rw [hr] at hs0
   injection hs0 with hs0
   subst hs0;rw [hm.cell,markO_in hs hj]
 · have h1:=hM i s (by omega) hs0 j hj;by_cases e:s.g=r.g
   · have h2:=h.apart i k s r (by omega) hs0 hr (by omega) hp
     have h3:r.o+r.m * 9≤s.o∨s.o+s.m * 9≤r.o:=by
      rcases h2 with h2 | h2 | h2
      · exact absurd e h2
      · exact Or.inr h2
      · exact Or.inl h2
     rw [e] at h1 ⊢;rw [hm.cell,markO_out (by omega),←hc.cell];exact h1
   · exact (World.cell?_of_block (a:=⟨s.g,s.o+j,none⟩) (ho.other s.g e)).trans h1
theorem MarkF.zero_step {w w':World} {g n k:Nat} {R:List Fw} {r:Fw} {K:Int} (hM:MarkF w K R k) (h:Fls w g n R) (hr:R[k]? = some r) (hz:r.m=0) (hb:Below w.heap.size w w'):MarkF w' K R (k+1):=by
 intro i s hi hs0 j hj
 by_cases hik:i=k
 · subst hik;rw [hr] at hs0
   injection hs0 with hs0
   subst hs0;omega
 · exact hM.keep h hb i s (by omega) hs0 j hj
set_option maxHeartbeats 1000000 in
theorem markFls_c {w : World} {g n : Nat} {R : List Fw} {K : Int} (c : Nat) (h : Fls w g n R) (hn : n ≤ 1048576) (hs : totF R ≤ 1048576) (hK : 0 ≤ K) (hK2 : K ≤ 10000000) :
    Calls Try.prog 38 #[.slice (some ⟨g,0,none⟩) n c,.int .i64 K] w fun e w'=>e=.returned (.int .i64 (K+(totF R * 9:Nat)))∧Fls w' g n R∧MarkF w' K R n∧Touch (fun k=>∃r∈R,0<r.m∧k=r.g) w w':=by
 have HR:=Lib.hid h.len
 have HTS:=Lib.hid hs
 clear hs
 go_enter Try.func38,Try.ntmps38
 go_wp2_with fail
 go_loopw [5,1] (fun i v wr=>∃k:Nat,k≤n∧i=.int .i64 k∧v=.int .i64 (K+(totF (R.take k) * 9:Nat))∧Fls wr g n R∧Hid (MarkF wr K R k)∧Touch (fun k=>∃r∈R,0<r.m∧k=r.g) w wr) (fun i _ _=>n - (intOf i).toNat)
 case atStart=>exact ⟨0,Nat.zero_le _,rfl,by simp [totF],h,MarkF.zero,Touch.refl _ _⟩
 case round=>
  clear h;obtain ⟨k,hk,rfl,rfl,hT,hM,hTo⟩:=hrel;by_cases hlt:k<n
  · obtain ⟨r,hr0⟩:∃r,R[k]? = some r:=⟨_,List.getElem?_eq_getElem (by have:=HR.out;omega)⟩;have hr:=Lib.hid hr0;have hc:=hT.row hr0;have hml:=totF_mem hr0;have HTK:=Lib.hid (totF_take hr0);have hst:totF (R.take k)≤1048576:=Nat.le_trans (totF_le R k) HTS.out;have hstw:totF (R.take (k+1))≤1048576:=Nat.le_trans (totF_le R (k+1)) HTS.out;have hts:=HTS.out;obtain ⟨T,hTe⟩:∃T,totF (R.take k)=T:=⟨_,rfl⟩;have HTe:=Lib.hid hTe;rw [hTe] at hst;rw [hTe];have hi0:(0:Int)≤(k:Int):=(by omega);have hin:(k:Int)<(n:Int):=(by omega);obtain ⟨ra,rm,rc,rg,ro⟩:=r;have hmr:rm≤1048576:=Nat.le_trans hml hts;have hc':wr.cell? ⟨g,k,none⟩=some (.slice ra rm rc):=hc;have HTK2:Hid (totF (R.take (k+1))=T+rm):=Lib.hid (by rw [HTK.out,HTe.out]);clear hc hml hTe hstw hts;by_cases hz:rm=0
    · subst hz;clear hr0;go_wp2_with fail
      refine (markTermS0_c ra rc _).mono ?_;rintro e w1 ⟨rfl,hb1⟩;go_wp2_with fail
      go_roundw
      case rel=>exact ⟨k+1,by omega,by go_num,by rw [HTK2.out];rfl,hT.keep hb1,hM.out.zero_step hT hr.out rfl hb1,hTo.trans (Touch.of_below hb1)⟩
      case measure=>simp [intOf] <;> omega
    · obtain ⟨h1,cs,h2,h3⟩:=hT.each k _ hr0 (by show 0<rm;omega);have h2':Own wr rg 76 cs:=h2;have h3':ro+rm * 9≤cs.size:=h3;have h1':ra=some ⟨rg,ro,none⟩:=h1;clear hr0 h1 h2 h3;subst h1';go_wp2_with fail
      refine (markTermSo_c rc h2' h3' hmr (by omega) (by omega)).mono ?_;rintro e w1 ⟨rfl,hMk,hOn⟩;have q1:=hT.marked hr.out (by show 0<rm;omega) h2' hOn hMk;have q2:=Lib.hid (hM.out.step hT hr.out (by show 0<rm;omega) h2' h3' hOn (by rw [HTe.out];exact hMk));clear hMk h2';go_wp2_with fail
      go_roundw
      case rel=>
       exact ⟨k+1,by omega,by go_num,by rw [HTK2.out];congr 1;omega,q1,q2,hTo.trans ((Touch.of_only hOn).mono (fun q hq=>⟨_,List.mem_of_getElem? hr.out,by show 0<rm;omega,hq⟩))⟩
      case measure=>simp [intOf] <;> omega
  · have he:k=n:=(by omega);subst he;go_wp2_with fail
    go_ret
    exact ⟨ret_i (by rw [List.take_of_length_le (Nat.le_of_eq HR.out)]),hT,hM.out,hTo⟩
set_option maxHeartbeats 1000000 in
theorem heldFls_c {w : World} {g n : Nat} {R : List Fw} {K : Int} (c : Nat) (h : Fls w g n R) (hM : MarkF w K R n) (hn : n ≤ 1048576) (hs : totF R ≤ 1048576) (hK : 0 ≤ K) (hK2 : K ≤ 10000000) :
    Calls Try.prog 39 #[.slice (some ⟨g,0,none⟩) n c,.int .i64 K] w fun e w'=>e=.returned (.int .i64 (K+(totF R * 9:Nat)))∧Below w.heap.size w w':=by
 have HR:=Lib.hid h.len
 have HTS:=Lib.hid hs
 have HH:=Lib.hid h
 have HM:=Lib.hid hM
 clear hs h hM
 go_enter Try.func39,Try.ntmps39
 go_wp2_with fail
 go_loopw [5,1] (fun i v wr=>∃k:Nat,k≤n∧i=.int .i64 k∧v=.int .i64 (K+(totF (R.take k) * 9:Nat))∧Below w.heap.size w wr) (fun i _ _=>n - (intOf i).toNat)
 case atStart=>exact ⟨0,Nat.zero_le _,rfl,by simp [totF],Below.refl _ _⟩
 case round=>
  obtain ⟨k,hk,rfl,rfl,hb⟩:=hrel;by_cases hlt:k<n
  · obtain ⟨r,hr0⟩:∃r,R[k]? = some r:=⟨_,List.getElem?_eq_getElem (by have:=HR.out;omega)⟩;have hT:=HH.out.keep hb;have hc:=hT.row hr0;have hml:=totF_mem hr0;have HTK:=Lib.hid (totF_take hr0);have hst:totF (R.take k)≤1048576:=Nat.le_trans (totF_le R k) HTS.out;have hts:=HTS.out;have HMK:=Lib.hid (HM.out.keep HH.out hb k r hlt hr0);obtain ⟨T,hTe⟩:∃T,totF (R.take k)=T:=⟨_,rfl⟩;have HTe:=Lib.hid hTe;rw [hTe] at hst;rw [hTe];have hi0:(0:Int)≤(k:Int):=(by omega);have hin:(k:Int)<(n:Int):=(by omega);obtain ⟨ra,rm,rc,rg,ro⟩:=r;have hmr:rm≤1048576:=Nat.le_trans hml hts;have hc':wr.cell? ⟨g,k,none⟩=some (.slice ra rm rc):=hc;have HTK2:Hid (totF (R.take (k+1))=T+rm):=Lib.hid (by rw [HTK.out,HTe.out]);clear hc hml hTe hts;by_cases hz:rm=0
    · subst hz;clear hr0 hT;have hkn:¬(K+((T * 9:Nat):Int)<0):=(by omega);go_wp2_with fail
      refine (heldTermS0_c ra rc _).mono ?_;rintro e w1 ⟨rfl,hb1⟩;go_wp2_with fail
      go_roundw
      case rel=>exact ⟨k+1,by omega,by go_num,by rw [HTK2.out];rfl,bT' hb hb1 hb.size⟩
      case measure=>simp [intOf] <;> omega
    · obtain ⟨h1,-⟩:=hT.each k _ hr0 (by show 0<rm;omega);have h1':ra=some ⟨rg,ro,none⟩:=h1
      have hmk:∀j,j<rm * 9→wr.cell? ⟨rg,ro+j,none⟩=some (mkT (K+((T * 9:Nat):Int)) j):=by
       have:=HMK.out;rw [HTe.out] at this;exact this
      clear hr0 h1 hT;subst h1';have hkn:¬(K+((T * 9:Nat):Int)+((rm * 9:Nat):Int)<0):=(by omega);have HK:=Lib.hid hmk;clear hmk;go_wp2_with fail
      refine (heldTermSo_c rc HK.out hmr (by omega) (by omega)).mono ?_;rintro e w1 ⟨rfl,q,rfl⟩;go_wp2_with fail
      go_roundw
      case rel=>exact ⟨k+1,by omega,by go_num,by rw [HTK2.out];congr 1;omega,below_drewN hb q⟩
      case measure=>simp [intOf] <;> omega
  · have he:k=n:=(by omega);subst he;go_wp2_with fail
    go_ret
    exact ⟨ret_i (by rw [List.take_of_length_le (Nat.le_of_eq HR.out)]),hb⟩
def OwnF (w:World) (lo hi:Nat) (a:Option Addr) (n:Nat) (V:List (List Tm)):Prop:=
 V.length=n∧(0<n→∃g R,a=some ⟨g,0,none⟩∧lo≤g∧g<hi∧Fls w g n R∧(∀r∈R,0<r.m→lo≤r.g∧r.g<hi)∧∀(i:Nat) r ts,R[i]? = some r→V[i]? = some ts→Terms w r.a r.m ts)
section
variable {w w':World} {lo hi n:Nat} {a:Option Addr} {V:List (List Tm)}
theorem OwnF.none_:OwnF w lo hi none 0 []:=⟨rfl,fun h=>absurd h (by omega)⟩
theorem OwnF.keep (h:OwnF w lo hi a n V) (hb:Below w.heap.size w w'):OwnF w' lo hi a n V:=
 ⟨h.1,fun hn=>by
  obtain ⟨g,R,h1,h2,h3,h4,h5,h7⟩:=h.2 hn
  exact ⟨g,R,h1,h2,h3,h4.keep hb,h5,fun i r ts hr hv=>(h7 i r ts hr hv).keep hb⟩⟩
theorem OwnF.weaken {lo' hi':Nat} (h:OwnF w lo hi a n V) (k1:lo'≤lo) (k2:hi≤hi'):OwnF w lo' hi' a n V:=
 ⟨h.1,fun hn=>by
  obtain ⟨g,R,h1,h2,h3,h4,h5,h6⟩:=h.2 hn
  exact ⟨g,R,h1,by omega,by omega,h4,fun r hr hm=>by have:=h5 r hr hm;omega,h6⟩⟩
theorem terms_touch {p:Nat→Prop} {b o m:Nat} {ts:List Tm} (h:Terms w (some ⟨b,o,none⟩) m ts) (ht:Touch p w w') (hp:¬p b):Terms w' (some ⟨b,o,none⟩) m ts:=
 ⟨h.1,h.2.1,fun hm=>by
  obtain ⟨b',o',e,hb,hc⟩:=h.2.2 hm
  injection e with e
  injection e with e1 e2
  subst e1 e2
  exact ⟨b,o,rfl,Nat.lt_of_lt_of_le hb ht.below.size,rgK hc (ht.other b hb hp)⟩⟩
theorem OwnF.touch {p:Nat→Prop} (h:OwnF w lo hi a n V) (ht:Touch p w w') (hp:∀g,lo≤g→g<hi→¬p g):OwnF w' lo hi a n V:=
 ⟨h.1,fun hn=>by
  obtain ⟨g,R,h1,h2,h3,h4,h5,h7⟩:=h.2 hn;refine ⟨g,R,h1,h2,h3,h4.touch ht (hp g h2 h3) (fun r hr hm=>hp r.g (h5 r hr hm).1 (h5 r hr hm).2),h5,fun i r ts hr hv=>?_⟩;have hI:=h7 i r ts hr hv;by_cases hm:0<r.m
  · obtain ⟨e2,-⟩:=h4.each i r hr hm;rw [e2] at hI ⊢;have hq:=h5 r (List.mem_of_getElem? hr) hm;exact terms_touch hI ht (hp r.g hq.1 hq.2)
  · exact ⟨hI.1,hI.2.1,fun hm'=>absurd hm' hm⟩⟩
theorem OwnF.at_ (h:OwnF w lo hi a n V) {g:Nat} {R:List Fw} (hF:Fls w g n R) {i:Nat} {ts:List Tm} (hi:V[i]? = some ts):∃r,R[i]? = some r:=by
 have h1:=(List.getElem?_eq_some_iff.1 hi).1
 have h2:=hF.len
 have h3:=h.1
 exact ⟨_,List.getElem?_eq_getElem (by omega)⟩
theorem OwnF.frms (h:OwnF w lo hi a n V) (hL:∀ts∈V,(ts.length:Int)≤1048576):Frms w a n V:=
 ⟨h.1,fun hn=>by
  obtain ⟨g,R,rfl,h2,h3,h4,h5,h7⟩:=h.2 hn;obtain ⟨os,ho,-⟩:=h4.own;refine ⟨g,0,rfl,ho.lt,fun i ts hi=>?_⟩;obtain ⟨r,hr⟩:=h.at_ h4 hi;have hT:=h7 i r ts hr hi;refine ⟨r.a,r.m,r.c,?_,hT,?_⟩
  · rw [Nat.zero_add];exact h4.row hr
  · have:=hL ts (List.mem_of_getElem? hi);have:=hT.len
    omega⟩
theorem totF_of {R:List Fw} (h:R.map Fw.m=V.map List.length):totF R=sumLen V:=by rw [totF,sumLen,h]
theorem OwnF.tot {g:Nat} {R:List Fw} (hV:V.length=n) (hF:Fls w g n R) (h7:∀(i:Nat) r ts,R[i]? = some r→V[i]? = some ts→Terms w r.a r.m ts):totF R=sumLen V:=by
 apply totF_of
 apply List.ext_getElem?
 intro i
 rw [List.getElem?_map,List.getElem?_map]
 have hl:=hF.len
 by_cases hi:i<n
 · have e1:R[i]? = some (R[i]'(by omega)):=List.getElem?_eq_getElem (by omega);have e2:V[i]? = some (V[i]'(by omega)):=List.getElem?_eq_getElem (by omega);rw [e1,e2];have:=(h7 i _ _ e1 e2).len;simp [this]
 · rw [List.getElem?_eq_none (by omega),List.getElem?_eq_none (by omega)];rfl
end
def MarkedF (w:World) (a:Option Addr) (n:Nat) (K:Int) (tot:Nat):Prop:=
 (n=0∧tot=0)∨∃g R,a=some ⟨g,0,none⟩∧Fls w g n R∧MarkF w K R n∧totF R=tot
theorem MarkedF.keep {w w':World} {a:Option Addr} {n:Nat} {K:Int} {tot:Nat} (h:MarkedF w a n K tot) (hb:Below w.heap.size w w'):MarkedF w' a n K tot:=by
 rcases h with h | ⟨g,R,h1,h2,h3,h4⟩
 · exact Or.inl h
 · exact Or.inr ⟨g,R,h1,h2.keep hb,h3.keep h2 hb,h4⟩
theorem markFls0_c {w:World} (a:Option Addr) (c:Nat) (K:Int):Calls Try.prog 38 #[.slice a 0 c,.int .i64 K] w fun e w'=>e=.returned (.int .i64 K)∧Below w.heap.size w w':=by
 go_enter Try.func38,Try.ntmps38
 go_wp2
 go_loopw [5,1] (fun i v wr=>i=.int .i64 0∧v=.int .i64 K∧wr=w) (fun _ _ _=>0)
 case atStart=>exact ⟨rfl,rfl,rfl⟩
 case round=>
  obtain ⟨rfl,rfl,rfl⟩:=hrel
  go_wp2
  go_ret
  exact ⟨rfl,Below.refl _ _⟩
theorem heldFls0_c {w:World} (a:Option Addr) (c:Nat) (K:Int):Calls Try.prog 39 #[.slice a 0 c,.int .i64 K] w fun e w'=>e=.returned (.int .i64 K)∧Below w.heap.size w w':=by
 go_enter Try.func39,Try.ntmps39
 go_wp2
 go_loopw [5,1] (fun i v wr=>i=.int .i64 0∧v=.int .i64 K∧wr=w) (fun _ _ _=>0)
 case atStart=>exact ⟨rfl,rfl,rfl⟩
 case round=>
  obtain ⟨rfl,rfl,rfl⟩:=hrel
  go_wp2
  go_ret
  exact ⟨rfl,Below.refl _ _⟩
theorem markFlsR_c {w : World} {lo hi n : Nat} {a : Option Addr} {V : List (List Tm)} {K : Int} (c : Nat) (h : OwnF w lo hi a n V) (hn : n ≤ 1048576) (hs : sumLen V ≤ 1048576) (hK : 0 ≤ K) (hK2 : K ≤ 10000000) :
    Calls Try.prog 38 #[.slice a n c,.int .i64 K] w fun e w'=>e=.returned (.int .i64 (K+(sumLen V * 9:Nat)))∧MarkedF w' a n K (sumLen V)∧Touch (fun k=>lo≤k∧k<hi) w w':=by
 by_cases h0:n=0
 · subst h0;have hV:V=[]:=List.eq_nil_of_length_eq_zero h.1;subst hV;refine (markFls0_c a c K).mono ?_;rintro e w' ⟨rfl,hb⟩;exact ⟨ret_i (by simp [sumLen]),Or.inl ⟨rfl,rfl⟩,Touch.of_below hb⟩
 · obtain ⟨g,R,rfl,h2,h3,h4,h5,h7⟩:=h.2 (by omega);have ht:=OwnF.tot h.1 h4 h7;refine (markFls_c c h4 hn (by rw [ht];exact hs) hK hK2).mono ?_;rintro e w' ⟨rfl,hF,hM,hT⟩;refine ⟨by rw [ht],Or.inr ⟨g,R,rfl,hF,hM,ht⟩,hT.mono ?_⟩;rintro k ⟨r,hr,hm,rfl⟩;exact h5 r hr hm
theorem heldFlsR_c {w : World} {n tot : Nat} {a : Option Addr} {K : Int} (c : Nat) (h : MarkedF w a n K tot) (hn : n ≤ 1048576) (hs : tot ≤ 1048576) (hK : 0 ≤ K) (hK2 : K ≤ 10000000) :
    Calls Try.prog 39 #[.slice a n c,.int .i64 K] w fun e w'=>e=.returned (.int .i64 (K+(tot * 9:Nat)))∧Below w.heap.size w w':=by
 rcases h with ⟨rfl,rfl⟩ | ⟨g,R,rfl,h2,h3,rfl⟩
 · refine (heldFls0_c a c K).mono ?_;rintro e w' ⟨rfl,hb⟩;exact ⟨ret_i (by simp),hb⟩
 · exact heldFls_c c h2 h3 hn hs hK hK2
theorem Try.info_formA:∃i z,Try.prog.info? 47=some i∧i.zero=some z∧i.size=1∧i.bytes=24∧z.cells.size=1:=by
 obtain ⟨i,hi,hzz⟩:=Option.map_eq_some_iff.1 Try.info_form3
 simp only [Prod.mk.injEq] at hzz
 obtain ⟨hz,hs,hb⟩:=hzz
 exact ⟨i,_,hi,hz,hs,hb,rfl⟩
theorem own_ne_row {w:World} {g B sz n:Nat} {t t':TypeId} {cs:Array Value} {v:Value} {xs:List Value} (h:Own w g t cs) (ho:w.ownsRow B t' sz v n xs) (ht:t≠t'):some g≠v.ownBlock:=by
 intro e
 rcases ho.2 with ⟨hv,_⟩ | ⟨g',cap,cur,hv,_,hg,_⟩
 · rw [hv] at e;cases e
 · rw [hv] at e
   have e':g=g':=by
    have:some g=some g':=e
    injection this
   subst e';refine ht ?_;have q:some (Obj.cells cs t (0,0))=some (Obj.cells cur t' (0,0)):=(show w.heap[g]? = _ from h).symm.trans hg;cases q
   rfl
theorem row_slice {w:World} {B sz n:Nat} {t:TypeId} {v:Value} {xs:List Value} (h:w.ownsRow B t sz v n xs):∃a c,v=.slice a n c:=by
 rcases h.2 with ⟨hv,h0⟩ | ⟨g,cap,cur,hv,_⟩
 · exact ⟨none,0,by rw [hv,h0]⟩
 · exact ⟨_,_,hv⟩
theorem row_own {w:World} {B sz n q:Nat} {t:TypeId} {v:Value} {xs:List Value} (h:w.ownsRow B t sz v n xs) (e:v.ownBlock=some q):∃os,Own w q t os:=by
 rcases h.2 with ⟨hv,h0⟩ | ⟨g,cap,cur,hv,_,hg,_⟩
 · rw [hv] at e;cases e
 · rw [hv] at e
   have e':g=q:=by
    have:some g=some q:=e
    injection this
   subst e';exact ⟨cur,hg⟩
def fwOf:Value→Fw
 | .slice (some ⟨g,o,s⟩) m c=>⟨some ⟨g,o,s⟩,m,c,g,o⟩
 | .slice none m c=>⟨none,m,c,0,0⟩
 | _=>⟨none,0,0,0,0⟩
theorem fw_of {w : World} {B : Nat} {v : Value} {ts : List Tm} (h : OwnR w B v ts) (hT : ∀ t ∈ ts, IsTm t) :
    v=.slice (fwOf v).a (fwOf v).m (fwOf v).c∧(0<(fwOf v).m→(fwOf v).a=some ⟨(fwOf v).g,(fwOf v).o,none⟩∧v.ownBlock=some (fwOf v).g∧B≤(fwOf v).g∧(fwOf v).g<w.heap.size∧∃cs,Own w (fwOf v).g 76 cs∧(fwOf v).o+(fwOf v).m * 9≤cs.size)∧Terms w (fwOf v).a (fwOf v).m ts:=by
 have hr:=h
 rcases h.2 with ⟨hv,h0⟩ | ⟨g,cap,cur,hv,hb,hg,hn,hm,hs,ht⟩
 · subst hv;exact ⟨rfl,fun hp=>absurd (show 0<0 from hp) (by omega),hr.read hT⟩
 · subst hv;refine ⟨rfl,fun _=>⟨rfl,rfl,hb,(Array.getElem?_eq_some_iff.1 hg).1,cur,hg,?_⟩,hr.read hT⟩;have:=Nat.mul_le_mul_right 9 hn;show 0+ts.length * 9≤cur.size
   rw [hs];omega
theorem OwnR.ne_form {w:World} {B g:Nat} {v:Value} {ts:List Tm} {os:Array Value} (h:OwnR w B v ts) (ho:Own w g 47 os):v.ownBlock≠some g:=by
 intro e
 rcases h.2 with ⟨hv,_⟩ | ⟨g',cap,cur,hv,_,hg,_⟩
 · rw [hv] at e;cases e
 · rw [hv] at e
   have e':g'=g:=by
    have:some g'=some g:=e
    injection this
   subst e';have hne:(47:TypeId)≠76:=(by decide);refine hne ?_;have q:some (Obj.cells os 47 (0,0))=some (Obj.cells cur 76 (0,0)):=(show w.heap[g']? = _ from ho).symm.trans hg;cases q
structure Vals (w:World) (B:Nat) (vs:List Value) (V:List (List Tm)):Prop where
 len:vs.length=V.length
 each:∀(i:Nat) v ts,vs[i]? = some v→V[i]? = some ts→OwnR w B v ts
 apart:∀(i j:Nat) v u q r,i<j→vs[i]? = some v→vs[j]? = some u→v.ownBlock=some q→u.ownBlock=some r→q≠r
section
variable {w w':World} {B:Nat} {vs:List Value} {V:List (List Tm)}
theorem Vals.nil (w:World) (B:Nat):Vals w B [] []:=⟨rfl,fun i v ts h=>by simp at h,fun i j v u q r _ h=>by simp at h⟩
theorem Vals.at_ (h:Vals w B vs V) {i:Nat} {v:Value} (hv:vs[i]? = some v):∃ts,V[i]? = some ts∧OwnR w B v ts:=by
 have h1:=(List.getElem?_eq_some_iff.1 hv).1
 have h2:=h.len
 have h3:V[i]? = some (V[i]'(by omega)):=List.getElem?_eq_getElem (by omega)
 exact ⟨_,h3,h.each i v _ hv h3⟩
theorem Vals.keep (h:Vals w B vs V) (hb:Below w.heap.size w w'):Vals w' B vs V:=⟨h.len,fun i v ts h1 h2=>(h.each i v ts h1 h2).keep hb,h.apart⟩
theorem Vals.far (h:Vals w B vs V) {p:Addr} {os:Array Value} (ho:Own w p.block 47 os) (u:Value):Vals (w.setCell p u) B vs V:=
 ⟨h.len,fun i v ts h1 h2=>(h.each i v ts h1 h2).far ((h.each i v ts h1 h2).ne_form ho) u,h.apart⟩
theorem Vals.weaken {B':Nat} (h:Vals w B vs V) (hB:B'≤B):Vals w B' vs V:=⟨h.len,fun i v ts h1 h2=>(h.each i v ts h1 h2).weaken hB,h.apart⟩
theorem Vals.grownN {row:Option Nat} (h:Vals w B vs V) (hg:w.grownBy w' row) (hr:∀(i:Nat) u q,vs[i]? = some u→u.ownBlock=some q→row≠some q):Vals w' B vs V:=
 ⟨h.len,fun i v ts h1 h2=>World.ownsRow.kept (h.each i v ts h1 h2) hg (by
  cases hv:v.ownBlock with
  | none=>exact Or.inl rfl
  | some q=>exact Or.inr (fun e=>hr i v q h1 hv e.symm)),h.apart⟩
theorem Vals.grown {row:Option Nat} (h:Vals w B vs V) (hg:w.grownBy w' row) (hr:∀q,row=some q→∃os,Own w q 47 os):Vals w' B vs V:=
 h.grownN hg (fun i u q h1 h2 e=>by
  obtain ⟨os,ho⟩:=hr q e;obtain ⟨ts,-,ho2⟩:=h.at_ h1
  exact ho2.ne_form ho h2)
theorem Vals.snoc {C:Nat} {v:Value} {ts:List Tm} (h:Vals w' B vs V) (hC:∀(i:Nat) u q,vs[i]? = some u→u.ownBlock=some q→q<C) (hB:B≤C) (hv:OwnR w' C v ts):Vals w' B (vs++[v]) (V++[ts]):=by
 have hl:=h.len
 refine ⟨by simp [hl],fun i u us h1 h2=>?_,fun i j u x q r hij h1 h2 h3 h4=>?_⟩
 · by_cases hi:i<vs.length
   · rw [List.getElem?_append_left hi] at h1;rw [List.getElem?_append_left (by omega)] at h2;exact h.each i u us h1 h2
   · rw [List.getElem?_append_right (by omega)] at h1 h2
     have hi2:i - vs.length=0:=by
      have:=(List.getElem?_eq_some_iff.1 h1).1;simp at this
      omega
     rw [←hl] at h2;rw [hi2] at h1 h2;simp only [List.getElem?_cons_zero,Option.some.injEq] at h1 h2;subst h1 h2;exact hv.weaken hB
 · have hj:=(List.getElem?_eq_some_iff.1 h2).1;rw [List.length_append,List.length_singleton] at hj;rw [List.getElem?_append_left (show i<vs.length by omega)] at h1;by_cases hj2:j<vs.length
   · rw [List.getElem?_append_left hj2] at h2;exact h.apart i j u x q r hij h1 h2 h3 h4
   · rw [List.getElem?_append_right (by omega),show j - vs.length=0 by omega] at h2;simp only [List.getElem?_cons_zero,Option.some.injEq] at h2;subst h2;have h5:=hC i u q h1 h3;have h6:=(hv.at_ h4).1;omega
theorem Vals.lt (h:Vals w B vs V):∀(i:Nat) u q,vs[i]? = some u→u.ownBlock=some q→q<w.heap.size:=fun i u q h1 h2=>by
 obtain ⟨ts,-,ho⟩:=h.at_ h1
 exact (ho.at_ h2).2
theorem Vals.ownF {lo gO n : Nat} {os : Array Value} (h : Vals w lo vs V) (hV : V.length = n) (ho : Own w gO 47 os) (hos : ∀ (i : Nat) v, vs[i]? = some v → os[i]? = some v) (hlo : lo ≤ gO) (hT : ∀ ts ∈ V, ∀ t ∈ ts, IsTm t) :
    OwnF w lo w.heap.size (some ⟨gO,0,none⟩) n V:=by
 have hg:∀(i:Nat) r,(vs.map fwOf)[i]? = some r→∃v ts,vs[i]? = some v∧V[i]? = some ts∧OwnR w lo v ts∧r=fwOf v∧∀t∈ts,IsTm t:=by
  intro i r hr;rw [List.getElem?_map] at hr
  cases hv:vs[i]? with
  | none=>rw [hv] at hr;cases hr
  | some v =>
    rw [hv] at hr
    injection hr with hr
    obtain ⟨ts,h1,h2⟩:=h.at_ hv;exact ⟨v,ts,rfl,h1,h2,hr.symm,hT ts (List.mem_of_getElem? h1)⟩
 refine ⟨hV,fun _=>⟨gO,vs.map fwOf,rfl,hlo,ho.lt,⟨by rw [List.length_map,h.len,hV],⟨os,ho,fun i r hr=>?_⟩,fun i r hr hp=>?_,fun i j r s hij hr hs hp hps=>?_⟩,fun r hr hp=>?_,fun i r ts hr hv=>?_⟩⟩
 · obtain ⟨v,ts,h1,h2,h3,rfl,h4⟩:=hg i r hr;rw [←(fw_of h3 h4).1];exact hos i v h1
 · obtain ⟨v,ts,h1,h2,h3,rfl,h4⟩:=hg i r hr;obtain ⟨k1,-,-,-,k2⟩:=(fw_of h3 h4).2.1 hp;exact ⟨k1,k2⟩
 · obtain ⟨v,ts,h1,h2,h3,rfl,h4⟩:=hg i r hr;obtain ⟨u,us,g1,g2,g3,rfl,g4⟩:=hg j s hs;exact Or.inl (h.apart i j v u _ _ hij h1 g1 ((fw_of h3 h4).2.1 hp).2.1 ((fw_of g3 g4).2.1 hps).2.1)
 · obtain ⟨i,hi,he⟩:=List.mem_iff_getElem.1 hr;obtain ⟨v,ts,h1,h2,h3,rfl,h4⟩:=hg i r (by rw [←he];exact List.getElem?_eq_getElem hi);obtain ⟨-,-,k1,k2,-⟩:=(fw_of h3 h4).2.1 hp;exact ⟨k1,k2⟩
 · obtain ⟨v,us,h1,h2,h3,rfl,h4⟩:=hg i r hr;rw [h2] at hv
   injection hv with hv
   subst hv;exact (fw_of h3 h4).2.2
theorem Vals.ownF_row {lo n:Nat} {v:Value} (h:Vals w lo vs V) (hV:V.length=n) (hrow:w.ownsRow lo 47 1 v n vs) (hT:∀ts∈V,∀t∈ts,IsTm t):∃a c,v=.slice a n c∧OwnF w lo w.heap.size a n V:=by
 rcases hrow.2 with ⟨hv,h0⟩ | ⟨g,cap,cur,hv,hb,hg,hn,hm,hs,ht⟩
 · subst h0;have:V=[]:=List.eq_nil_of_length_eq_zero hV;subst this;exact ⟨none,0,hv,OwnF.none_⟩
 · refine ⟨_,_,hv,h.ownF hV hg (fun i v hi=>?_) hb hT⟩;rw [←ht,Nat.mul_one,List.getElem?_take] at hi;split at hi
   · rw [←Array.getElem?_toList];exact hi
   · cases hi
end
def valCells (n:Nat) (vs:List Value):List Value:=vs++List.replicate (n - vs.length) (Value.slice none 0 0)
theorem valCells_step {n k:Nat} {v:Value} {vs:List Value} (hk:vs.length=k) (hn:k<n):((valCells n vs).toArray).setIfInBounds k v=(valCells n (vs++[v])).toArray:=by
 apply Array.ext'
 rw [Array.toList_setIfInBounds]
 simp only [valCells,List.length_append,List.length_cons,List.length_nil]
 rw [List.set_append_right _ _ (by omega),hk,Nat.sub_self,show n - k=(n - (k+1))+1 by omega,List.replicate_succ,List.set_cons_zero,List.append_assoc]
 rfl
theorem valCells_len {n:Nat} {vs:List Value} (h:vs.length≤n):(valCells n vs).length=n:=by simp [valCells];omega
theorem valCells_full {n:Nat} {vs:List Value} (h:vs.length=n):valCells n vs=vs:=by simp [valCells,h]
def FrmsN (w:World) (a:Option Addr) (n:Nat) (fss:List (List Tm)):Prop:=
 fss.length=n∧(0<n→∃b off,a=some ⟨b,off,none⟩∧b<w.heap.size∧∀i ts,fss[i]? = some ts→∃ai ni ci,w.cell? ⟨b,off+i,none⟩=some (.slice ai ni ci)∧Terms w ai ni ts∧((ai=none∧ni=0∧ci=0)∨∃bi oi,ai=some ⟨bi,oi,none⟩))
theorem FrmsN.keep {w w':World} {a:Option Addr} {n:Nat} {fss:List (List Tm)} (h:FrmsN w a n fss) (hb:Below w.heap.size w w'):FrmsN w' a n fss:=
 ⟨h.1,fun hn=>by
  obtain ⟨b,off,ha,hlt,hc⟩:=h.2 hn;refine ⟨b,off,ha,Nat.lt_of_lt_of_le hlt hb.size,fun i ts hi=>?_⟩;obtain ⟨ai,ni,ci,h1,h2,h3⟩:=hc i ts hi
  exact ⟨ai,ni,ci,(World.cell?_of_block (a:=⟨b,off+i,none⟩) (hb.block b hlt)).trans h1,h2.keep hb,h3⟩⟩
theorem FrmsN.at_ {w : World} {a : Option Addr} {n : Nat} {fss : List (List Tm)} (h : FrmsN w a n fss) {i : Nat} (hi : i < n) :
    ∃b off ts ai ni ci,a=some ⟨b,off,none⟩∧b<w.heap.size∧w.cell? ⟨b,off+i,none⟩=some (.slice ai ni ci)∧Terms w ai ni ts∧((ai=none∧ni=0∧ci=0)∨∃bi oi,ai=some ⟨bi,oi,none⟩)∧Hid (fss[i]? = some ts):=by
 obtain ⟨b,off,ha,hlt,hc⟩:=h.2 (by omega)
 have hl:=h.1
 have hx:fss[i]? = some fss[i]:=List.getElem?_eq_getElem (by omega)
 obtain ⟨ai,ni,ci,h1,h2,h3⟩:=hc i _ hx
 exact ⟨b,off,_,ai,ni,ci,ha,hlt,h1,h2,h3,hx⟩
theorem FrmsBlk.frmsN {w:World} {g n:Nat} {fss:List (List Tm)} {gs:List Nat} (h:FrmsBlk w g fss gs) (hT:∀ts∈fss,∀t∈ts,IsTm t) (hn:fss.length=n):FrmsN w (some ⟨g,0,none⟩) n fss:=by
 refine ⟨hn,fun _=>⟨g,0,rfl,h.own.lt,fun i ts hi=>?_⟩⟩
 have hl:i<gs.length:=by rw [h.len];exact (List.getElem?_eq_some_iff.1 hi).1
 have hg:gs[i]? = some gs[i]:=List.getElem?_eq_getElem hl
 have hm:=List.mem_of_getElem? hi
 refine ⟨some ⟨gs[i],0,none⟩,ts.length,ts.length,?_,Terms.of_own (h.each i _ ts hg hi) (hT ts hm) rfl,Or.inr ⟨_,_,rfl⟩⟩
 rw [Nat.zero_add,h.own.cell i,List.getElem?_toArray]
 exact slCells_get hi hg
theorem row_cap {w:World} {B sz n c:Nat} {t:TypeId} {a:Option Addr} {xs:List Value} (h:w.ownsRow B t sz (.slice a n c) n xs):n≤c:=by
 rcases h.2 with ⟨hv,h0⟩ | ⟨g,cap,cur,hv,_,_,hn,_⟩
 · omega
 · simp only [Value.slice.injEq] at hv;omega
theorem Try.sizeTm:∀w,(Go.sizeOf 76).run Try.prog w=.ok 9 w:=fun w=>by kernel_rfl
theorem slice3_run (a : Option Addr) (tot cap s e : Nat) (h1 : s ≤ e) (h2 : e ≤ cap) (w : World) :
    (Instr.slice 45 (.slice a tot cap) (some (.int .i64 (s:Int))) (some (.int .i64 (e:Int))) (some (.int .i64 (e:Int)))).run Try.prog w=.ok (.slice (if e=s then a else a.map (·.add (s * 9))) (e - s) (e - s)) w:=by
 have he:Try.prog.elem 45=76:=by kernel_rfl
 have hu:Try.prog.underlying 45=some (.slice (Try.prog.elem 45)):=by rw [he];exact Try.underlying45
 have h:=run_slice_lhm (P:=Try.prog) w 45 a tot cap hu .i64 .i64 .i64 (s:Int) (e:Int) (e:Int) (by omega) (by omega) (by omega) (by omega)
 rw [h]
 have hs:=Try.sizeTm w
 rw [he,hs]
 simp [Result.andThen,sliced]
def kv (a:Option Addr) (fss:List (List Tm)) (i:Nat):Value:=.slice (if (fss.getD i []).length=0 then a else a.map (·.add (sumLen (fss.take i) * 9))) (fss.getD i []).length (fss.getD i []).length
theorem flat_len (fss:List (List Tm)):fss.flatten.length=sumLen fss:=by simp [sumLen,List.length_flatten]
theorem flat_take {fss:List (List Tm)} {k:Nat} {ts:List Tm} (h:fss[k]? = some ts):(fss.take (k+1)).flatten=(fss.take k).flatten++ts:=by
 rw [List.take_add_one,h,List.flatten_append]
 simp
theorem sumLen_mono (fss:List (List Tm)) {i j:Nat} (h:i≤j):sumLen (fss.take i)≤sumLen (fss.take j):=by
 have:=sumLen_le (fss.take j) i
 rwa [List.take_take,Nat.min_eq_left h] at this
theorem flat_at {fss:List (List Tm)} {i:Nat} {ts:List Tm} (h:fss[i]? = some ts):fss.flatten=(fss.take i).flatten++(ts++(fss.drop (i+1)).flatten):=by
 obtain ⟨hi,rfl⟩:=List.getElem?_eq_some_iff.1 h
 have h1:fss=fss.take i++(fss[i]::fss.drop (i+1)):=by rw [←List.drop_eq_getElem_cons hi,List.take_append_drop]
 have h2:=congrArg List.flatten h1
 rw [List.flatten_append,List.flatten_cons] at h2
 exact h2
theorem flat_cell {fss:List (List Tm)} (hT:∀ts∈fss,∀t∈ts,IsTm t) {i j:Nat} {ts:List Tm} {u:Value} (h:fss[i]? = some ts) (hu:(rcells ts)[j]? = some u):(rcells fss.flatten)[sumLen (fss.take i) * 9+j]? = some u:=by
 have hl:(rcells (fss.take i).flatten).length=sumLen (fss.take i) * 9:=by
  rw [rcells_length (fun t ht=>?_),flat_len];obtain ⟨us,hus,htu⟩:=List.mem_flatten.1 ht;exact hT us (List.mem_of_mem_take hus) t htu
 have hj:=(List.getElem?_eq_some_iff.1 hu).1
 rw [flat_at h,rcells_append,rcells_append,List.getElem?_append_right (by omega),hl,Nat.add_sub_cancel_left,List.getElem?_append_left hj]
 exact hu
theorem keep_ownF {w : World} {lo n gR vn vc : Nat} {va : Option Addr} {fss : List (List Tm)} (h : OwnR w lo (.slice va vn vc) fss.flatten) (hT : ∀ ts ∈ fss, ∀ t ∈ ts, IsTm t) (hl : fss.length = n)
    (hR:Own w gR 47 (valCells n ((List.range n).map (kv va fss))).toArray) (hlo:lo≤gR):OwnF w lo w.heap.size (some ⟨gR,0,none⟩) n fss:=by
 have hcell:∀i,i<n→(valCells n ((List.range n).map (kv va fss))).toArray[i]? = some (kv va fss i):=by
  intro i hi;rw [valCells_full (by simp),List.getElem?_toArray,List.getElem?_map,List.getElem?_range hi];rfl
 have hts:∀(i:Nat) (ts:List Tm),fss[i]? = some ts→fss.getD i []=ts:=by
  intro i ts hi;rw [List.getD_eq_getElem?_getD,hi];rfl
 rcases h.2 with ⟨hv,h0⟩ | ⟨g,cap,cur,hv,hb,hg,hn,hm,hs,ht⟩
 · have hz : ∀ (i : Nat) (ts : List Tm), fss[i]? = some ts → ts = [] := by
     intro i ts hi;have h1:=flat_at hi;have h2:=congrArg List.length h1;rw [h0,List.length_append,List.length_append] at h2;exact List.eq_nil_of_length_eq_zero (by omega)
   refine ⟨hl,fun _=>⟨gR,(List.range n).map (fun i=>(⟨if (fss.getD i []).length=0 then va else va.map (·.add (sumLen (fss.take i) * 9)),(fss.getD i []).length,(fss.getD i []).length,0,0⟩:Fw)),rfl,hlo,hR.lt,?_,?_,?_⟩⟩
   · have hm0 : ∀ (i : Nat) (r : Fw), ((List.range n).map (fun i => (⟨if (fss.getD i []).length = 0 then va else va.map (·.add (sumLen (fss.take i) * 9)), (fss.getD i []).length, (fss.getD i []).length, 0, 0⟩ : Fw)))[i]? = some r → r.m = 0 := by
       intro i r hr;have hi:=(List.getElem?_eq_some_iff.1 hr).1;rw [List.length_map,List.length_range] at hi;rw [List.getElem?_map,List.getElem?_range hi] at hr
       injection hr with hr
       subst hr;have hx:fss[i]? = some (fss[i]'(by omega)):=List.getElem?_eq_getElem (by omega);show (fss.getD i []).length=0
       rw [hts i _ hx,hz i _ hx];rfl
     refine ⟨by simp,⟨_,hR,fun i r hr=>?_⟩,fun i r hr hp=>absurd (hm0 i r hr) (by omega),fun i j r s _ hr _ hp=>absurd (hm0 i r hr) (by omega)⟩;have hi:=(List.getElem?_eq_some_iff.1 hr).1;rw [List.length_map,List.length_range] at hi;rw [List.getElem?_map,List.getElem?_range hi] at hr
     injection hr with hr
     subst hr;exact hcell i hi
   · intro r hr hp;obtain ⟨i,-,rfl⟩:=List.mem_map.1 hr;exfalso
     have hp':0<(fss.getD i []).length:=hp;rw [List.getD_eq_getElem?_getD] at hp'
     cases hx:fss[i]? with
     | none=>rw [hx] at hp';simp at hp'
     | some ts=>rw [hx,hz i ts hx] at hp';simp at hp'
   · intro i r ts hr hi;have hii:=(List.getElem?_eq_some_iff.1 hi).1;rw [List.getElem?_map,List.getElem?_range (by omega)] at hr
     injection hr with hr
     subst hr;have h1:=hz i ts hi;subst h1;have h2:=hts i _ hi;exact ⟨by show [].length=(fss.getD i []).length;rw [h2],by simp,fun hp=>absurd (show 0<(fss.getD i []).length from hp) (by rw [h2];simp)⟩
 · simp only [Value.slice.injEq] at hv;obtain ⟨rfl,rfl,rfl⟩:=hv;have hOw:Own w g 76 cur:=hg;have hfl:=flat_len fss
   have haddr:∀q:Nat,(some (⟨g,0,none⟩:Addr)).map (·.add q)=some ⟨g,q,none⟩:=fun q=>by
    simp only [Option.map_some];rw [Addr.add_mid,Nat.zero_add]
   have hstep:∀(i:Nat) (ts:List Tm),fss[i]? = some ts→sumLen (fss.take i)+ts.length≤sumLen fss:=fun i ts hi=>by
    have h1:=sumLen_take hi;have h2:=sumLen_le fss (i+1);omega
   refine ⟨hl,fun _=>⟨gR,(List.range n).map (fun i=>(⟨if (fss.getD i []).length=0 then some ⟨g,0,none⟩ else (some (⟨g,0,none⟩:Addr)).map (·.add (sumLen (fss.take i) * 9)),(fss.getD i []).length,(fss.getD i []).length,g,sumLen (fss.take i) * 9⟩:Fw)),rfl,hlo,hR.lt,?_,?_,?_⟩⟩
   · have hget : ∀ (i : Nat) (r : Fw), ((List.range n).map (fun i => (⟨if (fss.getD i []).length = 0 then some ⟨g, 0, none⟩ else (some (⟨g, 0, none⟩ : Addr)).map (·.add (sumLen (fss.take i) * 9)), (fss.getD i []).length, (fss.getD i []).length, g, sumLen (fss.take i) * 9⟩ : Fw)))[i]? = some r → i < n ∧ r = ⟨if (fss.getD i []).length = 0 then some ⟨g, 0, none⟩ else (some (⟨g, 0, none⟩ : Addr)).map (·.add (sumLen (fss.take i) * 9)), (fss.getD i []).length, (fss.getD i []).length, g, sumLen (fss.take i) * 9⟩ := by
       intro i r hr;have hi:=(List.getElem?_eq_some_iff.1 hr).1;rw [List.length_map,List.length_range] at hi;rw [List.getElem?_map,List.getElem?_range hi] at hr
       injection hr with hr
       exact ⟨hi,hr.symm⟩
     refine ⟨by simp,⟨_,hR,fun i r hr=>?_⟩,fun i r hr hp=>?_,fun i j r s hij hr hs' hp hps=>?_⟩
     · obtain ⟨hi,rfl⟩:=hget i r hr;exact hcell i hi
     · obtain ⟨hi,rfl⟩:=hget i r hr;have hp':¬(fss.getD i []).length=0:=(by have:0<(fss.getD i []).length:=hp;omega);have hx:fss[i]? = some (fss[i]'(by omega)):=List.getElem?_eq_getElem (by omega);refine ⟨by dsimp only;rw [if_neg hp',haddr],cur,hOw,?_⟩;have h1:=hstep i _ hx;have h2:(fss.getD i []).length=(fss[i]'(by omega)).length:=(by rw [hts i _ hx]);show sumLen (fss.take i) * 9+(fss.getD i []).length * 9≤cur.size
       have h3:=Nat.mul_le_mul_right 9 hn;rw [hs,h2];omega
     · obtain ⟨hi,rfl⟩:=hget i r hr;obtain ⟨hj,rfl⟩:=hget j s hs';have hx:fss[i]? = some (fss[i]'(by omega)):=List.getElem?_eq_getElem (by omega);have h1:=sumLen_take hx;have h2:=sumLen_mono fss (show i+1≤j by omega);have h3:(fss.getD i []).length=(fss[i]'(by omega)).length:=(by rw [hts i _ hx]);refine Or.inr (Or.inl ?_);show sumLen (fss.take i) * 9+(fss.getD i []).length * 9≤sumLen (fss.take j) * 9
       rw [h3];omega
   · intro r hr hp;obtain ⟨i,-,rfl⟩:=List.mem_map.1 hr;exact ⟨hb,hOw.lt⟩
   · intro i r ts hr hi;have hii:=(List.getElem?_eq_some_iff.1 hi).1;rw [List.getElem?_map,List.getElem?_range (by omega)] at hr
     injection hr with hr
     subst hr;have h2:=hts i _ hi;have hm':=List.mem_of_getElem? hi;refine ⟨by show ts.length=(fss.getD i []).length;rw [h2],hT ts hm',fun hp=>?_⟩;have hp':¬(fss.getD i []).length=0:=(by have:0<(fss.getD i []).length:=hp;omega);refine ⟨g,sumLen (fss.take i) * 9,by dsimp only;rw [if_neg hp',haddr],hOw.lt,fun j u hu=>?_⟩;rw [hOw.cell];have h3:=flat_cell hT hi hu;have h4:=(List.getElem?_eq_some_iff.1 h3).1;rw [←ht,List.getElem?_take] at h3;split at h3
     · rw [←Array.getElem?_toList];exact h3
     · cases h3
set_option maxHeartbeats 2000000 in
theorem keepForms_c {w : World} {a : Option Addr} {n : Nat} {fss : List (List Tm)} (c : Nat) (h : FrmsN w a n fss) (hn : n ≤ 1048576) (hT : ∀ ts ∈ fss, ∀ t ∈ ts, IsTm t) (hS : sumLen fss ≤ 1048576) :
    Calls Try.prog 101 #[.slice a n c] w fun e w'=>∃g,e=.returned (.slice (some ⟨g,0,none⟩) n n)∧OwnF w' w.heap.size w'.heap.size (some ⟨g,0,none⟩) n fss∧Below w.heap.size w w':=by
 have HH:=Lib.hid h
 have HLn:=Lib.hid h.1
 have HT:=Lib.hid hT
 have HSS:=Lib.hid hS
 have hmk:=make_forms n hn
 obtain ⟨ti,tz,hti,htz,hts,htb,htzs⟩:=Try.info_termA
 have HI:=Lib.hid hti
 have HZ:=Lib.hid htz
 have HS:=Lib.hid hts
 have HBt:=Lib.hid htb
 have HZs:=Lib.hid htzs
 clear h hT hS hti htz hts htb htzs
 go_enter Try.func101,Try.ntmps101
 go_upto_region 3 with fail
 go_loopw [3,13] (fun v y wr=>∃(i:Nat) (va:Option Addr) (vn vc:Nat),i≤n∧v=.slice va vn vc∧y=.int .i64 i∧Below w.heap.size w wr∧OwnForm wr w.heap.size (.slice va vn vc) (fss.take i).flatten) (fun _ y _=>n - (intOf y).toNat)
 case atStart=>exact ⟨0,none,0,0,Nat.zero_le _,rfl,rfl,Below.refl _ _,⟨World.ownsRow_nil _ _ _ _,by simp⟩⟩
 case round=>
  obtain ⟨i,va,vn,vc,hi,rfl,rfl,hb,hO⟩:=hrel;by_cases hin:i<n
  · obtain ⟨b,off,ts,ai,ni,ci,rfl,hbl,hc0,hTs0,hal,hx⟩:=HH.out.at_ hin;have hc:=(World.cell?_of_block (a:=⟨b,off+i,none⟩) (hb.block b hbl)).trans hc0;have hTs:=hTs0.keep hb;have HTL:=Lib.hid hTs.len;have HFT:=Lib.hid (flat_take hx.out);have hst:=sumLen_take hx.out;have hsl:=sumLen_le fss (i+1);have hsb:=HSS.out;have hln:=flat_len (fss.take i);have htl:=hTs.len;obtain ⟨L,hL⟩:∃L,((fss.take i).flatten).length=L:=⟨_,rfl⟩;have hLb:L+ni≤1048576:=(by omega);have HLL:=Lib.hid hL;clear hst hsl hsb hln htl hL;have hi0:(0:Int)≤(i:Int):=(by omega);have hini:(i:Int)<(n:Int):=(by omega);have hE:=Own.new wr 47 #[.slice ai ni ci];have hba:=bA1 wr (.cells #[.slice ai ni ci] 47);have hb4:=bT' hb hba hb.size;have HO4:=Lib.hid (hO.keep hba);have hTs4:=hTs.keep hba;go_upto_region 5 with fail
    generalize wr.alloc (.cells #[.slice ai ni ci] 47)=w3 at *;generalize wr.heap.size=gE at *;clear hc hc0 hba hb hO hTs hTs0;have cE:=hE.cell 0;have hbs:=hb4.size
    rcases hal with ⟨rfl,rfl,rfl⟩ | ⟨bi,oi,rfl⟩
    · go_wp2_with (refine wpList_append_own_none rfl (.tmp 17) (.tmp 19) 45 rfl w.heap.size 76 ti 9 Try.underlying45 HI.out (.slice va vn vc) _ _ rfl HO4.out.1 rfl ?_)
      have hts0:ts=[]:=List.eq_nil_of_length_eq_zero HTL.out
      go_roundw
      case rel=>exact ⟨i+1,va,vn,vc,by omega,rfl,by go_num,hb4,by rw [HFT.out,hts0,List.append_nil];exact HO4.out⟩
      case measure=>simp [intOf] <;> omega
    · have hnews : ∀ j u, (rcells ts)[j]? = some u → w3.cell? ((⟨bi, oi, none⟩ : Addr).add j) = some u := fun j u hu => by
        by_cases h0:0<ni
        · obtain ⟨b',o',e,-,hr⟩:=hTs4.2.2 h0
          injection e with e
          injection e with e1 e2
          subst e1 e2;rw [Addr.add_mid];exact hr j u hu
        · have hts0:ts=[]:=List.eq_nil_of_length_eq_zero (by have:=HTL.out;omega);subst hts0;simp [rcells] at hu
      have hone:∀u∈rcells ts,u.oneCell'=true:=by
       intro u hu;simp only [rcells,List.mem_flatMap] at hu;obtain ⟨t,-,hut⟩:=hu;simp only [tcells,mcells,List.mem_append,List.mem_map,List.mem_singleton] at hut
       rcases hut with ⟨x,_,rfl⟩ | rfl <;> rfl
      have hlen:(rcells ts).length=ni * 9:=(by rw [rcells_length (HT.out ts (List.mem_of_getElem? hx.out)),HTL.out]);have HN:=Lib.hid hnews;have HO:=Lib.hid hone;have HLN:=Lib.hid hlen;have hrw:w3.ownsRow w.heap.size 76 9 (.slice va vn vc) L (rcells (fss.take i).flatten):=(by rw [←HLL.out];exact HO4.out.1);have HRW:=Lib.hid hrw;clear hnews hone hlen hrw;go_wp2_with (refine wpList_append_own_wide _ rfl (.tmp 17) (.tmp 19) 45 rfl w.heap.size 76 ti tz 9 16 Try.underlying45 HI.out HZ.out HS.out HBt.out HZs.out (by omega) (.slice va vn vc) L _ rfl HRW.out ⟨bi,oi,none⟩ ni ci (rcells ts) rfl HLN.out HN.out HO.out (by simp only [maxLen];omega) (by omega) (by omega) (fun v' w' h2 h3 h4=>?_))
      have hb5:=grown_below hb4 h3 (fun j e=>(HRW.out.lt j e).1) hb4.size;obtain ⟨xa,xc,rfl⟩:=row_slice h2;have H2:=Lib.hid h2;have H4:=Lib.hid h4;clear h2 h3 h4 hb4 cE hE hTs4 HN HO
      go_roundw
      case rel=>
       refine ⟨i+1,xa,L+ni,xc,by omega,rfl,by go_num,hb5,?_⟩;rw [HFT.out];refine OwnForm.of H2.out (by rw [List.length_append,HLL.out,HTL.out]) (by rw [rcells_append]) ⟨fun e=>?_,fun e=>?_⟩
       · obtain ⟨e1,e2⟩:=H4.out.1 e;have:=HO4.out.2.1 e1;have:=HLL.out;omega
       · refine H4.out.2 ⟨HO4.out.2.2 (by have:=HLL.out;omega),by omega⟩
      case measure=>simp [intOf] <;> omega
  · have he:i=n:=(by omega);subst he;have HF:Hid ((fss.take i).flatten=fss.flatten):=Lib.hid (by rw [List.take_of_length_le (Nat.le_of_eq HLn.out)]);rw [HF.out] at hO
    have HCP:=Lib.hid (show fss.flatten.length≤vc by
     have h1:=hO.1
     have h2:vn=fss.flatten.length:=by
      rcases h1.2 with ⟨h3,h4⟩ | ⟨g,cap,cur,h3,_⟩
      · simp only [Value.slice.injEq] at h3;omega
      · simp only [Value.slice.injEq] at h3;exact h3.2.1
     rw [←h2] at h1 ⊢
     exact row_cap h1)
    go_upto_region 10 with fail
    have hR:=Own.new wr 47 (Array.replicate i (Value.slice none 0 0));have hba:=bA1 wr (.cells (Array.replicate i (Value.slice none 0 0)) 47);have hb3:=bT' hb hba hb.size;have hgR:w.heap.size≤wr.heap.size:=hb.size;have HO3:=Lib.hid (hO.r.keep hba);generalize wr.alloc (.cells (Array.replicate i (Value.slice none 0 0)) 47)=w2 at *;generalize wr.heap.size=gR at *;clear hmk hba hb hO;have hR0:Own w2 gR 47 (valCells i ((List.range 0).map (kv va fss))).toArray:=(by rw [show (valCells i ((List.range 0).map (kv va fss))).toArray=Array.replicate i (Value.slice none 0 0) by simp [valCells]];exact hR);clear hR
    go_loopw [7,27] (fun v y wx=>∃k:Nat,k≤i∧v=.int .i64 (sumLen (fss.take k):Nat)∧y=.int .i64 k∧Below w.heap.size w wx∧Own wx gR 47 (valCells i ((List.range k).map (kv va fss))).toArray∧Hid (OwnR wx w.heap.size (.slice va vn vc) fss.flatten)) (fun _ y _=>i - (intOf y).toNat)
    case atStart=>exact ⟨0,Nat.zero_le _,by simp [sumLen],rfl,hb3,hR0,HO3⟩
    case round=>
     clear hb3 hR0 HO3;obtain ⟨k,hk,rfl,rfl,hb,hR,HO⟩:=hrel;by_cases hkn:k<i
     · obtain ⟨b,off,ts,ai,ni,ci,rfl,hbl,hc0,hTs0,hal,hx⟩:=HH.out.at_ hkn;have hc:=(World.cell?_of_block (a:=⟨b,off+k,none⟩) (hb.block b hbl)).trans hc0;have hst:=sumLen_take hx.out;have hsl:=sumLen_le fss (k+1);have hsb:=HSS.out;have hln:=flat_len fss;have htl:=hTs0.len;obtain ⟨s,hs⟩:∃s,sumLen (fss.take k)=s:=⟨_,rfl⟩;rw [hs] at hst;have hsb2:s+ni≤1048576:=(by omega);have hcp:s+ni≤vc:=(by have:=HCP.out;omega);have HST:Hid (sumLen (fss.take (k+1))=s+ni):=Lib.hid (by omega);have hgd:fss.getD k []=ts:=by rw [List.getD_eq_getElem?_getD,hx.out];rfl
       have HKV:Hid (∃ka,kv va fss k=.slice ka ni ni∧∀W,(Instr.slice 45 (.slice va vn vc) (some (.int .i64 (s:Int))) (some (.int .i64 ((s:Int)+(ni:Int)))) (some (.int .i64 ((s:Int)+(ni:Int))))).run Try.prog W=.ok (.slice ka ni ni) W):=Lib.hid (by
        refine ⟨_,by rw [kv,hgd,hs,htl],fun W=>?_⟩;have:=slice3_run va vn vc s (s+ni) (by omega) hcp W;rw [show ((s+ni:Nat):Int)=(s:Int)+(ni:Int) by omega,Nat.add_sub_cancel_left] at this;rw [this];by_cases h0:ni=0
        · rw [if_pos (by omega),if_pos (by omega)]
        · rw [if_neg (by omega),if_neg (by omega)])
       rw [hs];clear hst hsl hsb hln htl hs hgd hcp;obtain ⟨ka,hka,hsr⟩:=HKV.out;have HKA:=Lib.hid hka;clear hka HKV;have hi0:(0:Int)≤(k:Int):=(by omega);have hini:(k:Int)<(i:Int):=(by omega);have hE:=Own.new wr 47 #[.slice ai ni ci];have hba:=bA1 wr (.cells #[.slice ai ni ci] 47);have hb4:=bT' hb hba hb.size;have hR4:=hR.keep hba hR.lt;have HO4:=Lib.hid (HO.out.keep hba);go_upto_region 12 with fail
       generalize wr.alloc (.cells #[.slice ai ni ci] 47)=w3 at *;generalize wr.heap.size=gE at *;clear hc hc0 hba hb hR HO hTs0 hal;have cE:=hE.cell 0;have hfz:=hR4.frozen k;obtain ⟨ov,hcv⟩:=hR4.has (i:=k) (by rw [List.size_toArray,valCells_len (by simp;omega)];exact hkn);go_wp2_with fail
       go_roundw
       case rel=>
        refine ⟨k+1,by omega,by rw [HST.out];go_num,by go_num,hb4.setCell (p:=⟨gR,k,none⟩) (by dsimp only;omega) _,?_,Lib.hid (HO4.out.far (HO4.out.ne_form hR4) _)⟩;have:=hR4.set k (.slice ka ni ni);rw [valCells_step (by simp) hkn] at this;rw [List.range_succ,List.map_append,List.map_singleton,HKA.out];exact this
       case measure=>simp [intOf] <;> omega
     · have he:k=i:=(by omega);subst he;go_wp2_with fail
       go_ret
       refine ⟨gR,rfl,?_,hb⟩;exact keep_ownF HO.out HT.out HLn.out hR hgR
end Go.Proofs.Ytndnkeijddagiaa
