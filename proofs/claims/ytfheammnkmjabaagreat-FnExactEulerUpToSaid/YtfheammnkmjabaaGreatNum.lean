
import Derived.WalkKit
import Derived.WalkLawsBesides
import Derived.Lib.Hide
import Derived.Deep.Draws
import Derived.Deep.MidRow
import Derived.Laws.ResultCell
import Derived.Test.YtfheammnkmjabaaGreatChecked
namespace Go.Proofs.YtfheammnkmjabaaGreat
open Go.RowKit
def Own (w:World) (g:Nat) (t:TypeId) (cs:Array Value):Prop:=w.heap[g]? = some (.cells cs t (0,0))
section
variable {w w':World} {g:Nat} {t:TypeId} {cs:Array Value}
theorem Own.lt (h:Own w g t cs):g<w.heap.size:=(Array.getElem?_eq_some_iff.1 h).1
theorem Own.cell (h:Own w g t cs) (i:Nat):w.cell? ⟨g,i,none⟩=cs[i]? := cell_of_row w g i cs t (0,0) h
theorem Own.has (h:Own w g t cs) {i:Nat} (hi:i<cs.size):∃v,w.cell? ⟨g,i,none⟩=Option.some v:=⟨cs[i],by rw [h.cell i];exact Array.getElem?_eq_getElem hi⟩
theorem Own.frozen (h:Own w g t cs) (i:Nat):w.frozen? ⟨g,i,none⟩=false:=frozen_of_row w g i cs t h
theorem Own.new (w:World) (t:TypeId) (cs:Array Value):Own (w.alloc (.cells cs t)) w.heap.size t cs:=heap_alloc_new w _
theorem Own.alloc (h:Own w g t cs) (o:Obj):Own (w.alloc o) g t cs:=(Below.heap_alloc w o g h.lt).trans h
theorem Own.drew (h:Own w g t cs):Own w.drew g t cs:=h
theorem Own.drewN (h:Own w g t cs) (n:Nat):Own (w.drewN n) g t cs:=h
theorem Own.set (h:Own w g t cs) (i:Nat) (u:Value):Own (w.setCell ⟨g,i,none⟩ u) g t (cs.setIfInBounds i u):=heap_setCell_same w g i cs t u h
theorem Own.far (h:Own w g t cs) {p:Addr} (hp:g≠p.block) (u:Value):Own (w.setCell p u) g t cs:=(Below.heap_setCell w p u g hp).trans h
theorem Own.setRow (h:Own w g t cs) (cs':Array Value):Own (w.setRow g cs') g t cs':=setRow_heap w g cs cs' t (0,0) h
theorem Own.farRow (h:Own w g t cs) {k:Nat} (hk:g≠k) (cs':Array Value):Own (w.setRow k cs') g t cs:=(setRow_other w k g cs' hk).trans h
theorem Own.keep {B:Nat} (h:Own w g t cs) (hb:Below B w w') (hg:g<B):Own w' g t cs:=(hb.block g hg).trans h
theorem Own.grown {row:Option Nat} (h:Own w g t cs) (hb:w.grownBy w' row) (hg:some g≠row):Own w' g t cs:=(hb.block g h.lt hg).trans h
theorem Own.range (h:Own w g t cs):w.rangeAt g 0 cs.toList:=fun j v hv=>by
 rw [Nat.zero_add,h.cell j];simpa using hv
end
theorem below_drewN {B:Nat} {a w:World} (h:Below B a w) (n:Nat):Below B a (w.drewN n):=⟨h.os,h.tape,h.output,h.size,h.block⟩
theorem below_setRow {B:Nat} {a w:World} (h:Below B a w) {g:Nat} (hg:B≤g) (cs:Array Value):Below B a (w.setRow g cs):=
 h.trans ⟨rfl,rfl,rfl,by simp,fun k hk=>setRow_other w g k cs (by omega)⟩
theorem bA1 (w:World) (o:Obj):Below w.heap.size w (w.alloc o):=(Below.refl _ _).alloc (Nat.le_refl _) o
theorem bT' {B:Nat} {a b c:World} (h:Below B a b) (k:Below b.heap.size b c) (hB:B≤b.heap.size):Below B a c:=h.trans (k.mono hB)
theorem bTn {a b c:World} (h:Below a.heap.size a b) (k:Below b.heap.size b c):Below a.heap.size a c:=h.trans (k.mono h.size)
theorem sAl (w:World) (o:Obj):(w.alloc o).heap.size=w.heap.size+1:=by
 show (w.heap.push o).size=_
 simp
theorem rgK {w w':World} {b o:Nat} {cs:List Value} (h:w.rangeAt b o cs) (hw:w'.heap[b]? = w.heap[b]?):w'.rangeAt b o cs:=
 fun j v hv=>(World.cell?_of_block (a:=⟨b,o+j,none⟩) hw).trans (h j v hv)
theorem ret_i {k:IntKind} {a b:Int} (h:a=b):Ending.returned (.int k a)=.returned (.int k b):=by rw [h]
theorem ret_b {a b:Bool} (h:a=b):Ending.returned (.bool a)=.returned (.bool b):=by rw [h]
theorem results_row2 {P : Program} {fn : Func} {p u : Tmp} {ty : TypeId} (h : fn.results = #[.cell p ty, .tmp u]) (tmps : Array Value) (w : World) (g : Nat) (t : TypeId) (cs : Array Value) (fr : Nat × Nat) (d : TypeDesc)
    (hp:tmps.getD p undef=.pointer (some ⟨g,0,none⟩)) (hg:w.heap[g]? = some (.cells cs t fr))
    (hu:P.underlying ty=some d) (hd:(match d with | .struct _ | .array _ _=>true | _=>false)=true) (hi:(P.info? ty).map (·.size)=some cs.size) :
    (results fn tmps).run P w=.ok (.tuple #[.agg cs,tmps.getD u undef]) w:=by
 rw [results_cell_tmp h,hp]
 simp [asAddr,run_loadVar_row w g t ty cs fr d hg hu hd hi]
def num (x:Int):Int:=x % 10007
theorem num_lo (x:Int):0≤num x:=by unfold num;omega
theorem num_hi (x:Int):num x<10007:=by unfold num;omega
theorem tmod_lo (x:Int):-10007<x.tmod 10007∧x.tmod 10007<10007:=by
 have h:=Int.tmod_eq_emod (a:=x) (b:=10007)
 rw [h]
 split <;> simp <;> omega
theorem num_tmod (x:Int):(x.tmod 10007+10007).tmod 10007=num x:=by
 unfold num
 have h:=Int.tmod_eq_emod (a:=x) (b:=10007)
 rw [h]
 split
 · rw [Int.tmod_eq_emod_of_nonneg (by omega)];omega
 · rw [Int.tmod_eq_emod_of_nonneg (by simp;omega)];simp
theorem num_tmod' (x:Int):(x.tmod 10007+10007) % 10007=num x:=by
 have b:=(tmod_lo x).1
 have h:=num_tmod x
 rwa [Int.tmod_eq_emod_of_nonneg (by omega)] at h
theorem numberOf_c (x:Int) (w:World):Calls Tryz.prog 94 #[.int .i64 x] w fun e w'=>e=.returned (.int .i64 (num x))∧w=w':=by
 have b1:=(tmod_lo x).1
 have b2:=(tmod_lo x).2
 go_enter Tryz.func94,Tryz.ntmps94
 go_wp2
 go_ret
 exact ⟨ret_i (num_tmod' x),rfl⟩
def pw:Nat→Int→Int→Int→Int
 | 0,out,_,_=>out
 | f+1,out,sq,k=>if 0<k then pw f (if k % 2=1 then num (out * sq) else out) (num (sq * sq)) (k / 2) else out
theorem pw_odd {f:Nat} {out sq kk R:Int} (hk:0<kk) (ho:kk % 2=1) (H:kk<2 ^ f∧pw f out sq kk=R):∃g:Nat,kk / 2<2 ^ g∧pw g (out * sq % 10007) (sq * sq % 10007) (kk / 2)=R:=by
 cases f with
 | zero=>simp at H;omega
 | succ g =>
   refine ⟨g,?_,?_⟩
   · have:=H.1;rw [Int.pow_succ] at this;omega
   · have:=H.2;simp only [pw,if_pos hk,if_pos ho] at this;exact this
theorem pw_even {f:Nat} {out sq kk R:Int} (hk:0<kk) (ho:¬kk % 2=1) (H:kk<2 ^ f∧pw f out sq kk=R):∃g:Nat,kk / 2<2 ^ g∧pw g out (sq * sq % 10007) (kk / 2)=R:=by
 cases f with
 | zero=>simp at H;omega
 | succ g =>
   refine ⟨g,?_,?_⟩
   · have:=H.1;rw [Int.pow_succ] at this;omega
   · have:=H.2;simp only [pw,if_pos hk,if_neg ho] at this;exact this
theorem pw_end {f:Nat} {out sq kk R:Int} (hk:¬0<kk) (H:kk<2 ^ f∧pw f out sq kk=R):out=R:=by
 cases f with
 | zero=>exact H.2
 | succ g=>have:=H.2;simp only [pw,if_neg hk] at this;exact this
theorem mul_b {a b:Int} (ha:0≤a) (ha':a<10007) (hb:0≤b) (hb':b<10007):0≤a * b∧a * b≤100120036:=
 ⟨Int.mul_nonneg ha hb,by have:=Int.mul_le_mul (a:=a) (b:=b) (c:=10006) (d:=10006) (by omega) (by omega) hb (by omega);omega⟩
theorem inverse_s (x:Int) (w:World) (h1:1≤x) (h2:x≤10006):Calls Tryz.prog 71 #[.int .i64 x] w fun e w'=>e=.returned (.int .i64 (pw 14 1 x 10005))∧w=w':=by
 go_enter Tryz.func71,Tryz.ntmps71
 go_wp2
 go_loop [3,4,5] (fun o s k=>∃(f:Nat) (out sq kk:Int),0≤out∧out<10007∧0≤sq∧sq<10007∧0≤kk∧kk≤10005∧o=.int .i64 out∧s=.int .i64 sq∧k=.int .i64 kk∧Hid (kk<2 ^ f∧pw f out sq kk=pw 14 1 x 10005)) (fun _ _ k=>(intOf k).toNat)
 case atStart=>exact ⟨14,1,x,10005,by omega,by omega,by omega,by omega,by omega,by omega,rfl,rfl,rfl,by decide,rfl⟩
 case round=>
  obtain ⟨f,out,sq,kk,a1,a2,a3,a4,a5,a6,rfl,rfl,rfl,H⟩:=hrel;have m1:=(mul_b a1 a2 a3 a4).1;have m2:=(mul_b a1 a2 a3 a4).2;have m3:=(mul_b a3 a4 a3 a4).1;have m4:=(mul_b a3 a4 a3 a4).2;by_cases hk:0<kk
  · by_cases ho:kk % 2=1
    · go_wp2
      go_round
      case rel=>
       obtain ⟨g,hg⟩:=pw_odd hk ho H.out;exact ⟨g,_,_,_,by omega,by omega,by omega,by omega,by omega,by omega,rfl,rfl,rfl,hg⟩
      case measure=>simp [intOf];omega
    · go_wp2
      go_round
      case rel=>
       obtain ⟨g,hg⟩:=pw_even hk ho H.out;exact ⟨g,_,_,_,by omega,by omega,by omega,by omega,by omega,by omega,rfl,rfl,rfl,hg⟩
      case measure=>simp [intOf];omega
  · go_wp2
    go_ret
    exact ⟨ret_i (pw_end (by omega) H.out),rfl⟩
theorem timesNumbers_c (x y:Int) (w:World) (m1:0≤x * y) (m2:x * y≤100120036):Calls Tryz.prog 115 #[.int .i64 x,.int .i64 y] w fun e w'=>e=.returned (.int .i64 (num (x * y)))∧w=w':=by
 go_enter Tryz.func115,Tryz.ntmps115
 go_wp2_with (go_at_call 94;refine (numberOf_c _ _).mono ?_;rintro e w' ⟨rfl,rfl⟩)
 go_ret
 exact ⟨rfl,rfl⟩
theorem powerOf_c (x:Int) (w:World) (h1:1≤x) (h2:x≤10006):Calls Tryz.prog 114 #[.int .i64 1,.int .i64 x,.int .i64 10005,.func (.func 115) #[] #[]] w fun e w'=>e=.returned (.int .i64 (pw 14 1 x 10005))∧w=w':=by
 go_enter Tryz.func114,Tryz.ntmps114
 go_wp2_with fail
 go_loop [9,1,2] (fun o s k=>∃(f:Nat) (out sq kk:Int),0≤out∧out<10007∧0≤sq∧sq<10007∧0≤kk∧kk≤10005∧o=.int .i64 out∧s=.int .i64 sq∧k=.int .i64 kk∧Hid (kk<2 ^ f∧pw f out sq kk=pw 14 1 x 10005)) (fun _ _ k=>(intOf k).toNat)
 case atStart=>exact ⟨14,1,x,10005,by omega,by omega,by omega,by omega,by omega,by omega,rfl,rfl,rfl,by decide,rfl⟩
 case round=>
  obtain ⟨f,out,sq,kk,a1,a2,a3,a4,a5,a6,rfl,rfl,rfl,H⟩:=hrel;have m1:=(mul_b a1 a2 a3 a4).1;have m2:=(mul_b a1 a2 a3 a4).2;have m3:=(mul_b a3 a4 a3 a4).1;have m4:=(mul_b a3 a4 a3 a4).2;have n1:=num_lo (out * sq);have n2:=num_hi (out * sq);have n3:=num_lo (sq * sq);have n4:=num_hi (sq * sq);by_cases hk:0<kk
  · by_cases ho:kk % 2=1
    · go_wp2_with (go_at_call 115;refine (timesNumbers_c _ _ _ (by assumption) (by assumption)).mono ?_;rintro e w' ⟨rfl,rfl⟩)
      go_round
      case rel=>
       obtain ⟨g,hg⟩:=pw_odd hk ho H.out;exact ⟨g,_,_,_,n1,n2,n3,n4,by omega,by omega,rfl,rfl,rfl,hg⟩
      case measure=>simp [intOf];omega
    · go_wp2_with (go_at_call 115;refine (timesNumbers_c _ _ _ (by assumption) (by assumption)).mono ?_;rintro e w' ⟨rfl,rfl⟩)
      go_round
      case rel=>
       obtain ⟨g,hg⟩:=pw_even hk ho H.out;exact ⟨g,_,_,_,by omega,by omega,n3,n4,by omega,by omega,rfl,rfl,rfl,hg⟩
      case measure=>simp [intOf];omega
  · go_wp2
    go_ret
    exact ⟨ret_i (pw_end (by omega) H.out),rfl⟩
theorem power_c (x:Int) (w:World) (h1:1≤x) (h2:x≤10006):Calls Tryz.prog 99 #[.int .i64 x,.int .i64 10005] w fun e w'=>e=.returned (.int .i64 (pw 14 1 x 10005))∧w=w':=by
 go_enter Tryz.func99,Tryz.ntmps99
 go_wp2_with (go_at_call 114;refine (powerOf_c _ _ h1 h2).mono ?_;rintro e w' ⟨rfl,rfl⟩)
 go_ret
 exact ⟨rfl,rfl⟩
theorem l01In_c (n lo hi:Int) (w:World):Calls Tryz.prog 30 #[.int .i64 n,.int .i64 lo,.int .i64 hi] w fun e w'=>e=.returned (.bool (decide (lo≤n∧n≤hi)))∧w=w':=by
 by_cases h1:lo≤n
 · by_cases h2:n≤hi
   all_goals
    go_enter Tryz.func30,Tryz.ntmps30
    go_wp2
    go_ret
    exact ⟨by simp [h1,h2],rfl⟩
 · go_enter Tryz.func30,Tryz.ntmps30
   go_wp2
   go_ret
   exact ⟨by simp [show ¬lo≤n by omega],rfl⟩
def invOf (x:Int):Int:=if 1≤x∧x≤10006 then pw 14 1 x 10005 else 0
end Go.Proofs.YtfheammnkmjabaaGreat
