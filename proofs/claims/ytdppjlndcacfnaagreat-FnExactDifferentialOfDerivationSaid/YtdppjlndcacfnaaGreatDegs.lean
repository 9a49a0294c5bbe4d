
import Derived.WalkKit
import Derived.WalkLawsBesides
import Derived.Lib.Hide
import Derived.Deep.Draws
import Derived.Deep.MidRow
import Derived.Laws.ResultCell
import Derived.Test.YtdppjlndcacfnaaGreatChecked
import Derived.WalkSpells
import Derived.Deep.QuietTactic
import Derived.BigQuiet
import Derived.Deep.OwnRows
namespace Go.Proofs.YtdppjlndcacfnaaGreat
open Go.RowKit
def Own (w:World) (g:Nat) (t:TypeId) (cs:Array Value):Prop:=w.heap[g]? = some (.cells cs t (0,0))
section
variable {w w':World} {g:Nat} {t:TypeId} {cs:Array Value}
theorem Own.lt (h:Own w g t cs):g<w.heap.size:=(Array.getElem?_eq_some_iff.1 h).1
theorem Own.cell (h:Own w g t cs) (i:Nat):w.cell? ⟨g,i,none⟩=cs[i]? := cell_of_row w g i cs t (0,0) h
theorem Own.has (h:Own w g t cs) {i:Nat} (hi:i<cs.size):∃v,w.cell? ⟨g,i,none⟩=Option.some v:=⟨cs[i],by rw [h.cell i];exact Array.getElem?_eq_getElem hi⟩
theorem Own.frozen (h:Own w g t cs) (i:Nat):w.frozen? ⟨g,i,none⟩=false:=frozen_of_row w g i cs t h
theorem Own.new (w:World) (t:TypeId) (cs:Array Value):Own (w.alloc (.cells cs t)) w.heap.size t cs:=heap_alloc_new w _
theorem Own.alloc (h:Own w g t cs) (o:Obj):Own (w.alloc o) g t cs:=(Below.heap_alloc w o g h.lt).trans h
theorem Own.drew (h:Own w g t cs):Own w.drew g t cs:=h
theorem Own.drewN (h:Own w g t cs) (n:Nat):Own (w.drewN n) g t cs:=h
theorem Own.set (h:Own w g t cs) (i:Nat) (u:Value):Own (w.setCell ⟨g,i,none⟩ u) g t (cs.setIfInBounds i u):=heap_setCell_same w g i cs t u h
theorem Own.far (h:Own w g t cs) {p:Addr} (hp:g≠p.block) (u:Value):Own (w.setCell p u) g t cs:=(Below.heap_setCell w p u g hp).trans h
theorem Own.setRow (h:Own w g t cs) (cs':Array Value):Own (w.setRow g cs') g t cs':=setRow_heap w g cs cs' t (0,0) h
theorem Own.farRow (h:Own w g t cs) {k:Nat} (hk:g≠k) (cs':Array Value):Own (w.setRow k cs') g t cs:=(setRow_other w k g cs' hk).trans h
theorem Own.keep {B:Nat} (h:Own w g t cs) (hb:Below B w w') (hg:g<B):Own w' g t cs:=(hb.block g hg).trans h
theorem Own.grown {row:Option Nat} (h:Own w g t cs) (hb:w.grownBy w' row) (hg:some g≠row):Own w' g t cs:=(hb.block g h.lt hg).trans h
theorem Own.range (h:Own w g t cs):w.rangeAt g 0 cs.toList:=fun j v hv=>by
 rw [Nat.zero_add,h.cell j];simpa using hv
end
theorem below_drewN {B:Nat} {a w:World} (h:Below B a w) (n:Nat):Below B a (w.drewN n):=⟨h.os,h.tape,h.output,h.size,h.block⟩
theorem below_setRow {B:Nat} {a w:World} (h:Below B a w) {g:Nat} (hg:B≤g) (cs:Array Value):Below B a (w.setRow g cs):=
 h.trans ⟨rfl,rfl,rfl,by simp,fun k hk=>setRow_other w g k cs (by omega)⟩
theorem bA1 (w:World) (o:Obj):Below w.heap.size w (w.alloc o):=(Below.refl _ _).alloc (Nat.le_refl _) o
theorem bT' {B:Nat} {a b c:World} (h:Below B a b) (k:Below b.heap.size b c) (hB:B≤b.heap.size):Below B a c:=h.trans (k.mono hB)
theorem bTn {a b c:World} (h:Below a.heap.size a b) (k:Below b.heap.size b c):Below a.heap.size a c:=h.trans (k.mono h.size)
theorem sAl (w:World) (o:Obj):(w.alloc o).heap.size=w.heap.size+1:=by
 show (w.heap.push o).size=_
 simp
theorem rgK {w w':World} {b o:Nat} {cs:List Value} (h:w.rangeAt b o cs) (hw:w'.heap[b]? = w.heap[b]?):w'.rangeAt b o cs:=
 fun j v hv=>(World.cell?_of_block (a:=⟨b,o+j,none⟩) hw).trans (h j v hv)
theorem ret_i {k:IntKind} {a b:Int} (h:a=b):Ending.returned (.int k a)=.returned (.int k b):=by rw [h]
theorem ret_b {a b:Bool} (h:a=b):Ending.returned (.bool a)=.returned (.bool b):=by rw [h]
theorem results_row2 {P : Program} {fn : Func} {p u : Tmp} {ty : TypeId} (h : fn.results = #[.cell p ty, .tmp u]) (tmps : Array Value) (w : World) (g : Nat) (t : TypeId) (cs : Array Value) (fr : Nat × Nat) (d : TypeDesc)
    (hp:tmps.getD p undef=.pointer (some ⟨g,0,none⟩)) (hg:w.heap[g]? = some (.cells cs t fr))
    (hu:P.underlying ty=some d) (hd:(match d with | .struct _ | .array _ _=>true | _=>false)=true) (hi:(P.info? ty).map (·.size)=some cs.size) :
    (results fn tmps).run P w=.ok (.tuple #[.agg cs,tmps.getD u undef]) w:=by
 rw [results_cell_tmp h,hp]
 simp [asAddr,run_loadVar_row w g t ty cs fr d hg hu hd hi]
def num (x:Int):Int:=x % 10007
theorem num_lo (x:Int):0≤num x:=by unfold num;omega
theorem num_hi (x:Int):num x<10007:=by unfold num;omega
theorem tmod_lo (x:Int):-10007<x.tmod 10007∧x.tmod 10007<10007:=by
 have h:=Int.tmod_eq_emod (a:=x) (b:=10007)
 rw [h]
 split <;> simp <;> omega
theorem num_tmod (x:Int):(x.tmod 10007+10007).tmod 10007=num x:=by
 unfold num
 have h:=Int.tmod_eq_emod (a:=x) (b:=10007)
 rw [h]
 split
 · rw [Int.tmod_eq_emod_of_nonneg (by omega)];omega
 · rw [Int.tmod_eq_emod_of_nonneg (by simp;omega)];simp
theorem num_tmod' (x:Int):(x.tmod 10007+10007) % 10007=num x:=by
 have b:=(tmod_lo x).1
 have h:=num_tmod x
 rwa [Int.tmod_eq_emod_of_nonneg (by omega)] at h
theorem numberOf_c (x:Int) (w:World):Calls Tryz.prog 156 #[.int .i64 x] w fun e w'=>e=.returned (.int .i64 (num x))∧w=w':=by
 have b1:=(tmod_lo x).1
 have b2:=(tmod_lo x).2
 go_enter Tryz.func156,Tryz.ntmps156
 go_wp2
 go_ret
 exact ⟨ret_i (num_tmod' x),rfl⟩
theorem mul_b {a b:Int} (ha:0≤a) (ha':a<10007) (hb:0≤b) (hb':b<10007):0≤a * b∧a * b≤100120036:=
 ⟨Int.mul_nonneg ha hb,by have:=Int.mul_le_mul (a:=a) (b:=b) (c:=10006) (d:=10006) (by omega) (by omega) hb (by omega);omega⟩
theorem l01In_c (n lo hi:Int) (w:World):Calls Tryz.prog 54 #[.int .i64 n,.int .i64 lo,.int .i64 hi] w fun e w'=>e=.returned (.bool (decide (lo≤n∧n≤hi)))∧w=w':=by
 by_cases h1:lo≤n
 · by_cases h2:n≤hi
   all_goals
    go_enter Tryz.func54,Tryz.ntmps54
    go_wp2
    go_ret
    exact ⟨by simp [h1,h2],rfl⟩
 · go_enter Tryz.func54,Tryz.ntmps54
   go_wp2
   go_ret
   exact ⟨by simp [show ¬lo≤n by omega],rfl⟩
def Ints (w:World) (a:Option Addr) (n:Nat) (zs:List Int):Prop:=
 zs.length=n∧(0<n→∃b off,a=some ⟨b,off,none⟩∧b<w.heap.size∧∀i,i<n→w.cell? ⟨b,off+i,none⟩=some (.int .i64 (zs.getD i 0)))
theorem Ints.len {w:World} {a:Option Addr} {n:Nat} {zs:List Int} (h:Ints w a n zs):zs.length=n:=h.1
theorem Ints.keep {w w':World} {a:Option Addr} {n:Nat} {zs:List Int} (h:Ints w a n zs) (hb:Below w.heap.size w w'):Ints w' a n zs:=
 ⟨h.1,fun hn=>by
  obtain ⟨b,off,ha,hlt,hc⟩:=h.2 hn
  exact ⟨b,off,ha,Nat.lt_of_lt_of_le hlt hb.size,fun i hi=>(hb.cell (p:=⟨b,off+i,none⟩) hlt).trans (hc i hi)⟩⟩
theorem Ints.drewN {w:World} {a:Option Addr} {n:Nat} {zs:List Int} (h:Ints w a n zs) (k:Nat):Ints (w.drewN k) a n zs:=h
theorem getD_of {zs:List Int} {k:Nat} (h:k<zs.length):zs[k]? = some (zs.getD k 0):=by
 simp [List.getD,h]
theorem Ints.at_ {w : World} {a : Option Addr} {n : Nat} {zs : List Int} (h : Ints w a n zs) {k : Nat} (hk : k < n) :
    ∃b off x,a=some ⟨b,off,none⟩∧b<w.heap.size∧w.cell? ⟨b,off+k,none⟩=some (.int .i64 x)∧Hid (zs[k]? = some x):=by
 obtain ⟨b,off,ha,hlt,hc⟩:=h.2 (by omega)
 exact ⟨b,off,_,ha,hlt,hc k hk,getD_of (by have:=h.1;omega)⟩
def IntBlk (w:World) (g:Nat) (zs:List Int):Prop:=Own w g 2 ((zs.map (Value.int .i64)).toArray)
theorem IntBlk.lt {w:World} {g:Nat} {zs:List Int} (h:IntBlk w g zs):g<w.heap.size:=(Array.getElem?_eq_some_iff.1 h).1
theorem IntBlk.keep {w w':World} {g:Nat} {zs:List Int} {B:Nat} (h:IntBlk w g zs) (hb:Below B w w') (hg:g<B):IntBlk w' g zs:=(hb.block g hg).trans h
theorem IntBlk.ints {w:World} {g:Nat} {zs:List Int} (h:IntBlk w g zs):Ints w (some ⟨g,0,none⟩) zs.length zs:=
 ⟨rfl,fun _=>⟨g,0,rfl,h.lt,fun i hi=>by
  rw [cell_of_row w g (0+i) _ _ _ h]
  simp [List.getD,hi]⟩⟩
theorem take_all {p:Int→Bool} {zs:List Int} {k:Nat} {x:Int} (h:zs[k]? = some x) (h1:(zs.take k).all p=true) (hx:p x=true):(zs.take (k+1)).all p=true:=by
 rw [List.take_add_one,h]
 simp [h1,hx]
theorem all_no {p:Int→Bool} {zs:List Int} {k:Nat} {x:Int} (h:zs[k]? = some x) (hx:p x=false):zs.all p=false:=by
 rw [List.all_eq_false]
 exact ⟨x,List.mem_of_getElem? h,by simp [hx]⟩
theorem all_end {p:Int→Bool} {zs:List Int} {k:Nat} (hk:zs.length≤k) (h1:(zs.take k).all p=true):zs.all p=true:=by
 rwa [List.take_of_length_le hk] at h1
def okDeg (x:Int):Bool:=decide (1≤x∧x≤12)
def degsOk (zs:List Int):Bool:=zs.all okDeg && decide (zs.length≤8)
theorem okDeg_no {x:Int} (h:¬(1≤x∧x≤12)):okDeg x=false:=by simp [okDeg];omega
theorem okDeg_yes {x:Int} (h1:1≤x) (h2:x≤12):okDeg x=true:=by simp [okDeg];omega
theorem degsOk_no {zs:List Int} {k:Nat} {x:Int} (h:zs[k]? = some x) (hx:¬(1≤x∧x≤12)):degsOk zs=false:=by
 rw [degsOk,all_no h (okDeg_no hx)];rfl
theorem degsOk_end {zs:List Int} {k:Nat} (hk:zs.length≤k) (h1:(zs.take k).all okDeg=true):degsOk zs=decide (zs.length≤8):=by
 rw [degsOk,all_end hk h1];rfl
theorem l01Degrees_c {w : World} {a : Option Addr} {n : Nat} {zs : List Int} (c : Nat) (h : Ints w a n zs) (hn : n ≤ 1048576) :
    Calls Tryz.prog 83 #[.slice a n c] w fun e w'=>e=.returned (.bool (degsOk zs))∧w=w':=by
 have hl:=h.len
 have HL:=Lib.hid hl
 clear hl
 go_enter Tryz.func83,Tryz.ntmps83
 go_wp2
 go_loop [3] (fun i=>∃k:Nat,k≤n∧i=.int .i64 k∧Hid ((zs.take k).all okDeg=true)) (fun i=>n - (intOf i).toNat)
 case atStart=>exact ⟨0,Nat.zero_le _,rfl,rfl⟩
 case round=>
  obtain ⟨k,hk,rfl,H⟩:=hrel;by_cases hlt:k<n
  · obtain ⟨b,off,x,rfl,hb,hc,hx⟩:=h.at_ hlt;by_cases hg:1≤x∧x≤12
    · have hd:decide (1≤x∧x≤12)=true:=(by simpa using hg);go_wp2_with (go_at_call 54;refine (l01In_c _ _ _ _).mono ?_;rintro e w' ⟨rfl,rfl⟩)
      go_round
      case rel=>exact ⟨k+1,by omega,by go_num,take_all hx.out H.out (okDeg_yes hg.1 hg.2)⟩
      case measure=>simp [intOf];omega
    · have hd:decide (1≤x∧x≤12)=false:=(by simpa using hg);go_wp2_with (go_at_call 54;refine (l01In_c _ _ _ _).mono ?_;rintro e w' ⟨rfl,rfl⟩)
      go_ret
      exact ⟨ret_b (degsOk_no hx.out hg).symm,rfl⟩
  · go_wp2
    go_ret
    refine ⟨ret_b ?_,rfl⟩;rw [degsOk_end (by have:=HL.out;omega) H.out,HL.out];simp only [decide_eq_decide];omega
theorem AreDegrees_c {w : World} {a : Option Addr} {n : Nat} {zs : List Int} (c : Nat) (h : Ints w a n zs) (hn : n ≤ 1048576) :
    Calls Tryz.prog 89 #[.slice a n c] w fun e w'=>e=.returned (.bool (degsOk zs))∧w=w':=by
 have hl:=h.len
 have HL:=Lib.hid hl
 clear hl
 go_enter Tryz.func89,Tryz.ntmps89
 go_wp2
 go_loop [7] (fun i=>∃k:Nat,k≤n∧i=.int .i64 k∧Hid ((zs.take k).all okDeg=true)) (fun i=>n - (intOf i).toNat)
 case atStart=>exact ⟨0,Nat.zero_le _,rfl,rfl⟩
 case round=>
  obtain ⟨k,hk,rfl,H⟩:=hrel;by_cases hlt:k<n
  · obtain ⟨b,off,x,rfl,hb,hc,hx⟩:=h.at_ hlt;by_cases h1:1≤x
    · by_cases h2:x≤12
      · go_wp2
        go_round
        case rel=>exact ⟨k+1,by omega,by go_num,take_all hx.out H.out (okDeg_yes h1 h2)⟩
        case measure=>simp [intOf];omega
      · go_wp2
        go_ret
        exact ⟨ret_b (degsOk_no hx.out (by omega)).symm,rfl⟩
    · go_wp2
      go_ret
      exact ⟨ret_b (degsOk_no hx.out (by omega)).symm,rfl⟩
  · go_wp2
    go_ret
    refine ⟨ret_b ?_,rfl⟩;rw [degsOk_end (by have:=HL.out;omega) H.out,HL.out];simp only [decide_eq_decide];omega
theorem take_eq {xs ys:List Int} {k:Nat} {x:Int} (hx:xs[k]? = some x) (hy:ys[k]? = some x) (h:xs.take k=ys.take k):xs.take (k+1)=ys.take (k+1):=by
 rw [List.take_add_one,List.take_add_one,h,hx,hy]
theorem eq_no {xs ys:List Int} {k:Nat} {x y:Int} (hx:xs[k]? = some x) (hy:ys[k]? = some y) (h:x≠y):decide (xs=ys)=false:=by
 simp only [decide_eq_false_iff_not]
 rintro rfl
 rw [hx] at hy
 exact h (by injection hy)
theorem eq_end {xs ys:List Int} {k:Nat} (h1:xs.length≤k) (h2:ys.length≤k) (h:xs.take k=ys.take k):decide (xs=ys)=true:=by
 rw [List.take_of_length_le h1,List.take_of_length_le h2] at h
 simp [h]
theorem eq_len {xs ys:List Int} (h:xs.length≠ys.length):decide (xs=ys)=false:=by
 simp only [decide_eq_false_iff_not]
 rintro rfl
 exact h rfl
theorem eqInt64S_c {w : World} {a a' : Option Addr} {n n' : Nat} {xs ys : List Int} (c c' : Nat) (h : Ints w a n xs) (h' : Ints w a' n' ys) (hn : n ≤ 1048576) (hn' : n' ≤ 1048576) :
    Calls Tryz.prog 39 #[.slice a n c,.slice a' n' c'] w fun e w'=>e=.returned (.bool (decide (xs=ys)))∧∃m,w'=w.drewN m:=by
 have hl:=h.len
 have hl':=h'.len
 have HL:=Lib.hid hl
 have HL':=Lib.hid hl'
 clear hl hl'
 by_cases hne:n=n'
 · subst hne;go_enter Tryz.func39,Tryz.ntmps39
   go_wp2
   go_loopw [5] (fun i wr=>∃k m:Nat,k≤n∧i=.int .i64 k∧wr=w.drewN m∧Hid (xs.take k=ys.take k)) (fun i _=>n - (intOf i).toNat)
   case atStart=>exact ⟨0,0,Nat.zero_le _,rfl,rfl,rfl⟩
   case round=>
    obtain ⟨k,m,hk,rfl,rfl,H⟩:=hrel;by_cases hlt:k<n
    · obtain ⟨b,off,x,rfl,hb,hc,hx⟩:=h.at_ hlt;obtain ⟨b',off',y,rfl,hb',hc',hy⟩:=h'.at_ hlt;by_cases hxy:x=y
      · subst hxy
        go_wp2
        go_quiet (fail)
        go_wp2
        go_roundw
        case rel=>exact ⟨k+1,_,by omega,by go_num,rfl,take_eq hx.out hy.out H.out⟩
        case measure=>simp [intOf];omega
      · have hq:(x==y)=false:=(by simpa using hxy);have hq':(x != y)=true:=by simpa using hxy
        go_wp2
        go_quiet (fail)
        go_wp2
        go_ret
        exact ⟨ret_b (eq_no hx.out hy.out hxy).symm,_,World.drewN_drewN ..⟩
    · go_wp2
      go_ret
      exact ⟨ret_b (eq_end (by have:=HL.out;omega) (by have:=HL'.out;omega) H.out).symm,_,rfl⟩
 · have hq:((n:Int)==(n':Int))=false:=(by simp;omega);have hq':((n:Int) != (n':Int))=true:=(by simp;omega);go_enter Tryz.func39,Tryz.ntmps39
   go_wp2
   go_ret
   exact ⟨ret_b (eq_len (by rw [HL.out,HL'.out];exact hne)).symm,0,rfl⟩
theorem Tryz.info_int64:(Tryz.prog.info? 2).map (fun i=>(i.zero,i.size,i.bytes))=some (some (.int .i64 0),1,8):=by kernel_rfl
def copyRow (zs:List Int) (n k:Nat):Array Value:=(((zs.take k).map (Value.int .i64))++List.replicate (n - k) (Value.int .i64 0)).toArray
theorem copyRow_zero (zs:List Int) (n:Nat):madeCells #[Value.int .i64 0] n=copyRow zs n 0:=by
 apply Array.ext'
 rw [toList_madeCells_one]
 simp [copyRow]
theorem copyRow_step {zs:List Int} {n k:Nat} {x:Int} (hk:k<n) (hx:zs[k]? = some x):(copyRow zs n k).setIfInBounds k (.int .i64 x)=copyRow zs n (k+1):=by
 have hlt:k<zs.length:=(List.getElem?_eq_some_iff.1 hx).1
 apply Array.ext'
 simp only [copyRow,Array.toList_setIfInBounds]
 have hlen:((zs.take k).map (Value.int .i64)).length=k:=by simp;omega
 rw [List.set_append_right _ _ (by rw [hlen];exact Nat.le_refl _),hlen,Nat.sub_self,List.take_add_one,hx]
 obtain ⟨r,hr⟩:∃r,n - k=r+1:=⟨n - k - 1,by omega⟩
 rw [hr,show n - (k+1)=r by omega]
 simp [List.replicate_succ]
theorem copyRow_end {zs:List Int} {n:Nat} (h:zs.length=n):copyRow zs n n=((zs.map (Value.int .i64)).toArray):=by
 simp [copyRow,←h]
theorem copyRow_size {zs:List Int} {n k:Nat} (h:zs.length=n) (hk:k≤n):(copyRow zs n k).size=n:=by
 simp [copyRow];omega
theorem toInt64S_c {w : World} {a : Option Addr} {n : Nat} {zs : List Int} (c : Nat) (h : Ints w a n zs) (hn : n ≤ 1048576) :
    Calls Tryz.prog 34 #[.slice a n c] w fun e w'=>e=.returned (.slice (some ⟨w.heap.size,0,none⟩) n n)∧w'=w.alloc (.cells ((zs.map (Value.int .i64)).toArray) 2):=by
 have hl:=h.len
 have HL:=Lib.hid hl
 clear hl
 have hmk:=run_make_row' (P:=Tryz.prog) 22 2 (.int .i64 0) 8 Tryz.underlying22 Tryz.info_int64 rfl .i64 .i64 n (by omega) (by omega)
 rw [copyRow_zero zs n] at hmk
 go_enter Tryz.func34,Tryz.ntmps34
 go_wp2
 go_loopw [4] (fun i wr=>∃k:Nat,k≤n∧i=.int .i64 k∧wr=w.alloc (.cells (copyRow zs n k) 2)) (fun i _=>n - (intOf i).toNat)
 case atStart=>exact ⟨0,Nat.zero_le _,rfl,rfl⟩
 case round=>
  obtain ⟨k,hk,rfl,rfl⟩:=hrel;by_cases hlt:k<n
  · obtain ⟨b,off,x,rfl,hb,hc,hx⟩:=h.at_ hlt;have hst:=copyRow_step hlt hx.out;have hsz:=copyRow_size HL.out (Nat.le_of_lt hlt);have HS:=Lib.hid hst;clear hst
    go_wp2
    go_roundw
    case rel=>exact ⟨k+1,by omega,by go_num,by rw [HS.out]⟩
    case measure=>simp [intOf];omega
  · have he:k=n:=(by omega);subst he
    go_wp2
    go_ret
    exact ⟨rfl,by rw [copyRow_end HL.out]⟩
theorem toInt64S_b {w : World} {a : Option Addr} {n : Nat} {zs : List Int} (c : Nat) (h : Ints w a n zs) (hn : n ≤ 1048576) :
    Calls Tryz.prog 34 #[.slice a n c] w fun e w'=>∃g,e=.returned (.slice (some ⟨g,0,none⟩) n n)∧w.heap.size≤g∧IntBlk w' g zs∧Below w.heap.size w w':=by
 refine (toInt64S_c c h hn).mono ?_
 rintro e w' ⟨rfl,rfl⟩
 exact ⟨_,rfl,Nat.le_refl _,heap_alloc_new w _,(Below.refl _ _).alloc (Nat.le_refl _) _⟩
theorem IntBlk.ints' {w:World} {g n:Nat} {zs:List Int} (h:IntBlk w g zs) (hn:zs.length=n):Ints w (some ⟨g,0,none⟩) n zs:=hn ▸ h.ints
end Go.Proofs.YtdppjlndcacfnaaGreat
