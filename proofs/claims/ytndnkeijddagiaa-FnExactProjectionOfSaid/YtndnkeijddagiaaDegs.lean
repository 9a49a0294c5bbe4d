
import Derived.Test.YtndnkeijddagiaaNum
import Derived.Test.YtndnkeijddagiaaBase
import Derived.WalkKit
import Derived.WalkLawsBesides
import Derived.WalkSpells
import Derived.Lib.Hide
import Derived.Deep.QuietTactic
import Derived.BigQuiet
import Derived.Deep.Draws
import Derived.Deep.OwnRows
namespace Go.Proofs.Ytndnkeijddagiaa
open Go.RowKit
def Ints (w:World) (a:Option Addr) (n:Nat) (zs:List Int):Prop:=
 zs.length=n∧(0<n→∃b off,a=some ⟨b,off,none⟩∧b<w.heap.size∧∀i,i<n→w.cell? ⟨b,off+i,none⟩=some (.int .i64 (zs.getD i 0)))
theorem Ints.len {w:World} {a:Option Addr} {n:Nat} {zs:List Int} (h:Ints w a n zs):zs.length=n:=h.1
theorem Ints.keep {w w':World} {a:Option Addr} {n:Nat} {zs:List Int} (h:Ints w a n zs) (hb:Below w.heap.size w w'):Ints w' a n zs:=
 ⟨h.1,fun hn=>by
  obtain ⟨b,off,ha,hlt,hc⟩:=h.2 hn
  exact ⟨b,off,ha,Nat.lt_of_lt_of_le hlt hb.size,fun i hi=>(hb.cell (p:=⟨b,off+i,none⟩) hlt).trans (hc i hi)⟩⟩
theorem Ints.drewN {w:World} {a:Option Addr} {n:Nat} {zs:List Int} (h:Ints w a n zs) (k:Nat):Ints (w.drewN k) a n zs:=h
theorem getD_of {zs:List Int} {k:Nat} (h:k<zs.length):zs[k]? = some (zs.getD k 0):=by
 simp [List.getD,h]
theorem Ints.at_ {w : World} {a : Option Addr} {n : Nat} {zs : List Int} (h : Ints w a n zs) {k : Nat} (hk : k < n) :
    ∃b off x,a=some ⟨b,off,none⟩∧b<w.heap.size∧w.cell? ⟨b,off+k,none⟩=some (.int .i64 x)∧Hid (zs[k]? = some x):=by
 obtain ⟨b,off,ha,hlt,hc⟩:=h.2 (by omega)
 exact ⟨b,off,_,ha,hlt,hc k hk,getD_of (by have:=h.1;omega)⟩
def IntBlk (w:World) (g:Nat) (zs:List Int):Prop:=Own w g 2 ((zs.map (Value.int .i64)).toArray)
theorem IntBlk.lt {w:World} {g:Nat} {zs:List Int} (h:IntBlk w g zs):g<w.heap.size:=(Array.getElem?_eq_some_iff.1 h).1
theorem IntBlk.keep {w w':World} {g:Nat} {zs:List Int} {B:Nat} (h:IntBlk w g zs) (hb:Below B w w') (hg:g<B):IntBlk w' g zs:=(hb.block g hg).trans h
theorem IntBlk.ints {w:World} {g:Nat} {zs:List Int} (h:IntBlk w g zs):Ints w (some ⟨g,0,none⟩) zs.length zs:=
 ⟨rfl,fun _=>⟨g,0,rfl,h.lt,fun i hi=>by
  rw [cell_of_row w g (0+i) _ _ _ h]
  simp [List.getD,hi]⟩⟩
theorem take_all {p:Int→Bool} {zs:List Int} {k:Nat} {x:Int} (h:zs[k]? = some x) (h1:(zs.take k).all p=true) (hx:p x=true):(zs.take (k+1)).all p=true:=by
 rw [List.take_add_one,h]
 simp [h1,hx]
theorem all_no {p:Int→Bool} {zs:List Int} {k:Nat} {x:Int} (h:zs[k]? = some x) (hx:p x=false):zs.all p=false:=by
 rw [List.all_eq_false]
 exact ⟨x,List.mem_of_getElem? h,by simp [hx]⟩
theorem all_end {p:Int→Bool} {zs:List Int} {k:Nat} (hk:zs.length≤k) (h1:(zs.take k).all p=true):zs.all p=true:=by
 rwa [List.take_of_length_le hk] at h1
def okDeg (x:Int):Bool:=decide (1≤x∧x≤12)
def degsOk (zs:List Int):Bool:=zs.all okDeg && decide (zs.length≤8)
theorem okDeg_no {x:Int} (h:¬(1≤x∧x≤12)):okDeg x=false:=by simp [okDeg];omega
theorem okDeg_yes {x:Int} (h1:1≤x) (h2:x≤12):okDeg x=true:=by simp [okDeg];omega
theorem degsOk_no {zs:List Int} {k:Nat} {x:Int} (h:zs[k]? = some x) (hx:¬(1≤x∧x≤12)):degsOk zs=false:=by
 rw [degsOk,all_no h (okDeg_no hx)];rfl
theorem degsOk_end {zs:List Int} {k:Nat} (hk:zs.length≤k) (h1:(zs.take k).all okDeg=true):degsOk zs=decide (zs.length≤8):=by
 rw [degsOk,all_end hk h1];rfl
theorem l01Degrees_c {w : World} {a : Option Addr} {n : Nat} {zs : List Int} (c : Nat) (h : Ints w a n zs) (hn : n ≤ 1048576) :
    Calls Try.prog 103 #[.slice a n c] w fun e w'=>e=.returned (.bool (degsOk zs))∧w=w':=by
 have hl:=h.len
 have HL:=Lib.hid hl
 clear hl
 go_enter Try.func103,Try.ntmps103
 go_wp2
 go_loop [3] (fun i=>∃k:Nat,k≤n∧i=.int .i64 k∧Hid ((zs.take k).all okDeg=true)) (fun i=>n - (intOf i).toNat)
 case atStart=>exact ⟨0,Nat.zero_le _,rfl,rfl⟩
 case round=>
  obtain ⟨k,hk,rfl,H⟩:=hrel;by_cases hlt:k<n
  · obtain ⟨b,off,x,rfl,hb,hc,hx⟩:=h.at_ hlt;by_cases hg:1≤x∧x≤12
    · have hd:decide (1≤x∧x≤12)=true:=(by simpa using hg);go_wp2_with (go_at_call 70;refine (l01In_c _ _ _ _).mono ?_;rintro e w' ⟨rfl,rfl⟩)
      go_round
      case rel=>exact ⟨k+1,by omega,by go_num,take_all hx.out H.out (okDeg_yes hg.1 hg.2)⟩
      case measure=>simp [intOf];omega
    · have hd:decide (1≤x∧x≤12)=false:=(by simpa using hg);go_wp2_with (go_at_call 70;refine (l01In_c _ _ _ _).mono ?_;rintro e w' ⟨rfl,rfl⟩)
      go_ret
      exact ⟨ret_b (degsOk_no hx.out hg).symm,rfl⟩
  · go_wp2
    go_ret
    refine ⟨ret_b ?_,rfl⟩;rw [degsOk_end (by have:=HL.out;omega) H.out,HL.out];simp only [decide_eq_decide];omega
theorem AreDegrees_c {w : World} {a : Option Addr} {n : Nat} {zs : List Int} (c : Nat) (h : Ints w a n zs) (hn : n ≤ 1048576) :
    Calls Try.prog 105 #[.slice a n c] w fun e w'=>e=.returned (.bool (degsOk zs))∧w=w':=by
 have hl:=h.len
 have HL:=Lib.hid hl
 clear hl
 go_enter Try.func105,Try.ntmps105
 go_wp2
 go_loop [7] (fun i=>∃k:Nat,k≤n∧i=.int .i64 k∧Hid ((zs.take k).all okDeg=true)) (fun i=>n - (intOf i).toNat)
 case atStart=>exact ⟨0,Nat.zero_le _,rfl,rfl⟩
 case round=>
  obtain ⟨k,hk,rfl,H⟩:=hrel;by_cases hlt:k<n
  · obtain ⟨b,off,x,rfl,hb,hc,hx⟩:=h.at_ hlt;by_cases h1:1≤x
    · by_cases h2:x≤12
      · go_wp2
        go_round
        case rel=>exact ⟨k+1,by omega,by go_num,take_all hx.out H.out (okDeg_yes h1 h2)⟩
        case measure=>simp [intOf];omega
      · go_wp2
        go_ret
        exact ⟨ret_b (degsOk_no hx.out (by omega)).symm,rfl⟩
    · go_wp2
      go_ret
      exact ⟨ret_b (degsOk_no hx.out (by omega)).symm,rfl⟩
  · go_wp2
    go_ret
    refine ⟨ret_b ?_,rfl⟩;rw [degsOk_end (by have:=HL.out;omega) H.out,HL.out];simp only [decide_eq_decide];omega
theorem take_eq {xs ys:List Int} {k:Nat} {x:Int} (hx:xs[k]? = some x) (hy:ys[k]? = some x) (h:xs.take k=ys.take k):xs.take (k+1)=ys.take (k+1):=by
 rw [List.take_add_one,List.take_add_one,h,hx,hy]
theorem eq_no {xs ys:List Int} {k:Nat} {x y:Int} (hx:xs[k]? = some x) (hy:ys[k]? = some y) (h:x≠y):decide (xs=ys)=false:=by
 simp only [decide_eq_false_iff_not]
 rintro rfl
 rw [hx] at hy
 exact h (by injection hy)
theorem eq_end {xs ys:List Int} {k:Nat} (h1:xs.length≤k) (h2:ys.length≤k) (h:xs.take k=ys.take k):decide (xs=ys)=true:=by
 rw [List.take_of_length_le h1,List.take_of_length_le h2] at h
 simp [h]
theorem eq_len {xs ys:List Int} (h:xs.length≠ys.length):decide (xs=ys)=false:=by
 simp only [decide_eq_false_iff_not]
 rintro rfl
 exact h rfl
theorem eqInt64S_c {w : World} {a a' : Option Addr} {n n' : Nat} {xs ys : List Int} (c c' : Nat) (h : Ints w a n xs) (h' : Ints w a' n' ys) (hn : n ≤ 1048576) (hn' : n' ≤ 1048576) :
    Calls Try.prog 46 #[.slice a n c,.slice a' n' c'] w fun e w'=>e=.returned (.bool (decide (xs=ys)))∧∃m,w'=w.drewN m:=by
 have hl:=h.len
 have hl':=h'.len
 have HL:=Lib.hid hl
 have HL':=Lib.hid hl'
 clear hl hl'
 by_cases hne:n=n'
 · subst hne;go_enter Try.func46,Try.ntmps46
   go_wp2
   go_loopw [5] (fun i wr=>∃k m:Nat,k≤n∧i=.int .i64 k∧wr=w.drewN m∧Hid (xs.take k=ys.take k)) (fun i _=>n - (intOf i).toNat)
   case atStart=>exact ⟨0,0,Nat.zero_le _,rfl,rfl,rfl⟩
   case round=>
    obtain ⟨k,m,hk,rfl,rfl,H⟩:=hrel;by_cases hlt:k<n
    · obtain ⟨b,off,x,rfl,hb,hc,hx⟩:=h.at_ hlt;obtain ⟨b',off',y,rfl,hb',hc',hy⟩:=h'.at_ hlt;by_cases hxy:x=y
      · subst hxy
        go_wp2
        go_quiet (fail)
        go_wp2
        go_roundw
        case rel=>exact ⟨k+1,_,by omega,by go_num,rfl,take_eq hx.out hy.out H.out⟩
        case measure=>simp [intOf];omega
      · have hq:(x==y)=false:=(by simpa using hxy);have hq':(x != y)=true:=by simpa using hxy
        go_wp2
        go_quiet (fail)
        go_wp2
        go_ret
        exact ⟨ret_b (eq_no hx.out hy.out hxy).symm,_,World.drewN_drewN ..⟩
    · go_wp2
      go_ret
      exact ⟨ret_b (eq_end (by have:=HL.out;omega) (by have:=HL'.out;omega) H.out).symm,_,rfl⟩
 · have hq:((n:Int)==(n':Int))=false:=(by simp;omega);have hq':((n:Int) != (n':Int))=true:=(by simp;omega);go_enter Try.func46,Try.ntmps46
   go_wp2
   go_ret
   exact ⟨ret_b (eq_len (by rw [HL.out,HL'.out];exact hne)).symm,0,rfl⟩
theorem Try.info_int64:(Try.prog.info? 2).map (fun i=>(i.zero,i.size,i.bytes))=some (some (.int .i64 0),1,8):=by kernel_rfl
def copyRow (zs:List Int) (n k:Nat):Array Value:=(((zs.take k).map (Value.int .i64))++List.replicate (n - k) (Value.int .i64 0)).toArray
theorem copyRow_zero (zs:List Int) (n:Nat):madeCells #[Value.int .i64 0] n=copyRow zs n 0:=by
 apply Array.ext'
 rw [toList_madeCells_one]
 simp [copyRow]
theorem copyRow_step {zs:List Int} {n k:Nat} {x:Int} (hk:k<n) (hx:zs[k]? = some x):(copyRow zs n k).setIfInBounds k (.int .i64 x)=copyRow zs n (k+1):=by
 have hlt:k<zs.length:=(List.getElem?_eq_some_iff.1 hx).1
 apply Array.ext'
 simp only [copyRow,Array.toList_setIfInBounds]
 have hlen:((zs.take k).map (Value.int .i64)).length=k:=by simp;omega
 rw [List.set_append_right _ _ (by rw [hlen];exact Nat.le_refl _),hlen,Nat.sub_self,List.take_add_one,hx]
 obtain ⟨r,hr⟩:∃r,n - k=r+1:=⟨n - k - 1,by omega⟩
 rw [hr,show n - (k+1)=r by omega]
 simp [List.replicate_succ]
theorem copyRow_end {zs:List Int} {n:Nat} (h:zs.length=n):copyRow zs n n=((zs.map (Value.int .i64)).toArray):=by
 simp [copyRow,←h]
theorem copyRow_size {zs:List Int} {n k:Nat} (h:zs.length=n) (hk:k≤n):(copyRow zs n k).size=n:=by
 simp [copyRow];omega
theorem toInt64S_c {w : World} {a : Option Addr} {n : Nat} {zs : List Int} (c : Nat) (h : Ints w a n zs) (hn : n ≤ 1048576) :
    Calls Try.prog 55 #[.slice a n c] w fun e w'=>e=.returned (.slice (some ⟨w.heap.size,0,none⟩) n n)∧w'=w.alloc (.cells ((zs.map (Value.int .i64)).toArray) 2):=by
 have hl:=h.len
 have HL:=Lib.hid hl
 clear hl
 have hmk:=run_make_row' (P:=Try.prog) 22 2 (.int .i64 0) 8 Try.underlying22 Try.info_int64 rfl .i64 .i64 n (by omega) (by omega)
 rw [copyRow_zero zs n] at hmk
 go_enter Try.func55,Try.ntmps55
 go_wp2
 go_loopw [4] (fun i wr=>∃k:Nat,k≤n∧i=.int .i64 k∧wr=w.alloc (.cells (copyRow zs n k) 2)) (fun i _=>n - (intOf i).toNat)
 case atStart=>exact ⟨0,Nat.zero_le _,rfl,rfl⟩
 case round=>
  obtain ⟨k,hk,rfl,rfl⟩:=hrel;by_cases hlt:k<n
  · obtain ⟨b,off,x,rfl,hb,hc,hx⟩:=h.at_ hlt;have hst:=copyRow_step hlt hx.out;have hsz:=copyRow_size HL.out (Nat.le_of_lt hlt);have HS:=Lib.hid hst;clear hst
    go_wp2
    go_roundw
    case rel=>exact ⟨k+1,by omega,by go_num,by rw [HS.out]⟩
    case measure=>simp [intOf];omega
  · have he:k=n:=(by omega);subst he
    go_wp2
    go_ret
    exact ⟨rfl,by rw [copyRow_end HL.out]⟩
theorem toInt64S_b {w : World} {a : Option Addr} {n : Nat} {zs : List Int} (c : Nat) (h : Ints w a n zs) (hn : n ≤ 1048576) :
    Calls Try.prog 55 #[.slice a n c] w fun e w'=>∃g,e=.returned (.slice (some ⟨g,0,none⟩) n n)∧w.heap.size≤g∧IntBlk w' g zs∧Below w.heap.size w w':=by
 refine (toInt64S_c c h hn).mono ?_
 rintro e w' ⟨rfl,rfl⟩
 exact ⟨_,rfl,Nat.le_refl _,heap_alloc_new w _,(Below.refl _ _).alloc (Nat.le_refl _) _⟩
theorem IntBlk.ints' {w:World} {g n:Nat} {zs:List Int} (h:IntBlk w g zs) (hn:zs.length=n):Ints w (some ⟨g,0,none⟩) n zs:=hn ▸ h.ints
end Go.Proofs.Ytndnkeijddagiaa
