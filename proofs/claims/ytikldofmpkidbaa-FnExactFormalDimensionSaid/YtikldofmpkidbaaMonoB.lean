
import Derived.Test.YtikldofmpkidbaaOpen
import Derived.Deep.WholeRow
namespace Go.Proofs.Ytikldofmpkidbaa
set_option maxRecDepth 100000
open Go.RowKit Go.Deep
def odd (x:Int):Bool:=decide (x % 2≠0)
theorem odd_tmod (x:Int):x.tmod 2=0↔x % 2=0:=by
 have h:=Int.tmod_eq_emod (a:=x) (b:=2)
 rw [h]
 split
 · omega
 · rename_i h1;have:¬(2:Int) ∣ x:=fun hd=>h1 (Or.inr hd);simp
   omega
theorem odd_bne (x:Int):(x.tmod 2 != 0)=odd x:=by
 unfold odd
 by_cases h:x % 2=0
 · have:=(odd_tmod x).2 h;simp [this,h]
 · have:x.tmod 2≠0:=fun e=>h ((odd_tmod x).1 e);simp [this,h]
theorem odd_beq (x:Int):(x.tmod 2==0)=!odd x:=by
 rw [←odd_bne];simp [bne]
def capAt (zs:List Int) (i:Nat):Int:=match zs[i]? with | some x=>if odd x then 1 else 20 | none=>0
def fits (zs m:List Int) (i:Nat):Bool:=decide (m.getD i 0≤capAt zs i)
def monoOk (zs m:List Int):Bool:=(List.range 8).all (fits zs m)
theorem range_all_step {p:Nat→Bool} {k:Nat} (h:(List.range k).all p=true) (hk:p k=true):(List.range (k+1)).all p=true:=by
 rw [List.range_succ,List.all_append,h];simp [hk]
theorem range_all_no {p:Nat→Bool} {k n:Nat} (hk:k<n) (h:p k=false):(List.range n).all p=false:=by
 rw [List.all_eq_false]
 exact ⟨k,by simpa using hk,by simp [h]⟩
theorem mono_at {m:List Int} (h:IsMono m) {k:Nat} (hk:k<8):∃y,0≤y∧y≤255∧(mcells m)[k]? = some (.int .u8 y)∧Hid (m[k]? = some y):=by
 have hl:k<m.length:=by rw [h.1];exact hk
 have:=h.2 m[k] (List.getElem_mem hl)
 exact ⟨m[k],this.1,this.2,by simp [mcells,hl],List.getElem?_eq_getElem hl⟩
theorem fits_in {zs m:List Int} {k:Nat} {x y:Int} (hx:zs[k]? = some x) (hy:m[k]? = some y):fits zs m k=decide (y≤if odd x then 1 else 20):=by
 simp [fits,capAt,hx,List.getD,hy]
theorem fits_out {zs m:List Int} {k:Nat} {y:Int} (hx:zs.length≤k) (hy:m[k]? = some y):fits zs m k=decide (y≤0):=by
 simp [fits,capAt,List.getElem?_eq_none hx,List.getD,hy]
theorem l01Mono_c {w : World} {a : Option Addr} {n : Nat} {zs m : List Int} (c : Nat) (h : Ints w a n zs) (_hn : n ≤ 1048576) (hm : IsMono m) :
    Calls Try.prog 118 #[.slice a n c,monoV m] w fun e w'=>e=.returned (.bool (monoOk zs m))∧Below w.heap.size w w':=by
 have hl:=h.len
 have HL:=Lib.hid hl
 clear hl
 unfold monoV
 go_enter Try.func118,Try.ntmps118
 go_wp2
 go_loop [5] (fun i=>∃k:Nat,k≤8∧i=.int .i64 k∧Hid ((List.range k).all (fits zs m)=true)) (fun i=>8 - (intOf i).toNat)
 case atStart=>exact ⟨0,Nat.zero_le _,rfl,rfl⟩
 case round=>
  obtain ⟨k,hk,rfl,H⟩:=hrel;by_cases hlt:k<8
  · obtain ⟨y,hy0,hy1,hy,HY⟩:=mono_at hm hlt;by_cases hkn:k<n
    · obtain ⟨b,off,x,rfl,hb,hc,hx⟩:=h.at_ hkn;by_cases h20:20<y
      · go_wp2
        go_ret
        exact ⟨ret_b (range_all_no hlt (by rw [fits_in hx.out HY.out];simp only [decide_eq_false_iff_not];split <;> omega)).symm,(Below.refl _ _).alloc (Nat.le_refl _) _⟩
      · cases ho:odd x with
        | true =>
          have hq:(x.tmod 2 != 0)=true:=(by rw [odd_bne];exact ho);have hq2:¬x.tmod 2=0:=(by simpa using hq);have HO:=Lib.hid ho;clear ho;by_cases h1:1<y
          · go_wp2
            go_ret
            exact ⟨ret_b (range_all_no hlt (by rw [fits_in hx.out HY.out,HO.out];simp only [decide_eq_false_iff_not,if_true];omega)).symm,(Below.refl _ _).alloc (Nat.le_refl _) _⟩
          · go_wp2
            go_round
            case rel=>exact ⟨k+1,by omega,by go_num,range_all_step H.out (by rw [fits_in hx.out HY.out,HO.out];simp only [decide_eq_true_eq,if_true];omega)⟩
            case measure=>simp [intOf];omega
        | false =>
          have hq2:x.tmod 2=0:=by
           have:(x.tmod 2 != 0)=false:=(by rw [odd_bne];exact ho);simpa using this
          have HO:=Lib.hid ho;clear ho
          go_wp2
          go_round
          case rel=>exact ⟨k+1,by omega,by go_num,range_all_step H.out (by rw [fits_in hx.out HY.out,HO.out];simp only [decide_eq_true_eq];rw [if_neg (by simp)];omega)⟩
          case measure=>simp [intOf];omega
    · by_cases h0:y=0
      · have hq:(y==0)=true:=(by simp [h0]);have hq':(y != 0)=false:=(by simp [h0]);have H0:=Lib.hid h0;clear h0
        go_wp2
        go_round
        case rel=>exact ⟨k+1,by omega,by go_num,range_all_step H.out (by rw [fits_out (by have:=HL.out;omega) HY.out];have:=H0.out;simp only [decide_eq_true_eq];omega)⟩
        case measure=>simp [intOf];omega
      · have hq:(y==0)=false:=(by simp [h0]);have hq':(y != 0)=true:=by simp [h0]
        go_wp2
        go_ret
        exact ⟨ret_b (range_all_no hlt (by rw [fits_out (by have:=HL.out;omega) HY.out];simp only [decide_eq_false_iff_not];omega)).symm,(Below.refl _ _).alloc (Nat.le_refl _) _⟩
  · go_wp2
    go_ret
    have:k=8:=(by omega);subst this;exact ⟨ret_b H.out.symm,(Below.refl _ _).alloc (Nat.le_refl _) _⟩
theorem Try.info_mono:(Try.prog.info? 86).map (·.size)=some 8:=by kernel_rfl
theorem Try.info_u8:(Try.prog.info? 5).map (·.size)=some 1:=by kernel_rfl
theorem msize {m:List Int} (h:IsMono m):(mcells m).toArray.size=8:=by simp [mcells,h.1]
theorem run_index_one {P : Program} {t e : TypeId} {n : Nat} {cs : Array Value} {i : Nat} {v : Value} (h : P.underlying t = some (.array n e)) (hs : (P.info? e).map (·.size) = some 1) (hi : i < n) (hv : cs[i]? = some v)
    (hagg:∀w,(isAgg e).run P w=.ok false w) (w:World):(Instr.index t (.agg cs) (.int .i64 i)).run P w=.ok v w:=by
 have h1:(0:Int)≤(i:Int)∧(i:Int)<(n:Int):=by omega
 cases hq:P.info? e with
 | none=>simp [hq] at hs
 | some j =>
   have hs':j.size=1:=(by simpa [hq] using hs);simp [Instr.index,run_underlying h,asIntOf,h1,go_sem,sizeOf,typeInfo,hq,hs']
   rw [if_pos hi,hagg w];simp [Result.andThen,hv]
theorem Try.isAgg_u8 (w:World):(isAgg 5).run Try.prog w=.ok false w:=by kernel_rfl
theorem isOdd_c (x:Int) (w:World):Calls Try.prog 97 #[.int .i64 x] w fun e w'=>e=.returned (.bool (odd x))∧w=w':=by
 go_enter Try.func97,Try.ntmps97
 go_wp2
 go_ret
 exact ⟨ret_b (odd_bne x),rfl⟩
theorem greatestExponent_c {w : World} {a : Option Addr} {n : Nat} {zs : List Int} (c k : Nat) (h : Ints w a n zs) (_hn : n ≤ 1048576) (_hk : k ≤ 1048576) :
    Calls Try.prog 128 #[.slice a n c,.int .i64 k] w fun e w'=>e=.returned (.int .u8 (capAt zs k))∧w=w':=by
 have hl:=h.len
 have HL:=Lib.hid hl
 clear hl
 by_cases hkn:k<n
 · obtain ⟨b,off,x,rfl,hb,hc,hx⟩:=h.at_ hkn
   cases ho:odd x with
   | true =>
     go_enter Try.func128,Try.ntmps128
     go_wp2_with (go_at_call 97;refine (isOdd_c _ _).mono ?_;rintro e w' ⟨rfl,rfl⟩)
     go_ret
     exact ⟨ret_i (by simp [capAt,hx.out,ho]),rfl⟩
   | false =>
     go_enter Try.func128,Try.ntmps128
     go_wp2_with (go_at_call 97;refine (isOdd_c _ _).mono ?_;rintro e w' ⟨rfl,rfl⟩)
     go_ret
     exact ⟨ret_i (by simp [capAt,hx.out,ho]),rfl⟩
 · go_enter Try.func128,Try.ntmps128
   go_wp2
   go_ret
   exact ⟨ret_i (by rw [capAt,List.getElem?_eq_none (by have:=HL.out;omega)]),rfl⟩
theorem capAt_hi (zs:List Int) (k:Nat):capAt zs k≤20:=by unfold capAt;split <;> (try split) <;> omega
theorem fits_eq {zs m:List Int} {k:Nat} {y:Int} (hy:m[k]? = some y):fits zs m k=decide (y≤capAt zs k):=by
 simp [fits,List.getD,hy]
theorem exponentsFit_c {w : World} {a : Option Addr} {n : Nat} {zs m : List Int} (c : Nat) (h : Ints w a n zs) (hn : n ≤ 1048576) (hm : IsMono m) :
    Calls Try.prog 119 #[.slice a n c,monoV m] w fun e w'=>e=.returned (.bool (monoOk zs m))∧Below w.heap.size w w':=by
 unfold monoV
 have hsz:(Try.prog.info? 86).map (·.size)=some (mcells m).toArray.size:=by rw [msize hm];exact Try.info_mono
 have HS:=Lib.hid hsz
 clear hsz
 go_enter Try.func119,Try.ntmps119
 go_wp2_with (refine wpList_load_row rfl 86 _ rfl _ rfl 86 (mcells m).toArray (0,0) _ (heap_alloc_new w _) Try.underlying86 rfl HS.out ?_)
 go_loop [8] (fun i=>∃k:Nat,k≤8∧i=.int .i64 k∧Hid ((List.range k).all (fits zs m)=true)) (fun i=>8 - (intOf i).toNat)
 case atStart=>exact ⟨0,Nat.zero_le _,rfl,rfl⟩
 case round=>
  obtain ⟨k,hk,rfl,H⟩:=hrel;by_cases hlt:k<8
  · obtain ⟨y,hy0,hy1,hy,HY⟩:=mono_at hm hlt;have hix:=run_index_one (P:=Try.prog) Try.underlying86 Try.info_u8 hlt (cs:=(mcells m).toArray) (v:=.int .u8 y) (by simpa using hy) Try.isAgg_u8;by_cases hc:y≤capAt zs k
    · go_wp2_with (go_at_call 128;refine (greatestExponent_c _ _ (h.keep ((Below.refl _ _).alloc (Nat.le_refl _) _)) hn (by omega)).mono ?_;rintro e w' ⟨rfl,rfl⟩)
      go_round
      case rel=>exact ⟨k+1,by omega,by go_num,range_all_step H.out (by rw [fits_eq HY.out];simpa using hc)⟩
      case measure=>simp [intOf];omega
    · go_wp2_with (go_at_call 128;refine (greatestExponent_c _ _ (h.keep ((Below.refl _ _).alloc (Nat.le_refl _) _)) hn (by omega)).mono ?_;rintro e w' ⟨rfl,rfl⟩)
      go_ret
      exact ⟨ret_b (range_all_no hlt (by rw [fits_eq HY.out];simp only [decide_eq_false_iff_not];omega)).symm,(Below.refl _ _).alloc (Nat.le_refl _) _⟩
  · go_wp2
    go_ret
    have:k=8:=(by omega);subst this;exact ⟨ret_b H.out.symm,(Below.refl _ _).alloc (Nat.le_refl _) _⟩
def wtTo (zs m:List Int):Nat→Int
 | 0=>0
 | k+1=>wtTo zs m k+zs.getD k 0 * m.getD k 0
def wt (zs m:List Int):Int:=wtTo zs m zs.length
def Mild (zs:List Int):Prop:=∀x∈zs,-100≤x∧x≤100
theorem mul_mild {x y:Int} (h1:-100≤x) (h2:x≤100) (h3:0≤y) (h4:y≤255):-25500≤x * y∧x * y≤25500:=by
 have e1:(x+100) * y ≥ 0:=Int.mul_nonneg (by omega) h3
 have e2:(100 - x) * y ≥ 0:=Int.mul_nonneg (by omega) h3
 rw [Int.add_mul] at e1
 rw [Int.sub_mul] at e2
 omega
theorem getD_mild {zs:List Int} (h:Mild zs) (k:Nat):-100≤zs.getD k 0∧zs.getD k 0≤100:=by
 by_cases hk:k<zs.length
 · have:=h zs[k] (List.getElem_mem hk);simpa [List.getD,hk] using this
 · simp [List.getD,List.getElem?_eq_none (Nat.le_of_not_lt hk)]
theorem getD_mono {m:List Int} (h:IsMono m) (k:Nat):0≤m.getD k 0∧m.getD k 0≤255:=by
 by_cases hk:k<m.length
 · have:=h.2 m[k] (List.getElem_mem hk);simpa [List.getD,hk] using this
 · simp [List.getD,List.getElem?_eq_none (Nat.le_of_not_lt hk)]
theorem wtTo_bd {zs m:List Int} (h:Mild zs) (hm:IsMono m) (k:Nat):-(25500 * k:Int)≤wtTo zs m k∧wtTo zs m k≤25500 * k:=by
 induction k with
 | zero=>simp [wtTo]
 | succ k ih =>
   have a:=getD_mild h k;have b:=getD_mono hm k;have c:=mul_mild a.1 a.2 b.1 b.2;simp only [wtTo];omega
theorem wtTo_succ {zs m:List Int} {k:Nat} {x y:Int} (hx:zs[k]? = some x) (hy:m[k]? = some y):wtTo zs m (k+1)=wtTo zs m k+x * y:=by
 simp [wtTo,List.getD,hx,hy]
theorem degreeOf_c {w : World} {a : Option Addr} {n : Nat} {zs m : List Int} (c : Nat) (h : Ints w a n zs) (hn : n ≤ 8) (hz : Mild zs) (hm : IsMono m) :
    Calls Try.prog 123 #[.slice a n c,monoV m] w fun e w'=>e=.returned (.int .i64 (wt zs m))∧Below w.heap.size w w':=by
 have hl:=h.len
 have HL:=Lib.hid hl
 clear hl
 unfold monoV
 go_enter Try.func123,Try.ntmps123
 go_wp2
 go_loop [5,10] (fun s i=>∃k:Nat,k≤n∧i=.int .i64 k∧s=.int .i64 (wtTo zs m k)) (fun _ i=>n - (intOf i).toNat)
 case atStart=>exact ⟨0,Nat.zero_le _,rfl,rfl⟩
 case round=>
  obtain ⟨k,hk,rfl,rfl⟩:=hrel;by_cases hlt:k<n
  · obtain ⟨b,off,x,rfl,hb,hc,hx⟩:=h.at_ hlt;obtain ⟨y,hy0,hy1,hy,HY⟩:=mono_at hm (show k<8 by omega);have b1:=(wtTo_bd hz hm k).1;have b2:=(wtTo_bd hz hm k).2;have hxm:=hz x (List.mem_of_getElem? hx.out);have b3:=(mul_mild hxm.1 hxm.2 hy0 hy1).1;have b4:=(mul_mild hxm.1 hxm.2 hy0 hy1).2;clear hxm
    go_wp2
    go_round
    case rel=>exact ⟨k+1,by omega,by go_num,by rw [wtTo_succ hx.out HY.out]⟩
    case measure=>simp [intOf];omega
  · go_wp2
    go_ret
    have:k=n:=(by omega);subst this;exact ⟨ret_i (by rw [wt,HL.out]),(Below.refl _ _).alloc (Nat.le_refl _) _⟩
theorem l01Weight_c {w : World} {a : Option Addr} {n : Nat} {zs m : List Int} (c : Nat) (h : Ints w a n zs) (hn : n ≤ 8) (hz : Mild zs) (hm : IsMono m) :
    Calls Try.prog 108 #[.slice a n c,monoV m] w fun e w'=>e=.returned (.int .i64 (wt zs m))∧Below w.heap.size w w':=by
 have hl:=h.len
 have HL:=Lib.hid hl
 clear hl
 unfold monoV
 go_enter Try.func108,Try.ntmps108
 go_wp2
 go_loopw [5,6] (fun s i wr=>∃k q:Nat,k≤n∧i=.int .i64 k∧s=.int .i64 (wtTo zs m k)∧wr=(w.alloc (.cells (mcells m).toArray 86)).drewN q) (fun _ i _=>n - (intOf i).toNat)
 case atStart=>exact ⟨0,0,Nat.zero_le _,rfl,rfl,rfl⟩
 case round=>
  obtain ⟨k,q,hk,rfl,rfl,rfl⟩:=hrel;by_cases hlt:k<n
  · obtain ⟨b,off,x,rfl,hb,hc,hx⟩:=h.at_ hlt;obtain ⟨y,hy0,hy1,hy,HY⟩:=mono_at hm (show k<8 by omega);have b1:=(wtTo_bd hz hm k).1;have b2:=(wtTo_bd hz hm k).2;have hxm:=hz x (List.mem_of_getElem? hx.out);have b3:=(mul_mild hxm.1 hxm.2 hy0 hy1).1;have b4:=(mul_mild hxm.1 hxm.2 hy0 hy1).2;clear hxm;have s1:IntKind.i64.wrap (x * y)=x * y:=IntWalk.i64_in _ (by omega);have s2:IntKind.i64.wrap (wtTo zs m k+x * y)=wtTo zs m k+x * y:=IntWalk.i64_in _ (by omega);have s3:IntKind.i64.wrap y=y:=IntWalk.i64_in _ (by omega);have h8:(k:Int)<8:=by omega
    go_wp2
    go_quiet (fail)
    clear s1 s2 s3
    go_wp2
    go_roundw
    case rel=>exact ⟨k+1,_,by omega,by go_num,by rw [wtTo_succ hx.out HY.out],rfl⟩
    case measure=>simp [intOf];omega
  · go_wp2
    go_ret
    have:k=n:=(by omega);subst this;exact ⟨ret_i (by rw [wt,HL.out]),below_drewN ((Below.refl _ _).alloc (Nat.le_refl _) _) _⟩
def mrow (m:List Int) (k:Nat):Array Value:=(mcells (m.take k)++List.replicate (8 - k) (Value.int .u8 0)).toArray
theorem mrow_zero (m:List Int):mrow m 0=#[.int .u8 0,.int .u8 0,.int .u8 0,.int .u8 0,.int .u8 0,.int .u8 0,.int .u8 0,.int .u8 0]:=by
 simp [mrow,mcells]
theorem mrow_step {m:List Int} {k:Nat} {y:Int} (hk:k<8) (hy:m[k]? = some y):(mrow m k).setIfInBounds k (.int .u8 y)=mrow m (k+1):=by
 have hlt:k<m.length:=(List.getElem?_eq_some_iff.1 hy).1
 apply Array.ext'
 simp only [mrow,Array.toList_setIfInBounds,mcells]
 have hlen:((m.take k).map (Value.int .u8)).length=k:=by simp;omega
 rw [List.set_append_right _ _ (by rw [hlen];exact Nat.le_refl _),hlen,Nat.sub_self,List.take_add_one,hy]
 obtain ⟨r,hr⟩:∃r,8 - k=r+1:=⟨8 - k - 1,by omega⟩
 rw [hr,show 8 - (k+1)=r by omega]
 simp [List.replicate_succ]
theorem mrow_end {m:List Int} (h:IsMono m):mrow m 8=(mcells m).toArray:=by
 simp [mrow,List.take_of_length_le (Nat.le_of_eq h.1)]
theorem mrow_size {m:List Int} (h:IsMono m) {k:Nat} (hk:k≤8):(mrow m k).size=8:=by
 simp [mrow,mcells,h.1];omega
theorem toMonomial_c {w : World} {m : List Int} (hm : IsMono m) :
    Calls Try.prog 126 #[monoV m] w fun e w'=>e=.returned (monoV m)∧Below w.heap.size w w':=by
 unfold monoV
 go_enter Try.func126,Try.ntmps126
 go_wp2
 rw [←mrow_zero m]
 have o1:=(((Own.new w 85 (mcells m).toArray).alloc (.cells (mrow m 0) 86)).alloc (.cells (mrow m 0) 86))
 have o2:=((Own.new (w.alloc (.cells (mcells m).toArray 85)) 86 (mrow m 0)).alloc (.cells (mrow m 0) 86))
 have o3:=Own.new ((w.alloc (.cells (mcells m).toArray 85)).alloc (.cells (mrow m 0) 86)) 86 (mrow m 0)
 have hb:Below w.heap.size w (((w.alloc (.cells (mcells m).toArray 85)).alloc (.cells (mrow m 0) 86)).alloc (.cells (mrow m 0) 86)):=bTn (bTn (bA1 w _) (bA1 _ _)) (bA1 _ _)
 rw [sAl] at o2
 rw [sAl,sAl] at o3
 generalize ((w.alloc (.cells (mcells m).toArray 85)).alloc (.cells (mrow m 0) 86)).alloc (.cells (mrow m 0) 86)=w0 at *
 go_loopw [4] (fun i wr=>∃k:Nat,k≤8∧i=.int .i64 k∧Own wr w.heap.size 85 (mcells m).toArray∧Own wr (w.heap.size+1) 86 (mrow m 0)∧Own wr (w.heap.size+1+1) 86 (mrow m k)∧Below w.heap.size w wr) (fun i _=>8 - (intOf i).toNat)
 case atStart=>exact ⟨0,Nat.zero_le _,rfl,o1,o2,o3,hb⟩
 case round=>
  clear o1 o2 o3 hb;obtain ⟨k,hk,rfl,o1,o2,o3,hb⟩:=hrel;by_cases hlt:k<8
  · obtain ⟨y,hy0,hy1,hy,HY⟩:=mono_at hm hlt;have c1:=o1.cell k;have c3:=o3.cell k;have f3:=o3.frozen k;have hsz:=mrow_size hm (Nat.le_of_lt hlt);rw [Array.getElem?_eq_getElem (by omega)] at c3
    go_wp2
    go_roundw
    case rel=>exact ⟨k+1,by omega,by go_num,o1.far (by dsimp only;omega) _,o2.far (by dsimp only;omega) _,by rw [←mrow_step hlt HY.out];exact o3.set k _,hb.setCell (by dsimp only;omega) _⟩
    case measure=>simp [intOf];omega
  · have he:k=8:=(by omega);subst he;rw [mrow_end hm] at o3
    go_wp2_with (first
     | (refine wpList_load_row rfl 86 (.tmp 3) rfl _ rfl 86 (mcells m).toArray (0,0) _ o3 Try.underlying86 rfl (by rw [msize hm];exact Try.info_mono) ?_)
     | (refine wpList_store_row rfl 86 (.tmp 2) (.tmp 14) rfl _ (mcells m).toArray rfl rfl 86 _ o2 (by rw [msize hm];exact Try.info_mono) (by rw [msize hm,mrow_size hm (Nat.zero_le _)]) (by simp [mcells,Value.oneCell']) ?_))
    exact bodyPost_ret (results_cell_row rfl _ _ (w.heap.size+1) 86 (mcells m).toArray (0,0) _ rfl (o2.setRow _) Try.underlying86 rfl (by rw [msize hm];exact Try.info_mono)) rfl ⟨rfl,below_setRow hb (by omega) _⟩
theorem eqMonomial_c {w : World} {m m' : List Int} (hm : IsMono m) (hm' : IsMono m') :
    Calls Try.prog 127 #[monoV m,monoV m'] w fun e w'=>e=.returned (.bool (decide (m=m')))∧Below w.heap.size w w':=by
 unfold monoV
 go_enter Try.func127,Try.ntmps127
 go_wp2
 have o1:=(Own.new w 86 (mcells m).toArray).alloc (.cells (mcells m').toArray 86)
 have o2:=Own.new (w.alloc (.cells (mcells m).toArray 86)) 86 (mcells m').toArray
 have hb:Below w.heap.size w ((w.alloc (.cells (mcells m).toArray 86)).alloc (.cells (mcells m').toArray 86)):=bTn (bA1 w _) (bA1 _ _)
 rw [sAl] at o2
 generalize (w.alloc (.cells (mcells m).toArray 86)).alloc (.cells (mcells m').toArray 86)=w0 at *
 go_loopw [5] (fun i wr=>∃k q:Nat,k≤8∧i=.int .i64 k∧wr=w0.drewN q∧Hid (m.take k=m'.take k)) (fun i _=>8 - (intOf i).toNat)
 case atStart=>exact ⟨0,0,Nat.zero_le _,rfl,rfl,rfl⟩
 case round=>
  obtain ⟨k,q,hk,rfl,rfl,H⟩:=hrel;by_cases hlt:k<8
  · obtain ⟨y,hy0,hy1,hy,HY⟩:=mono_at hm hlt;obtain ⟨y',hy0',hy1',hy',HY'⟩:=mono_at hm' hlt;have c1:=o1.cell k;have c2:=o2.cell k;rw [List.getElem?_toArray,hy] at c1;rw [List.getElem?_toArray,hy'] at c2;have h8:(k:Int)<8:=(by omega);by_cases hxy:y=y'
    · subst hxy
      go_wp2
      go_quiet (fail)
      go_wp2
      go_roundw
      case rel=>exact ⟨k+1,_,by omega,by go_num,rfl,take_eq HY.out HY'.out H.out⟩
      case measure=>simp [intOf];omega
    · have hq:(y==y')=false:=(by simpa using hxy);have hq':(y != y')=true:=by simpa using hxy
      go_wp2
      go_quiet (fail)
      go_wp2
      go_ret
      exact ⟨ret_b (eq_no HY.out HY'.out hxy).symm,below_drewN (below_drewN hb _) _⟩
  · go_wp2
    go_ret
    exact ⟨ret_b (eq_end (by have:=hm.1;omega) (by have:=hm'.1;omega) H.out).symm,below_drewN hb _⟩
def isMono (zs m:List Int):Bool:=degsOk zs && monoOk zs m
theorem degsOk_len {zs:List Int} (h:degsOk zs=true):zs.length≤8:=by
 simp only [degsOk,Bool.and_eq_true,decide_eq_true_eq] at h;exact h.2
theorem degsOk_mild {zs:List Int} (h:degsOk zs=true):Mild zs:=by
 simp only [degsOk,Bool.and_eq_true,List.all_eq_true] at h
 intro x hx
 have:=h.1 x hx
 simp only [okDeg,decide_eq_true_eq] at this
 omega
end Go.Proofs.Ytikldofmpkidbaa
