
import Derived.Test.YtndnkeijddagiaaOpen
namespace Go.Proofs.Ytndnkeijddagiaa
set_option maxRecDepth 100000
open Go.RowKit Go.Deep
def odd (x:Int):Bool:=decide (x % 2≠0)
theorem odd_tmod (x:Int):x.tmod 2=0↔x % 2=0:=by
 have h:=Int.tmod_eq_emod (a:=x) (b:=2)
 rw [h]
 split
 · omega
 · rename_i h1;have:¬(2:Int) ∣ x:=fun hd=>h1 (Or.inr hd);simp
   omega
theorem odd_bne (x:Int):(x.tmod 2 != 0)=odd x:=by
 unfold odd
 by_cases h:x % 2=0
 · have:=(odd_tmod x).2 h;simp [this,h]
 · have:x.tmod 2≠0:=fun e=>h ((odd_tmod x).1 e);simp [this,h]
theorem odd_beq (x:Int):(x.tmod 2==0)=!odd x:=by
 rw [←odd_bne];simp [bne]
def capAt (zs:List Int) (i:Nat):Int:=match zs[i]? with | some x=>if odd x then 1 else 20 | none=>0
def fits (zs m:List Int) (i:Nat):Bool:=decide (m.getD i 0≤capAt zs i)
def monoOk (zs m:List Int):Bool:=(List.range 8).all (fits zs m)
theorem range_all_step {p:Nat→Bool} {k:Nat} (h:(List.range k).all p=true) (hk:p k=true):(List.range (k+1)).all p=true:=by
 rw [List.range_succ,List.all_append,h];simp [hk]
theorem range_all_no {p:Nat→Bool} {k n:Nat} (hk:k<n) (h:p k=false):(List.range n).all p=false:=by
 rw [List.all_eq_false]
 exact ⟨k,by simpa using hk,by simp [h]⟩
theorem mono_at {m:List Int} (h:IsMono m) {k:Nat} (hk:k<8):∃y,0≤y∧y≤255∧(mcells m)[k]? = some (.int .u8 y)∧Hid (m[k]? = some y):=by
 have hl:k<m.length:=by rw [h.1];exact hk
 have:=h.2 m[k] (List.getElem_mem hl)
 exact ⟨m[k],this.1,this.2,by simp [mcells,hl],List.getElem?_eq_getElem hl⟩
theorem fits_in {zs m:List Int} {k:Nat} {x y:Int} (hx:zs[k]? = some x) (hy:m[k]? = some y):fits zs m k=decide (y≤if odd x then 1 else 20):=by
 simp [fits,capAt,hx,List.getD,hy]
theorem fits_out {zs m:List Int} {k:Nat} {y:Int} (hx:zs.length≤k) (hy:m[k]? = some y):fits zs m k=decide (y≤0):=by
 simp [fits,capAt,List.getElem?_eq_none hx,List.getD,hy]
theorem l01Mono_c {w : World} {a : Option Addr} {n : Nat} {zs m : List Int} (c : Nat) (h : Ints w a n zs) (_hn : n ≤ 1048576) (hm : IsMono m) :
    Calls Try.prog 126 #[.slice a n c,monoV m] w fun e w'=>e=.returned (.bool (monoOk zs m))∧Below w.heap.size w w':=by
 have hl:=h.len
 have HL:=Lib.hid hl
 clear hl
 unfold monoV
 go_enter Try.func126,Try.ntmps126
 go_wp2
 go_loop [5] (fun i=>∃k:Nat,k≤8∧i=.int .i64 k∧Hid ((List.range k).all (fits zs m)=true)) (fun i=>8 - (intOf i).toNat)
 case atStart=>exact ⟨0,Nat.zero_le _,rfl,rfl⟩
 case round=>
  obtain ⟨k,hk,rfl,H⟩:=hrel;by_cases hlt:k<8
  · obtain ⟨y,hy0,hy1,hy,HY⟩:=mono_at hm hlt;by_cases hkn:k<n
    · obtain ⟨b,off,x,rfl,hb,hc,hx⟩:=h.at_ hkn;by_cases h20:20<y
      · go_wp2
        go_ret
        exact ⟨ret_b (range_all_no hlt (by rw [fits_in hx.out HY.out];simp only [decide_eq_false_iff_not];split <;> omega)).symm,(Below.refl _ _).alloc (Nat.le_refl _) _⟩
      · cases ho:odd x with
        | true =>
          have hq:(x.tmod 2 != 0)=true:=(by rw [odd_bne];exact ho);have hq2:¬x.tmod 2=0:=(by simpa using hq);have HO:=Lib.hid ho;clear ho;by_cases h1:1<y
          · go_wp2
            go_ret
            exact ⟨ret_b (range_all_no hlt (by rw [fits_in hx.out HY.out,HO.out];simp only [decide_eq_false_iff_not,if_true];omega)).symm,(Below.refl _ _).alloc (Nat.le_refl _) _⟩
          · go_wp2
            go_round
            case rel=>exact ⟨k+1,by omega,by go_num,range_all_step H.out (by rw [fits_in hx.out HY.out,HO.out];simp only [decide_eq_true_eq,if_true];omega)⟩
            case measure=>simp [intOf];omega
        | false =>
          have hq2:x.tmod 2=0:=by
           have:(x.tmod 2 != 0)=false:=(by rw [odd_bne];exact ho);simpa using this
          have HO:=Lib.hid ho;clear ho
          go_wp2
          go_round
          case rel=>exact ⟨k+1,by omega,by go_num,range_all_step H.out (by rw [fits_in hx.out HY.out,HO.out];simp only [decide_eq_true_eq];rw [if_neg (by simp)];omega)⟩
          case measure=>simp [intOf];omega
    · by_cases h0:y=0
      · have hq:(y==0)=true:=(by simp [h0]);have hq':(y != 0)=false:=(by simp [h0]);have H0:=Lib.hid h0;clear h0
        go_wp2
        go_round
        case rel=>exact ⟨k+1,by omega,by go_num,range_all_step H.out (by rw [fits_out (by have:=HL.out;omega) HY.out];have:=H0.out;simp only [decide_eq_true_eq];omega)⟩
        case measure=>simp [intOf];omega
      · have hq:(y==0)=false:=(by simp [h0]);have hq':(y != 0)=true:=by simp [h0]
        go_wp2
        go_ret
        exact ⟨ret_b (range_all_no hlt (by rw [fits_out (by have:=HL.out;omega) HY.out];simp only [decide_eq_false_iff_not];omega)).symm,(Below.refl _ _).alloc (Nat.le_refl _) _⟩
  · go_wp2
    go_ret
    have:k=8:=(by omega);subst this;exact ⟨ret_b H.out.symm,(Below.refl _ _).alloc (Nat.le_refl _) _⟩
theorem Try.info_mono:(Try.prog.info? 74).map (·.size)=some 8:=by kernel_rfl
theorem Try.info_u8:(Try.prog.info? 5).map (·.size)=some 1:=by kernel_rfl
theorem msize {m:List Int} (h:IsMono m):(mcells m).toArray.size=8:=by simp [mcells,h.1]
theorem run_index_one {P : Program} {t e : TypeId} {n : Nat} {cs : Array Value} {i : Nat} {v : Value} (h : P.underlying t = some (.array n e)) (hs : (P.info? e).map (·.size) = some 1) (hi : i < n) (hv : cs[i]? = some v)
    (hagg:∀w,(isAgg e).run P w=.ok false w) (w:World):(Instr.index t (.agg cs) (.int .i64 i)).run P w=.ok v w:=by
 have h1:(0:Int)≤(i:Int)∧(i:Int)<(n:Int):=by omega
 cases hq:P.info? e with
 | none=>simp [hq] at hs
 | some j =>
   have hs':j.size=1:=(by simpa [hq] using hs);simp [Instr.index,run_underlying h,asIntOf,h1,go_sem,sizeOf,typeInfo,hq,hs']
   rw [if_pos hi,hagg w];simp [Result.andThen,hv]
theorem Try.isAgg_u8 (w:World):(isAgg 5).run Try.prog w=.ok false w:=by kernel_rfl
theorem isOdd_c (x:Int) (w:World):Calls Try.prog 65 #[.int .i64 x] w fun e w'=>e=.returned (.bool (odd x))∧w=w':=by
 go_enter Try.func65,Try.ntmps65
 go_wp2
 go_ret
 exact ⟨ret_b (odd_bne x),rfl⟩
theorem greatestExponent_c {w : World} {a : Option Addr} {n : Nat} {zs : List Int} (c k : Nat) (h : Ints w a n zs) (_hn : n ≤ 1048576) (_hk : k ≤ 1048576) :
    Calls Try.prog 139 #[.slice a n c,.int .i64 k] w fun e w'=>e=.returned (.int .u8 (capAt zs k))∧w=w':=by
 have hl:=h.len
 have HL:=Lib.hid hl
 clear hl
 by_cases hkn:k<n
 · obtain ⟨b,off,x,rfl,hb,hc,hx⟩:=h.at_ hkn
   cases ho:odd x with
   | true =>
     go_enter Try.func139,Try.ntmps139
     go_wp2_with (go_at_call 65;refine (isOdd_c _ _).mono ?_;rintro e w' ⟨rfl,rfl⟩)
     go_ret
     exact ⟨ret_i (by simp [capAt,hx.out,ho]),rfl⟩
   | false =>
     go_enter Try.func139,Try.ntmps139
     go_wp2_with (go_at_call 65;refine (isOdd_c _ _).mono ?_;rintro e w' ⟨rfl,rfl⟩)
     go_ret
     exact ⟨ret_i (by simp [capAt,hx.out,ho]),rfl⟩
 · go_enter Try.func139,Try.ntmps139
   go_wp2
   go_ret
   exact ⟨ret_i (by rw [capAt,List.getElem?_eq_none (by have:=HL.out;omega)]),rfl⟩
theorem capAt_hi (zs:List Int) (k:Nat):capAt zs k≤20:=by unfold capAt;split <;> (try split) <;> omega
theorem fits_eq {zs m:List Int} {k:Nat} {y:Int} (hy:m[k]? = some y):fits zs m k=decide (y≤capAt zs k):=by
 simp [fits,List.getD,hy]
theorem exponentsFit_c {w : World} {a : Option Addr} {n : Nat} {zs m : List Int} (c : Nat) (h : Ints w a n zs) (hn : n ≤ 1048576) (hm : IsMono m) :
    Calls Try.prog 130 #[.slice a n c,monoV m] w fun e w'=>e=.returned (.bool (monoOk zs m))∧Below w.heap.size w w':=by
 unfold monoV
 have hsz:(Try.prog.info? 74).map (·.size)=some (mcells m).toArray.size:=by rw [msize hm];exact Try.info_mono
 have HS:=Lib.hid hsz
 clear hsz
 go_enter Try.func130,Try.ntmps130
 go_wp2_with (refine wpList_load_row rfl 74 _ rfl _ rfl 74 (mcells m).toArray (0,0) _ (heap_alloc_new w _) Try.underlying74 rfl HS.out ?_)
 go_loop [8] (fun i=>∃k:Nat,k≤8∧i=.int .i64 k∧Hid ((List.range k).all (fits zs m)=true)) (fun i=>8 - (intOf i).toNat)
 case atStart=>exact ⟨0,Nat.zero_le _,rfl,rfl⟩
 case round=>
  obtain ⟨k,hk,rfl,H⟩:=hrel;by_cases hlt:k<8
  · obtain ⟨y,hy0,hy1,hy,HY⟩:=mono_at hm hlt;have hix:=run_index_one (P:=Try.prog) Try.underlying74 Try.info_u8 hlt (cs:=(mcells m).toArray) (v:=.int .u8 y) (by simpa using hy) Try.isAgg_u8;by_cases hc:y≤capAt zs k
    · go_wp2_with (go_at_call 139;refine (greatestExponent_c _ _ (h.keep ((Below.refl _ _).alloc (Nat.le_refl _) _)) hn (by omega)).mono ?_;rintro e w' ⟨rfl,rfl⟩)
      go_round
      case rel=>exact ⟨k+1,by omega,by go_num,range_all_step H.out (by rw [fits_eq HY.out];simpa using hc)⟩
      case measure=>simp [intOf];omega
    · go_wp2_with (go_at_call 139;refine (greatestExponent_c _ _ (h.keep ((Below.refl _ _).alloc (Nat.le_refl _) _)) hn (by omega)).mono ?_;rintro e w' ⟨rfl,rfl⟩)
      go_ret
      exact ⟨ret_b (range_all_no hlt (by rw [fits_eq HY.out];simp only [decide_eq_false_iff_not];omega)).symm,(Below.refl _ _).alloc (Nat.le_refl _) _⟩
  · go_wp2
    go_ret
    have:k=8:=(by omega);subst this;exact ⟨ret_b H.out.symm,(Below.refl _ _).alloc (Nat.le_refl _) _⟩
def wtTo (zs m:List Int):Nat→Int
 | 0=>0
 | k+1=>wtTo zs m k+zs.getD k 0 * m.getD k 0
def wt (zs m:List Int):Int:=wtTo zs m zs.length
def Mild (zs:List Int):Prop:=∀x∈zs,-100≤x∧x≤100
theorem mul_mild {x y:Int} (h1:-100≤x) (h2:x≤100) (h3:0≤y) (h4:y≤255):-25500≤x * y∧x * y≤25500:=by
 have e1:(x+100) * y ≥ 0:=Int.mul_nonneg (by omega) h3
 have e2:(100 - x) * y ≥ 0:=Int.mul_nonneg (by omega) h3
 rw [Int.add_mul] at e1
 rw [Int.sub_mul] at e2
 omega
theorem getD_mild {zs:List Int} (h:Mild zs) (k:Nat):-100≤zs.getD k 0∧zs.getD k 0≤100:=by
 by_cases hk:k<zs.length
 · have:=h zs[k] (List.getElem_mem hk);simpa [List.getD,hk] using this
 · simp [List.getD,List.getElem?_eq_none (Nat.le_of_not_lt hk)]
theorem getD_mono {m:List Int} (h:IsMono m) (k:Nat):0≤m.getD k 0∧m.getD k 0≤255:=by
 by_cases hk:k<m.length
 · have:=h.2 m[k] (List.getElem_mem hk);simpa [List.getD,hk] using this
 · simp [List.getD,List.getElem?_eq_none (Nat.le_of_not_lt hk)]
theorem wtTo_bd {zs m:List Int} (h:Mild zs) (hm:IsMono m) (k:Nat):-(25500 * k:Int)≤wtTo zs m k∧wtTo zs m k≤25500 * k:=by
 induction k with
 | zero=>simp [wtTo]
 | succ k ih =>
   have a:=getD_mild h k;have b:=getD_mono hm k;have c:=mul_mild a.1 a.2 b.1 b.2;simp only [wtTo];omega
theorem wtTo_succ {zs m:List Int} {k:Nat} {x y:Int} (hx:zs[k]? = some x) (hy:m[k]? = some y):wtTo zs m (k+1)=wtTo zs m k+x * y:=by
 simp [wtTo,List.getD,hx,hy]
theorem degreeOf_c {w : World} {a : Option Addr} {n : Nat} {zs m : List Int} (c : Nat) (h : Ints w a n zs) (hn : n ≤ 8) (hz : Mild zs) (hm : IsMono m) :
    Calls Try.prog 132 #[.slice a n c,monoV m] w fun e w'=>e=.returned (.int .i64 (wt zs m))∧Below w.heap.size w w':=by
 have hl:=h.len
 have HL:=Lib.hid hl
 clear hl
 unfold monoV
 go_enter Try.func132,Try.ntmps132
 go_wp2
 go_loop [5,10] (fun s i=>∃k:Nat,k≤n∧i=.int .i64 k∧s=.int .i64 (wtTo zs m k)) (fun _ i=>n - (intOf i).toNat)
 case atStart=>exact ⟨0,Nat.zero_le _,rfl,rfl⟩
 case round=>
  obtain ⟨k,hk,rfl,rfl⟩:=hrel;by_cases hlt:k<n
  · obtain ⟨b,off,x,rfl,hb,hc,hx⟩:=h.at_ hlt;obtain ⟨y,hy0,hy1,hy,HY⟩:=mono_at hm (show k<8 by omega);have b1:=(wtTo_bd hz hm k).1;have b2:=(wtTo_bd hz hm k).2;have hxm:=hz x (List.mem_of_getElem? hx.out);have b3:=(mul_mild hxm.1 hxm.2 hy0 hy1).1;have b4:=(mul_mild hxm.1 hxm.2 hy0 hy1).2;clear hxm
    go_wp2
    go_round
    case rel=>exact ⟨k+1,by omega,by go_num,by rw [wtTo_succ hx.out HY.out]⟩
    case measure=>simp [intOf];omega
  · go_wp2
    go_ret
    have:k=n:=(by omega);subst this;exact ⟨ret_i (by rw [wt,HL.out]),(Below.refl _ _).alloc (Nat.le_refl _) _⟩
theorem l01Weight_c {w : World} {a : Option Addr} {n : Nat} {zs m : List Int} (c : Nat) (h : Ints w a n zs) (hn : n ≤ 8) (hz : Mild zs) (hm : IsMono m) :
    Calls Try.prog 106 #[.slice a n c,monoV m] w fun e w'=>e=.returned (.int .i64 (wt zs m))∧Below w.heap.size w w':=by
 have hl:=h.len
 have HL:=Lib.hid hl
 clear hl
 unfold monoV
 go_enter Try.func106,Try.ntmps106
 go_wp2
 go_loopw [5,6] (fun s i wr=>∃k q:Nat,k≤n∧i=.int .i64 k∧s=.int .i64 (wtTo zs m k)∧wr=(w.alloc (.cells (mcells m).toArray 74)).drewN q) (fun _ i _=>n - (intOf i).toNat)
 case atStart=>exact ⟨0,0,Nat.zero_le _,rfl,rfl,rfl⟩
 case round=>
  obtain ⟨k,q,hk,rfl,rfl,rfl⟩:=hrel;by_cases hlt:k<n
  · obtain ⟨b,off,x,rfl,hb,hc,hx⟩:=h.at_ hlt;obtain ⟨y,hy0,hy1,hy,HY⟩:=mono_at hm (show k<8 by omega);have b1:=(wtTo_bd hz hm k).1;have b2:=(wtTo_bd hz hm k).2;have hxm:=hz x (List.mem_of_getElem? hx.out);have b3:=(mul_mild hxm.1 hxm.2 hy0 hy1).1;have b4:=(mul_mild hxm.1 hxm.2 hy0 hy1).2;clear hxm;have s1:IntKind.i64.wrap (x * y)=x * y:=IntWalk.i64_in _ (by omega);have s2:IntKind.i64.wrap (wtTo zs m k+x * y)=wtTo zs m k+x * y:=IntWalk.i64_in _ (by omega);have s3:IntKind.i64.wrap y=y:=IntWalk.i64_in _ (by omega);have h8:(k:Int)<8:=by omega
    go_wp2
    go_quiet (fail)
    clear s1 s2 s3
    go_wp2
    go_roundw
    case rel=>exact ⟨k+1,_,by omega,by go_num,by rw [wtTo_succ hx.out HY.out],rfl⟩
    case measure=>simp [intOf];omega
  · go_wp2
    go_ret
    have:k=n:=(by omega);subst this;exact ⟨ret_i (by rw [wt,HL.out]),below_drewN ((Below.refl _ _).alloc (Nat.le_refl _) _) _⟩
end Go.Proofs.Ytndnkeijddagiaa
