
import Derived.Test.YtndnkeijddagiaaIsFormB
import Derived.Test.YtndnkeijddagiaaIsAlgS
namespace Go.Proofs.Ytndnkeijddagiaa
set_option maxRecDepth 100000
open Go.RowKit Go.Deep
def wlTo (m:List Int):Nat→Int
 | 0=>0
 | k+1=>wlTo m k+m.getD k 0
def wlen (m:List Int):Int:=wlTo m 8
theorem wlTo_bd {m:List Int} (h:IsMono m) (k:Nat):0≤wlTo m k∧wlTo m k≤255 * k:=by
 induction k with
 | zero=>simp [wlTo]
 | succ k ih =>
   have:=getD_mono h k;simp only [wlTo];omega
theorem wlTo_succ {m:List Int} {k:Nat} {y:Int} (hy:m[k]? = some y):wlTo m (k+1)=wlTo m k+y:=by
 rw [wlTo,List.getD_eq_getElem?_getD,hy];rfl
theorem wlen_bd {m:List Int} (h:IsMono m):0≤wlen m∧wlen m≤2040:=wlTo_bd h 8
theorem wordLength_c {w : World} {m : List Int} (hm : IsMono m) :
    Calls Try.prog 61 #[monoV m] w fun e w'=>e=.returned (.int .i64 (wlen m))∧Below w.heap.size w w':=by
 unfold monoV
 have hsz:(Try.prog.info? 74).map (·.size)=some (mcells m).toArray.size:=by rw [msize hm];exact Try.info_mono
 have HS:=Lib.hid hsz
 clear hsz
 go_enter Try.func61,Try.ntmps61
 go_wp2_with (refine wpList_load_row rfl 74 _ rfl _ rfl 74 (mcells m).toArray (0,0) _ (heap_alloc_new w _) Try.underlying74 rfl HS.out ?_)
 go_loop [3,7] (fun s i=>∃k:Nat,k≤8∧i=.int .i64 k∧s=.int .i64 (wlTo m k)) (fun _ i=>8 - (intOf i).toNat)
 case atStart=>exact ⟨0,Nat.zero_le _,rfl,rfl⟩
 case round=>
  obtain ⟨k,hk,rfl,rfl⟩:=hrel;by_cases hlt:k<8
  · obtain ⟨y,hy0,hy1,hy,HY⟩:=mono_at hm hlt;have hix:=run_index_one (P:=Try.prog) Try.underlying74 Try.info_u8 hlt (cs:=(mcells m).toArray) (v:=.int .u8 y) (by simpa using hy) Try.isAgg_u8;have b1:=(wlTo_bd hm k).1;have b2:=(wlTo_bd hm k).2
    go_wp2
    go_round
    case rel=>exact ⟨k+1,by omega,by go_num,by rw [wlTo_succ HY.out]⟩
    case measure=>simp [intOf];omega
  · go_wp2
    go_ret
    have:k=8:=(by omega);subst this;exact ⟨rfl,(Below.refl _ _).alloc (Nat.le_refl _) _⟩
theorem l02Word_c {w : World} {m : List Int} (hm : IsMono m) :
    Calls Try.prog 102 #[monoV m] w fun e w'=>e=.returned (.int .i64 (wlen m))∧Below w.heap.size w w':=by
 unfold monoV
 go_enter Try.func102,Try.ntmps102
 go_wp2
 go_loop [3,4] (fun s i=>∃k:Nat,k≤8∧i=.int .i64 k∧s=.int .i64 (wlTo m k)) (fun _ i=>8 - (intOf i).toNat)
 case atStart=>exact ⟨0,Nat.zero_le _,rfl,rfl⟩
 case round=>
  obtain ⟨k,hk,rfl,rfl⟩:=hrel;by_cases hlt:k<8
  · obtain ⟨y,hy0,hy1,hy,HY⟩:=mono_at hm hlt;have b1:=(wlTo_bd hm k).1;have b2:=(wlTo_bd hm k).2
    go_wp2
    go_round
    case rel=>exact ⟨k+1,by omega,by go_num,by rw [wlTo_succ HY.out]⟩
    case measure=>simp [intOf];omega
  · go_wp2
    go_ret
    have:k=8:=(by omega);subst this;exact ⟨rfl,(Below.refl _ _).alloc (Nat.le_refl _) _⟩
theorem wordLength8 {w : World} {v m0 m1 m2 m3 m4 m5 m6 m7 : Int} (hm : IsMono [m0, m1, m2, m3, m4, m5, m6, m7]) (hv : wlen [m0, m1, m2, m3, m4, m5, m6, m7] = v) :
    Calls Try.prog 61 #[.agg #[.int .u8 m0,.int .u8 m1,.int .u8 m2,.int .u8 m3,.int .u8 m4,.int .u8 m5,.int .u8 m6,.int .u8 m7]] w fun e w'=>e=.returned (.int .i64 v)∧Below w.heap.size w w':=by
 have:=wordLength_c (w:=w) hm
 rw [hv] at this
 exact this
theorem l02Word8 {w : World} {v m0 m1 m2 m3 m4 m5 m6 m7 : Int} (hm : IsMono [m0, m1, m2, m3, m4, m5, m6, m7]) (hv : wlen [m0, m1, m2, m3, m4, m5, m6, m7] = v) :
    Calls Try.prog 102 #[.agg #[.int .u8 m0,.int .u8 m1,.int .u8 m2,.int .u8 m3,.int .u8 m4,.int .u8 m5,.int .u8 m6,.int .u8 m7]] w fun e w'=>e=.returned (.int .i64 v)∧Below w.heap.size w w':=by
 have:=l02Word_c (w:=w) hm
 rw [hv] at this
 exact this
def wlAt (fs:List Tm) (k:Nat):Int:=match fs[k]? with | some t=>wlen t.m | none=>0
theorem wlAt_of {fs:List Tm} {k:Nat} {t:Tm} (h:fs[k]? = some t):wlAt fs k=wlen t.m:=by simp only [wlAt,h]
def leastTo (fs:List Tm):Nat→Int
 | 0=>0
 | k+1=>if k=0 then wlAt fs 0 else min (leastTo fs k) (wlAt fs k)
theorem leastTo_one (fs:List Tm):leastTo fs 1=wlAt fs 0:=by rw [leastTo,if_pos rfl]
theorem leastTo_succ {fs:List Tm} {k:Nat} (h:¬k=0):leastTo fs (k+1)=min (leastTo fs k) (wlAt fs k):=by rw [leastTo,if_neg h]
theorem leastTo_lt {fs:List Tm} {k:Nat} {x:Int} (h:¬k=0) (hx:wlAt fs k=x) (hl:x<leastTo fs k):leastTo fs (k+1)=x:=by rw [leastTo_succ h,hx];omega
theorem leastTo_ge {fs:List Tm} {k:Nat} {x:Int} (h:¬k=0) (hx:wlAt fs k=x) (hl:¬x<leastTo fs k):leastTo fs (k+1)=leastTo fs k:=by rw [leastTo_succ h,hx];omega
def leastW (fs:List Tm):Int:=leastTo fs fs.length
set_option maxHeartbeats 2000000 in
theorem l02Least_c {w : World} {a : Option Addr} {n : Nat} {fs : List Tm} (c : Nat) (h : Terms w a n fs) (hn : n ≤ 1048576) :
    Calls Try.prog 125 #[.agg #[.slice a n c]] w fun e w'=>e=.returned (.int .i64 (leastW fs))∧Below w.heap.size w w':=by
 have HL:=Lib.hid h.len
 have hb0:=bA1 w (.cells #[.slice a n c] 47)
 have hF0:=Own.new w 47 #[.slice a n c]
 go_enter Try.func125,Try.ntmps125
 go_wp2_with fail
 generalize w.alloc (.cells #[.slice a n c] 47)=w0 at *
 go_loopw [3,4] (fun o i wr=>∃k:Nat,k≤n∧i=.int .i64 k∧o=.int .i64 (leastTo fs k)∧Below w.heap.size w wr∧Own wr w.heap.size 47 #[.slice a n c]) (fun _ i _=>n - (intOf i).toNat)
 case atStart=>exact ⟨0,Nat.zero_le _,rfl,rfl,hb0,hF0⟩
 case round=>
  clear hb0 hF0;obtain ⟨k,hk,rfl,rfl,hb,hF⟩:=hrel;have c0:=hF.cell 0;by_cases hlt:k<n
  · obtain ⟨b,off,t,rfl,hbl,hr,ht,hx⟩:=(h.keep hb).at_ hlt;have HW:=Lib.hid (wlAt_of hx.out);obtain ⟨mt,ft⟩:=t;have hmt:IsMono mt:=ht.1;obtain ⟨p0,p1,p2,p3,p4,p5,p6,p7,rfl⟩:=mono8 hmt;obtain ⟨x,hxe⟩:∃x,wlen [p0,p1,p2,p3,p4,p5,p6,p7]=x:=⟨_,rfl⟩;have HX:=Lib.hid hxe;have HWX:Hid (wlAt fs k=x):=Lib.hid (HW.out.trans hxe);obtain ⟨l,hl⟩:∃l,leastTo fs k=l:=⟨_,rfl⟩;have HLT:=Lib.hid hl;rw [hl];clear hxe hl;have hi0:(0:Int)≤(k:Int):=(by omega);have hin:(k:Int)<(n:Int):=(by omega);by_cases hk0:k=0
    · subst hk0;rw [Nat.zero_mul,Nat.add_zero] at hr;obtain ⟨y0,y1,y2,y3,y4,y5,y6,y7,y8⟩:=nine hr;go_wp2_with fail
      refine (l02Word8 hmt HX.out).mono ?_;rintro e w1 ⟨rfl,hb1⟩;go_wp2_with fail
      go_roundw
      case rel=>exact ⟨1,by omega,by go_num,by rw [leastTo_one,HWX.out],bT' hb hb1 hb.size,hF.keep hb1 hF.lt⟩
      case measure=>simp [intOf] <;> omega
    · have hkb:((k:Int)==0)=false:=(by simp;omega);have HK0:=Lib.hid hk0;clear hk0;obtain ⟨y0,y1,y2,y3,y4,y5,y6,y7,y8⟩:=nine hr;by_cases hxl:x<l
      · go_wp2_with fail
        refine (l02Word8 hmt HX.out).mono ?_;rintro e w1 ⟨rfl,hb1⟩;go_wp2_with fail
        go_roundw
        case rel=>exact ⟨k+1,by omega,by go_num,by rw [leastTo_lt HK0.out HWX.out (by rw [HLT.out];exact hxl)],bT' hb hb1 hb.size,hF.keep hb1 hF.lt⟩
        case measure=>simp [intOf] <;> omega
      · go_wp2_with fail
        refine (l02Word8 hmt HX.out).mono ?_;rintro e w1 ⟨rfl,hb1⟩;go_wp2_with fail
        go_roundw
        case rel=>exact ⟨k+1,by omega,by go_num,by rw [leastTo_ge HK0.out HWX.out (by rw [HLT.out];omega),HLT.out],bT' hb hb1 hb.size,hF.keep hb1 hF.lt⟩
        case measure=>simp [intOf] <;> omega
  · have he:k=n:=(by omega);subst he;go_wp2_with fail
    go_ret
    exact ⟨ret_i (by rw [leastW,HL.out]),hb⟩
theorem isAlg_degs {zs:List Int} {ims:List (List Tm)} (h:isAlg zs ims=true):degsOk zs=true:=by
 simp only [isAlg,Bool.and_eq_true] at h
 exact h.1
end Go.Proofs.Ytndnkeijddagiaa
