
import Derived.Test.YtfheammnkmjabaaGreatBin
namespace Go.Proofs.YtfheammnkmjabaaGreat
set_option maxRecDepth 100000
open Go.RowKit Go.Deep
def gmx (zs:List Int) (lo:Nat):Nat→Int
 | 0=>(cnt zs lo:Int)
 | k+1=>max (gmx zs lo k) (cnt zs (lo+k+1):Int)
theorem gmx_le {zs:List Int} {lo:Nat} {x:Int}:∀{k:Nat},gmx zs lo k≤x↔∀i,i≤k→(cnt zs (lo+i):Int)≤x
 | 0 => by
   constructor
   · intro h i hi;obtain rfl:i=0:=(by omega);exact h
   · intro h;exact h 0 (by omega)
 | k + 1 => by
   rw [gmx];constructor
   · intro h i hi;by_cases e:i=k+1
     · subst e;rw [←Nat.add_assoc];omega
     · exact (gmx_le (k:=k)).1 (by omega) i (by omega)
   · intro h;have h1:=gmx_le (zs:=zs) (lo:=lo) (x:=x) (k:=k) |>.2 (fun i hi=>h i (by omega))
     have h2:=h (k+1) (by omega);rw [←Nat.add_assoc] at h2;omega
theorem gmx_succ {zs:List Int} {lo j:Nat} {y:Int} (hy:(cnt zs (lo+j+1):Int)=y):gmx zs lo (j+1)=max (gmx zs lo j) y:=by rw [gmx,hy]
def many (zs:List Int) (lo k:Nat):Bool:=decide (120<gmx zs lo k)
theorem MaxI_c {w : World} {g lo c N : Nat} {k : Nat} {zs : List Int} (hN : N = k + 1) (hc : ∀ i, i ≤ k → w.cell? ⟨g, lo + i, none⟩ = some (.int .i64 (cnt zs (lo + i) : Int))) (hk : k ≤ 900) :
    Calls Tryz.prog 77 #[.slice (some ⟨g,lo,none⟩) N c] w fun e w'=>e=.returned (.int .i64 (gmx zs lo k))∧w=w':=by
 subst hN
 have HC:=Lib.hid hc
 have c0:=hc 0 (by omega)
 rw [Nat.add_zero] at c0
 clear hc
 go_enter Tryz.func77,Tryz.ntmps77
 go_wp2
 go_loop [3,4] (fun v i=>∃j:Nat,j≤k∧i=.int .i64 ((j:Int)+1)∧v=.int .i64 (gmx zs lo j)) (fun _ i=>(k+1) - (intOf i).toNat)
 case atStart=>exact ⟨0,by omega,rfl,rfl⟩
 case round=>
  obtain ⟨j,hj,rfl,rfl⟩:=hrel;by_cases hlt:j<k
  · obtain ⟨y,hy⟩:∃y,(cnt zs (lo+j+1):Int)=y:=⟨_,rfl⟩
    have cj:w.cell? ⟨g,lo+(j+1),none⟩=some (.int .i64 y):=by
     rw [HC.out (j+1) (by omega),←hy];rfl
    have HY:=Lib.hid hy;clear hy c0;have hji:(j:Int)+1<(k:Int)+1:=by omega
    go_wp2
    go_round
    case rel=>exact ⟨j+1,by omega,by go_num,by rw [gmx_succ HY.out];congr 1;split <;> omega⟩
    case measure=>simp [intOf] <;> omega
  · have:j=k:=(by omega);subst this
    go_wp2
    go_ret
    exact ⟨rfl,rfl⟩
theorem hasMany_c {w : World} {da : Option Addr} {dn : Nat} {zs : List Int} {a : Option Addr} {n L H : Nat} {lo : Int} (dc c : Nat) (hd : Ints w da dn zs) (hz : degsOk zs = true) (hlo : (¬ lo < 0 ∧ lo = L) ∨ (lo < 0 ∧ L = 0)) (hLH : L ≤ H) (hH : H ≤ 900) :
    Calls Tryz.prog 53 #[.agg #[.slice da dn dc,.slice a n c],.int .i64 lo,.int .i64 H] w fun e w'=>e=.returned (.bool (many zs L (H - L)))∧Below w.heap.size w w':=by
 obtain ⟨k,hk⟩:∃k,L+k=H:=⟨H - L,by omega⟩
 have e1:H - L=k:=by omega
 rw [e1]
 have HK:=Lib.hid hk
 have HD:=Lib.hid (hd.keep (bA1 w (.cells #[.slice da dn dc,.slice a n c] 31)))
 have hO:=Own.new w 31 #[.slice da dn dc,.slice a n c]
 have hb:=bA1 w (.cells #[.slice da dn dc,.slice a n c] 31)
 clear hk e1 hd
 go_enter Tryz.func53,Tryz.ntmps53
 go_wp2_with fail
 refine (countMonomials_c dc HD.out hz hH).mono ?_
 rintro e w1 ⟨g,gf,rfl,hg,hgf,hT,hb1⟩
 have c0:=hT.own.cell 0
 rw [tabC_get (by omega) (by omega)] at c0
 have r0:=hT.row 0 (by omega) (by omega)
 rw [List.drop_zero] at r0
 generalize gf 0=g0 at *
 have HC:Hid (∀i,i≤k→w1.cell? ⟨g0,L+i,none⟩=some (.int .i64 (cnt zs (L+i):Int))):=Lib.hid (fun i hi=>by
  have:=HK.out;rw [r0.cell (L+i)]
  exact ofI_get (cntR_get (by omega)))
 have hb2:=bTn hb hb1
 clear hT r0 hg hgf hO hb hb1 HD
 rcases hlo with ⟨hl,rfl⟩ | ⟨hl,rfl⟩
 all_goals
  go_wp2_with fail
  refine (MaxI_c (by have:=HK.out;omega) HC.out (by have:=HK.out;omega)).mono ?_;rintro e w' ⟨rfl,rfl⟩;go_wp2_with fail
  go_ret
  exact ⟨rfl,hb2⟩
def Few (zs:List Int) (L m:Nat):Prop:=∀i,L≤i→i<m→cnt zs i≤120
theorem Few.start {zs:List Int} {L:Nat}:Few zs L L:=fun i h1 h2=>absurd h2 (by omega)
theorem Few.step {zs:List Int} {L m:Nat} (h:Few zs L m) (hc:¬120<cnt zs m):Few zs L (m+1):=fun i h1 h2=>by
 by_cases e:i=m
 · subst e;omega
 · exact h i h1 (by omega)
theorem Few.not_many {zs:List Int} {L k:Nat} (h:Few zs L (L+k+1)):many zs L k=false:=by
 rw [many,decide_eq_false_iff_not]
 have:gmx zs L k≤120:=gmx_le.2 fun i hi=>by have:=h (L+i) (by omega) (by omega);omega
 omega
theorem many_at {zs:List Int} {L k m:Nat} (h1:L≤m) (h2:m≤L+k) (h:120<cnt zs m):many zs L k=true:=by
 rw [many,decide_eq_true_eq]
 by_cases hh:120<gmx zs L k
 · exact hh
 · have:=gmx_le.1 (show gmx zs L k≤120 by omega) (m - L) (by omega);rw [show L+(m - L)=m by omega] at this;omega
theorem within3_c {w : World} {da : Option Addr} {dn : Nat} {zs : List Int} {a : Option Addr} {n L H : Nat} {lo : Int} (dc c : Nat) (hd : Ints w da dn zs) (hz : degsOk zs = true) (hlo : (¬ lo < 0 ∧ lo = L) ∨ (lo < 0 ∧ L = 0)) (hLH : L ≤ H) (hH : H ≤ 900) :
    Calls Tryz.prog 31 #[.agg #[.slice da dn dc,.slice a n c],.int .i64 lo,.int .i64 H] w fun e w'=>e=.returned (.bool (!many zs L (H - L)))∧Below w.heap.size w w':=by
 obtain ⟨k,hk⟩:∃k,L+k=H:=⟨H - L,by omega⟩
 have e1:H - L=k:=by omega
 rw [e1]
 have HK:=Lib.hid hk
 have HD:=Lib.hid (hd.keep (bA1 w (.cells #[.slice da dn dc,.slice a n c] 31)))
 have hO:=Own.new w 31 #[.slice da dn dc,.slice a n c]
 have hb:=bA1 w (.cells #[.slice da dn dc,.slice a n c] 31)
 have HZ:=Lib.hid hz
 clear hk e1 hd hz
 go_enter Tryz.func31,Tryz.ntmps31
 rcases hlo with ⟨hl,rfl⟩ | ⟨hl,h0⟩
 · go_wp2_with fail
   generalize w.alloc (.cells #[.slice da dn dc,.slice a n c] 31)=w1 at *;have hgs:=Lib.hid hb.size;generalize hge:w.heap.size=g at *;have HGE:=Lib.hid hge;clear hge
   go_loopw [7] (fun v wr=>∃m:Nat,L≤m∧m≤H+1∧v=.int .i64 m∧Few zs L m∧Below w1.heap.size w1 wr) (fun v _=>H+1 - (intOf v).toNat)
   case atStart=>exact ⟨L,Nat.le_refl _,by omega,rfl,Few.start,Below.refl _ _⟩
   case round=>
    obtain ⟨m,hLm,hmH,rfl,hFew,hbr⟩:=hrel;have HF:=Lib.hid hFew;clear hFew;by_cases hm:m≤H
    · have hmi:(m:Int)≤(H:Int):=(by omega);have c0:=(hO.keep hbr hO.lt).cell 0;go_wp2_with fail
      clear c0;refine (l01Monomials_c dc (HD.out.keep hbr) HZ.out (by omega)).mono ?_;rintro e w2 ⟨ra,rn,rc,rfl,hM,hb2⟩;have hrn:rn=min 401 (cnt zs m):=(by rw [←hM.1,List.length_take,ext_len,cnt]);have HR:=Lib.hid hrn;have hbs:=hbr.trans (hb2.mono hbr.size);clear hM hb2 hrn;by_cases h120:120<rn
      · have hi:(120:Int)<(rn:Int):=(by omega);go_wp2_with fail
        go_ret
        exact ⟨by rw [many_at (m:=m) hLm (by have:=HK.out;omega) (by have:=HR.out;omega)];rfl,by rw [HGE.out];exact hb.trans (hbs.mono hgs.out)⟩
      · have hi:¬(120:Int)<(rn:Int):=(by omega);go_wp2_with fail
        go_roundw
        case rel=>exact ⟨m+1,by omega,by omega,by go_num,HF.out.step (by have:=HR.out;omega),hbs⟩
        case measure=>simp [intOf] <;> omega
    · have hmi:¬(m:Int)≤(H:Int):=(by omega);go_wp2_with fail
      go_ret
      have hmk:m=L+k+1:=(by have:=HK.out;omega);exact ⟨by rw [(hmk ▸ HF.out:Few zs L (L+k+1)).not_many];rfl,by rw [HGE.out];exact hb.trans (hbr.mono hgs.out)⟩
 · have H0:=Lib.hid h0;clear h0;go_wp2_with fail
   generalize w.alloc (.cells #[.slice da dn dc,.slice a n c] 31)=w1 at *;have hgs:=Lib.hid hb.size;generalize hge:w.heap.size=g at *;have HGE:=Lib.hid hge;clear hge
   go_loopw [7] (fun v wr=>∃m:Nat,L≤m∧m≤H+1∧v=.int .i64 m∧Few zs L m∧Below w1.heap.size w1 wr) (fun v _=>H+1 - (intOf v).toNat)
   case atStart=>exact ⟨L,Nat.le_refl _,by omega,by rw [H0.out];rfl,Few.start,Below.refl _ _⟩
   case round=>
    obtain ⟨m,hLm,hmH,rfl,hFew,hbr⟩:=hrel;have HF:=Lib.hid hFew;clear hFew;by_cases hm:m≤H
    · have hmi:(m:Int)≤(H:Int):=(by omega);have c0:=(hO.keep hbr hO.lt).cell 0;go_wp2_with fail
      clear c0;refine (l01Monomials_c dc (HD.out.keep hbr) HZ.out (by omega)).mono ?_;rintro e w2 ⟨ra,rn,rc,rfl,hM,hb2⟩;have hrn:rn=min 401 (cnt zs m):=(by rw [←hM.1,List.length_take,ext_len,cnt]);have HR:=Lib.hid hrn;have hbs:=hbr.trans (hb2.mono hbr.size);clear hM hb2 hrn;by_cases h120:120<rn
      · have hi:(120:Int)<(rn:Int):=(by omega);go_wp2_with fail
        go_ret
        exact ⟨by rw [many_at (m:=m) hLm (by have:=HK.out;omega) (by have:=HR.out;omega)];rfl,by rw [HGE.out];exact hb.trans (hbs.mono hgs.out)⟩
      · have hi:¬(120:Int)<(rn:Int):=(by omega);go_wp2_with fail
        go_roundw
        case rel=>exact ⟨m+1,by omega,by omega,by go_num,HF.out.step (by have:=HR.out;omega),hbs⟩
        case measure=>simp [intOf] <;> omega
    · have hmi:¬(m:Int)≤(H:Int):=(by omega);go_wp2_with fail
      go_ret
      have hmk:m=L+k+1:=(by have:=HK.out;omega);exact ⟨by rw [(hmk ▸ HF.out:Few zs L (L+k+1)).not_many];rfl,by rw [HGE.out];exact hb.trans (hbr.mono hgs.out)⟩
end Go.Proofs.YtfheammnkmjabaaGreat
