
import Derived.Test.YtfheammnkmjabaaGreatSide
import Derived.Test.YtfheammnkmjabaaGreatIsAlgS
namespace Go.Proofs.YtfheammnkmjabaaGreat
set_option maxRecDepth 100000
open Go.RowKit Go.Deep
def code3 (zs:List Int) (ims:List (List Tm)) (L:Nat) (n:Int):Int:=if isAlg zs ims=false then 1 else if ¬(0≤n∧n≤20) then 2 else if many zs L (n.toNat+1 - L)=true then 3 else 0
theorem isAlg_dg {zs:List Int} {ims:List (List Tm)} (h:isAlg zs ims=true):degsOk zs=true:=by
 simp only [isAlg,Bool.and_eq_true] at h
 exact h.1
structure From3 (lo n:Int) (L:Nat):Prop where
 lo:(¬lo<0∧lo=L)∨(lo<0∧L=0)
 le:L≤n.toNat+1
set_option maxHeartbeats 4000000 in
theorem checkDegrees_c {w : World} {da : Option Addr} {dn : Nat} {zs : List Int} {a : Option Addr} {k : Nat} {ims : List (List Tm)} {lo n : Int} {L : Nat} (dc c : Nat) (hd : Ints w da dn zs) (hdn : dn ≤ 1048576) (hF : Frms w a k ims) (hk : k ≤ 1048576) (hL : ∀ im ∈ ims, (im.length : Int) ≤ 1048576) (h3 : 0 ≤ n → n ≤ 20 → From3 lo n L) :
    Calls Tryz.prog 36 #[.agg #[.slice da dn dc,.slice a k c],.int .i64 lo,.int .i64 n] w fun e w'=>e=.returned (.int .i64 (code3 zs ims L n))∧Below w.heap.size w w':=by
 have HD:=Lib.hid hd
 have HF:=Lib.hid hF
 have HLL:=Lib.hid hL
 have H3:=Lib.hid h3
 have hO:=Own.new w 31 #[.slice da dn dc,.slice a k c]
 have hb:=bA1 w (.cells #[.slice da dn dc,.slice a k c] 31)
 clear hd hF hL h3
 go_enter Tryz.func36,Tryz.ntmps36
 go_wp2_with fail
 refine (IsAlgebra_c dc c (HD.out.keep hb) hdn (HF.out.keep hb) hk HLL.out).mono ?_
 rintro e w1 ⟨rfl,hb1⟩
 have hO1:=hO.keep hb1 hO.lt
 have hb2:=bTn hb hb1
 clear hO hb hb1
 cases hA:isAlg zs ims with
 | false =>
   have hC:code3 zs ims L n=1:=(by rw [code3,if_pos hA]);clear hA;go_wp2_with fail
   go_ret
   exact ⟨by rw [hC];rfl,hb2⟩
 | true =>
   have HA:=Lib.hid hA;clear hA;by_cases h0:0≤n
   · by_cases h20:n≤20
     · obtain ⟨m,rfl⟩:∃m:Nat,n=m:=⟨n.toNat,by omega⟩;have hF3:=H3.out h0 h20
       have hC:code3 zs ims L (m:Int)=if many zs L (m+1 - L)=true then 3 else 0:=by
        rw [code3,if_neg (by rw [HA.out];simp),if_neg (by omega)];rfl
       have HC:=Lib.hid hC;clear hC;have hle:=hF3.le;have hlo:=Lib.hid hF3.lo;have e1:IntKind.i64.wrap ((m:Int)+1)=((m+1:Nat):Int):=IntWalk.i64_in _ (by omega);have hn1:¬(m:Int)<0:=(by omega);have hn2:¬(20:Int)<(m:Int):=(by omega);have c0:=hO1.cell 0;have c1:=hO1.cell 1;have hHM:=hasMany_c (w:=w1) (a:=a) (n:=k) (lo:=lo) (L:=L) (H:=m+1) dc c (HD.out.keep hb2) (isAlg_dg HA.out) (by have:=hlo.out;omega) (by omega) (by omega);obtain ⟨bq,hbq⟩:∃b,many zs L (m+1 - L)=b:=⟨_,rfl⟩;have hC:=HC.out;rw [hbq] at hHM hC;rw [Int.natCast_add,Int.natCast_one] at hHM;rw [Int.natCast_add,Int.natCast_one] at e1;have HM:=Lib.hid hHM;clear hF3 hbq hHM HC
       cases bq with
       | true =>
         rw [if_pos rfl] at hC;have HC:=Lib.hid hC;clear hC;go_wp2_with fail
         clear c0 c1;refine HM.out.mono ?_;rintro e w2 ⟨rfl,hb3⟩;have hb4:=hb2.trans (hb3.mono hb2.size);clear hO1 hb2 hb3;go_wp2_with fail
         go_ret
         exact ⟨by rw [HC.out];rfl,hb4⟩
       | false =>
         rw [if_neg (by simp)] at hC;have HC:=Lib.hid hC;clear hC;go_wp2_with fail
         clear c0 c1;refine HM.out.mono ?_;rintro e w2 ⟨rfl,hb3⟩;have hb4:=hb2.trans (hb3.mono hb2.size);clear hO1 hb2 hb3;go_wp2_with fail
         go_ret
         exact ⟨by rw [HC.out];rfl,hb4⟩
     · have hC:code3 zs ims L n=2:=(by rw [code3,if_neg (by rw [HA.out];simp),if_pos (by omega)]);have HC:=Lib.hid hC;have hn1:¬n<0:=(by omega);have hn2:(20:Int)<n:=(by omega);clear hC;go_wp2_with fail
       go_ret
       exact ⟨by rw [HC.out];rfl,hb2⟩
   · have hC:code3 zs ims L n=2:=(by rw [code3,if_neg (by rw [HA.out];simp),if_pos (by omega)]);have HC:=Lib.hid hC;have hn1:n<0:=(by omega);clear hC;go_wp2_with fail
     go_ret
     exact ⟨by rw [HC.out];rfl,hb2⟩
end Go.Proofs.YtfheammnkmjabaaGreat
