
import Derived.Test.YtndnkeijddagiaaIsAlgS
import Derived.Test.YtndnkeijddagiaaWord
namespace Go.Proofs.Ytndnkeijddagiaa
set_option maxRecDepth 100000
open Go.RowKit Go.Deep
def algF (zs:List Int) (ims:List (List Tm)) (fs:List Tm):Bool:=isAlg zs ims && isForm zs fs
def algE (zs:List Int) (ims:List (List Tm)) (fs:List Tm):Int:=if algF zs ims fs=true then 0 else 1
def closV (zs:List Int) (ims:List (List Tm)) (fs:List Tm):Bool:=algF zs ims fs && closedB zs ims fs
def wordV (zs:List Int) (ims:List (List Tm)) (fs:List Tm):Int:=if algF zs ims fs=true then leastW fs else 0
theorem algE_no {zs:List Int} {ims:List (List Tm)} {fs:List Tm} (h:algF zs ims fs=false):algE zs ims fs=1∧closV zs ims fs=false∧wordV zs ims fs=0:=by simp [algE,closV,wordV,h]
theorem algE_yes {zs:List Int} {ims:List (List Tm)} {fs:List Tm} (h:algF zs ims fs=true):algE zs ims fs=0∧closV zs ims fs=closedB zs ims fs∧wordV zs ims fs=leastW fs:=by simp [algE,closV,wordV,h]
theorem isAlg_degs {zs:List Int} {ims:List (List Tm)} (h:isAlg zs ims=true):degsOk zs=true:=by
 simp only [isAlg,Bool.and_eq_true] at h
 exact h.1
theorem algF_alg {zs:List Int} {ims:List (List Tm)} {fs:List Tm} (h:algF zs ims fs=true):isAlg zs ims=true∧isForm zs fs=true:=by simpa [algF] using h
theorem isAlgebraWithForm_c {w : World} {da : Option Addr} {dn : Nat} {zs : List Int} {a : Option Addr} {n : Nat} {ims : List (List Tm)} {a2 : Option Addr} {n2 : Nat} {fs : List Tm} (dc c c2 : Nat) (hd : Ints w da dn zs) (hdn : dn ≤ 1048576) (hF : Frms w a n ims) (hn : n ≤ 1048576) (hL : ∀ im ∈ ims, (im.length : Int) ≤ 1048576) (h : Terms w a2 n2 fs) (hn2 : n2 ≤ 1048576) :
    Calls Try.prog 75 #[.agg #[.slice da dn dc,.slice a n c],.agg #[.slice a2 n2 c2]] w fun e w'=>e=.returned (.bool (algF zs ims fs))∧Below w.heap.size w w':=by
 have HLL:=Lib.hid hL
 clear hL
 have hA:=(Own.new w 29 #[.slice da dn dc,.slice a n c]).alloc (.cells #[.slice a2 n2 c2] 47)
 have hG:=Own.new (w.alloc (.cells #[.slice da dn dc,.slice a n c] 29)) 47 #[.slice a2 n2 c2]
 rw [sAl] at hG
 have hb:=bTn (bA1 w (.cells #[.slice da dn dc,.slice a n c] 29)) (bA1 _ (.cells #[.slice a2 n2 c2] 47))
 have c0:=hA.cell 0
 have c1:=hA.cell 1
 cases hal:isAlg zs ims
 all_goals
  have HA:=Lib.hid hal;clear hal;go_enter Try.func75,Try.ntmps75
  go_upto_region 1 with fail
  generalize (w.alloc (.cells #[.slice da dn dc,.slice a n c] 29)).alloc (.cells #[.slice a2 n2 c2] 47)=w0 at *;go_wp2_with fail
  refine (IsAlgebra_c dc c (hd.keep hb) hdn (hF.keep hb) hn HLL.out).mono ?_;rintro e w1 ⟨rfl,hb1⟩;rw [HA.out];have hA1:=hA.keep hb1 hA.lt;have hG1:=hG.keep hb1 hG.lt;have hb2:=bT' hb hb1 hb.size;clear hA hG hb hb1 c0 c1;have c0:=hA1.cell 0;have cg:=hG1.cell 0
 · go_wp2_with fail
   go_ret
   exact ⟨ret_b (by rw [algF,HA.out];rfl),hb2⟩
 · go_wp2_with fail
   refine (IsForm_c dc c2 (hd.keep hb2) hdn (h.keep hb2) hn2).mono ?_;rintro e w2 ⟨rfl,hb3⟩;go_wp2_with fail
   go_ret
   exact ⟨ret_b (by rw [algF,HA.out];rfl),bT' hb2 hb3 hb2.size⟩
theorem l02Both_c {w : World} {da : Option Addr} {dn : Nat} {zs : List Int} {a : Option Addr} {n : Nat} {ims : List (List Tm)} {a2 : Option Addr} {n2 : Nat} {fs : List Tm} (dc c c2 : Nat) (hd : Ints w da dn zs) (hdn : dn ≤ 1048576) (hF : Frms w a n ims) (hn : n ≤ 1048576) (hL : ∀ im ∈ ims, (im.length : Int) ≤ 1048576) (h : Terms w a2 n2 fs) (hn2 : n2 ≤ 1048576) :
    Calls Try.prog 69 #[.agg #[.slice da dn dc,.slice a n c],.agg #[.slice a2 n2 c2]] w fun e w'=>e=.returned (.int .i64 (algE zs ims fs))∧Below w.heap.size w w':=by
 have HLL:=Lib.hid hL
 clear hL
 have hA:=(Own.new w 29 #[.slice da dn dc,.slice a n c]).alloc (.cells #[.slice a2 n2 c2] 47)
 have hG:=Own.new (w.alloc (.cells #[.slice da dn dc,.slice a n c] 29)) 47 #[.slice a2 n2 c2]
 rw [sAl] at hG
 have hb:=bTn (bA1 w (.cells #[.slice da dn dc,.slice a n c] 29)) (bA1 _ (.cells #[.slice a2 n2 c2] 47))
 have c0:=hA.cell 0
 have c1:=hA.cell 1
 cases hal:isAlg zs ims
 case false=>
  have HA:=Lib.hid hal;clear hal;go_enter Try.func69,Try.ntmps69
  go_upto_region 1 with fail
  generalize (w.alloc (.cells #[.slice da dn dc,.slice a n c] 29)).alloc (.cells #[.slice a2 n2 c2] 47)=w0 at *;go_wp2_with fail
  refine (l02Is_c dc c (hd.keep hb) hdn (hF.keep hb) hn HLL.out).mono ?_;rintro e w1 ⟨rfl,hb1⟩;rw [HA.out];go_wp2_with fail
  go_ret
  exact ⟨ret_i (by rw [(algE_no (by rw [algF,HA.out];rfl)).1]),bT' hb hb1 hb.size⟩
 case true=>
  have HF:Hid (isForm zs fs=(listOk zs fs && decide (fs.length≤400))):=Lib.hid (by rw [isForm,isAlg_degs hal,Bool.true_and]);have HA:=Lib.hid hal;clear hal;cases hq:(listOk zs fs && decide (fs.length≤400))
  all_goals
   have HQ:=Lib.hid hq;clear hq;go_enter Try.func69,Try.ntmps69
   go_upto_region 1 with fail
   generalize (w.alloc (.cells #[.slice da dn dc,.slice a n c] 29)).alloc (.cells #[.slice a2 n2 c2] 47)=w0 at *;go_wp2_with fail
   refine (l02Is_c dc c (hd.keep hb) hdn (hF.keep hb) hn HLL.out).mono ?_;rintro e w1 ⟨rfl,hb1⟩;rw [HA.out];have hA1:=hA.keep hb1 hA.lt;have hG1:=hG.keep hb1 hG.lt;have hb2:=bT' hb hb1 hb.size;clear hA hG hb hb1 c0 c1;have c0:=hA1.cell 0;have cg:=hG1.cell 0;go_wp2_with fail
   refine (l01Is_c dc c2 (hd.keep hb2) hdn (h.keep hb2) hn2).mono ?_;rintro e w2 ⟨rfl,hb3⟩;rw [HQ.out];go_wp2_with fail
   go_ret
  · exact ⟨ret_i (by rw [(algE_no (by rw [algF,HA.out,HF.out,HQ.out];rfl)).1]),bT' hb2 hb3 hb2.size⟩
  · exact ⟨ret_i (by rw [(algE_yes (by rw [algF,HA.out,HF.out,HQ.out];rfl)).1]),bT' hb2 hb3 hb2.size⟩
end Go.Proofs.Ytndnkeijddagiaa
