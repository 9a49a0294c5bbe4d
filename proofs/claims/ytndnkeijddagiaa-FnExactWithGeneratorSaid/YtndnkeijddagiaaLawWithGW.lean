
import Derived.Test.YtndnkeijddagiaaLawWithG
import Derived.Test.YtndnkeijddagiaaWithP
import Derived.DataShut
namespace Go.Proofs.Ytndnkeijddagiaa
open Go.RowKit Go.Deep
theorem wg_len (zs:List Int) (ims:List (List Tm)) (fs:List Tm) (d:Int):(wgD zs ims fs d).length≤9∧(wgI zs ims fs d).length≤9∧∀ts∈wgI zs ims fs d,ts.length≤400:=by
 by_cases h:wgE zs ims fs d=0
 · have ha : algF zs ims fs = true := by
     cases hh:algF zs ims fs with
     | true=>rfl
     | false=>rw [wg_1 hh] at h;omega
   have h1:=degsOk_len (isAlg_degs (algF_alg ha).1);have h2:=isAlg_lenQ2 (algF_alg ha).1;have h3:=isForm_400 (algF_alg ha).2;rw [wgD,if_pos h,wgI,if_pos h];refine ⟨by simp;omega,by simp;omega,fun ts hts=>?_⟩
   rcases List.mem_append.1 hts with h4 | h4
   · exact isAlg_400b (algF_alg ha).1 ts h4
   · obtain rfl:ts=fs:=(by simpa using h4);exact h3
 · rw [wgD,if_neg h,wgI,if_neg h];simp
theorem withGenerator_walk (da : Option Addr) (dn dc : Nat) (zs : List Int) (a : Option Addr) (n c : Nat) (fss : List (List Tm)) (x : Int) (a2 : Option Addr) (n2 c2 : Nat) (fs : List Tm) (w : World) (hd : Ints w da dn zs) (hdm : (dn : Int) ≤ 9223372036854775807) (hF : Frms w a n fss) (hnm : (n : Int) ≤ 9223372036854775807)
    (hx:(Lit.int .i64 x).wf=true) (h2:Terms w a2 n2 fs) (hm2:(n2:Int)≤9223372036854775807) :
    Calls Try.prog 7 #[.agg #[.slice da dn dc,.slice a n c],.int .i64 x,.agg #[.slice a2 n2 c2]] w fun e w'=>e=.returned (.bool true)∧Below w.heap.size w w':=by
 obtain ⟨hl1,hl2,hl3⟩:=wg_len zs fss fs x
 have hxr:-9223372036854775808≤x∧x≤9223372036854775807:=by
  have h0:=(Lit.wf_int_iff .i64 x).1 hx;have e1:IntKind.i64.min=-9223372036854775808:=(by decide);have e2:IntKind.i64.max=9223372036854775807:=(by decide);rw [e1,e2] at h0;exact h0
 exact lawWithG_walk da dn dc zs a n c fss x a2 n2 c2 fs w hd hdm hF hnm hx h2 hm2 (wgD zs fss fs x) (wgI zs fss fs x) (wgE zs fss fs x) _ _ rfl rfl (by omega) (by omega) (fun ts hts=>by have:=hl3 ts hts;omega)
  (by have:=sumLen_bdB hl3;have:(wgI zs fss fs x).length * 400≤9 * 400:=Nat.mul_le_mul_right 400 hl2;omega)
  (fun w' gd gi p q gf p2 h1 h3 h4 h5 h6 h7 h8 h9 h10=>WithGenerator_s p q p2 x h7 h1 h8 h3 h4 h5 h6 h10 h9 hxr.1 hxr.2)
  (fun w' gd gi p q gf p2 h1 h3 h4 h5 h6 h7 h8 h9 h10=>WithGenerator_c p q p2 x h7 h1 h8 h3 h4 h5 h6 h10 h9 hxr.1 hxr.2)
end Go.Proofs.Ytndnkeijddagiaa
