
import Derived.Test.YtdppjlndcacfnaaGreatAppC
import Derived.Test.YtdppjlndcacfnaaGreatBrD
import Derived.Test.YtdppjlndcacfnaaGreatAdd9C
namespace Go.Proofs.YtdppjlndcacfnaaGreat
set_option maxRecDepth 100000
open Go.RowKit Go.Deep
set_option maxHeartbeats 8000000 in
theorem DifferentialOfDerivation_c {w : World} {da : Option Addr} {dn : Nat} {zs : List Int} {a : Option Addr} {n : Nat} {ims : List (List Tm)} {a2 : Option Addr} {n2 : Nat} {gss : List (List Tm)} (dc c : Nat) (k : Int) (c2 : Nat) (hd : Ints w da dn zs) (hdn : dn ≤ 1048576) (hF : Frms w a n ims) (hn : n ≤ 1048576) (hL : ∀ im ∈ ims, (im.length : Int) ≤ 1048576) (hF2 : FrmsA w a2 n2 gss) (hn2 : n2 ≤ 1048576) (hL2 : ∀ im ∈ gss, (im.length : Int) ≤ 1048576) (hT2 : ∀ ts ∈ gss, ∀ t ∈ ts, IsTm t) :
    Calls Tryz.prog 19 #[.agg #[.slice da dn dc,.slice a n c],.agg #[.int .i64 k,.slice a2 n2 c2]] w fun e w'=>∃rb bn bc,e=.returned (.tuple #[.agg #[.int .i64 (df9D zs ims k gss),.slice rb bn bc],.int .i64 (df9E zs ims k gss)])∧OwnF w' w.heap.size w'.heap.size rb bn (df9I zs ims k gss)∧Below w.heap.size w w':=by
 have HLn2:=Lib.hid hF2.1
 have HLL:=Lib.hid hL
 have HLL2:=Lib.hid hL2
 have HT2:=Lib.hid hT2
 have HDL:=Lib.hid hd.len
 have HD:=Lib.hid hd
 have HF:=Lib.hid hF
 have HF2:=Lib.hid hF2
 clear hL hL2 hT2
 obtain ⟨hA,hT,hR,hb⟩:=own3' w 36 32 32 #[.slice da dn dc,.slice a n c] #[.int .i64 k,.slice a2 n2 c2] #[.int .i64 0,.slice none 0 0]
 go_enter Tryz.func19,Tryz.ntmps19
 go_upto_region 1 with fail
 generalize ((w.alloc (.cells #[.slice da dn dc,.slice a n c] 36)).alloc (.cells #[.int .i64 k,.slice a2 n2 c2] 32)).alloc (.cells #[.int .i64 0,.slice none 0 0] 32)=w0 at *
 generalize hg2:w.heap.size+1+1=g2 at *
 generalize hg1:w.heap.size+1=g1 at *
 generalize hg0:w.heap.size=g0 at *
 have HG:=Lib.hid hg0
 have e1:=hg1
 have e2:=hg2
 clear hg0 hg1 hg2
 have c0:=hA.cell 0
 have c1:=hA.cell 1
 have s0:=hT.cell 0
 have s1:=hT.cell 1
 have hX:=Own.new w0 32 #[.int .i64 k,.slice a2 n2 c2]
 have hbX:=bA1 w0 (.cells #[.int .i64 k,.slice a2 n2 c2] 32)
 have hbx:Below w.heap.size w (w0.alloc (.cells #[.int .i64 k,.slice a2 n2 c2] 32)):=by rw [HG.out];exact bT' hb hbX (by have:=hA.lt;omega)
 replace hb:=bT' hb hbX (by have:=hA.lt;omega)
 replace hA:=hA.keep hbX hA.lt
 replace hT:=hT.keep hbX hT.lt
 replace hR:=hR.keep hbX hR.lt
 clear hbX
 go_wp2_with fail
 have hDs:Ders (w0.alloc (.cells #[.int .i64 k,.slice a2 n2 c2] 32)) w0.heap.size 0 [(k,gss)]:=⟨hX.lt,fun i x hx=>by
  obtain ⟨h1,rfl⟩:=List.getElem?_eq_some_iff.1 hx;have hi:i=0:=(by simpa using h1);subst hi
  exact ⟨a2,n2,c2,hX.cell 0,hX.cell 1,(HF2.out.frms HLL2.out).keep hbx,hn2⟩⟩
 refine (areDerivations_c (m:=1) dc c 1 (HD.out.keep hbx) hdn (HF.out.keep hbx) hn HLL.out hDs rfl (by omega) (fun x hx=>by rw [List.mem_singleton.1 hx];exact HLL2.out)).mono ?_
 rintro e w1 ⟨rfl,hbX⟩
 rw [dersB_one]
 clear hX hDs hbx c0 c1 s0 s1
 replace hb:=bT' hb hbX (by have:=hA.lt;omega)
 replace hA:=hA.keep hbX hA.lt
 replace hT:=hT.keep hbX hT.lt
 replace hR:=hR.keep hbX hR.lt
 clear hbX
 cases hd1:derB zs ims k gss
 · have HE:=Lib.hid (df9_1 (k:=k) hd1);clear hd1;have r0:=hR.cell 0;have r1:=hR.cell 1;have f0:=hR.frozen 0;have f1:=hR.frozen 1;go_wp2_with fail
   have q:=(hR.set 0 (.int .i64 0)).set 1 (.slice none 0 0);have qb:=(hb.setCell (p:=⟨g2,0,none⟩) (by dsimp only;omega) (.int .i64 0)).setCell (p:=⟨g2,1,none⟩) (by dsimp only;omega) (.slice none 0 0);exact bodyPost_ret (results_row2 rfl _ _ g2 32 #[.int .i64 0,.slice none 0 0] (0,0) _ rfl q Tryz.underlying32 rfl Tryz.info_der) rfl ⟨none,0,0,by rw [HE.out.1,HE.out.2.1];rfl,by rw [HE.out.2.2];exact OwnF.none_,by rw [HG.out];exact qb⟩
 · have H1:=Lib.hid hd1;clear hd1;obtain ⟨hk0,hk12⟩:=derB_k H1.out;by_cases hz:k=0
   · have HE:=Lib.hid (df9_2 H1.out hz);have hzb:(k==0)=true:=(by simpa using hz);have s0:=hT.cell 0;clear hz;have r0:=hR.cell 0;have r1:=hR.cell 1;have f0:=hR.frozen 0;have f1:=hR.frozen 1;go_wp2_with fail
     have q:=(hR.set 0 (.int .i64 0)).set 1 (.slice none 0 0);have qb:=(hb.setCell (p:=⟨g2,0,none⟩) (by dsimp only;omega) (.int .i64 0)).setCell (p:=⟨g2,1,none⟩) (by dsimp only;omega) (.slice none 0 0);exact bodyPost_ret (results_row2 rfl _ _ g2 32 #[.int .i64 0,.slice none 0 0] (0,0) _ rfl q Tryz.underlying32 rfl Tryz.info_der) rfl ⟨none,0,0,by rw [HE.out.1,HE.out.2.1];rfl,by rw [HE.out.2.2];exact OwnF.none_,by rw [HG.out];exact qb⟩
   · have HE:=Lib.hid (df9_0 H1.out hz);have hzb:(k==0)=false:=(by simpa using hz);have hl2:=derB_len H1.out;have HAL:=Lib.hid (derB_alg H1.out);obtain rfl:dn=n2:=(by have:=HLn2.out;have:=HDL.out;omega);have s0:=hT.cell 0;have s1:=hT.cell 1;have c0:=hA.cell 0;have c1:=hA.cell 1;have hbw:Below w.heap.size w w1:=(by rw [HG.out];exact hb);go_wp2_with fail
     refine (bracketD_c dc c k c2 (HD.out.keep hbw) (HF.out.keep hbw) ((HF2.out.frms HLL2.out).keep hbw) (isAlg_ok HAL.out HF.out.tm) (derB_ok H1.out HT2.out) ⟨hk0,hk12⟩).mono ?_;rintro e w2 ⟨rb,bn,bc,rfl,hO,hbX⟩;clear s0 s1 c0 c1 hbw;have HO:=Lib.hid ((hO.keep (Below.refl _ _)).weaken (lo':=g0) (by have:=hA.lt;omega) (Nat.le_refl _));clear hO;replace hb:=bT' hb hbX (by have:=hA.lt;omega);replace hA:=hA.keep hbX hA.lt;replace hT:=hT.keep hbX hT.lt;replace hR:=hR.keep hbX hR.lt;clear hbX;have r0:=hR.cell 0;have r1:=hR.cell 1;have f0:=hR.frozen 0;have f1:=hR.frozen 1;obtain ⟨DD,hDD⟩:∃D,brD zs (dfAt zs ims k gss) dn (-1+k)=D:=⟨_,rfl⟩;obtain ⟨EE,hEE⟩:∃E,brE zs (dfAt zs ims k gss) dn=E:=⟨_,rfl⟩;have HDD:=Lib.hid hDD;have HEE:=Lib.hid hEE;rw [hDD,hEE];clear hDD hEE;go_wp2_with fail
     have q:=(hR.set 0 (.int .i64 DD)).set 1 (.slice rb bn bc);have qb:=(hb.setCell (p:=⟨g2,0,none⟩) (by dsimp only;omega) (.int .i64 DD)).setCell (p:=⟨g2,1,none⟩) (by dsimp only;omega) (.slice rb bn bc);have qF:=ownF_far9 (p:=⟨g2,1,none⟩) (ownF_far9 (p:=⟨g2,0,none⟩) HO.out hR (.int .i64 DD)) (hR.set 0 _) (.slice rb bn bc);exact bodyPost_ret (results_row2 rfl _ _ g2 32 #[.int .i64 DD,.slice rb bn bc] (0,0) _ rfl q Tryz.underlying32 rfl Tryz.info_der) rfl ⟨rb,bn,bc,by rw [HE.out.1,HE.out.2.1,HDL.out,show k - 1=-1+k by omega,HDD.out,HEE.out];rfl,by rw [HE.out.2.2,HDL.out,HG.out];exact qF.weaken (Nat.le_refl _) (by simp),by rw [HG.out];exact qb⟩
end Go.Proofs.YtdppjlndcacfnaaGreat
