
import Derived.Test.YtndnkeijddagiaaShF
import Derived.Test.YtndnkeijddagiaaPrdP
namespace Go.Proofs.Ytndnkeijddagiaa
set_option maxRecDepth 100000
open Go.RowKit Go.Deep
theorem eq_nil_nilI (w:World):(binOp BinOp.eql 22 (.slice none 0 0) (.slice none 0 0)).run Try.prog w=.ok (.bool true) w:=by kernel_rfl
theorem cloneI_nil (w:World):Calls Try.prog 79 #[.slice none 0 0] w fun e w'=>e=.returned (.slice none 0 0)∧w'=w:=by
 have HEQ:=eq_nil_nilI w
 go_enter Try.func79,Try.ntmps79
 go_wp2_with fail
 go_ret
 exact ⟨rfl,rfl⟩
set_option maxHeartbeats 2000000 in
theorem newAlgebraE_c {w : World} {ia da : Option Addr} (dc c : Nat) (hda : (da = none ∧ dc = 0) ∨ ∃ g, da = some ⟨g, 0, none⟩) :
    Calls Try.prog 59 #[.slice da 0 dc,.slice ia 0 c] w fun e w'=>∃a ac b,e=.returned (.agg #[.slice a 0 ac,.slice b 0 0])∧OwnF w' w.heap.size w'.heap.size b 0 []∧Below w.heap.size w w':=by
 have hO:=Own.new w 29 #[.slice none 0 0,.slice none 0 0]
 have hb:=bA1 w (.cells #[.slice none 0 0,.slice none 0 0] 29)
 go_enter Try.func59,Try.ntmps59
 go_upto_region 1 with fail
 generalize w.alloc (.cells #[.slice none 0 0,.slice none 0 0] 29)=w0 at *
 generalize hg:w.heap.size=G at *
 have HG:=Lib.hid hg
 clear hg
 have hl0:=hO.lt
 have hcl:Calls Try.prog 79 #[.slice da 0 dc] w0 fun e w'=>∃a ac,e=.returned (.slice a 0 ac)∧Below w0.heap.size w0 w':=by
  rcases hda with ⟨rfl,rfl⟩ | ⟨g,rfl⟩
  · exact (cloneI_nil _).mono fun e w' ⟨h1,h2⟩=>⟨none,0,h1,by rw [h2];exact Below.refl _ _⟩
  · refine (cloneI_c (zs:=[]) dc (show Ints w0 (some ⟨g,0,none⟩) 0 [] from ⟨rfl,fun h=>absurd h (by omega)⟩) (by omega)).mono ?_;rintro e w' ⟨a,ac,h1,-,h3⟩;exact ⟨a,ac,h1,h3⟩
 go_wp2_with fail
 refine hcl.mono ?_
 rintro e w1 ⟨a,ac,rfl,hb1⟩
 clear hcl
 replace hO:=hO.keep hb1 hO.lt
 replace hb:=bT' hb hb1 (by omega)
 clear hb1
 have hl0:=hO.lt
 go_wp2_with fail
 refine (keepForms_c c (show FrmsN _ ia 0 [] from ⟨rfl,fun h=>absurd h (by omega)⟩) (by omega) (by simp) (by simp [sumLen])).mono ?_
 rintro e w2 ⟨gb,rfl,hE,hb3⟩
 have hO2:=hO.keep hb3 hO.lt
 have hb4:=bT' hb hb3 (by omega)
 have hE1:=hE.weaken (lo':=G+1) (by omega) (Nat.le_refl _)
 clear hb3 hE hO
 have k0:=hO2.cell 0
 have k1:=hO2.cell 1
 have f0:=hO2.frozen 0
 have f1:=hO2.frozen 1
 go_wp2_with fail
 have s2:=((hO2.set 0 (.slice a 0 ac)).set 1 (.slice (some ⟨gb,0,none⟩) 0 0))
 have ht:Touch (fun k=>k=G) w2 ((w2.setCell ⟨G,0,none⟩ (.slice a 0 ac)).setCell ⟨G,1,none⟩ (.slice (some ⟨gb,0,none⟩) 0 0)):=Touch.of_only (((Only.refl G w2).set 0 _).set 1 _)
 refine bodyPost_ret (results_cell_row rfl _ _ G 29 #[.slice a 0 ac,.slice (some ⟨gb,0,none⟩) 0 0] (0,0) _ rfl s2 Try.underlying29 rfl Try.info_alg) rfl ⟨a,ac,some ⟨gb,0,none⟩,rfl,?_,?_⟩
 · rw [HG.out];exact (hE1.touch ht (fun g h1 h2=>by omega)).weaken (by omega) (by simp)
 · rw [HG.out];exact (hb4.setCell (p:=⟨G,0,none⟩) (by dsimp only;omega) _).setCell (p:=⟨G,1,none⟩) (by dsimp only;omega) _
def Vls (w:World) (B:Nat) (vs:List Value) (V:List (List Tm)):Prop:=vs.length=V.length∧∀(i:Nat) v ts,vs[i]? = some v→V[i]? = some ts→OwnR w B v ts
theorem Vls.nil (w:World) (B:Nat):Vls w B [] []:=⟨rfl,fun i v ts h=>by simp at h⟩
theorem Vls.keep {w w':World} {B:Nat} {vs:List Value} {V:List (List Tm)} (h:Vls w B vs V) (hb:Below w.heap.size w w'):Vls w' B vs V:=⟨h.1,fun i v ts h1 h2=>(h.2 i v ts h1 h2).keep hb⟩
theorem Vls.grown {w w':World} {B B' n:Nat} {vs:List Value} {V:List (List Tm)} {v':Value} {xs:List Value} (h:Vls w B vs V) (h':w.ownsRow B' 47 1 v' n xs) (hg:w.grownBy w' v'.ownBlock):Vls w' B vs V:=
 ⟨h.1,fun i v ts h1 h2=>row_grown (h.2 i v ts h1 h2) h' (by decide) hg⟩
theorem Vls.snoc {w:World} {B:Nat} {vs:List Value} {V:List (List Tm)} {v:Value} {ts:List Tm} (h:Vls w B vs V) (hv:OwnR w B v ts):Vls w B (vs++[v]) (V++[ts]):=by
 refine ⟨by simp [h.1],fun j u us h1 h2=>?_⟩
 have hl:=h.1
 by_cases hj:j<vs.length
 · rw [List.getElem?_append_left (by omega)] at h1 h2;exact h.2 j u us h1 h2
 · rw [List.getElem?_append_right (by omega)] at h1 h2;have hj1:=(List.getElem?_eq_some_iff.1 h1).1;simp at hj1
   rw [show j - vs.length=0 by omega] at h1;rw [show j - V.length=0 by omega] at h2;simp only [List.getElem?_cons_zero,Option.some.injEq] at h1 h2;subst h1 h2;exact hv
theorem Vls.weaken {w:World} {B B':Nat} {vs:List Value} {V:List (List Tm)} (h:Vls w B vs V) (hB:B'≤B):Vls w B' vs V:=⟨h.1,fun i v ts h1 h2=>(h.2 i v ts h1 h2).weaken hB⟩
theorem Vls.sln {w:World} {B:Nat} {vs:List Value} {V:List (List Tm)} (h:Vls w B vs V) (hT:∀ts∈V,∀t∈ts,IsTm t):∀(j:Nat) v ts,vs[j]? = some v→V[j]? = some ts→SlN w v ts:=fun j v ts h1 h2=>by
 have hr:=h.2 j v ts h1 h2
 have hr0:=hr
 rcases hr.2 with ⟨rfl,h0⟩ | ⟨g,cap,cur,rfl,-⟩
 · have:=hr0.read (hT ts (List.mem_of_getElem? h2));exact ⟨none,0,0,rfl,this,Or.inl ⟨rfl,rfl,rfl⟩⟩
 · exact ⟨_,_,_,rfl,hr0.read (hT ts (List.mem_of_getElem? h2)),Or.inr ⟨_,_,rfl⟩⟩
theorem sln_app {w : World} {vs us : List Value} {V U : List (List Tm)} (hl : vs.length = V.length) (h : ∀ (j : Nat) u ts, vs[j]? = some u → V[j]? = some ts → SlN w u ts) (k : ∀ (j : Nat) u ts, us[j]? = some u → U[j]? = some ts → SlN w u ts) :
    ∀(j:Nat) u ts,(vs++us)[j]? = some u→(V++U)[j]? = some ts→SlN w u ts:=by
 intro j u ts h1 h2
 by_cases hj:j<vs.length
 · rw [List.getElem?_append_left (by omega)] at h1 h2;exact h j u ts h1 h2
 · rw [List.getElem?_append_right (by omega)] at h1 h2;rw [hl] at h1;exact k _ u ts h1 h2
theorem Ints.at0 {w:World} {g o n:Nat} {zs:List Int} (h:Ints w (some ⟨g,o,none⟩) n zs):∀(j:Nat) v,(zs.map (Value.int .i64))[j]? = some v→w.cell? ⟨g,o+j,none⟩=some v:=fun j v hv=>by
 have hj:=(List.getElem?_eq_some_iff.1 hv).1
 rw [List.length_map] at hj
 have hl:=h.1
 obtain ⟨b,off,e,hb,hc⟩:=h.2 (by omega)
 injection e with e
 injection e with e1 e2
 subst e1 e2
 rw [hc j (by omega),←hv,List.getElem?_map,List.getElem?_eq_getElem hj]
 simp [List.getD,List.getElem?_eq_getElem hj]
theorem sum_app (V U:List (List Tm)):sumLen (V++U)=sumLen V+sumLen U:=by simp [sumLen]
theorem shFs_len (s:Nat) (V:List (List Tm)):(shFs s V).length=V.length:=by simp [shFs]
theorem shFs_sum (s:Nat) (V:List (List Tm)):sumLen (shFs s V)=sumLen V:=by simp [sumLen,shFs,Function.comp_def]
set_option maxHeartbeats 8000000 in
theorem ProductOfAlgebras_c {w : World} {g1 o1 dn1 i1 j1 n1 g2 o2 dn2 i2 j2 n2 : Nat} {zs ys : List Int} {ims jms : List (List Tm)} (dc1 c1 dc2 c2 : Nat) (hd1 : Ints w (some ⟨g1, o1, none⟩) dn1 zs) (hdn1 : dn1 ≤ 1048576) (hN1 : FrmsN w (some ⟨i1, j1, none⟩) n1 ims) (hn1 : n1 ≤ 1048576) (hL1 : ∀ im ∈ ims, (im.length : Int) ≤ 1048576) (hT1 : ∀ ts ∈ ims, ∀ t ∈ ts, IsTm t)
    (hd2:Ints w (some ⟨g2,o2,none⟩) dn2 ys) (hdn2:dn2≤1048576) (hN2:FrmsN w (some ⟨i2,j2,none⟩) n2 jms) (hn2:n2≤1048576) (hL2:∀im∈jms,(im.length:Int)≤1048576) (hT2:∀ts∈jms,∀t∈ts,IsTm t) :
    Calls Try.prog 34 #[.agg #[.slice (some ⟨g1,o1,none⟩) dn1 dc1,.slice (some ⟨i1,j1,none⟩) n1 c1],.agg #[.slice (some ⟨g2,o2,none⟩) dn2 dc2,.slice (some ⟨i2,j2,none⟩) n2 c2]] w fun e w'=>∃a an ac b bn bc,e=.returned (.tuple #[.agg #[.slice a an ac,.slice b bn bc],.int .i64 (prE zs ims ys jms)])∧OwnV w' w.heap.size w'.heap.size a an (prD zs ims ys jms)∧OwnF w' w.heap.size w'.heap.size b bn (prI zs ims ys jms)∧Below w.heap.size w w':=by
 have HLL1:=Lib.hid hL1
 have HLL2:=Lib.hid hL2
 have HTT1:=Lib.hid hT1
 have HTT2:=Lib.hid hT2
 have HN1:=Lib.hid hN1
 have HN2:=Lib.hid hN2
 have HF1:=Lib.hid (hN1.frms hL1)
 have HF2:=Lib.hid (hN2.frms hL2)
 have HLn1:=Lib.hid hN1.1
 have HLn2:=Lib.hid hN2.1
 have HHd1:=Lib.hid hd1
 have HHd2:=Lib.hid hd2
 have HDL1:=Lib.hid hd1.len
 have HDL2:=Lib.hid hd2.len
 clear hL1 hL2 hT1 hT2 hN1 hN2
 obtain ⟨hA,hB,hR,hb⟩:=own3' w 29 29 29 #[.slice (some ⟨g1,o1,none⟩) dn1 dc1,.slice (some ⟨i1,j1,none⟩) n1 c1] #[.slice (some ⟨g2,o2,none⟩) dn2 dc2,.slice (some ⟨i2,j2,none⟩) n2 c2] #[.slice none 0 0,.slice none 0 0]
 have hB0:w.heap.size+2<(((w.alloc (.cells #[.slice (some ⟨g1,o1,none⟩) dn1 dc1,.slice (some ⟨i1,j1,none⟩) n1 c1] 29)).alloc (.cells #[.slice (some ⟨g2,o2,none⟩) dn2 dc2,.slice (some ⟨i2,j2,none⟩) n2 c2] 29)).alloc (.cells #[.slice none 0 0,.slice none 0 0] 29)).heap.size:=by rw [sAl,sAl,sAl];omega
 cases hal1:isAlg zs ims
 case false=>
  have HE:=Lib.hid (pr_err (pr_1 (ims:=ims) (zs:=zs) (ys:=ys) (jms:=jms) (Or.inl hal1)) (by omega));have HA1:=Lib.hid hal1;clear hal1;go_enter Try.func34,Try.ntmps34
  go_upto_region 1 with fail
  generalize ((w.alloc (.cells #[.slice (some ⟨g1,o1,none⟩) dn1 dc1,.slice (some ⟨i1,j1,none⟩) n1 c1] 29)).alloc (.cells #[.slice (some ⟨g2,o2,none⟩) dn2 dc2,.slice (some ⟨i2,j2,none⟩) n2 c2] 29)).alloc (.cells #[.slice none 0 0,.slice none 0 0] 29)=w0 at *;rw [show w.heap.size+1+1=w.heap.size+2 by omega] at hR;have hBs:w0.heap.size≤w0.heap.size:=Nat.le_refl _;have c0:=hA.cell 0;have c1':=hA.cell 1;go_wp2_with fail
  refine (IsAlgebra_c dc1 c1 (HHd1.out.keep hb) hdn1 (HF1.out.keep hb) hn1 HLL1.out).mono ?_;rintro e w1 ⟨rfl,hb1⟩;rw [HA1.out];clear c0 c1';replace hA:=hA.keep hb1 hA.lt;replace hB:=hB.keep hb1 hB.lt;replace hR:=hR.keep hb1 hR.lt;replace hb:=bT' hb hb1 hb.size;replace hBs:=Nat.le_trans hBs hb1.size;clear hb1;have r0:=hR.cell 0;have r1:=hR.cell 1;have f0:=hR.frozen 0;have f1:=hR.frozen 1;go_wp2_with fail
  have s2:=((hR.set 0 (.slice none 0 0)).set 1 (.slice none 0 0));refine bodyPost_ret (results_row2 rfl _ _ (w.heap.size+2) 29 #[.slice none 0 0,.slice none 0 0] (0,0) _ rfl s2 Try.underlying29 rfl Try.info_alg) rfl ⟨none,0,0,none,0,0,by rw [(HE.out).1];rfl,by rw [(HE.out).2.1];exact OwnV.none_,by rw [(HE.out).2.2];exact OwnF.none_,?_⟩;exact (hb.setCell (p:=⟨w.heap.size+2,0,none⟩) (by dsimp only;omega) _).setCell (p:=⟨w.heap.size+2,1,none⟩) (by dsimp only;omega) _
 have HA1:=Lib.hid hal1
 clear hal1
 go_enter Try.func34,Try.ntmps34
 go_upto_region 1 with fail
 generalize ((w.alloc (.cells #[.slice (some ⟨g1,o1,none⟩) dn1 dc1,.slice (some ⟨i1,j1,none⟩) n1 c1] 29)).alloc (.cells #[.slice (some ⟨g2,o2,none⟩) dn2 dc2,.slice (some ⟨i2,j2,none⟩) n2 c2] 29)).alloc (.cells #[.slice none 0 0,.slice none 0 0] 29)=w0 at *
 rw [show w.heap.size+1+1=w.heap.size+2 by omega] at hR
 have hBs:w0.heap.size≤w0.heap.size:=Nat.le_refl _
 have c0:=hA.cell 0
 have c1':=hA.cell 1
 go_wp2_with fail
 refine (IsAlgebra_c dc1 c1 (HHd1.out.keep hb) hdn1 (HF1.out.keep hb) hn1 HLL1.out).mono ?_
 rintro e w1 ⟨rfl,hb1⟩
 rw [HA1.out]
 clear c0 c1'
 replace hA:=hA.keep hb1 hA.lt
 replace hB:=hB.keep hb1 hB.lt
 replace hR:=hR.keep hb1 hR.lt
 replace hb:=bT' hb hb1 hb.size
 replace hBs:=Nat.le_trans hBs hb1.size
 clear hb1
 obtain ⟨B0,hB0e⟩:∃B0,w0.heap.size=B0:=⟨_,rfl⟩
 rw [hB0e] at hB0 hBs
 clear hB0e
 have d0:=hB.cell 0
 have d1:=hB.cell 1
 go_wp2_with fail
 refine (IsAlgebra_c dc2 c2 (HHd2.out.keep hb) hdn2 (HF2.out.keep hb) hn2 HLL2.out).mono ?_
 rintro e w2 ⟨rfl,hb1⟩
 clear d0 d1
 replace hA:=hA.keep hb1 hA.lt
 replace hB:=hB.keep hb1 hB.lt
 replace hR:=hR.keep hb1 hR.lt
 replace hb:=bT' hb hb1 hb.size
 replace hBs:=Nat.le_trans hBs hb1.size
 clear hb1
 cases hal2:isAlg ys jms
 case false=>
  have HE:=Lib.hid (pr_err (pr_1 (ims:=ims) (zs:=zs) (Or.inr hal2)) (by omega));clear hal2;have r0:=hR.cell 0;have r1:=hR.cell 1;have f0:=hR.frozen 0;have f1:=hR.frozen 1;go_wp2_with fail
  have s2:=((hR.set 0 (.slice none 0 0)).set 1 (.slice none 0 0));refine bodyPost_ret (results_row2 rfl _ _ (w.heap.size+2) 29 #[.slice none 0 0,.slice none 0 0] (0,0) _ rfl s2 Try.underlying29 rfl Try.info_alg) rfl ⟨none,0,0,none,0,0,by rw [(HE.out).1];rfl,by rw [(HE.out).2.1];exact OwnV.none_,by rw [(HE.out).2.2];exact OwnF.none_,?_⟩;exact (hb.setCell (p:=⟨w.heap.size+2,0,none⟩) (by dsimp only;omega) _).setCell (p:=⟨w.heap.size+2,1,none⟩) (by dsimp only;omega) _
 have HA2:=Lib.hid hal2
 clear hal2
 have h8a:dn1≤8:=by have:=degsOk_len (isAlg_degs HA1.out);have:=HDL1.out;omega
 have h8b:dn2≤8:=by have:=degsOk_len (isAlg_degs HA2.out);have:=HDL2.out;omega
 have h8c:n1≤8:=by have:=isAlg_lenQ2 HA1.out;have:=HLn1.out;have:=HDL1.out;omega
 obtain rfl:n2=dn2:=by have:=isAlg_lenQ2 HA2.out;have:=HLn2.out;have:=HDL2.out;omega
 have c0:=hA.cell 0
 have d0:=hB.cell 0
 by_cases hbig:8<dn1+n2
 case pos=>
  have HE:=Lib.hid (pr_err (pr_3 HA1.out HA2.out (by rw [HDL1.out,HDL2.out];exact hbig)) (by omega));have hbi:(8:Int)<(dn1:Int)+(n2:Int):=(by omega);have r0:=hR.cell 0;have r1:=hR.cell 1;have f0:=hR.frozen 0;have f1:=hR.frozen 1;go_wp2_with fail
  have s2:=((hR.set 0 (.slice none 0 0)).set 1 (.slice none 0 0));refine bodyPost_ret (results_row2 rfl _ _ (w.heap.size+2) 29 #[.slice none 0 0,.slice none 0 0] (0,0) _ rfl s2 Try.underlying29 rfl Try.info_alg) rfl ⟨none,0,0,none,0,0,by rw [(HE.out).1];rfl,by rw [(HE.out).2.1];exact OwnV.none_,by rw [(HE.out).2.2];exact OwnF.none_,?_⟩;exact (hb.setCell (p:=⟨w.heap.size+2,0,none⟩) (by dsimp only;omega) _).setCell (p:=⟨w.heap.size+2,1,none⟩) (by dsimp only;omega) _
 have HE:=Lib.hid (pr_0 HA1.out HA2.out (by rw [HDL1.out,HDL2.out];exact hbig))
 have hbi:¬(8:Int)<(dn1:Int)+(n2:Int):=by omega
 have hdn8:dn1+n2≤8:=by omega
 obtain ⟨vs,hvl,hvc,hvs⟩:=HN1.out.cells
 have HV:=Lib.hid hvc
 have HVL:=Lib.hid hvl
 have HVS:=Lib.hid hvs
 have HV1:Hid (∀v∈vs,v.oneCell'=true):=Lib.hid (by
  intro v hv;obtain ⟨j,hj,rfl⟩:=List.mem_iff_getElem.1 hv;have hl:=HN1.out.1
  exact (hvs j _ _ (List.getElem?_eq_getElem hj) (List.getElem?_eq_getElem (show j<ims.length by omega))).one)
 clear hvl hvc hvs
 obtain ⟨ti,tz,hti,htz,hts,htb,htzs⟩:=Try.info_formA
 have HI:=Lib.hid hti
 have HZ:=Lib.hid htz
 have HS:=Lib.hid hts
 have HBt:=Lib.hid htb
 have HZs:=Lib.hid htzs
 clear hti htz hts htb htzs
 have c1':=hA.cell 1
 go_wp2_with fail
 refine (cloneF_c c1 (fun j v hv=>(World.cell?_of_block (a:=⟨i1,j1+j,none⟩) (hb.block i1 (World.block_lt_of_cell? w ⟨i1,j1+j,none⟩ (HV.out j v hv)))).trans (HV.out j v hv)) HV1.out HVL.out hn1).mono ?_
 rintro e w3 ⟨ia,ic,rfl,hI,hb1⟩
 clear c0 d0 c1'
 have hI:=row_weaken hI hBs
 replace hA:=hA.keep hb1 hA.lt
 replace hB:=hB.keep hb1 hB.lt
 replace hR:=hR.keep hb1 hR.lt
 replace hb:=bT' hb hb1 hb.size
 replace hBs:=Nat.le_trans hBs hb1.size
 clear hb1
 have d1:=hB.cell 1
 go_upto_region 7 with fail
 clear d1
 go_loopw [6,33] (fun im y wr=>∃(k:Nat) (xa:Option Addr) (xc:Nat) (us:List Value),k≤n2∧y=.int .i64 k∧im=.slice xa (n1+k) xc∧wr.ownsRow B0 47 1 (.slice xa (n1+k) xc) (n1+k) (vs++us)∧Vls wr B0 us (shFs dn1 (jms.take k))∧Own wr w.heap.size 29 #[.slice (some ⟨g1,o1,none⟩) dn1 dc1,.slice (some ⟨i1,j1,none⟩) n1 c1]∧Own wr (w.heap.size+1) 29 #[.slice (some ⟨g2,o2,none⟩) n2 dc2,.slice (some ⟨i2,j2,none⟩) n2 c2]∧Own wr (w.heap.size+2) 29 #[.slice none 0 0,.slice none 0 0]∧Below w.heap.size w wr∧B0≤wr.heap.size) (fun _ y _=>n2 - (intOf y).toNat)
 case atStart=>exact ⟨0,ia,ic,[],Nat.zero_le _,rfl,rfl,by rw [List.append_nil];exact hI,Vls.nil _ _,hA,hB,hR,hb,hBs⟩
 case round=>
  clear hI hA hB hR hb hBs;obtain ⟨k,xa,xc,us,hk,rfl,rfl,hI,hU,hA,hB,hR,hb,hBs⟩:=hrel;by_cases hlt:k<n2
  · obtain ⟨bj,oj,ts,ai,ni,ci,hbo,hbl,hcj,hT,hsh,hx⟩:=(HN2.out.keep hb).at_ hlt;simp only [Option.some.injEq,Addr.mk.injEq] at hbo;obtain ⟨hbo1,hbo2,-⟩:=hbo;subst hbo1 hbo2;have HSH:=Lib.hid (shFs_take (s:=dn1) hx.out);have hni:ni≤1048576:=(by have:=HLL2.out ts (List.mem_of_getElem? hx.out);have:=hT.len;omega);have HTL:=Lib.hid hT.len;have hX:=Own.new wr 47 #[.slice ai ni ci];have hba:=bA1 wr (.cells #[.slice ai ni ci] 47);replace hA:=hA.keep hba hA.lt;replace hB:=hB.keep hba hB.lt;replace hR:=hR.keep hba hR.lt;replace hI:=row_keep hI hba;replace hU:=hU.keep hba;replace hT:=hT.keep hba;replace hb:=bT' hb hba hb.size;replace hBs:=Nat.le_trans hBs hba.size;have hk0:(0:Int)≤(k:Int):=(by omega);have hkn:(k:Int)<(n2:Int):=(by omega);go_upto_region 9 with fail
    generalize wr.alloc (.cells #[.slice ai ni ci] 47)=wt at *;generalize wr.heap.size=gX at *;clear hba hcj;have x0:=hX.cell 0;have c0:=hA.cell 0;have HHS:=Lib.hid hsh;have HTT:=Lib.hid hT;clear hsh hT;go_wp2_with fail
    refine (shiftedForm_c ci dn1 HTT.out HHS.out hni h8a).mono ?_;rintro e w5 ⟨va,vc,rfl,hS,hb1⟩;clear x0 c0;replace hS:=hS.weaken hBs;replace hA:=hA.keep hb1 hA.lt;replace hB:=hB.keep hb1 hB.lt;replace hR:=hR.keep hb1 hR.lt;replace hI:=row_keep hI hb1;replace hU:=hU.keep hb1;replace hb:=bT' hb hb1 hb.size;replace hBs:=Nat.le_trans hBs hb1.size;clear hb1 hX;have hY:=Own.new w5 47 #[.slice va ni vc];have hba:=bA1 w5 (.cells #[.slice va ni vc] 47);have hA2:=Lib.hid (hA.keep hba hA.lt);have hB2:=Lib.hid (hB.keep hba hB.lt);have hR2:=Lib.hid (hR.keep hba hR.lt);have HRW:=Lib.hid (row_keep hI hba);have hU2:=Lib.hid (hU.keep hba);have hS2:=Lib.hid (hS.keep hba);have hb2:=Lib.hid (bT' hb hba hb.size);have hBs2:=Nat.le_trans hBs hba.size;have HNW:Hid (∀j u,([Value.slice va ni vc]:List Value)[j]? = some u→(w5.alloc (.cells #[.slice va ni vc] 47)).cell? ((⟨w5.heap.size,0,none⟩:Addr).add j)=some u):=Lib.hid (fun j u hu=>by rw [Addr.add_mid];exact hY.range j u hu);have HON:Hid (∀u∈([Value.slice va ni vc]:List Value),u.oneCell'=true):=Lib.hid (by simp [Value.oneCell']);clear hA hB hR hI hU hS hb hBs hba hY;go_wp2_with (refine wpList_append_own_wide _ (by rfl) (.tmp 37) (.tmp 43) 27 (by rfl) B0 47 ti tz 1 24 Try.underlying27 HI.out HZ.out HS.out HBt.out HZs.out (by omega) (.slice xa (n1+k) xc) (n1+k) (vs++us) (by rfl) HRW.out ⟨w5.heap.size,0,none⟩ 1 1 [.slice va ni vc] (by rfl) (by rfl) HNW.out HON.out (by simp only [maxLen];omega) (by omega) hBs2 (fun v' w6 h2 h3 h4=>?_))
    obtain ⟨ya,yc,rfl⟩:=row_slice h2;have hA:=Lib.hid (hA2.out.grown h3 (own_ne_row hA2.out HRW.out (by decide)));have hB:=Lib.hid (hB2.out.grown h3 (own_ne_row hB2.out HRW.out (by decide)));have hR:=Lib.hid (hR2.out.grown h3 (own_ne_row hR2.out HRW.out (by decide)));have hb:=Lib.hid (grown_below hb2.out h3 (fun j e=>by have:=(HRW.out.lt j e).1;omega) hb2.out.size);have hU:=Lib.hid ((hU2.out.grown HRW.out h3).snoc (row_grown hS2.out HRW.out (by decide) h3));have hBs:=Nat.le_trans hBs2 h3.size;have hI:=Lib.hid h2;clear hA2 hB2 hR2 hb2 hU2 hS2 h2 h3 h4 HRW HNW hBs2;go_wp2_with fail
    go_roundw
    case rel=>
     refine ⟨k+1,ya,yc,us++[.slice va ni vc],by omega,by go_num,by rfl,?_,by rw [HSH.out];exact hU.out,hA.out,hB.out,hR.out,hb.out,hBs⟩;have:=hI.out
     rwa [List.append_assoc] at this
    case measure=>simp [intOf] <;> omega
  · have he:k=n2:=(by omega);subst he;rw [show jms.take k=jms from List.take_of_length_le (Nat.le_of_eq HLn2.out)] at hU;have HNN:Hid (n1=dn1):=Lib.hid (by have:=isAlg_lenQ2 HA1.out;have:=HLn1.out;have:=HDL1.out;omega);have c0:=hA.cell 0;have d0:=hB.cell 0;have hL:=Own.new wr 22 #[.slice (some ⟨g1,o1,none⟩) dn1 dc1,.slice (some ⟨g2,o2,none⟩) k dc2];have hba:=bA1 wr (.cells #[.slice (some ⟨g1,o1,none⟩) dn1 dc1,.slice (some ⟨g2,o2,none⟩) k dc2] 22);have hR2:=Lib.hid (hR.keep hba hR.lt);have hI2:=Lib.hid (row_keep hI hba);have hU2:=Lib.hid (hU.keep hba);have hb2:=Lib.hid (bT' hb hba hb.size);have hBs2:=Nat.le_trans hBs hba.size;have HL:=Lib.hid hL;clear hA hB hR hI hU hb hBs hba hL;go_wp2_with fail
    refine (ConcatI_c 2 dc1 dc2 HL.out (HHd1.out.keep hb2.out).at0 (by rw [List.length_map];exact HDL1.out) (fun v hv=>by obtain ⟨x,-,rfl⟩:=List.mem_map.1 hv;rfl) (HHd2.out.keep hb2.out).at0 (by rw [List.length_map];exact HDL2.out) (fun v hv=>by obtain ⟨x,-,rfl⟩:=List.mem_map.1 hv;rfl) (by omega) (by omega)).mono ?_;rintro e w5 ⟨da,dc,rfl,hD,hb1⟩;clear c0 d0;have hR:=hR2.out.keep hb1 hR2.out.lt;have hI:=row_keep hI2.out hb1;have hU:=hU2.out.keep hb1;have hb:=bT' hb2.out hb1 hb2.out.size;have hBs:=Nat.le_trans hBs2 hb1.size;replace hD:=row_weaken hD hBs2;rw [←List.map_append] at hD;clear hR2 hI2 hU2 hb2 hBs2 hb1 HL;have hHS:=shFs_tm (s:=dn1) HTT2.out h8a;have HSLN:Hid (∀(j:Nat) u ts,(vs++us)[j]? = some u→(ims++shFs dn1 jms)[j]? = some ts→SlN w5 u ts):=Lib.hid (sln_app (by rw [HVL.out,HLn1.out]) (fun j u ts h1 h2=>(HVS.out j u ts h1 h2).keep hb) (hU.sln hHS));have HLEN:Hid ((ims++shFs dn1 jms).length=n1+k):=Lib.hid (by rw [List.length_append,shFs_len,HLn1.out,HLn2.out]);have HTM:=Lib.hid (tm_app HTT1.out hHS)
    have HSUM:Hid (sumLen (ims++shFs dn1 jms)≤1048576):=Lib.hid (by
     have h1:=sumLen_bdB (isAlg_400b HA1.out);have h2:=sumLen_bdB (isAlg_400b HA2.out);rw [sum_app,shFs_sum];have e1:=HLn1.out;have e2:=HLn2.out
     omega)
    have hNA:Calls Try.prog 59 #[.slice da (dn1+k) dc,.slice xa (n1+k) xc] w5 fun e w'=>∃a ac b,e=.returned (.agg #[.slice a (dn1+k) ac,.slice b (n1+k) (n1+k)])∧OwnV w' w5.heap.size w'.heap.size a (dn1+k) (zs++ys)∧OwnF w' w5.heap.size w'.heap.size b (n1+k) (ims++shFs dn1 jms)∧Below w5.heap.size w5 w':=by
     by_cases hz:dn1+k=0
     · have e1:dn1=0:=(by omega);have e2:k=0:=(by omega);have e3:n1=0:=(by have:=HNN.out;omega);subst e1 e2 e3;have ez:zs=[]:=List.length_eq_zero_iff.1 HDL1.out;have ey:ys=[]:=List.length_eq_zero_iff.1 HDL2.out;have ei:ims=[]:=List.length_eq_zero_iff.1 HLn1.out;have ej:jms=[]:=List.length_eq_zero_iff.1 HLn2.out
       refine (newAlgebraE_c dc xc (by
        rcases hD.2 with ⟨hv,-⟩ | ⟨g,cap,cur,hv,-⟩
        · simp only [Value.slice.injEq] at hv;exact Or.inl ⟨hv.1,hv.2.2⟩
        · simp only [Value.slice.injEq] at hv
          exact Or.inr ⟨g,hv.1⟩)).mono ?_
       rintro e w' ⟨a,ac,b,h1,h2,h3⟩;exact ⟨a,ac,b,h1,⟨by rw [ez,ey];rfl,fun h=>absurd h (by omega)⟩,by rw [ei,ej];exact h2,h3⟩
     · obtain ⟨gD,cD,heD,hDI⟩:=ints_row hD (by omega);simp only [Value.slice.injEq] at heD;obtain ⟨rfl,-,-⟩:=heD;obtain ⟨gI,cI,heI,hIN⟩:=frmsN_row hI HLEN.out HSLN.out (by have:=HNN.out;omega);simp only [Value.slice.injEq] at heI;obtain ⟨rfl,-,-⟩:=heI;exact newAlgebra_c dc xc hDI (by omega) hIN (by omega) HTM.out HSUM.out
    clear hHS;go_wp2_with fail
    refine hNA.mono ?_;rintro e w6 ⟨ra,rac,rb,rfl,hV,hVF,hb1⟩;replace hV:=hV.weaken (lo':=B0) hBs (Nat.le_refl _);replace hVF:=hVF.weaken (lo':=B0) hBs (Nat.le_refl _);replace hR:=hR.keep hb1 hR.lt;replace hb:=bT' hb hb1 hb.size;clear hNA hb1 hI hU hD hBs;have r0:=hR.cell 0;have r1:=hR.cell 1;have f0:=hR.frozen 0;have f1:=hR.frozen 1;go_wp2_with fail
    have hTo:Touch (fun q=>q=w.heap.size+2) w6 ((w6.setCell ⟨w.heap.size+2,0,none⟩ (.slice ra (dn1+k) rac)).setCell ⟨w.heap.size+2,1,none⟩ (.slice rb (n1+k) (n1+k))):=Touch.of_only (((Only.refl (w.heap.size+2) w6).set 0 _).set 1 _);have s2:=(hR.set 0 (.slice ra (dn1+k) rac)).set 1 (.slice rb (n1+k) (n1+k));refine bodyPost_ret (results_row2 rfl _ _ (w.heap.size+2) 29 #[.slice ra (dn1+k) rac,.slice rb (n1+k) (n1+k)] (0,0) _ rfl s2 Try.underlying29 rfl Try.info_alg) rfl ⟨ra,dn1+k,rac,rb,n1+k,n1+k,by rw [HE.out.1];rfl,?_,?_,?_⟩
    · rw [HE.out.2.1];exact (hV.touch hTo (fun q h1 h2=>by omega)).weaken (by omega) hTo.below.size
    · rw [HE.out.2.2,HDL1.out];exact (hVF.touch hTo (fun q h1 h2=>by omega)).weaken (by omega) hTo.below.size
    · exact (hb.setCell (p:=⟨w.heap.size+2,0,none⟩) (by dsimp only;omega) _).setCell (p:=⟨w.heap.size+2,1,none⟩) (by dsimp only;omega) _
end Go.Proofs.Ytndnkeijddagiaa
