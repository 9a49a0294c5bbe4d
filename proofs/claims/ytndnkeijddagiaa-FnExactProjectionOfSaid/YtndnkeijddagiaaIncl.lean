
import Derived.Test.YtndnkeijddagiaaGen
import Derived.Test.YtndnkeijddagiaaPrdC
namespace Go.Proofs.Ytndnkeijddagiaa
set_option maxRecDepth 100000
open Go.RowKit Go.Deep
def gensFT (s k:Nat):List (List Tm):=(List.range k).map (fun i=>[⟨genM (s+i),1⟩])
theorem gensFT_succ (s k:Nat):gensFT s (k+1)=gensFT s k++[[⟨genM (s+k),1⟩]]:=by simp [gensFT,List.range_succ]
theorem gensFT_len (s k:Nat):(gensFT s k).length=k:=by simp [gensFT]
theorem gensFT_one (s k:Nat):∀ts∈gensFT s k,ts.length≤1:=by
 intro ts h
 simp only [gensFT,List.mem_map] at h
 obtain ⟨i,-,rfl⟩:=h
 simp
theorem gensFT_tm (s k:Nat):∀ts∈gensFT s k,∀t∈ts,IsTm t:=by
 intro ts h t ht
 simp only [gensFT,List.mem_map] at h
 obtain ⟨i,-,rfl⟩:=h
 obtain rfl:t=⟨genM (s+i),1⟩:=by simpa using ht
 exact ⟨genM_mono _,by dsimp only;omega,by dsimp only;omega⟩
def plS (zs:List Int) (sc:Bool):Nat:=if sc then zs.length else 0
def plM (zs ys:List Int) (sc:Bool):Nat:=if sc then ys.length else zs.length
def inV (zs:List Int) (ims:List (List Tm)) (ys:List Int) (jms:List (List Tm)) (sc:Bool):List (List Tm):=if prE zs ims ys jms=0 then gensFT (plS zs sc) (plM zs ys sc) else []
theorem in_no {zs:List Int} {ims:List (List Tm)} {ys:List Int} {jms:List (List Tm)} {sc:Bool} (h:¬prE zs ims ys jms=0):inV zs ims ys jms sc=[]:=by rw [inV,if_neg h]
theorem in_yes {zs:List Int} {ims:List (List Tm)} {ys:List Int} {jms:List (List Tm)} {sc:Bool} (h:prE zs ims ys jms=0):inV zs ims ys jms sc=gensFT (plS zs sc) (plM zs ys sc):=by rw [inV,if_pos h]
theorem pr_ok {zs:List Int} {ims:List (List Tm)} {ys:List Int} {jms:List (List Tm)} (h:prE zs ims ys jms=0):zs.length+ys.length≤8:=by
 unfold prE at h
 split at h
 · omega
 · split at h
   · omega
   · omega
theorem generatorForm_a {w : World} {s k : Nat} {f : Int} (hi : s + k < 8) :
    Calls Try.prog 87 #[.int .i64 ((s:Int)+(k:Int)),.int .i64 f] w fun e w'=>∃g,e=.returned (.agg #[.slice (some ⟨g,0,none⟩) 1 1])∧w.heap.size≤g∧Own w' g 76 (tcells ⟨genM (s+k),f⟩).toArray∧Below w.heap.size w w':=by
 have:=generatorForm_c (w:=w) (f:=f) hi
 rwa [Int.natCast_add] at this
theorem l04Generator_a {w : World} {s k : Nat} (hi : s + k < 8) :
    Calls Try.prog 86 #[.int .i64 ((s:Int)+(k:Int))] w fun e w'=>∃g,e=.returned (.agg #[.slice (some ⟨g,0,none⟩) 1 1])∧w.heap.size≤g∧Own w' g 76 (tcells ⟨genM (s+k),1⟩).toArray∧Below w.heap.size w w':=by
 have:=l04Generator_c (w:=w) hi
 rwa [Int.natCast_add] at this
theorem placesInProduct_c {w : World} {a1 a2 b1 b2 : Option Addr} {dn1 n1 dn2 n2 : Nat} (dc1 c1 dc2 c2 : Nat) (h1 : dn1 ≤ 1048576) (h2 : dn2 ≤ 1048576) (sc : Bool) {s m : Nat} (hs : (sc = false ∧ s = 0 ∧ m = dn1) ∨ (sc = true ∧ s = dn1 ∧ m = dn2)) :
    Calls Try.prog 90 #[.agg #[.slice a1 dn1 dc1,.slice b1 n1 c1],.agg #[.slice a2 dn2 dc2,.slice b2 n2 c2],.bool sc] w fun e w'=>e=.returned (.tuple #[.int .i64 s,.int .i64 ((s:Int)+(m:Int))])∧Below w.heap.size w w':=by
 have hA:=(Own.new w 29 #[.slice a1 dn1 dc1,.slice b1 n1 c1]).alloc (.cells #[.slice a2 dn2 dc2,.slice b2 n2 c2] 29)
 have hB:=Own.new (w.alloc (.cells #[.slice a1 dn1 dc1,.slice b1 n1 c1] 29)) 29 #[.slice a2 dn2 dc2,.slice b2 n2 c2]
 rw [sAl] at hB
 have hb:=bTn (bA1 w (.cells #[.slice a1 dn1 dc1,.slice b1 n1 c1] 29)) (bA1 _ (.cells #[.slice a2 dn2 dc2,.slice b2 n2 c2] 29))
 have s12:IntKind.i64.wrap ((dn1:Int)+(dn2:Int))=(dn1:Int)+(dn2:Int):=IntWalk.i64_in _ (by omega)
 rcases hs with ⟨rfl,rfl,rfl⟩ | ⟨rfl,rfl,rfl⟩
 all_goals
  go_enter Try.func90,Try.ntmps90
  go_upto_region 1 with fail
  generalize (w.alloc (.cells #[.slice a1 _ dc1,.slice b1 n1 c1] 29)).alloc (.cells #[.slice a2 _ dc2,.slice b2 n2 c2] 29)=w0 at *;have c0:=hA.cell 0;have d0:=hB.cell 0;go_wp2_with fail
  go_quiet (fail)
  go_wp2_with fail
  go_ret2
 · exact ⟨by simp,below_drewN hb _⟩
 · exact ⟨rfl,below_drewN hb _⟩
set_option maxHeartbeats 4000000 in
theorem l04Pair_c {w : World} {g1 o1 dn1 i1 j1 n1 g2 o2 dn2 i2 j2 n2 : Nat} {zs ys : List Int} {ims jms : List (List Tm)} (dc1 c1 dc2 c2 : Nat) (hd1 : Ints w (some ⟨g1, o1, none⟩) dn1 zs) (hdn1 : dn1 ≤ 1048576) (hN1 : FrmsN w (some ⟨i1, j1, none⟩) n1 ims) (hn1 : n1 ≤ 1048576) (hL1 : ∀ im ∈ ims, (im.length : Int) ≤ 1048576) (hT1 : ∀ ts ∈ ims, ∀ t ∈ ts, IsTm t)
    (hd2:Ints w (some ⟨g2,o2,none⟩) dn2 ys) (hdn2:dn2≤1048576) (hN2:FrmsN w (some ⟨i2,j2,none⟩) n2 jms) (hn2:n2≤1048576) (hL2:∀im∈jms,(im.length:Int)≤1048576) (hT2:∀ts∈jms,∀t∈ts,IsTm t) :
    Calls Try.prog 89 #[.agg #[.slice (some ⟨g1,o1,none⟩) dn1 dc1,.slice (some ⟨i1,j1,none⟩) n1 c1],.agg #[.slice (some ⟨g2,o2,none⟩) dn2 dc2,.slice (some ⟨i2,j2,none⟩) n2 c2]] w fun e w'=>e=.returned (.int .i64 (prE zs ims ys jms))∧Below w.heap.size w w':=by
 have hA:=(Own.new w 29 #[.slice (some ⟨g1,o1,none⟩) dn1 dc1,.slice (some ⟨i1,j1,none⟩) n1 c1]).alloc (.cells #[.slice (some ⟨g2,o2,none⟩) dn2 dc2,.slice (some ⟨i2,j2,none⟩) n2 c2] 29)
 have hB:=Own.new (w.alloc (.cells #[.slice (some ⟨g1,o1,none⟩) dn1 dc1,.slice (some ⟨i1,j1,none⟩) n1 c1] 29)) 29 #[.slice (some ⟨g2,o2,none⟩) dn2 dc2,.slice (some ⟨i2,j2,none⟩) n2 c2]
 rw [sAl] at hB
 have hb:=bTn (bA1 w (.cells #[.slice (some ⟨g1,o1,none⟩) dn1 dc1,.slice (some ⟨i1,j1,none⟩) n1 c1] 29)) (bA1 _ (.cells #[.slice (some ⟨g2,o2,none⟩) dn2 dc2,.slice (some ⟨i2,j2,none⟩) n2 c2] 29))
 have HF1:=Lib.hid (hN1.frms hL1)
 have HF2:=Lib.hid (hN2.frms hL2)
 have HLL1:=Lib.hid hL1
 have HLL2:=Lib.hid hL2
 have HTT1:=Lib.hid hT1
 have HTT2:=Lib.hid hT2
 have HN1:=Lib.hid hN1
 have HN2:=Lib.hid hN2
 have HHd1:=Lib.hid hd1
 have HHd2:=Lib.hid hd2
 have HDL1:=Lib.hid hd1.len
 have HDL2:=Lib.hid hd2.len
 have HLn1:=Lib.hid hN1.1
 have HLn2:=Lib.hid hN2.1
 clear hL1 hL2 hT1 hT2 hN1 hN2 hd1 hd2
 cases hal1:isAlg zs ims
 case false=>
  have HE:=Lib.hid (pr_1 (ims:=ims) (zs:=zs) (ys:=ys) (jms:=jms) (Or.inl hal1));have HA1:=Lib.hid hal1;clear hal1;go_enter Try.func89,Try.ntmps89
  go_upto_region 1 with fail
  generalize (w.alloc (.cells #[.slice (some ⟨g1,o1,none⟩) dn1 dc1,.slice (some ⟨i1,j1,none⟩) n1 c1] 29)).alloc (.cells #[.slice (some ⟨g2,o2,none⟩) dn2 dc2,.slice (some ⟨i2,j2,none⟩) n2 c2] 29)=w0 at *;have c0:=hA.cell 0;have c1':=hA.cell 1;go_wp2_with fail
  refine (l02Is_c dc1 c1 (HHd1.out.keep hb) hdn1 (HF1.out.keep hb) hn1 HLL1.out).mono ?_;rintro e w1 ⟨rfl,hb1⟩;rw [HA1.out];replace hb:=bT' hb hb1 hb.size;clear hb1 c0 c1';go_wp2_with fail
  go_ret
  exact ⟨ret_i HE.out.symm,hb⟩
 have HA1:=Lib.hid hal1
 clear hal1
 go_enter Try.func89,Try.ntmps89
 go_upto_region 1 with fail
 generalize (w.alloc (.cells #[.slice (some ⟨g1,o1,none⟩) dn1 dc1,.slice (some ⟨i1,j1,none⟩) n1 c1] 29)).alloc (.cells #[.slice (some ⟨g2,o2,none⟩) dn2 dc2,.slice (some ⟨i2,j2,none⟩) n2 c2] 29)=w0 at *
 have c0:=hA.cell 0
 have c1':=hA.cell 1
 go_wp2_with fail
 refine (l02Is_c dc1 c1 (HHd1.out.keep hb) hdn1 (HF1.out.keep hb) hn1 HLL1.out).mono ?_
 rintro e w1 ⟨rfl,hb1⟩
 rw [HA1.out]
 clear c0 c1'
 replace hA:=hA.keep hb1 hA.lt
 replace hB:=hB.keep hb1 hB.lt
 replace hb:=bT' hb hb1 hb.size
 clear hb1
 have d0:=hB.cell 0
 have d1:=hB.cell 1
 go_wp2_with fail
 refine (l02Is_c dc2 c2 (HHd2.out.keep hb) hdn2 (HF2.out.keep hb) hn2 HLL2.out).mono ?_
 rintro e w2 ⟨rfl,hb1⟩
 clear d0 d1
 replace hA:=hA.keep hb1 hA.lt
 replace hB:=hB.keep hb1 hB.lt
 replace hb:=bT' hb hb1 hb.size
 clear hb1
 cases hal2:isAlg ys jms
 case false=>
  have HE:=Lib.hid (pr_1 (ims:=ims) (zs:=zs) (Or.inr hal2));clear hal2;go_wp2_with fail
  go_ret
  exact ⟨ret_i HE.out.symm,hb⟩
 have HA2:=Lib.hid hal2
 clear hal2
 have c0:=hA.cell 0
 have d0:=hB.cell 0
 by_cases hbig:8<dn1+dn2
 · have HE:=Lib.hid (pr_3 HA1.out HA2.out (by rw [HDL1.out,HDL2.out];exact hbig));have hbi:(8:Int)<(dn1:Int)+(dn2:Int):=(by omega);go_wp2_with fail
   go_ret
   exact ⟨ret_i HE.out.symm,hb⟩
 · have HE:=Lib.hid (pr_0 HA1.out HA2.out (by rw [HDL1.out,HDL2.out];exact hbig)).1;have hbi:¬(8:Int)<(dn1:Int)+(dn2:Int):=(by omega);go_wp2_with fail
   go_ret
   exact ⟨ret_i HE.out.symm,hb⟩
set_option maxHeartbeats 4000000 in
theorem InclusionOf_c {w : World} {g1 o1 dn1 i1 j1 n1 g2 o2 dn2 i2 j2 n2 : Nat} {zs ys : List Int} {ims jms : List (List Tm)} (dc1 c1 dc2 c2 : Nat) (hd1 : Ints w (some ⟨g1, o1, none⟩) dn1 zs) (hdn1 : dn1 ≤ 1048576) (hN1 : FrmsN w (some ⟨i1, j1, none⟩) n1 ims) (hn1 : n1 ≤ 1048576) (hL1 : ∀ im ∈ ims, (im.length : Int) ≤ 1048576) (hT1 : ∀ ts ∈ ims, ∀ t ∈ ts, IsTm t)
    (hd2:Ints w (some ⟨g2,o2,none⟩) dn2 ys) (hdn2:dn2≤1048576) (hN2:FrmsN w (some ⟨i2,j2,none⟩) n2 jms) (hn2:n2≤1048576) (hL2:∀im∈jms,(im.length:Int)≤1048576) (hT2:∀ts∈jms,∀t∈ts,IsTm t) (sc:Bool) :
    Calls Try.prog 41 #[.agg #[.slice (some ⟨g1,o1,none⟩) dn1 dc1,.slice (some ⟨i1,j1,none⟩) n1 c1],.agg #[.slice (some ⟨g2,o2,none⟩) dn2 dc2,.slice (some ⟨i2,j2,none⟩) n2 c2],.bool sc] w fun e w'=>∃ra rn rc,e=.returned (.tuple #[.slice ra rn rc,.int .i64 (prE zs ims ys jms)])∧OwnF w' w.heap.size w'.heap.size ra rn (inV zs ims ys jms sc)∧Below w.heap.size w w':=by
 have hA:=(Own.new w 29 #[.slice (some ⟨g1,o1,none⟩) dn1 dc1,.slice (some ⟨i1,j1,none⟩) n1 c1]).alloc (.cells #[.slice (some ⟨g2,o2,none⟩) dn2 dc2,.slice (some ⟨i2,j2,none⟩) n2 c2] 29)
 have hB:=Own.new (w.alloc (.cells #[.slice (some ⟨g1,o1,none⟩) dn1 dc1,.slice (some ⟨i1,j1,none⟩) n1 c1] 29)) 29 #[.slice (some ⟨g2,o2,none⟩) dn2 dc2,.slice (some ⟨i2,j2,none⟩) n2 c2]
 rw [sAl] at hB
 have hb:=bTn (bA1 w (.cells #[.slice (some ⟨g1,o1,none⟩) dn1 dc1,.slice (some ⟨i1,j1,none⟩) n1 c1] 29)) (bA1 _ (.cells #[.slice (some ⟨g2,o2,none⟩) dn2 dc2,.slice (some ⟨i2,j2,none⟩) n2 c2] 29))
 have HLL1:=Lib.hid hL1
 have HLL2:=Lib.hid hL2
 have HTT1:=Lib.hid hT1
 have HTT2:=Lib.hid hT2
 have HN1:=Lib.hid hN1
 have HN2:=Lib.hid hN2
 have HHd1:=Lib.hid hd1
 have HHd2:=Lib.hid hd2
 have HDL1:=Lib.hid hd1.len
 have HDL2:=Lib.hid hd2.len
 have HLn1:=Lib.hid hN1.1
 have HLn2:=Lib.hid hN2.1
 clear hL1 hL2 hT1 hT2 hN1 hN2 hd1 hd2
 have c0:=hA.cell 0
 have c1':=hA.cell 1
 have d0:=hB.cell 0
 have d1:=hB.cell 1
 by_cases hE:prE zs ims ys jms=0
 case neg=>
  have HE:=Lib.hid (in_no (sc:=sc) hE);obtain ⟨E,hEE⟩:∃E,prE zs ims ys jms=E:=⟨_,rfl⟩;rw [hEE] at hE;have hEb:(E != 0)=true:=(by simpa using hE);have HEE:=Lib.hid hEE;clear hEE;rw [HEE.out,HE.out];go_enter Try.func41,Try.ntmps41
  go_upto_region 1 with fail
  generalize (w.alloc (.cells #[.slice (some ⟨g1,o1,none⟩) dn1 dc1,.slice (some ⟨i1,j1,none⟩) n1 c1] 29)).alloc (.cells #[.slice (some ⟨g2,o2,none⟩) dn2 dc2,.slice (some ⟨i2,j2,none⟩) n2 c2] 29)=w0 at *;go_wp2_with fail
  refine (ProductOfAlgebras_c dc1 c1 dc2 c2 (HHd1.out.keep hb) hdn1 (HN1.out.keep hb) hn1 HLL1.out HTT1.out (HHd2.out.keep hb) hdn2 (HN2.out.keep hb) hn2 HLL2.out HTT2.out).mono ?_;rintro e w1 ⟨pa,pan,pac,pb,pbn,pbc,rfl,-,-,hb1⟩;rw [HEE.out];replace hb:=bT' hb hb1 hb.size;have hb':=bT' hb (bA1 w1 (.cells #[.slice pa pan pac,.slice pb pbn pbc] 29)) hb.size;clear hb1 c0 c1' d0 d1 hb;go_wp2_with fail
  go_ret2
  exact ⟨none,0,0,rfl,OwnF.none_,hb'⟩
 have HE:=Lib.hid (in_yes (sc:=sc) hE)
 have h8:=pr_ok hE
 rw [HDL1.out,HDL2.out] at h8
 have HEE:=Lib.hid hE
 clear hE
 rw [HEE.out,HE.out]
 obtain ⟨s,m,hs,hsm⟩:∃s m:Nat,((sc=false∧s=0∧m=dn1)∨(sc=true∧s=dn1∧m=dn2))∧(plS zs sc=s∧plM zs ys sc=m):=by
  cases sc
  · exact ⟨0,dn1,Or.inl ⟨rfl,rfl,rfl⟩,rfl,HDL1.out⟩
  · exact ⟨dn1,dn2,Or.inr ⟨rfl,rfl,rfl⟩,HDL1.out,HDL2.out⟩
 have hm8:s+m≤8:=by omega
 rw [hsm.1,hsm.2]
 have HSM:=Lib.hid hs
 clear hs hsm
 go_enter Try.func41,Try.ntmps41
 go_upto_region 1 with fail
 generalize (w.alloc (.cells #[.slice (some ⟨g1,o1,none⟩) dn1 dc1,.slice (some ⟨i1,j1,none⟩) n1 c1] 29)).alloc (.cells #[.slice (some ⟨g2,o2,none⟩) dn2 dc2,.slice (some ⟨i2,j2,none⟩) n2 c2] 29)=w0 at *
 go_wp2_with fail
 refine (ProductOfAlgebras_c dc1 c1 dc2 c2 (HHd1.out.keep hb) hdn1 (HN1.out.keep hb) hn1 HLL1.out HTT1.out (HHd2.out.keep hb) hdn2 (HN2.out.keep hb) hn2 HLL2.out HTT2.out).mono ?_
 rintro e w1 ⟨pa,pan,pac,pb,pbn,pbc,rfl,-,-,hb1⟩
 rw [HEE.out]
 clear c0 c1' d0 d1
 replace hA:=hA.keep hb1 hA.lt
 replace hB:=hB.keep hb1 hB.lt
 replace hb:=bT' hb hb1 hb.size
 clear hb1
 have hba:=bA1 w1 (.cells #[.slice pa pan pac,.slice pb pbn pbc] 29)
 replace hA:=hA.keep hba hA.lt
 replace hB:=hB.keep hba hB.lt
 replace hb:=bT' hb hba hb.size
 clear hba
 go_upto_region 4 with fail
 generalize w1.alloc (.cells #[.slice pa pan pac,.slice pb pbn pbc] 29)=w2 at *
 have c0:=hA.cell 0
 have c1':=hA.cell 1
 have d0:=hB.cell 0
 have d1:=hB.cell 1
 go_wp2_with fail
 refine (placesInProduct_c dc1 c1 dc2 c2 hdn1 hdn2 sc HSM.out).mono ?_
 rintro e w3 ⟨rfl,hb1⟩
 clear c0 c1' d0 d1
 replace hA:=hA.keep hb1 hA.lt
 replace hB:=hB.keep hb1 hB.lt
 replace hb:=bT' hb hb1 hb.size
 clear hb1
 have hmk1:=make_forms m (by omega) w3
 have s13:(s:Int)+(m:Int) - (s:Int)=(m:Int):=by omega
 have hR:=Own.new w3 47 (Array.replicate m (Value.slice none 0 0))
 have hba:=bA1 w3 (.cells (Array.replicate m (Value.slice none 0 0)) 47)
 have hgR:w.heap.size≤w3.heap.size:=hb.size
 replace hb:=bT' hb hba hb.size
 go_upto_region 6 with fail
 generalize w3.alloc (.cells (Array.replicate m (Value.slice none 0 0)) 47)=w4 at *
 generalize w3.heap.size=gO at *
 clear hmk1 hba s13 hA hB
 have hR0:Own w4 gO 47 (valCells m []).toArray:=by rw [show (valCells m []).toArray=Array.replicate m (Value.slice none 0 0) by simp [valCells]];exact hR
 have HW0:Hid (Vals w4 w.heap.size [] (gensFT s 0)):=Lib.hid (Vals.nil _ _)
 clear hR
 go_upto_region 7 with fail
 go_loopw [36] (fun y wr=>∃(k:Nat) (vs:List Value),k≤m∧y=.int .i64 k∧Below w.heap.size w wr∧Own wr gO 47 (valCells m vs).toArray∧Hid (Vals wr w.heap.size vs (gensFT s k))) (fun y _=>m - (intOf y).toNat)
 case atStart=>exact ⟨0,[],Nat.zero_le _,rfl,hb,hR0,HW0⟩
 case round=>
  clear hb hR0 HW0;obtain ⟨k,vs,hk,rfl,hb,hR,HW⟩:=hrel;have HVL:=Lib.hid (show vs.length=k by rw [HW.out.len,gensFT_len]);by_cases hin:k<m
  · have hk0:(0:Int)≤(k:Int):=(by omega);have hkn:(k:Int)<(m:Int):=(by omega);go_wp2_with fail
    refine (generatorForm_a (s:=s) (k:=k) (f:=1) (by omega)).mono ?_;rintro e w5 ⟨g,rfl,hg,hG,hb5⟩;have hb6:=bT' hb hb5 hb.size;have hR6:=hR.keep hb5 hR.lt;have HO:=Lib.hid (ownR_one (genM_mono (s+k)) hG hg);have HW6:=Lib.hid ((HW.out.keep hb5).snoc HW.out.lt hb.size HO.out);clear hb hR hb5 hG HW HO;have hfz:=hR6.frozen k;obtain ⟨ov,hcv⟩:=hR6.has (i:=k) (by have:=HVL.out;rw [List.size_toArray,valCells_len (by omega)];omega);go_wp2_with fail
    go_roundw
    case rel=>
     have q2:Below w.heap.size w (w5.setCell ⟨gO,k,none⟩ (.slice (some ⟨g,0,none⟩) 1 1)):=hb6.setCell (p:=⟨gO,k,none⟩) (by dsimp only;omega) _
     have q4:Own (w5.setCell ⟨gO,k,none⟩ (.slice (some ⟨g,0,none⟩) 1 1)) gO 47 (valCells m (vs++[.slice (some ⟨g,0,none⟩) 1 1])).toArray:=by
      have:=hR6.set k (.slice (some ⟨g,0,none⟩) 1 1)
      rwa [valCells_step HVL.out hin] at this
     have Q1:=Lib.hid (HW6.out.far (p:=⟨gO,k,none⟩) hR6 (.slice (some ⟨g,0,none⟩) 1 1));exact ⟨k+1,vs++[.slice (some ⟨g,0,none⟩) 1 1],by omega,by go_num,q2,q4,by rw [gensFT_succ];exact Q1⟩
    case measure=>simp [intOf] <;> omega
  · have he:k=m:=(by omega);subst he;go_wp2_with fail
    go_ret2
    refine ⟨some ⟨gO,0,none⟩,k,k,rfl,?_,hb⟩;refine HW.out.ownF (gensFT_len s k) hR (fun i v hi=>?_) (by omega) (gensFT_tm s k);rw [List.getElem?_toArray,valCells_full HVL.out];exact hi
set_option maxHeartbeats 4000000 in
theorem InclusionOf_s {w : World} {g1 o1 dn1 i1 j1 n1 g2 o2 dn2 i2 j2 n2 : Nat} {zs ys : List Int} {ims jms : List (List Tm)} (dc1 c1 dc2 c2 : Nat) (hd1 : Ints w (some ⟨g1, o1, none⟩) dn1 zs) (hdn1 : dn1 ≤ 1048576) (hN1 : FrmsN w (some ⟨i1, j1, none⟩) n1 ims) (hn1 : n1 ≤ 1048576) (hL1 : ∀ im ∈ ims, (im.length : Int) ≤ 1048576) (hT1 : ∀ ts ∈ ims, ∀ t ∈ ts, IsTm t)
    (hd2:Ints w (some ⟨g2,o2,none⟩) dn2 ys) (hdn2:dn2≤1048576) (hN2:FrmsN w (some ⟨i2,j2,none⟩) n2 jms) (hn2:n2≤1048576) (hL2:∀im∈jms,(im.length:Int)≤1048576) (hT2:∀ts∈jms,∀t∈ts,IsTm t) (sc:Bool) :
    Calls Try.prog 40 #[.agg #[.slice (some ⟨g1,o1,none⟩) dn1 dc1,.slice (some ⟨i1,j1,none⟩) n1 c1],.agg #[.slice (some ⟨g2,o2,none⟩) dn2 dc2,.slice (some ⟨i2,j2,none⟩) n2 c2],.bool sc] w fun e w'=>∃ra rn rc,e=.returned (.tuple #[.slice ra rn rc,.int .i64 (prE zs ims ys jms)])∧OwnF w' w.heap.size w'.heap.size ra rn (inV zs ims ys jms sc)∧Below w.heap.size w w':=by
 have hA:=(Own.new w 29 #[.slice (some ⟨g1,o1,none⟩) dn1 dc1,.slice (some ⟨i1,j1,none⟩) n1 c1]).alloc (.cells #[.slice (some ⟨g2,o2,none⟩) dn2 dc2,.slice (some ⟨i2,j2,none⟩) n2 c2] 29)
 have hB:=Own.new (w.alloc (.cells #[.slice (some ⟨g1,o1,none⟩) dn1 dc1,.slice (some ⟨i1,j1,none⟩) n1 c1] 29)) 29 #[.slice (some ⟨g2,o2,none⟩) dn2 dc2,.slice (some ⟨i2,j2,none⟩) n2 c2]
 rw [sAl] at hB
 have hb:=bTn (bA1 w (.cells #[.slice (some ⟨g1,o1,none⟩) dn1 dc1,.slice (some ⟨i1,j1,none⟩) n1 c1] 29)) (bA1 _ (.cells #[.slice (some ⟨g2,o2,none⟩) dn2 dc2,.slice (some ⟨i2,j2,none⟩) n2 c2] 29))
 have HLL1:=Lib.hid hL1
 have HLL2:=Lib.hid hL2
 have HTT1:=Lib.hid hT1
 have HTT2:=Lib.hid hT2
 have HN1:=Lib.hid hN1
 have HN2:=Lib.hid hN2
 have HHd1:=Lib.hid hd1
 have HHd2:=Lib.hid hd2
 have HDL1:=Lib.hid hd1.len
 have HDL2:=Lib.hid hd2.len
 have HLn1:=Lib.hid hN1.1
 have HLn2:=Lib.hid hN2.1
 clear hL1 hL2 hT1 hT2 hN1 hN2 hd1 hd2
 obtain ⟨ti,tz,hti,htz,hts,htb,htzs⟩:=Try.info_formA
 have HI:=Lib.hid hti
 have HZ:=Lib.hid htz
 have HS:=Lib.hid hts
 have HBt:=Lib.hid htb
 have HZs:=Lib.hid htzs
 clear hti htz hts htb htzs
 have c0:=hA.cell 0
 have c1':=hA.cell 1
 have d0:=hB.cell 0
 have d1:=hB.cell 1
 by_cases hE:prE zs ims ys jms=0
 case neg=>
  have HE:=Lib.hid (in_no (sc:=sc) hE);obtain ⟨E,hEE⟩:∃E,prE zs ims ys jms=E:=⟨_,rfl⟩;rw [hEE] at hE;have hEb:(E != 0)=true:=(by simpa using hE);have HEE:=Lib.hid hEE;clear hEE;rw [HEE.out,HE.out];go_enter Try.func40,Try.ntmps40
  go_upto_region 1 with fail
  generalize (w.alloc (.cells #[.slice (some ⟨g1,o1,none⟩) dn1 dc1,.slice (some ⟨i1,j1,none⟩) n1 c1] 29)).alloc (.cells #[.slice (some ⟨g2,o2,none⟩) dn2 dc2,.slice (some ⟨i2,j2,none⟩) n2 c2] 29)=w0 at *;go_wp2_with fail
  refine (l04Pair_c dc1 c1 dc2 c2 (HHd1.out.keep hb) hdn1 (HN1.out.keep hb) hn1 HLL1.out HTT1.out (HHd2.out.keep hb) hdn2 (HN2.out.keep hb) hn2 HLL2.out HTT2.out).mono ?_;rintro e w1 ⟨rfl,hb1⟩;rw [HEE.out];replace hb:=bT' hb hb1 hb.size;clear hb1 c0 c1' d0 d1;go_wp2_with fail
  go_ret2
  exact ⟨none,0,0,rfl,OwnF.none_,hb⟩
 have HE:=Lib.hid (in_yes (sc:=sc) hE)
 have h8:=pr_ok hE
 rw [HDL1.out,HDL2.out] at h8
 have HEE:=Lib.hid hE
 clear hE
 rw [HEE.out,HE.out]
 obtain ⟨s,m,hs,hsm⟩:∃s m:Nat,((sc=false∧s=0∧m=dn1)∨(sc=true∧s=dn1∧m=dn2))∧(plS zs sc=s∧plM zs ys sc=m):=by
  cases sc
  · exact ⟨0,dn1,Or.inl ⟨rfl,rfl,rfl⟩,rfl,HDL1.out⟩
  · exact ⟨dn1,dn2,Or.inr ⟨rfl,rfl,rfl⟩,HDL1.out,HDL2.out⟩
 have hm8:s+m≤8:=by omega
 rw [hsm.1,hsm.2]
 have HSM:=Lib.hid hs
 clear hs hsm
 go_enter Try.func40,Try.ntmps40
 go_upto_region 1 with fail
 generalize (w.alloc (.cells #[.slice (some ⟨g1,o1,none⟩) dn1 dc1,.slice (some ⟨i1,j1,none⟩) n1 c1] 29)).alloc (.cells #[.slice (some ⟨g2,o2,none⟩) dn2 dc2,.slice (some ⟨i2,j2,none⟩) n2 c2] 29)=w0 at *
 go_wp2_with fail
 refine (l04Pair_c dc1 c1 dc2 c2 (HHd1.out.keep hb) hdn1 (HN1.out.keep hb) hn1 HLL1.out HTT1.out (HHd2.out.keep hb) hdn2 (HN2.out.keep hb) hn2 HLL2.out HTT2.out).mono ?_
 rintro e w1 ⟨rfl,hb1⟩
 rw [HEE.out]
 clear c0 c1' d0 d1
 replace hA:=hA.keep hb1 hA.lt
 replace hB:=hB.keep hb1 hB.lt
 replace hb:=bT' hb hb1 hb.size
 clear hb1
 go_upto_region 4 with fail
 go_cut [9,10,11] (fun o p q wr=>∃gO,o=.slice (some ⟨gO,0,none⟩) 0 0∧p=.int .i64 0∧q=.int .i64 dn1∧wr.ownsRow w.heap.size 47 1 (.slice (some ⟨gO,0,none⟩) 0 0) 0 []∧Own wr w.heap.size 29 #[.slice (some ⟨g1,o1,none⟩) dn1 dc1,.slice (some ⟨i1,j1,none⟩) n1 c1]∧Own wr (w.heap.size+1) 29 #[.slice (some ⟨g2,o2,none⟩) dn2 dc2,.slice (some ⟨i2,j2,none⟩) n2 c2]∧Below w.heap.size w wr)
 case first=>
  replace hA:=hA.drew;replace hB:=hB.drew;replace hb:Below w.heap.size w w1.drew:=hb.drew;refine wp_region_held_drew (S:=(fun w'=>w'.cell? ⟨w.heap.size,0,none⟩=some (.slice (some ⟨g1,o1,none⟩) dn1 dc1))) (by kernel_rfl) ?_ (fun _=>?_)
  · ((try dsimp only);(exact hA.cell 0))
  generalize w1.drew=Wd at *;refine hdT 1 ?_;refine hdT 2 ?_;refine wpAnyH_ready (rs:=[0,3]) (by kernel_rfl) (by simp) ?_;refine AllReadyH.cons (hdAt (i:=0) rfl) (fun K hK=>?_) (AllReadyH.cons (hdAt (i:=3) rfl) (fun K hK=>?_) AllReadyH.nil)
  · skip
    (go_simp;try go_wp2_with fail)
    have hbs0:=hb.size;have hR:(Wd.alloc (.cells #[] 47)).ownsRow w.heap.size 47 1 (.slice (some ⟨Wd.heap.size,0,none⟩) 0 0) 0 []:=⟨rfl,Or.inr ⟨Wd.heap.size,0,#[],rfl,hbs0,heap_alloc_new Wd _,Nat.le_refl _,by simp [maxLen],rfl,rfl⟩⟩;have hbX:=bA1 Wd (.cells #[] 47);replace hA:=hA.keep hbX hA.lt;replace hB:=hB.keep hbX hB.lt;replace hb:=bT' hb hbX hb.size;generalize Wd.alloc (.cells #[] 47)=W1 at *;generalize Wd.heap.size=gO at *;clear hbX hbs0;refine hK.out _ _ ?_ (fun _=>?_)
    · ((try dsimp only);(exact hA.cell 0))
    clear hK K
    (try simp only [Act.put,pA,pB,pC])
    refine hdT 4 ?_;refine hdT 5 ?_;refine hdC 3 (fun K hK=>?_)
    (go_simp;try go_wp2_with fail)
    refine hK.out _ _ ?_ (fun _=>?_)
    · ((try dsimp only);(exact hA.cell 0))
    clear hK K
    (try simp only [Act.put,pA,pB,pC])
    refine hdT 6 ?_;refine wpAnyH_done (by kernel_rfl) ?_ _;go_wp2_with fail
    go_meet
    exact ⟨gO,rfl,rfl,rfl,hR,hA,hB,hb⟩
  · skip
    (go_simp;try go_wp2_with fail)
    refine hK.out _ _ ?_ (fun _=>?_)
    · ((try dsimp only);(exact hA.cell 0))
    clear hK K
    (try simp only [Act.put,pA,pB,pC])
    refine hdC 0 (fun K hK=>?_)
    (go_simp;try go_wp2_with fail)
    have hbs0:=hb.size;have hR:(Wd.alloc (.cells #[] 47)).ownsRow w.heap.size 47 1 (.slice (some ⟨Wd.heap.size,0,none⟩) 0 0) 0 []:=⟨rfl,Or.inr ⟨Wd.heap.size,0,#[],rfl,hbs0,heap_alloc_new Wd _,Nat.le_refl _,by simp [maxLen],rfl,rfl⟩⟩;have hbX:=bA1 Wd (.cells #[] 47);replace hA:=hA.keep hbX hA.lt;replace hB:=hB.keep hbX hB.lt;replace hb:=bT' hb hbX hb.size;generalize Wd.alloc (.cells #[] 47)=W2 at *;generalize Wd.heap.size=gO at *;clear hbX hbs0;refine hK.out _ _ ?_ (fun _=>?_)
    · ((try dsimp only);(exact hA.cell 0))
    clear hK K
    (try simp only [Act.put,pA,pB,pC])
    refine hdT 4 ?_;refine hdT 5 ?_;refine hdT 6 ?_;refine wpAnyH_done (by kernel_rfl) ?_ _;go_wp2_with fail
    go_meet
    exact ⟨gO,rfl,rfl,rfl,hR,hA,hB,hb⟩
 case rest=>
  obtain ⟨gO,rfl,rfl,rfl,hR,hA,hB,hb⟩:=hcut;have c0:=hA.cell 0;have d0:=hB.cell 0
  rcases HSM.out with ⟨rfl,rfl,rfl⟩ | ⟨rfl,rfl,rfl⟩
  · skip
    go_upto_region 9 with fail
    clear c0 d0
    go_loopw [9,12] (fun o y wr=>∃(k:Nat) (oa:Option Addr) (oc:Nat) (vs:List Value),k≤m∧y=.int .i64 k∧o=.slice oa k oc∧Below w.heap.size w wr∧wr.ownsRow w.heap.size 47 1 (.slice oa k oc) k vs∧Hid (Vals wr w.heap.size vs (gensFT 0 k))) (fun _ y _=>m - (intOf y).toNat)
    case atStart=>exact ⟨0,_,_,[],Nat.zero_le _,rfl,rfl,hb,hR,Lib.hid (Vals.nil _ _)⟩
    case round=>
     clear hb hR hA hB;obtain ⟨k,oa,oc,vs,hk,rfl,rfl,hb,hR,HW⟩:=hrel;by_cases hin:k<m
     · have hk0:(0:Int)≤(k:Int):=(by omega);have hkn:(k:Int)<(m:Int):=(by omega);have HR:=Lib.hid hR;clear hR;go_wp2_with fail
       refine (l04Generator_c (i:=k) (by omega)).mono ?_;rintro e w4 ⟨g,rfl,hg,hG,hb5⟩;have hb6:=bT' hb hb5 hb.size;have hR6:=row_keep HR.out hb5;have HO:=Lib.hid (ownR_one (genM_mono _) hG hg);have HW6:=Lib.hid ((HW.out.keep hb5).snoc HW.out.lt hb.size HO.out)
       have hnews:∀j u,([Value.slice (some ⟨g,0,none⟩) 1 1]:List Value)[j]? = some u→(w4.alloc (.cells #[.slice (some ⟨g,0,none⟩) 1 1] 47)).cell? ((⟨w4.heap.size,0,none⟩:Addr).add j)=some u:=fun j u hu=>by
        rw [Addr.add_mid];exact (Own.new w4 47 #[.slice (some ⟨g,0,none⟩) 1 1]).range j u hu
       have hone:∀u∈([Value.slice (some ⟨g,0,none⟩) 1 1]:List Value),u.oneCell'=true:=(by simp [Value.oneCell']);have HN:=Lib.hid hnews;have HOn:=Lib.hid hone;have hba:=bA1 w4 (.cells #[.slice (some ⟨g,0,none⟩) 1 1] 47);have HR2:=Lib.hid (row_keep hR6 hba);have hb3:=bT' hb6 hba hb6.size;have HW3:=Lib.hid (HW6.out.keep hba);have hbs:=hb6.size;clear hnews hone hR6 HW6 hba hb hb5 hG HW HO HR hb6;go_wp2_with (refine wpList_append_own_wide _ rfl (.tmp 33) (.tmp 38) 27 rfl w.heap.size 47 ti tz 1 24 Try.underlying27 HI.out HZ.out HS.out HBt.out HZs.out (by omega) (.slice oa k oc) k vs rfl HR2.out ⟨w4.heap.size,0,none⟩ 1 1 [Value.slice (some ⟨g,0,none⟩) 1 1] rfl rfl HN.out HOn.out (by simp only [maxLen];omega) (by omega) (by rw [sAl];omega) (fun v' w' h2 h3 h4=>?_))
       have hb4:=grown_below hb3 h3 (fun j e=>(HR2.out.lt j e).1) hb3.size;have HW4:=Lib.hid (HW3.out.grown h3 (fun q e=>row_own HR2.out e));obtain ⟨va,vc,rfl⟩:=row_slice h2;have H2:=Lib.hid h2;clear h2 h3 h4 hb3 HR2 HW3 HN HOn;go_wp2_with fail
       go_roundw
       case rel=>exact ⟨k+1,va,vc,vs++[.slice (some ⟨g,0,none⟩) 1 1],by omega,by go_num,rfl,hb4,H2.out,by rw [gensFT_succ,Nat.zero_add];exact HW4⟩
       case measure=>simp [intOf] <;> omega
     · have he:k=m:=(by omega);subst he;have HR:=Lib.hid hR;clear hR;go_wp2_with fail
       go_ret2
       obtain ⟨ra,rc,hrr,hO⟩:=HW.out.ownF_row (gensFT_len 0 k) HR.out (gensFT_tm 0 k);simp only [Value.slice.injEq] at hrr;obtain ⟨rfl,-,rfl⟩:=hrr;exact ⟨oa,k,oc,rfl,hO,hb⟩
  · skip
    go_upto_region 9 with fail
    clear c0 d0
    go_loopw [9,12] (fun o y wr=>∃(k:Nat) (oa:Option Addr) (oc:Nat) (vs:List Value),k≤m∧y=.int .i64 k∧o=.slice oa k oc∧Below w.heap.size w wr∧wr.ownsRow w.heap.size 47 1 (.slice oa k oc) k vs∧Hid (Vals wr w.heap.size vs (gensFT s k))) (fun _ y _=>m - (intOf y).toNat)
    case atStart=>exact ⟨0,_,_,[],Nat.zero_le _,rfl,rfl,hb,hR,Lib.hid (Vals.nil _ _)⟩
    case round=>
     clear hb hR hA hB;obtain ⟨k,oa,oc,vs,hk,rfl,rfl,hb,hR,HW⟩:=hrel;by_cases hin:k<m
     · have hk0:(0:Int)≤(k:Int):=(by omega);have hkn:(k:Int)<(m:Int):=(by omega);have HR:=Lib.hid hR;clear hR;go_wp2_with fail
       refine (l04Generator_a (s:=s) (k:=k) (by omega)).mono ?_;rintro e w4 ⟨g,rfl,hg,hG,hb5⟩;have hb6:=bT' hb hb5 hb.size;have hR6:=row_keep HR.out hb5;have HO:=Lib.hid (ownR_one (genM_mono _) hG hg);have HW6:=Lib.hid ((HW.out.keep hb5).snoc HW.out.lt hb.size HO.out)
       have hnews:∀j u,([Value.slice (some ⟨g,0,none⟩) 1 1]:List Value)[j]? = some u→(w4.alloc (.cells #[.slice (some ⟨g,0,none⟩) 1 1] 47)).cell? ((⟨w4.heap.size,0,none⟩:Addr).add j)=some u:=fun j u hu=>by
        rw [Addr.add_mid];exact (Own.new w4 47 #[.slice (some ⟨g,0,none⟩) 1 1]).range j u hu
       have hone:∀u∈([Value.slice (some ⟨g,0,none⟩) 1 1]:List Value),u.oneCell'=true:=(by simp [Value.oneCell']);have HN:=Lib.hid hnews;have HOn:=Lib.hid hone;have hba:=bA1 w4 (.cells #[.slice (some ⟨g,0,none⟩) 1 1] 47);have HR2:=Lib.hid (row_keep hR6 hba);have hb3:=bT' hb6 hba hb6.size;have HW3:=Lib.hid (HW6.out.keep hba);have hbs:=hb6.size;clear hnews hone hR6 HW6 hba hb hb5 hG HW HO HR hb6;go_wp2_with (refine wpList_append_own_wide _ rfl (.tmp 33) (.tmp 38) 27 rfl w.heap.size 47 ti tz 1 24 Try.underlying27 HI.out HZ.out HS.out HBt.out HZs.out (by omega) (.slice oa k oc) k vs rfl HR2.out ⟨w4.heap.size,0,none⟩ 1 1 [Value.slice (some ⟨g,0,none⟩) 1 1] rfl rfl HN.out HOn.out (by simp only [maxLen];omega) (by omega) (by rw [sAl];omega) (fun v' w' h2 h3 h4=>?_))
       have hb4:=grown_below hb3 h3 (fun j e=>(HR2.out.lt j e).1) hb3.size;have HW4:=Lib.hid (HW3.out.grown h3 (fun q e=>row_own HR2.out e));obtain ⟨va,vc,rfl⟩:=row_slice h2;have H2:=Lib.hid h2;clear h2 h3 h4 hb3 HR2 HW3 HN HOn;go_wp2_with fail
       go_roundw
       case rel=>exact ⟨k+1,va,vc,vs++[.slice (some ⟨g,0,none⟩) 1 1],by omega,by go_num,rfl,hb4,H2.out,by rw [gensFT_succ];exact HW4⟩
       case measure=>simp [intOf] <;> omega
     · have he:k=m:=(by omega);subst he;have HR:=Lib.hid hR;clear hR;go_wp2_with fail
       go_ret2
       obtain ⟨ra,rc,hrr,hO⟩:=HW.out.ownF_row (gensFT_len s k) HR.out (gensFT_tm s k);simp only [Value.slice.injEq] at hrr;obtain ⟨rfl,-,rfl⟩:=hrr;exact ⟨oa,k,oc,rfl,hO,hb⟩
theorem Vals.snocNil {w:World} {B:Nat} {vs:List Value} {V:List (List Tm)} (h:Vals w B vs V) (hn:B≤w.heap.size):Vals w B (vs++[.slice none 0 0]) (V++[[]]):=
 h.snoc h.lt hn ⟨rfl,Or.inl ⟨rfl,rfl⟩⟩
theorem Vals.nils {w:World} {B:Nat} {vs:List Value} {V:List (List Tm)} (h:Vals w B vs V) (hn:B≤w.heap.size):∀j,Vals w B (vs++List.replicate j (.slice none 0 0)) (V++List.replicate j [])
 | 0=>by simpa using h
 | j + 1 => by
   rw [List.replicate_succ',List.replicate_succ',←List.append_assoc,←List.append_assoc];exact (Vals.nils h hn j).snocNil hn
def prjAt (s e i:Nat):List Tm:=if s≤i∧i<e then [⟨genM (i - s),1⟩] else []
def prjTo (s e k:Nat):List (List Tm):=(List.range k).map (prjAt s e)
theorem prjTo_len (s e k:Nat):(prjTo s e k).length=k:=by simp [prjTo]
theorem prjTo_in {s e k:Nat} (h:s≤k) (h2:k<e):prjTo s e (k+1)=prjTo s e k++[[⟨genM (k - s),1⟩]]:=by
 rw [prjTo,List.range_succ,List.map_append,List.map_singleton,prjAt,if_pos ⟨h,h2⟩]
 rfl
theorem prjTo_out {s e k:Nat} (h:¬(s≤k∧k<e)):prjTo s e (k+1)=prjTo s e k++[[]]:=by
 rw [prjTo,List.range_succ,List.map_append,List.map_singleton,prjAt,if_neg h]
 rfl
theorem prjTo_first (s e:Nat):∀k,k≤s→prjTo s e k=List.replicate k []
 | 0,_=>rfl
 | k+1,h=>by rw [prjTo_out (by omega),prjTo_first s e k (by omega),List.replicate_succ']
theorem prjTo_last (s e:Nat):∀j,prjTo s e (e+j)=prjTo s e e++List.replicate j []
 | 0=>by simp
 | j+1=>by rw [←Nat.add_assoc,prjTo_out (by omega),prjTo_last s e j,List.replicate_succ',List.append_assoc]
theorem prjTo_one (s e k:Nat):∀ts∈prjTo s e k,ts.length≤1:=by
 intro ts h
 simp only [prjTo,List.mem_map] at h
 obtain ⟨i,-,rfl⟩:=h
 rw [prjAt]
 split <;> simp
theorem prjTo_tm (s e k:Nat):∀ts∈prjTo s e k,∀t∈ts,IsTm t:=by
 intro ts h t ht
 simp only [prjTo,List.mem_map] at h
 obtain ⟨i,-,rfl⟩:=h
 rw [prjAt] at ht
 split at ht
 · obtain rfl:t=⟨genM (i - s),1⟩:=(by simpa using ht);exact ⟨genM_mono _,by dsimp only;omega,by dsimp only;omega⟩
 · simp at ht
def pjV (zs:List Int) (ims:List (List Tm)) (ys:List Int) (jms:List (List Tm)) (sc:Bool):List (List Tm):=if prE zs ims ys jms=0 then prjTo (plS zs sc) (plS zs sc+plM zs ys sc) (zs.length+ys.length) else []
theorem pj_no {zs:List Int} {ims:List (List Tm)} {ys:List Int} {jms:List (List Tm)} {sc:Bool} (h:¬prE zs ims ys jms=0):pjV zs ims ys jms sc=[]:=by rw [pjV,if_neg h]
theorem pj_yes {zs:List Int} {ims:List (List Tm)} {ys:List Int} {jms:List (List Tm)} {sc:Bool} (h:prE zs ims ys jms=0):pjV zs ims ys jms sc=prjTo (plS zs sc) (plS zs sc+plM zs ys sc) (zs.length+ys.length):=by rw [pjV,if_pos h]
set_option maxHeartbeats 4000000 in
theorem ProjectionOf_c {w : World} {g1 o1 dn1 i1 j1 n1 g2 o2 dn2 i2 j2 n2 : Nat} {zs ys : List Int} {ims jms : List (List Tm)} (dc1 c1 dc2 c2 : Nat) (hd1 : Ints w (some ⟨g1, o1, none⟩) dn1 zs) (hdn1 : dn1 ≤ 1048576) (hN1 : FrmsN w (some ⟨i1, j1, none⟩) n1 ims) (hn1 : n1 ≤ 1048576) (hL1 : ∀ im ∈ ims, (im.length : Int) ≤ 1048576) (hT1 : ∀ ts ∈ ims, ∀ t ∈ ts, IsTm t)
    (hd2:Ints w (some ⟨g2,o2,none⟩) dn2 ys) (hdn2:dn2≤1048576) (hN2:FrmsN w (some ⟨i2,j2,none⟩) n2 jms) (hn2:n2≤1048576) (hL2:∀im∈jms,(im.length:Int)≤1048576) (hT2:∀ts∈jms,∀t∈ts,IsTm t) (sc:Bool) :
    Calls Try.prog 43 #[.agg #[.slice (some ⟨g1,o1,none⟩) dn1 dc1,.slice (some ⟨i1,j1,none⟩) n1 c1],.agg #[.slice (some ⟨g2,o2,none⟩) dn2 dc2,.slice (some ⟨i2,j2,none⟩) n2 c2],.bool sc] w fun e w'=>∃ra rn rc,e=.returned (.tuple #[.slice ra rn rc,.int .i64 (prE zs ims ys jms)])∧OwnF w' w.heap.size w'.heap.size ra rn (pjV zs ims ys jms sc)∧Below w.heap.size w w':=by
 have hA:=(Own.new w 29 #[.slice (some ⟨g1,o1,none⟩) dn1 dc1,.slice (some ⟨i1,j1,none⟩) n1 c1]).alloc (.cells #[.slice (some ⟨g2,o2,none⟩) dn2 dc2,.slice (some ⟨i2,j2,none⟩) n2 c2] 29)
 have hB:=Own.new (w.alloc (.cells #[.slice (some ⟨g1,o1,none⟩) dn1 dc1,.slice (some ⟨i1,j1,none⟩) n1 c1] 29)) 29 #[.slice (some ⟨g2,o2,none⟩) dn2 dc2,.slice (some ⟨i2,j2,none⟩) n2 c2]
 rw [sAl] at hB
 have hb:=bTn (bA1 w (.cells #[.slice (some ⟨g1,o1,none⟩) dn1 dc1,.slice (some ⟨i1,j1,none⟩) n1 c1] 29)) (bA1 _ (.cells #[.slice (some ⟨g2,o2,none⟩) dn2 dc2,.slice (some ⟨i2,j2,none⟩) n2 c2] 29))
 have HLL1:=Lib.hid hL1
 have HLL2:=Lib.hid hL2
 have HTT1:=Lib.hid hT1
 have HTT2:=Lib.hid hT2
 have HN1:=Lib.hid hN1
 have HN2:=Lib.hid hN2
 have HHd1:=Lib.hid hd1
 have HHd2:=Lib.hid hd2
 have HDL1:=Lib.hid hd1.len
 have HDL2:=Lib.hid hd2.len
 have HLn1:=Lib.hid hN1.1
 have HLn2:=Lib.hid hN2.1
 clear hL1 hL2 hT1 hT2 hN1 hN2 hd1 hd2
 have c0:=hA.cell 0
 have c1':=hA.cell 1
 have d0:=hB.cell 0
 have d1:=hB.cell 1
 by_cases hE:prE zs ims ys jms=0
 case neg=>
  have HE:=Lib.hid (pj_no (sc:=sc) hE);obtain ⟨E,hEE⟩:∃E,prE zs ims ys jms=E:=⟨_,rfl⟩;rw [hEE] at hE;have hEb:(E != 0)=true:=(by simpa using hE);have HEE:=Lib.hid hEE;clear hEE;rw [HEE.out,HE.out];go_enter Try.func43,Try.ntmps43
  go_upto_region 1 with fail
  generalize (w.alloc (.cells #[.slice (some ⟨g1,o1,none⟩) dn1 dc1,.slice (some ⟨i1,j1,none⟩) n1 c1] 29)).alloc (.cells #[.slice (some ⟨g2,o2,none⟩) dn2 dc2,.slice (some ⟨i2,j2,none⟩) n2 c2] 29)=w0 at *;go_wp2_with fail
  refine (ProductOfAlgebras_c dc1 c1 dc2 c2 (HHd1.out.keep hb) hdn1 (HN1.out.keep hb) hn1 HLL1.out HTT1.out (HHd2.out.keep hb) hdn2 (HN2.out.keep hb) hn2 HLL2.out HTT2.out).mono ?_;rintro e w1 ⟨pa,pan,pac,pb,pbn,pbc,rfl,-,-,hb1⟩;rw [HEE.out];replace hb:=bT' hb hb1 hb.size;have hb':=bT' hb (bA1 w1 (.cells #[.slice pa pan pac,.slice pb pbn pbc] 29)) hb.size;clear hb1 c0 c1' d0 d1 hb;go_wp2_with fail
  go_ret2
  exact ⟨none,0,0,rfl,OwnF.none_,hb'⟩
 have HE:=Lib.hid (pj_yes (sc:=sc) hE)
 have h8:=pr_ok hE
 rw [HDL1.out,HDL2.out] at h8
 have HEE:=Lib.hid hE
 clear hE
 rw [HEE.out,HE.out]
 obtain ⟨s,m,hs,hsm⟩:∃s m:Nat,((sc=false∧s=0∧m=dn1)∨(sc=true∧s=dn1∧m=dn2))∧(plS zs sc=s∧plM zs ys sc=m):=by
  cases sc
  · exact ⟨0,dn1,Or.inl ⟨rfl,rfl,rfl⟩,rfl,HDL1.out⟩
  · exact ⟨dn1,dn2,Or.inr ⟨rfl,rfl,rfl⟩,HDL1.out,HDL2.out⟩
 have hm8:s+m≤dn1+dn2:=by omega
 rw [hsm.1,hsm.2,HDL1.out,HDL2.out]
 have HSM:=Lib.hid hs
 clear hs hsm
 go_enter Try.func43,Try.ntmps43
 go_upto_region 1 with fail
 generalize (w.alloc (.cells #[.slice (some ⟨g1,o1,none⟩) dn1 dc1,.slice (some ⟨i1,j1,none⟩) n1 c1] 29)).alloc (.cells #[.slice (some ⟨g2,o2,none⟩) dn2 dc2,.slice (some ⟨i2,j2,none⟩) n2 c2] 29)=w0 at *
 go_wp2_with fail
 refine (ProductOfAlgebras_c dc1 c1 dc2 c2 (HHd1.out.keep hb) hdn1 (HN1.out.keep hb) hn1 HLL1.out HTT1.out (HHd2.out.keep hb) hdn2 (HN2.out.keep hb) hn2 HLL2.out HTT2.out).mono ?_
 rintro e w1 ⟨pa,pan,pac,pb,pbn,pbc,rfl,hpV,-,hb1⟩
 rw [HEE.out]
 obtain rfl:dn1+dn2=pan:=by
  rw [←hpV.1,prD,if_pos HEE.out,List.length_append,HDL1.out,HDL2.out]
 clear hpV
 clear c0 c1' d0 d1
 replace hA:=hA.keep hb1 hA.lt
 replace hB:=hB.keep hb1 hB.lt
 replace hb:=bT' hb hb1 hb.size
 clear hb1
 have hP:=Own.new w1 29 #[.slice pa (dn1+dn2) pac,.slice pb pbn pbc]
 have hba:=bA1 w1 (.cells #[.slice pa (dn1+dn2) pac,.slice pb pbn pbc] 29)
 replace hA:=hA.keep hba hA.lt
 replace hB:=hB.keep hba hB.lt
 replace hb:=bT' hb hba hb.size
 clear hba
 go_upto_region 4 with fail
 generalize hgP:w1.heap.size=gP at *
 generalize w1.alloc (.cells #[.slice pa (dn1+dn2) pac,.slice pb pbn pbc] 29)=w2 at *
 have c0:=hA.cell 0
 have c1':=hA.cell 1
 have d0:=hB.cell 0
 have d1:=hB.cell 1
 go_wp2_with fail
 refine (placesInProduct_c dc1 c1 dc2 c2 hdn1 hdn2 sc HSM.out).mono ?_
 rintro e w3 ⟨rfl,hb1⟩
 replace hP:=hP.keep hb1 hP.lt
 clear c0 c1' d0 d1
 replace hA:=hA.keep hb1 hA.lt
 replace hB:=hB.keep hb1 hB.lt
 replace hb:=bT' hb hb1 hb.size
 clear hb1
 obtain ⟨n,hn⟩:∃n,dn1+dn2=n:=⟨_,rfl⟩
 rw [hn] at hP h8 hm8
 have HNN:=Lib.hid hn
 rw [hn]
 clear hn
 have hmk1:=make_forms n (by omega) w3
 have hR:=Own.new w3 47 (Array.replicate n (Value.slice none 0 0))
 have hba:=bA1 w3 (.cells (Array.replicate n (Value.slice none 0 0)) 47)
 have hgR:w.heap.size≤w3.heap.size:=hb.size
 have p0:=hP.cell 0
 replace hb:=bT' hb hba hb.size
 go_upto_region 6 with fail
 generalize w3.alloc (.cells (Array.replicate n (Value.slice none 0 0)) 47)=w4 at *
 generalize w3.heap.size=gO at *
 clear hmk1 hba hA hB p0 hP
 have HW0:Hid (Vals w4 w.heap.size (List.replicate s (.slice none 0 0)) (prjTo s (s+m) s)):=Lib.hid (by
  rw [prjTo_first s (s+m) s (Nat.le_refl _)];have:=(Vals.nil w4 w.heap.size).nils hb.size s
  simpa using this)
 have hR0:Own w4 gO 47 (valCells n (List.replicate s (.slice none 0 0))).toArray:=by
  rw [show (valCells n (List.replicate s (Value.slice none 0 0))).toArray=Array.replicate n (Value.slice none 0 0) by
   apply Array.ext'
   simp only [List.toList_toArray,Array.toList_replicate,valCells,List.length_replicate];rw [List.replicate_append_replicate];congr 1
   omega]
  exact hR
 clear hR
 go_upto_region 7 with fail
 go_loopw [13] (fun y wr=>∃(k:Nat) (vs:List Value),s≤k∧k≤s+m∧y=.int .i64 k∧Below w.heap.size w wr∧Own wr gO 47 (valCells n vs).toArray∧Hid (Vals wr w.heap.size vs (prjTo s (s+m) k))) (fun y _=>s+m - (intOf y).toNat)
 case atStart=>exact ⟨s,_,Nat.le_refl _,by omega,rfl,hb,hR0,HW0⟩
 case round=>
  clear hb hR0 HW0;obtain ⟨k,vs,hks,hk,rfl,hb,hR,HW⟩:=hrel;have HVL:=Lib.hid (show vs.length=k by rw [HW.out.len,prjTo_len]);by_cases hin:k<s+m
  · have hk0:(0:Int)≤(k:Int):=(by omega);have hkn:(k:Int)<(n:Int):=(by omega);have hksm:(k:Int)<(s:Int)+(m:Int):=(by omega);obtain ⟨u,hu⟩:∃u,k - s=u:=⟨_,rfl⟩;have s4:(k:Int) - (s:Int)=(u:Int):=(by omega);have hu8:u<8:=(by omega);have HSC:=Lib.hid (prjTo_in hks hin);rw [hu] at HSC;clear hu;go_wp2_with fail
    refine (generatorForm_c (i:=u) (f:=1) hu8).mono ?_;rintro e w5 ⟨g,rfl,hg,hG,hb5⟩;have hb6:=bT' hb hb5 hb.size;have hR6:=hR.keep hb5 hR.lt;have HO:=Lib.hid (ownR_one (genM_mono u) hG hg);have HW6:=Lib.hid ((HW.out.keep hb5).snoc HW.out.lt hb.size HO.out);clear hb hR hb5 hG HW HO;have hfz:=hR6.frozen k;obtain ⟨ov,hcv⟩:=hR6.has (i:=k) (by have:=HVL.out;rw [List.size_toArray,valCells_len (by omega)];omega);go_wp2_with fail
    go_roundw
    case rel=>
     have q2:Below w.heap.size w (w5.setCell ⟨gO,k,none⟩ (.slice (some ⟨g,0,none⟩) 1 1)):=hb6.setCell (p:=⟨gO,k,none⟩) (by dsimp only;omega) _
     have q4:Own (w5.setCell ⟨gO,k,none⟩ (.slice (some ⟨g,0,none⟩) 1 1)) gO 47 (valCells n (vs++[.slice (some ⟨g,0,none⟩) 1 1])).toArray:=by
      have:=hR6.set k (.slice (some ⟨g,0,none⟩) 1 1)
      rwa [valCells_step HVL.out (by omega)] at this
     have Q1:=Lib.hid (HW6.out.far (p:=⟨gO,k,none⟩) hR6 (.slice (some ⟨g,0,none⟩) 1 1));exact ⟨k+1,vs++[.slice (some ⟨g,0,none⟩) 1 1],by omega,by omega,by go_num,q2,q4,by rw [HSC.out];exact Q1⟩
    case measure=>simp [intOf] <;> omega
  · obtain rfl:k=s+m:=(by omega);have hksm:¬((s+m:Nat):Int)<(s:Int)+(m:Int):=(by omega);go_wp2_with fail
    go_ret2
    refine ⟨some ⟨gO,0,none⟩,n,⟨n,rfl⟩,?_,hb⟩;rw [HNN.out];have hlast:=prjTo_last s (s+m) (n - (s+m));rw [show s+m+(n - (s+m))=n by omega] at hlast;rw [hlast];have hW2:=HW.out.nils hb.size (n - (s+m));refine hW2.ownF (by rw [List.length_append,prjTo_len,List.length_replicate];omega) hR (fun i v hi=>?_) (by omega) (by rw [←hlast];exact prjTo_tm _ _ _);rw [List.getElem?_toArray,valCells,HVL.out];exact hi
set_option maxHeartbeats 4000000 in
theorem ProjectionOf_s {w : World} {g1 o1 dn1 i1 j1 n1 g2 o2 dn2 i2 j2 n2 : Nat} {zs ys : List Int} {ims jms : List (List Tm)} (dc1 c1 dc2 c2 : Nat) (hd1 : Ints w (some ⟨g1, o1, none⟩) dn1 zs) (hdn1 : dn1 ≤ 1048576) (hN1 : FrmsN w (some ⟨i1, j1, none⟩) n1 ims) (hn1 : n1 ≤ 1048576) (hL1 : ∀ im ∈ ims, (im.length : Int) ≤ 1048576) (hT1 : ∀ ts ∈ ims, ∀ t ∈ ts, IsTm t)
    (hd2:Ints w (some ⟨g2,o2,none⟩) dn2 ys) (hdn2:dn2≤1048576) (hN2:FrmsN w (some ⟨i2,j2,none⟩) n2 jms) (hn2:n2≤1048576) (hL2:∀im∈jms,(im.length:Int)≤1048576) (hT2:∀ts∈jms,∀t∈ts,IsTm t) (sc:Bool) :
    Calls Try.prog 42 #[.agg #[.slice (some ⟨g1,o1,none⟩) dn1 dc1,.slice (some ⟨i1,j1,none⟩) n1 c1],.agg #[.slice (some ⟨g2,o2,none⟩) dn2 dc2,.slice (some ⟨i2,j2,none⟩) n2 c2],.bool sc] w fun e w'=>∃ra rn rc,e=.returned (.tuple #[.slice ra rn rc,.int .i64 (prE zs ims ys jms)])∧OwnF w' w.heap.size w'.heap.size ra rn (pjV zs ims ys jms sc)∧Below w.heap.size w w':=by
 have hA:=(Own.new w 29 #[.slice (some ⟨g1,o1,none⟩) dn1 dc1,.slice (some ⟨i1,j1,none⟩) n1 c1]).alloc (.cells #[.slice (some ⟨g2,o2,none⟩) dn2 dc2,.slice (some ⟨i2,j2,none⟩) n2 c2] 29)
 have hB:=Own.new (w.alloc (.cells #[.slice (some ⟨g1,o1,none⟩) dn1 dc1,.slice (some ⟨i1,j1,none⟩) n1 c1] 29)) 29 #[.slice (some ⟨g2,o2,none⟩) dn2 dc2,.slice (some ⟨i2,j2,none⟩) n2 c2]
 rw [sAl] at hB
 have hb:=bTn (bA1 w (.cells #[.slice (some ⟨g1,o1,none⟩) dn1 dc1,.slice (some ⟨i1,j1,none⟩) n1 c1] 29)) (bA1 _ (.cells #[.slice (some ⟨g2,o2,none⟩) dn2 dc2,.slice (some ⟨i2,j2,none⟩) n2 c2] 29))
 have HLL1:=Lib.hid hL1
 have HLL2:=Lib.hid hL2
 have HTT1:=Lib.hid hT1
 have HTT2:=Lib.hid hT2
 have HN1:=Lib.hid hN1
 have HN2:=Lib.hid hN2
 have HHd1:=Lib.hid hd1
 have HHd2:=Lib.hid hd2
 have HDL1:=Lib.hid hd1.len
 have HDL2:=Lib.hid hd2.len
 have HLn1:=Lib.hid hN1.1
 have HLn2:=Lib.hid hN2.1
 clear hL1 hL2 hT1 hT2 hN1 hN2 hd1 hd2
 obtain ⟨ti,tz,hti,htz,hts,htb,htzs⟩:=Try.info_formA
 have HI:=Lib.hid hti
 have HZ:=Lib.hid htz
 have HS:=Lib.hid hts
 have HBt:=Lib.hid htb
 have HZs:=Lib.hid htzs
 clear hti htz hts htb htzs
 have c0:=hA.cell 0
 have c1':=hA.cell 1
 have d0:=hB.cell 0
 have d1:=hB.cell 1
 by_cases hE:prE zs ims ys jms=0
 case neg=>
  have HE:=Lib.hid (pj_no (sc:=sc) hE);obtain ⟨E,hEE⟩:∃E,prE zs ims ys jms=E:=⟨_,rfl⟩;rw [hEE] at hE;have hEb:(E != 0)=true:=(by simpa using hE);have HEE:=Lib.hid hEE;clear hEE;rw [HEE.out,HE.out];go_enter Try.func42,Try.ntmps42
  go_upto_region 1 with fail
  generalize (w.alloc (.cells #[.slice (some ⟨g1,o1,none⟩) dn1 dc1,.slice (some ⟨i1,j1,none⟩) n1 c1] 29)).alloc (.cells #[.slice (some ⟨g2,o2,none⟩) dn2 dc2,.slice (some ⟨i2,j2,none⟩) n2 c2] 29)=w0 at *;go_wp2_with fail
  refine (l04Pair_c dc1 c1 dc2 c2 (HHd1.out.keep hb) hdn1 (HN1.out.keep hb) hn1 HLL1.out HTT1.out (HHd2.out.keep hb) hdn2 (HN2.out.keep hb) hn2 HLL2.out HTT2.out).mono ?_;rintro e w1 ⟨rfl,hb1⟩;rw [HEE.out];replace hb:=bT' hb hb1 hb.size;clear hb1 c0 c1' d0 d1;go_wp2_with fail
  go_ret2
  exact ⟨none,0,0,rfl,OwnF.none_,hb⟩
 have HE:=Lib.hid (pj_yes (sc:=sc) hE)
 have h8:=pr_ok hE
 rw [HDL1.out,HDL2.out] at h8
 have HEE:=Lib.hid hE
 clear hE
 rw [HEE.out,HE.out]
 obtain ⟨s,m,hs,hsm⟩:∃s m:Nat,((sc=false∧s=0∧m=dn1)∨(sc=true∧s=dn1∧m=dn2))∧(plS zs sc=s∧plM zs ys sc=m):=by
  cases sc
  · exact ⟨0,dn1,Or.inl ⟨rfl,rfl,rfl⟩,rfl,HDL1.out⟩
  · exact ⟨dn1,dn2,Or.inr ⟨rfl,rfl,rfl⟩,HDL1.out,HDL2.out⟩
 have hm8:s+m≤dn1+dn2:=by omega
 rw [hsm.1,hsm.2,HDL1.out,HDL2.out]
 have HSM:=Lib.hid hs
 clear hs hsm
 go_enter Try.func42,Try.ntmps42
 go_upto_region 1 with fail
 generalize (w.alloc (.cells #[.slice (some ⟨g1,o1,none⟩) dn1 dc1,.slice (some ⟨i1,j1,none⟩) n1 c1] 29)).alloc (.cells #[.slice (some ⟨g2,o2,none⟩) dn2 dc2,.slice (some ⟨i2,j2,none⟩) n2 c2] 29)=w0 at *
 go_wp2_with fail
 refine (l04Pair_c dc1 c1 dc2 c2 (HHd1.out.keep hb) hdn1 (HN1.out.keep hb) hn1 HLL1.out HTT1.out (HHd2.out.keep hb) hdn2 (HN2.out.keep hb) hn2 HLL2.out HTT2.out).mono ?_
 rintro e w1 ⟨rfl,hb1⟩
 rw [HEE.out]
 clear c0 c1' d0 d1
 replace hA:=hA.keep hb1 hA.lt
 replace hB:=hB.keep hb1 hB.lt
 replace hb:=bT' hb hb1 hb.size
 clear hb1
 go_upto_region 4 with fail
 go_cut [9,10] (fun o q wr=>∃gO,o=.slice (some ⟨gO,0,none⟩) 0 0∧q=.int .i64 dn1∧wr.ownsRow w.heap.size 47 1 (.slice (some ⟨gO,0,none⟩) 0 0) 0 []∧Own wr w.heap.size 29 #[.slice (some ⟨g1,o1,none⟩) dn1 dc1,.slice (some ⟨i1,j1,none⟩) n1 c1]∧Own wr (w.heap.size+1) 29 #[.slice (some ⟨g2,o2,none⟩) dn2 dc2,.slice (some ⟨i2,j2,none⟩) n2 c2]∧Below w.heap.size w wr)
 case first=>
  replace hA:=hA.drew;replace hB:=hB.drew;replace hb:Below w.heap.size w w1.drew:=hb.drew;refine wp_region_held_drew (S:=(fun w'=>w'.cell? ⟨w.heap.size,0,none⟩=some (.slice (some ⟨g1,o1,none⟩) dn1 dc1))) (by kernel_rfl) ?_ (fun _=>?_)
  · ((try dsimp only);(exact hA.cell 0))
  generalize w1.drew=Wd at *;refine hdT 1 ?_;refine hdT 2 ?_;refine wpAnyH_ready (rs:=[0,3]) (by kernel_rfl) (by simp) ?_;refine AllReadyH.cons (hdAt (i:=0) rfl) (fun K hK=>?_) (AllReadyH.cons (hdAt (i:=3) rfl) (fun K hK=>?_) AllReadyH.nil)
  · skip
    (go_simp;try go_wp2_with fail)
    have hbs0:=hb.size;have hR:(Wd.alloc (.cells #[] 47)).ownsRow w.heap.size 47 1 (.slice (some ⟨Wd.heap.size,0,none⟩) 0 0) 0 []:=⟨rfl,Or.inr ⟨Wd.heap.size,0,#[],rfl,hbs0,heap_alloc_new Wd _,Nat.le_refl _,by simp [maxLen],rfl,rfl⟩⟩;have hbX:=bA1 Wd (.cells #[] 47);replace hA:=hA.keep hbX hA.lt;replace hB:=hB.keep hbX hB.lt;replace hb:=bT' hb hbX hb.size;generalize Wd.alloc (.cells #[] 47)=W1 at *;generalize Wd.heap.size=gO at *;clear hbX hbs0;refine hK.out _ _ ?_ (fun _=>?_)
    · ((try dsimp only);(exact hA.cell 0))
    clear hK K
    (try simp only [Act.put,pA,pB,pC])
    refine hdT 4 ?_;refine hdC 3 (fun K hK=>?_)
    (go_simp;try go_wp2_with fail)
    refine hK.out _ _ ?_ (fun _=>?_)
    · ((try dsimp only);(exact hA.cell 0))
    clear hK K
    (try simp only [Act.put,pA,pB,pC])
    refine hdT 5 ?_;refine wpAnyH_done (by kernel_rfl) ?_ _;go_wp2_with fail
    go_meet
    exact ⟨gO,rfl,rfl,hR,hA,hB,hb⟩
  · skip
    (go_simp;try go_wp2_with fail)
    refine hK.out _ _ ?_ (fun _=>?_)
    · ((try dsimp only);(exact hA.cell 0))
    clear hK K
    (try simp only [Act.put,pA,pB,pC])
    refine hdC 0 (fun K hK=>?_)
    (go_simp;try go_wp2_with fail)
    have hbs0:=hb.size;have hR:(Wd.alloc (.cells #[] 47)).ownsRow w.heap.size 47 1 (.slice (some ⟨Wd.heap.size,0,none⟩) 0 0) 0 []:=⟨rfl,Or.inr ⟨Wd.heap.size,0,#[],rfl,hbs0,heap_alloc_new Wd _,Nat.le_refl _,by simp [maxLen],rfl,rfl⟩⟩;have hbX:=bA1 Wd (.cells #[] 47);replace hA:=hA.keep hbX hA.lt;replace hB:=hB.keep hbX hB.lt;replace hb:=bT' hb hbX hb.size;generalize Wd.alloc (.cells #[] 47)=W2 at *;generalize Wd.heap.size=gO at *;clear hbX hbs0;refine hK.out _ _ ?_ (fun _=>?_)
    · ((try dsimp only);(exact hA.cell 0))
    clear hK K
    (try simp only [Act.put,pA,pB,pC])
    refine hdT 4 ?_;refine hdT 5 ?_;refine wpAnyH_done (by kernel_rfl) ?_ _;go_wp2_with fail
    go_meet
    exact ⟨gO,rfl,rfl,hR,hA,hB,hb⟩
 case rest=>
  obtain ⟨gO,rfl,rfl,hR,hA,hB,hb⟩:=hcut;clear hA
  rcases HSM.out with ⟨rfl,rfl,rfl⟩ | ⟨rfl,rfl,rfl⟩
  · skip
    go_upto_region 6 with fail
    go_loopw [9,11] (fun o y wr=>∃(k:Nat) (oa:Option Addr) (oc:Nat) (vs:List Value),k≤m+dn2∧y=.int .i64 k∧o=.slice oa k oc∧Below w.heap.size w wr∧Own wr (w.heap.size+1) 29 #[.slice (some ⟨g2,o2,none⟩) dn2 dc2,.slice (some ⟨i2,j2,none⟩) n2 c2]∧wr.ownsRow w.heap.size 47 1 (.slice oa k oc) k vs∧Hid (Vals wr w.heap.size vs (prjTo 0 (0+m) k))) (fun _ y _=>m+dn2 - (intOf y).toNat)
    case atStart=>exact ⟨0,_,_,[],Nat.zero_le _,rfl,rfl,hb,hB,hR,Lib.hid (Vals.nil _ _)⟩
    case round=>
     clear hb hR hB;obtain ⟨k,oa,oc,vs,hk,rfl,rfl,hb,hB,hR,HW⟩:=hrel;have d0:=hB.cell 0;have HR:=Lib.hid hR;clear hR;by_cases hin:k<m+dn2
     · have hk0:(0:Int)≤(k:Int):=(by omega);have hkn:(k:Int)<(m:Int)+(dn2:Int):=(by omega);by_cases hmid:k<m
       · have hkd:(k:Int)<(m:Int):=(by omega);go_wp2_with fail
         refine (l04Generator_c (i:=k) (by omega)).mono ?_;rintro e w4 ⟨g,rfl,hg,hG,hb5⟩;have hb6:=bT' hb hb5 hb.size;have hR6:=row_keep HR.out hb5;have hB6:=hB.keep hb5 hB.lt;have HO:=Lib.hid (ownR_one (genM_mono _) hG hg);have HW6:=Lib.hid ((HW.out.keep hb5).snoc HW.out.lt hb.size HO.out);clear hb hb5 hG HW HO HR hB
         have HN:Hid (∀j u,([Value.slice (some ⟨g,0,none⟩) 1 1]:List Value)[j]? = some u→(w4.alloc (.cells #[Value.slice (some ⟨g,0,none⟩) 1 1] 47)).cell? ((⟨w4.heap.size,0,none⟩:Addr).add j)=some u):=Lib.hid (fun j u hu=>by
          rw [Addr.add_mid]
          exact (Own.new w4 47 #[Value.slice (some ⟨g,0,none⟩) 1 1]).range j u hu)
         have HOn:Hid (∀u∈([Value.slice (some ⟨g,0,none⟩) 1 1]:List Value),u.oneCell'=true):=Lib.hid (by simp [Value.oneCell']);have hba:=bA1 w4 (.cells #[Value.slice (some ⟨g,0,none⟩) 1 1] 47);have HR2:=Lib.hid (row_keep hR6 hba);have hb3:=bT' hb6 hba hb6.size;have hB3:=hB6.keep hba hB6.lt;have HW3:=Lib.hid (HW6.out.keep hba);have hbs:=hb6.size;clear hR6 HW6 hba hb6 hB6;go_wp2_with (refine wpList_append_own_wide _ rfl (.tmp 43) (.tmp 46) 27 rfl w.heap.size 47 ti tz 1 24 Try.underlying27 HI.out HZ.out HS.out HBt.out HZs.out (by omega) (.slice oa k oc) k vs rfl HR2.out ⟨w4.heap.size,0,none⟩ 1 1 [Value.slice (some ⟨g,0,none⟩) 1 1] rfl rfl HN.out HOn.out (by simp only [maxLen];omega) (by omega) (by rw [sAl];omega) (fun v' w' h2 h3 h4=>?_))
         have hb4:=grown_below hb3 h3 (fun j e=>(HR2.out.lt j e).1) hb3.size;have HW4:=Lib.hid (HW3.out.grown h3 (fun q e=>row_own HR2.out e));have hB4:=hB3.grown h3 (own_ne_row hB3 HR2.out (by decide));obtain ⟨va,vc,rfl⟩:=row_slice h2;have H2:=Lib.hid h2;clear h2 h3 h4 hb3 HR2 HW3 HN HOn hB3;go_wp2_with fail
         go_roundw
         case rel=>exact ⟨k+1,va,vc,vs++[Value.slice (some ⟨g,0,none⟩) 1 1],by omega,by go_num,rfl,hb4,hB4,H2.out,by rw [prjTo_in (Nat.zero_le _) (by omega),Nat.sub_zero];exact HW4⟩
         case measure=>simp [intOf] <;> omega
       · have hkd:¬(k:Int)<(m:Int):=(by omega);have hkd2:(m:Int)≤(k:Int):=(by omega);have hb6:=hb;have hR6:=HR.out;have hB6:=hB;have HW6:=Lib.hid (HW.out.snocNil hb.size);clear hb HW HR
         have HN:Hid (∀j u,([Value.slice none 0 0]:List Value)[j]? = some u→(wr.alloc (.cells #[Value.slice none 0 0] 47)).cell? ((⟨wr.heap.size,0,none⟩:Addr).add j)=some u):=Lib.hid (fun j u hu=>by
          rw [Addr.add_mid]
          exact (Own.new wr 47 #[Value.slice none 0 0]).range j u hu)
         have HOn:Hid (∀u∈([Value.slice none 0 0]:List Value),u.oneCell'=true):=Lib.hid (by simp [Value.oneCell']);have hba:=bA1 wr (.cells #[Value.slice none 0 0] 47);have HR2:=Lib.hid (row_keep hR6 hba);have hb3:=bT' hb6 hba hb6.size;have hB3:=hB6.keep hba hB6.lt;have HW3:=Lib.hid (HW6.out.keep hba);have hbs:=hb6.size;clear hR6 HW6 hba hb6 hB6;go_wp2_with (refine wpList_append_own_wide _ rfl (.tmp 31) (.tmp 33) 27 rfl w.heap.size 47 ti tz 1 24 Try.underlying27 HI.out HZ.out HS.out HBt.out HZs.out (by omega) (.slice oa k oc) k vs rfl HR2.out ⟨wr.heap.size,0,none⟩ 1 1 [Value.slice none 0 0] rfl rfl HN.out HOn.out (by simp only [maxLen];omega) (by omega) (by rw [sAl];omega) (fun v' w' h2 h3 h4=>?_))
         have hb4:=grown_below hb3 h3 (fun j e=>(HR2.out.lt j e).1) hb3.size;have HW4:=Lib.hid (HW3.out.grown h3 (fun q e=>row_own HR2.out e));have hB4:=hB3.grown h3 (own_ne_row hB3 HR2.out (by decide));obtain ⟨va,vc,rfl⟩:=row_slice h2;have H2:=Lib.hid h2;clear h2 h3 h4 hb3 HR2 HW3 HN HOn hB3;go_wp2_with fail
         go_roundw
         case rel=>exact ⟨k+1,va,vc,vs++[Value.slice none 0 0],by omega,by go_num,rfl,hb4,hB4,H2.out,by rw [prjTo_out (by omega)];exact HW4⟩
         case measure=>simp [intOf] <;> omega
     · obtain rfl:k=m+dn2:=(by omega);have hkn:¬((m+dn2:Nat):Int)<(m:Int)+(dn2:Int):=(by omega);go_wp2_with fail
       go_ret2
       obtain ⟨ra,rc,hrr,hO⟩:=HW.out.ownF_row (prjTo_len 0 (0+m) _) HR.out (prjTo_tm 0 (0+m) _);simp only [Value.slice.injEq] at hrr;obtain ⟨rfl,-,rfl⟩:=hrr;exact ⟨oa,_,⟨oc,rfl⟩,(by first | exact hO | (rw [Nat.zero_add] at hO;exact hO)),hb⟩
  · skip
    go_upto_region 6 with fail
    go_loopw [9,11] (fun o y wr=>∃(k:Nat) (oa:Option Addr) (oc:Nat) (vs:List Value),k≤s+m∧y=.int .i64 k∧o=.slice oa k oc∧Below w.heap.size w wr∧Own wr (w.heap.size+1) 29 #[.slice (some ⟨g2,o2,none⟩) m dc2,.slice (some ⟨i2,j2,none⟩) n2 c2]∧wr.ownsRow w.heap.size 47 1 (.slice oa k oc) k vs∧Hid (Vals wr w.heap.size vs (prjTo s (s+m) k))) (fun _ y _=>s+m - (intOf y).toNat)
    case atStart=>exact ⟨0,_,_,[],Nat.zero_le _,rfl,rfl,hb,hB,hR,Lib.hid (Vals.nil _ _)⟩
    case round=>
     clear hb hR hB;obtain ⟨k,oa,oc,vs,hk,rfl,rfl,hb,hB,hR,HW⟩:=hrel;have d0:=hB.cell 0;have HR:=Lib.hid hR;clear hR;by_cases hin:k<s+m
     · have hk0:(0:Int)≤(k:Int):=(by omega);have hkn:(k:Int)<(s:Int)+(m:Int):=(by omega);by_cases hmid:k<s
       · have hkd:(k:Int)<(s:Int):=(by omega);have hb6:=hb;have hR6:=HR.out;have hB6:=hB;have HW6:=Lib.hid (HW.out.snocNil hb.size);clear hb HW HR
         have HN:Hid (∀j u,([Value.slice none 0 0]:List Value)[j]? = some u→(wr.alloc (.cells #[Value.slice none 0 0] 47)).cell? ((⟨wr.heap.size,0,none⟩:Addr).add j)=some u):=Lib.hid (fun j u hu=>by
          rw [Addr.add_mid]
          exact (Own.new wr 47 #[Value.slice none 0 0]).range j u hu)
         have HOn:Hid (∀u∈([Value.slice none 0 0]:List Value),u.oneCell'=true):=Lib.hid (by simp [Value.oneCell']);have hba:=bA1 wr (.cells #[Value.slice none 0 0] 47);have HR2:=Lib.hid (row_keep hR6 hba);have hb3:=bT' hb6 hba hb6.size;have hB3:=hB6.keep hba hB6.lt;have HW3:=Lib.hid (HW6.out.keep hba);have hbs:=hb6.size;clear hR6 HW6 hba hb6 hB6;go_wp2_with (refine wpList_append_own_wide _ rfl (.tmp 31) (.tmp 33) 27 rfl w.heap.size 47 ti tz 1 24 Try.underlying27 HI.out HZ.out HS.out HBt.out HZs.out (by omega) (.slice oa k oc) k vs rfl HR2.out ⟨wr.heap.size,0,none⟩ 1 1 [Value.slice none 0 0] rfl rfl HN.out HOn.out (by simp only [maxLen];omega) (by omega) (by rw [sAl];omega) (fun v' w' h2 h3 h4=>?_))
         have hb4:=grown_below hb3 h3 (fun j e=>(HR2.out.lt j e).1) hb3.size;have HW4:=Lib.hid (HW3.out.grown h3 (fun q e=>row_own HR2.out e));have hB4:=hB3.grown h3 (own_ne_row hB3 HR2.out (by decide));obtain ⟨va,vc,rfl⟩:=row_slice h2;have H2:=Lib.hid h2;clear h2 h3 h4 hb3 HR2 HW3 HN HOn hB3;go_wp2_with fail
         go_roundw
         case rel=>exact ⟨k+1,va,vc,vs++[Value.slice none 0 0],by omega,by go_num,rfl,hb4,hB4,H2.out,by rw [prjTo_out (by omega)];exact HW4⟩
         case measure=>simp [intOf] <;> omega
       · have hkd:¬(k:Int)<(s:Int):=(by omega);have hkd2:(s:Int)≤(k:Int):=(by omega);obtain ⟨u,hu⟩:∃u,k - s=u:=⟨_,rfl⟩;have s4:(k:Int) - (s:Int)=(u:Int):=(by omega);have hu8:u<8:=(by omega);have HSC:=Lib.hid (prjTo_in (s:=s) (e:=s+m) (k:=k) (by omega) (by omega));rw [hu] at HSC;clear hu;go_wp2_with fail
         refine (l04Generator_c (i:=u) hu8).mono ?_;rintro e w4 ⟨g,rfl,hg,hG,hb5⟩;have hb6:=bT' hb hb5 hb.size;have hR6:=row_keep HR.out hb5;have hB6:=hB.keep hb5 hB.lt;have HO:=Lib.hid (ownR_one (genM_mono _) hG hg);have HW6:=Lib.hid ((HW.out.keep hb5).snoc HW.out.lt hb.size HO.out);clear hb hb5 hG HW HO HR hB
         have HN:Hid (∀j u,([Value.slice (some ⟨g,0,none⟩) 1 1]:List Value)[j]? = some u→(w4.alloc (.cells #[Value.slice (some ⟨g,0,none⟩) 1 1] 47)).cell? ((⟨w4.heap.size,0,none⟩:Addr).add j)=some u):=Lib.hid (fun j u hu=>by
          rw [Addr.add_mid]
          exact (Own.new w4 47 #[Value.slice (some ⟨g,0,none⟩) 1 1]).range j u hu)
         have HOn:Hid (∀u∈([Value.slice (some ⟨g,0,none⟩) 1 1]:List Value),u.oneCell'=true):=Lib.hid (by simp [Value.oneCell']);have hba:=bA1 w4 (.cells #[Value.slice (some ⟨g,0,none⟩) 1 1] 47);have HR2:=Lib.hid (row_keep hR6 hba);have hb3:=bT' hb6 hba hb6.size;have hB3:=hB6.keep hba hB6.lt;have HW3:=Lib.hid (HW6.out.keep hba);have hbs:=hb6.size;clear hR6 HW6 hba hb6 hB6;go_wp2_with (refine wpList_append_own_wide _ rfl (.tmp 55) (.tmp 60) 27 rfl w.heap.size 47 ti tz 1 24 Try.underlying27 HI.out HZ.out HS.out HBt.out HZs.out (by omega) (.slice oa k oc) k vs rfl HR2.out ⟨w4.heap.size,0,none⟩ 1 1 [Value.slice (some ⟨g,0,none⟩) 1 1] rfl rfl HN.out HOn.out (by simp only [maxLen];omega) (by omega) (by rw [sAl];omega) (fun v' w' h2 h3 h4=>?_))
         have hb4:=grown_below hb3 h3 (fun j e=>(HR2.out.lt j e).1) hb3.size;have HW4:=Lib.hid (HW3.out.grown h3 (fun q e=>row_own HR2.out e));have hB4:=hB3.grown h3 (own_ne_row hB3 HR2.out (by decide));obtain ⟨va,vc,rfl⟩:=row_slice h2;have H2:=Lib.hid h2;clear h2 h3 h4 hb3 HR2 HW3 HN HOn hB3;go_wp2_with fail
         go_roundw
         case rel=>exact ⟨k+1,va,vc,vs++[Value.slice (some ⟨g,0,none⟩) 1 1],by omega,by go_num,rfl,hb4,hB4,H2.out,by rw [HSC.out];exact HW4⟩
         case measure=>simp [intOf] <;> omega
     · obtain rfl:k=s+m:=(by omega);have hkn:¬((s+m:Nat):Int)<(s:Int)+(m:Int):=(by omega);go_wp2_with fail
       go_ret2
       obtain ⟨ra,rc,hrr,hO⟩:=HW.out.ownF_row (prjTo_len s (s+m) _) HR.out (prjTo_tm s (s+m) _);simp only [Value.slice.injEq] at hrr;obtain ⟨rfl,-,rfl⟩:=hrr;exact ⟨oa,_,⟨oc,rfl⟩,(by first | exact hO | (rw [Nat.zero_add] at hO;exact hO)),hb⟩
end Go.Proofs.Ytndnkeijddagiaa
