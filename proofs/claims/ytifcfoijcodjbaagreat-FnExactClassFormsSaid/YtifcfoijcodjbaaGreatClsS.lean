
import Derived.Test.YtifcfoijcodjbaaGreatNewA
import Derived.Test.YtifcfoijcodjbaaGreatCohG
import Derived.Test.YtifcfoijcodjbaaGreatByK
import Derived.Test.YtifcfoijcodjbaaGreatAskC
import Derived.Test.YtifcfoijcodjbaaGreatFmS
namespace Go.Proofs.YtifcfoijcodjbaaGreat
set_option maxRecDepth 100000
open Go.RowKit Go.Deep
def MarkedV (w:World) (a:Option Addr) (n:Nat) (K:Int):Prop:=n=0∨∃g cs,a=some ⟨g,0,none⟩∧Own w g 2 (markA (mkI K) cs n)∧n≤cs.size
theorem MarkedV.keep {w w':World} {a:Option Addr} {n:Nat} {K:Int} (h:MarkedV w a n K) (hb:Below w.heap.size w w'):MarkedV w' a n K:=by
 rcases h with h | ⟨g,cs,h1,h2,h3⟩
 · exact Or.inl h
 · exact Or.inr ⟨g,cs,h1,h2.keep hb h2.lt,h3⟩
theorem field_coh1 (a1 a2 a3 a4:Option Addr) (n1 n2 n3 n4 c1 c2 c3 c4:Nat) (w:World):(Instr.field 88 (.agg #[.slice a1 n1 c1,.slice a2 n2 c2,.slice a3 n3 c3,.slice a4 n4 c4]) 1).run Tryz.prog w=.ok (.agg #[.slice a3 n3 c3,.slice a4 n4 c4]) w:=by kernel_rfl
set_option maxHeartbeats 4000000 in
theorem classFormsOf_c {w : World} {da : Option Addr} {dn : Nat} {zs : List Int} {a : Option Addr} {k : Nat} {ims : List (List Tm)} {m : Nat} (dc c : Nat) (hd : Ints w da dn zs) (hdn : dn ≤ 1048576) (hF : Frms w a k ims) (HA : AlgOk zs ims) (hA : isAlg zs ims = true) (hz : degsOk zs = true) (hm : m ≤ 20) (hc1 : cnt zs m ≤ 120) (hc2 : cnt zs (m + 1) ≤ 120) (hl : ¬ m = 0 → cnt zs (m - 1) ≤ 120) :
    Calls Tryz.prog 74 #[.agg #[.slice da dn dc,.slice a k c],.int .i64 m] w fun e w'=>∃ra rn rc,e=.returned (.slice ra rn rc)∧OwnF w' w.heap.size w'.heap.size ra rn (fmV zs m (csR zs ims m))∧Below w.heap.size w w':=by
 have HD:=Lib.hid hd
 have HF:=Lib.hid hF
 have HC1:=Lib.hid hc1
 have HC2:=Lib.hid hc2
 have HL:=Lib.hid hl
 have hO1:=Own.new w 35 #[.slice da dn dc,.slice a k c]
 have hb2:=bA1 w (.cells #[.slice da dn dc,.slice a k c] 35)
 clear hd hF hc1 hc2 hl
 go_enter Tryz.func74,Tryz.ntmps74
 go_upto_region 1 with fail
 generalize hw1:w.alloc (.cells #[.slice da dn dc,.slice a k c] 35)=w1 at *
 clear hw1
 replace hO1:Own w1.drew w.heap.size 35 #[.slice da dn dc,.slice a k c]:=hO1
 replace hb2:Below w.heap.size w w1.drew:=hb2.drew
 have hs2:=hb2.size
 refine wp_region_held_drew (S:=(fun w'=>w'.cell? ⟨w.heap.size,0,none⟩=some (.slice da dn dc)∧w'.cell? ⟨w.heap.size,1,none⟩=some (.slice a k c))) (by kernel_rfl) ?_ (fun _=>?_)
 · ((try dsimp only);(exact ⟨hO1.cell 0,hO1.cell 1⟩))
 generalize w1.drew=W0 at *
 refine hdT 0 ?_
 refine hdT 1 ?_
 refine hdT 3 ?_
 refine hdT 4 ?_
 refine hdC 2 (fun K hK=>?_)
 (go_simp;(go_at_call 61;refine (columnsOf_m dc c (HD.out.keep hb2) hdn hz (by omega) HC1.out).mono ?_;rintro e W1 ⟨ra,rc,rfl,hM,hbX⟩);go_wp2_with fail)
 replace hO1:=hO1.keep hbX hO1.lt
 replace hb2:=bT' hb2 hbX hs2
 replace hs2:=hb2.size
 clear hbX
 refine hK.out _ _ ?_ (fun _=>?_)
 · ((try dsimp only);(exact ⟨hO1.cell 0,hO1.cell 1⟩))
 clear hK K
 (try simp only [Act.put,pA,pB,pC])
 refine hdC 5 (fun K hK=>?_)
 (go_simp;(go_at_call 59;refine (cohomologyOf_c dc c (HD.out.keep hb2) hdn (HF.out.keep hb2) HA hA hz hm HC1.out HC2.out HL.out).mono ?_;rintro e W2 ⟨a1,n1,c1,a2,n2,c2,a3,n3,c3,a4,n4,c4,rfl,-,hBC,hbX⟩);go_wp2_with fail)
 replace hM:=hM.keep hbX
 replace hO1:=hO1.keep hbX hO1.lt
 replace hb2:=bT' hb2 hbX hs2
 replace hs2:=hb2.size
 clear hbX
 refine hK.out _ _ ?_ (fun _=>?_)
 · ((try dsimp only);(exact ⟨hO1.cell 0,hO1.cell 1⟩))
 clear hK K
 (try simp only [Act.put,pA,pB,pC])
 have hfld:=field_coh1
 refine hdT 6 ?_
 clear hfld
 refine hdC 7 (fun K hK=>?_)
 (go_simp;(go_at_call 133;refine (forms_c rc hM hBC (Nat.le_refl _) (csR_red HA hz m).ok HC1.out (by have:=csR_len zs ims m;have:=HC1.out;omega)).mono ?_;rintro e W3 ⟨xa,xc,rfl,hW,hbX⟩);go_wp2_with fail)
 have hbs:=hs2
 replace hO1:=hO1.keep hbX hO1.lt
 replace hb2:=bT' hb2 hbX hs2
 replace hW:=hW.weaken hbs (Nat.le_refl _)
 clear hbX hBC hM hs2
 refine hK.out _ _ ?_ (fun _=>?_)
 · ((try dsimp only);(exact ⟨hO1.cell 0,hO1.cell 1⟩))
 clear hK K
 (try simp only [Act.put,pA,pB,pC])
 refine hdT 8 ?_
 refine wpAnyH_done (by kernel_rfl) ?_ _
 go_wp2_with fail
 go_ret
 exact ⟨xa,_,xc,rfl,hW,hb2⟩
set_option maxHeartbeats 4000000 in
theorem ClassForms_c {w : World} {da : Option Addr} {dn : Nat} {zs : List Int} {a : Option Addr} {k : Nat} {ims : List (List Tm)} (n : Int) (dc c : Nat) (hd : Ints w da dn zs) (hdn : dn ≤ 1048576) (hF : Frms w a k ims) (hk : k ≤ 1048576) (hL : ∀ im ∈ ims, (im.length : Int) ≤ 1048576) :
    Calls Tryz.prog 31 #[.agg #[.slice da dn dc,.slice a k c],.int .i64 n] w fun e w'=>∃ra rn rc,e=.returned (.tuple #[.slice ra rn rc,.int .i64 (mtE zs ims n)])∧OwnF w' w.heap.size w'.heap.size ra rn (csV zs ims n)∧Below w.heap.size w w':=by
 have HD:=Lib.hid hd
 have HF:=Lib.hid hF
 have HLL:=Lib.hid hL
 have HT:=Lib.hid hF.tm
 have hO:=Own.new w 35 #[.slice da dn dc,.slice a k c]
 have hb:=bA1 w (.cells #[.slice da dn dc,.slice a k c] 35)
 clear hd hF hL
 go_enter Tryz.func31,Tryz.ntmps31
 go_wp2_with fail
 refine (checkDegree_c dc c (HD.out.keep hb) hdn (HF.out.keep hb) hk HLL.out).mono ?_
 rintro e w1 ⟨rfl,hb1⟩
 have hO1:=hO.keep hb1 hO.lt
 have hb2:=bTn hb hb1
 clear hO hb hb1
 generalize hE:code3 zs ims (low1 n) n=E at *
 have HE:=Lib.hid hE
 clear hE
 by_cases hE0:E=0
 · subst hE0;have HZ:=Lib.hid (code3_zero HE.out);have HLW:=Lib.hid (fun h=>mtE_low (zs:=zs) (ims:=ims) (n:=n) HE.out h);obtain ⟨m,rfl⟩:∃m:Nat,n=m:=⟨n.toNat,by have:=HZ.out.2.1;omega⟩;have c0:=hO1.cell 0;have c1:=hO1.cell 1;have HDG:=Lib.hid (isAlg_dg HZ.out.1);have HAO:=Lib.hid (isAlg_ok HZ.out.1 HT.out);have hq:=HZ.out.2.2;have hlw:=HLW.out;simp only [Int.toNat_natCast] at hq hlw;have HQ:=Lib.hid hq;have HQL:=Lib.hid hlw;clear hq hlw;go_wp2_with fail
   clear c0 c1;refine (classFormsOf_c (m:=m) dc c (HD.out.keep hb2) hdn (HF.out.keep hb2) HAO.out HZ.out.1 HDG.out (by have:=HQ.out.1;omega) HQ.out.2.1 HQ.out.2.2 HQL.out).mono ?_;rintro e w2 ⟨ra,rn,rc,rfl,hW,hb3⟩;have hb6:=hb2.trans (hb3.mono hb2.size);have hW2:=hW.weaken hb2.size (Nat.le_refl _);clear hW hb2 hb3 hO1;go_wp2_with fail
   go_ret2
   refine ⟨ra,_,rc,by rw [mtE,HE.out];rfl,?_,hb6⟩;rw [csV,mtE,HE.out,if_pos rfl,Int.toNat_natCast];exact hW2
 · have hEb:(E != 0)=true:=(by simpa using hE0);go_wp2_with fail
   go_ret2
   refine ⟨none,0,0,by rw [mtE,HE.out];rfl,?_,hb2⟩;rw [csV,mtE,HE.out,if_neg hE0];exact OwnF.none_
set_option maxHeartbeats 4000000 in
theorem l03Classes_c {w : World} {da : Option Addr} {dn : Nat} {zs : List Int} {a : Option Addr} {k : Nat} {ims : List (List Tm)} {m : Nat} (dc c : Nat) (hd : Ints w da dn zs) (hF : Frms w a k ims) (HA : AlgOk zs ims) (hA : isAlg zs ims = true) (hz : degsOk zs = true) (hm : m ≤ 20) (hc1 : cnt zs m ≤ 120) (hc2 : cnt zs (m + 1) ≤ 120) (hl : ¬ m = 0 → cnt zs (m - 1) ≤ 120) :
    Calls Tryz.prog 111 #[.agg #[.slice da dn dc,.slice a k c],.int .i64 m] w fun e w'=>∃ra rn rc,e=.returned (.slice ra rn rc)∧Tab w' ra rn (csR zs ims m)∧Below w.heap.size w w':=by
 have HD:=Lib.hid hd
 have HF:=Lib.hid hF
 have HC1:=Lib.hid hc1
 have HC2:=Lib.hid hc2
 have HL:=Lib.hid hl
 have HCL:=Lib.hid (clR_red HA hz m)
 have HBD:=Lib.hid (bdR_red HA hz m)
 have hO1:=Own.new w 35 #[.slice da dn dc,.slice a k c]
 have hb2:=bA1 w (.cells #[.slice da dn dc,.slice a k c] 35)
 clear hd hF hc1 hc2 hl
 go_enter Tryz.func111,Tryz.ntmps111
 go_upto_region 1 with fail
 generalize hw1:w.alloc (.cells #[.slice da dn dc,.slice a k c] 35)=w1 at *
 clear hw1
 go_cut [5,6,7] (fun p q r wr=>∃pa pn pc qa qn qc ra,p=.slice pa pn pc∧q=.slice qa qn qc∧r=.slice ra 0 0∧Tab wr pa pn (clR zs ims m)∧Tab wr qa qn (bdR zs ims m)∧Below w.heap.size w wr)
 case first=>
  replace hO1:Own w1.drew w.heap.size 35 #[.slice da dn dc,.slice a k c]:=hO1;replace hb2:Below w.heap.size w w1.drew:=hb2.drew;have hs2:=hb2.size;refine wp_region_held_drew (S:=(fun w'=>w'.cell? ⟨w.heap.size,0,none⟩=some (.slice da dn dc)∧w'.cell? ⟨w.heap.size,1,none⟩=some (.slice a k c))) (by kernel_rfl) ?_ (fun _=>?_)
  · ((try dsimp only);(exact ⟨hO1.cell 0,hO1.cell 1⟩))
  generalize w1.drew=W0 at *;refine hdT 0 ?_;refine hdT 1 ?_;refine hdT 3 ?_;refine hdT 4 ?_;refine wpAnyH_ready (rs:=[2,6]) (by kernel_rfl) (by simp) ?_;refine AllReadyH.cons (hdAt (i:=2) rfl) (fun K hK=>?_) (AllReadyH.cons (hdAt (i:=6) rfl) (fun K hK=>?_) AllReadyH.nil)
  · (go_simp;(go_at_call 127;refine (l03Closed_c (m:=m) dc c (HD.out.keep hb2) (HF.out.keep hb2) HA hA hz hm HC1.out HC2.out HL.out).mono ?_;rintro e W1 ⟨ra,rn,rc,rfl,hT,hbX⟩);go_wp2_with fail)
    replace hO1:=hO1.keep hbX hO1.lt;replace hb2:=bT' hb2 hbX hs2;replace hs2:=hb2.size;clear hbX;refine hK.out _ _ ?_ (fun _=>?_)
    · ((try dsimp only);(exact ⟨hO1.cell 0,hO1.cell 1⟩))
    clear hK K
    (try simp only [Act.put,pA,pB,pC])
    refine wpAnyH_ready (rs:=[5,6]) (by kernel_rfl) (by simp) ?_;refine AllReadyH.cons (hdAt (i:=5) rfl) (fun K hK=>?_) (AllReadyH.cons (hdAt (i:=6) rfl) (fun K hK=>?_) AllReadyH.nil)
    · (go_simp;(go_at_call 110;refine (l03Bounds_c (m:=m) dc c (HD.out.keep hb2) (HF.out.keep hb2) HA hA hz hm HC1.out HC2.out HL.out).mono ?_;rintro e W2 ⟨qa,qn,qc,rfl,hT2,hbX⟩);go_wp2_with fail)
      replace hT:=hT.keep hbX;replace hO1:=hO1.keep hbX hO1.lt;replace hb2:=bT' hb2 hbX hs2;replace hs2:=hb2.size;clear hbX;refine hK.out _ _ ?_ (fun _=>?_)
      · ((try dsimp only);(exact ⟨hO1.cell 0,hO1.cell 1⟩))
      clear hK K
      (try simp only [Act.put,pA,pB,pC])
      refine hdT 7 ?_;refine hdT 8 ?_;refine hdC 6 (fun K hK=>?_)
      (go_simp;try go_wp2_with fail)
      have hbX:=bA1 W2 (.cells #[] 22);replace hT:=hT.keep hbX;replace hT2:=hT2.keep hbX;replace hO1:=hO1.keep hbX hO1.lt;replace hb2:=bT' hb2 hbX hs2;replace hs2:=hb2.size;clear hbX;refine hK.out _ _ ?_ (fun _=>?_)
      · ((try dsimp only);(exact ⟨hO1.cell 0,hO1.cell 1⟩))
      clear hK K
      (try simp only [Act.put,pA,pB,pC])
      refine hdT 9 ?_;refine wpAnyH_done (by kernel_rfl) ?_ _;go_wp2_with fail
      go_meet
      exact ⟨_,_,_,_,_,_,_,rfl,rfl,rfl,hT,hT2,hb2⟩
    · (go_simp;try go_wp2_with fail)
      have hbX:=bA1 W1 (.cells #[] 22);replace hT:=hT.keep hbX;replace hO1:=hO1.keep hbX hO1.lt;replace hb2:=bT' hb2 hbX hs2;replace hs2:=hb2.size;clear hbX;refine hK.out _ _ ?_ (fun _=>?_)
      · ((try dsimp only);(exact ⟨hO1.cell 0,hO1.cell 1⟩))
      clear hK K
      (try simp only [Act.put,pA,pB,pC])
      refine hdC 5 (fun K hK=>?_)
      (go_simp;(go_at_call 110;refine (l03Bounds_c (m:=m) dc c (HD.out.keep hb2) (HF.out.keep hb2) HA hA hz hm HC1.out HC2.out HL.out).mono ?_;rintro e W2 ⟨qa,qn,qc,rfl,hT2,hbX⟩);go_wp2_with fail)
      replace hT:=hT.keep hbX;replace hO1:=hO1.keep hbX hO1.lt;replace hb2:=bT' hb2 hbX hs2;replace hs2:=hb2.size;clear hbX;refine hK.out _ _ ?_ (fun _=>?_)
      · ((try dsimp only);(exact ⟨hO1.cell 0,hO1.cell 1⟩))
      clear hK K
      (try simp only [Act.put,pA,pB,pC])
      refine hdT 7 ?_;refine hdT 8 ?_;refine hdT 9 ?_;refine wpAnyH_done (by kernel_rfl) ?_ _;go_wp2_with fail
      go_meet
      exact ⟨_,_,_,_,_,_,_,rfl,rfl,rfl,hT,hT2,hb2⟩
  · (go_simp;try go_wp2_with fail)
    have hbX:=bA1 W0 (.cells #[] 22);replace hO1:=hO1.keep hbX hO1.lt;replace hb2:=bT' hb2 hbX hs2;replace hs2:=hb2.size;clear hbX;refine hK.out _ _ ?_ (fun _=>?_)
    · ((try dsimp only);(exact ⟨hO1.cell 0,hO1.cell 1⟩))
    clear hK K
    (try simp only [Act.put,pA,pB,pC])
    refine hdC 2 (fun K hK=>?_)
    (go_simp;(go_at_call 127;refine (l03Closed_c (m:=m) dc c (HD.out.keep hb2) (HF.out.keep hb2) HA hA hz hm HC1.out HC2.out HL.out).mono ?_;rintro e W1 ⟨ra,rn,rc,rfl,hT,hbX⟩);go_wp2_with fail)
    replace hO1:=hO1.keep hbX hO1.lt;replace hb2:=bT' hb2 hbX hs2;replace hs2:=hb2.size;clear hbX;refine hK.out _ _ ?_ (fun _=>?_)
    · ((try dsimp only);(exact ⟨hO1.cell 0,hO1.cell 1⟩))
    clear hK K
    (try simp only [Act.put,pA,pB,pC])
    refine hdC 5 (fun K hK=>?_)
    (go_simp;(go_at_call 110;refine (l03Bounds_c (m:=m) dc c (HD.out.keep hb2) (HF.out.keep hb2) HA hA hz hm HC1.out HC2.out HL.out).mono ?_;rintro e W2 ⟨qa,qn,qc,rfl,hT2,hbX⟩);go_wp2_with fail)
    replace hT:=hT.keep hbX;replace hO1:=hO1.keep hbX hO1.lt;replace hb2:=bT' hb2 hbX hs2;replace hs2:=hb2.size;clear hbX;refine hK.out _ _ ?_ (fun _=>?_)
    · ((try dsimp only);(exact ⟨hO1.cell 0,hO1.cell 1⟩))
    clear hK K
    (try simp only [Act.put,pA,pB,pC])
    refine hdT 7 ?_;refine hdT 8 ?_;refine hdT 9 ?_;refine wpAnyH_done (by kernel_rfl) ?_ _;go_wp2_with fail
    go_meet
    exact ⟨_,_,_,_,_,_,_,rfl,rfl,rfl,hT,hT2,hb2⟩
 case rest=>
  obtain ⟨pa,N,pc,qa,M,qc,oa,rfl,rfl,rfl,hT,hT2,hb1⟩:=hcut;clear hO1 hb2;clear w1;have HLn:=Lib.hid hT.1;have HLn2:=Lib.hid hT2.1;have hNl:N≤120:=(by have:=clR_len zs ims m;have:=HC1.out;have:=HLn.out;omega);have hMl:M≤120:=(by have:=bdR_len zs ims m;have:=nbR_lt2 (zs:=zs) HL.out;have:=HLn2.out;omega);have HC1W:=Lib.hid (show cnt zs m≤1000 by have:=HC1.out;omega);go_upto_region 3 with fail
  go_loopw [7,8] (fun z y wx=>∃(k n:Nat) (oa:Option Addr) (oc:Nat),k≤N∧y=.int .i64 k∧z=.slice oa n oc∧Below w.heap.size w wx∧Tab wx pa N (clR zs ims m)∧Tab wx qa M (bdR zs ims m)∧TabC wx oa n (redR ((cbR zs ims m).take k))) (fun _ y _=>N - (intOf y).toNat)
  case atStart=>exact ⟨0,0,_,0,Nat.zero_le _,rfl,rfl,hb1,hT,hT2,by rw [List.take_zero];exact TabC.none_ _ _⟩
  case round=>
   clear hb1 hT hT2;obtain ⟨k,n,oa,oc,hk,rfl,rfl,hb,hT,hT2,hO⟩:=hrel;have hk0:(0:Int)≤(k:Int):=(by omega);have hsz:=hb.size;by_cases hkn:k<N
   · have hki:(k:Int)<(N:Int):=(by omega);have HT:=Lib.hid hT;obtain ⟨b1,off,s,ai,mi,ci,rfl,hbl,hcs,hIs,hx⟩:=hT.at_ hkn;have hsk:=HCL.out.ok s (List.mem_of_getElem? hx.out);obtain rfl:cnt zs m=mi:=(by have:=hIs.len;have:=hsk.len;omega);have HSK:=Lib.hid hsk;have HXX:Hid ((cbR zs ims m)[k]? = some (byR s (bdR zs ims m))):=Lib.hid (by rw [cbR,List.getElem?_map,hx.out];rfl);have HRD:=Lib.hid (redR_redI (V:=(cbR zs ims m).take k) (fun r hr=>cbR_ok HA hz m r (List.mem_of_mem_take hr))).1;have hln:=redR_le ((cbR zs ims m).take k)
     have hn9:n≤900:=by
      have h1:=hO.1.1;rw [List.length_take] at hln;omega
     have HBO:=Lib.hid (byR_ok hsk HBD.out.ok);clear hx hsk hln hT;go_wp2_with fail
     refine (l03By_c ci qc hIs hT2 HC1W.out (by omega) HSK.out (fun t ht=>⟨HBD.out.ok t ht,HBD.out.fst t ht⟩)).mono ?_;rintro e w2 ⟨xa,xc,rfl,hX,hb2⟩;have hb3:=bT' hb hb2 hsz;have hT2':=hT2.keep hb2;have HT':=Lib.hid (HT.out.keep hb2);have hO':=hO.keep hb2;have hsz3:=hb3.size;clear hb hb2 hT2 HT hO hIs hcs hsz;go_wp2_with fail
     refine (l03Put_c xc oc hX hO' HC1W.out hn9 HBO.out (fun t ht=>⟨HRD.out.ok t ht,HRD.out.fst t ht⟩)).mono ?_;rintro e w4 ⟨b',N',c',rfl,hO2,hb4⟩;have hb5:=bT' hb3 hb4 hsz3;have hT2'':=hT2'.keep hb4;have hT'':=HT'.out.keep hb4;clear hb3 hb4 hT2' HT' hO' hX hsz3;go_wp2_with fail
     go_roundw
     case rel=>exact ⟨k+1,N',b',c',by omega,by go_num,rfl,hb5,hT'',hT2'',by rw [redR_snoc HXX.out];exact hO2⟩
     case measure=>simp [intOf] <;> omega
   · have he:k=N:=(by omega);subst he;rw [List.take_of_length_le (by rw [cbR_len];exact Nat.le_of_eq HLn.out)] at hO;go_wp2_with fail
     go_ret
     exact ⟨oa,n,oc,rfl,hO.1,hb⟩
set_option maxHeartbeats 4000000 in
theorem l03ClassForms_c {w : World} {da : Option Addr} {dn : Nat} {zs : List Int} {a : Option Addr} {k : Nat} {ims : List (List Tm)} {m : Nat} (dc c : Nat) (hd : Ints w da dn zs) (hF : Frms w a k ims) (HA : AlgOk zs ims) (hA : isAlg zs ims = true) (hz : degsOk zs = true) (hm : m ≤ 20) (hc1 : cnt zs m ≤ 120) (hc2 : cnt zs (m + 1) ≤ 120) (hl : ¬ m = 0 → cnt zs (m - 1) ≤ 120) :
    Calls Tryz.prog 72 #[.agg #[.slice da dn dc,.slice a k c],.int .i64 m] w fun e w'=>∃ra rn rc,e=.returned (.slice ra rn rc)∧OwnF w' w.heap.size w'.heap.size ra rn (fmV zs m (csR zs ims m))∧Below w.heap.size w w':=by
 have HD:=Lib.hid hd
 have HF:=Lib.hid hF
 have HC1:=Lib.hid hc1
 have HC2:=Lib.hid hc2
 have HL:=Lib.hid hl
 have hO1:=Own.new w 35 #[.slice da dn dc,.slice a k c]
 have hb2:=bA1 w (.cells #[.slice da dn dc,.slice a k c] 35)
 clear hd hF hc1 hc2 hl
 go_enter Tryz.func72,Tryz.ntmps72
 go_upto_region 1 with fail
 generalize hw1:w.alloc (.cells #[.slice da dn dc,.slice a k c] 35)=w1 at *
 clear hw1
 replace hO1:Own w1.drew w.heap.size 35 #[.slice da dn dc,.slice a k c]:=hO1
 replace hb2:Below w.heap.size w w1.drew:=hb2.drew
 have hs2:=hb2.size
 refine wp_region_held_drew (S:=(fun w'=>w'.cell? ⟨w.heap.size,0,none⟩=some (.slice da dn dc)∧w'.cell? ⟨w.heap.size,1,none⟩=some (.slice a k c))) (by kernel_rfl) ?_ (fun _=>?_)
 · ((try dsimp only);(exact ⟨hO1.cell 0,hO1.cell 1⟩))
 generalize w1.drew=W0 at *
 refine hdT 0 ?_
 refine hdT 1 ?_
 refine hdT 3 ?_
 refine hdT 4 ?_
 refine hdT 5 ?_
 refine hdC 2 (fun K hK=>?_)
 (go_simp;(go_at_call 111;refine (l03Classes_c (m:=m) dc c (HD.out.keep hb2) (HF.out.keep hb2) HA hA hz hm HC1.out HC2.out HL.out).mono ?_;rintro e W1 ⟨ra,rn,rc,rfl,hT,hbX⟩);go_wp2_with fail)
 replace hO1:=hO1.keep hbX hO1.lt
 replace hb2:=bT' hb2 hbX hs2
 replace hs2:=hb2.size
 clear hbX
 refine hK.out _ _ ?_ (fun _=>?_)
 · ((try dsimp only);(exact ⟨hO1.cell 0,hO1.cell 1⟩))
 clear hK K
 (try simp only [Act.put,pA,pB,pC])
 refine hdC 6 (fun K hK=>?_)
 (go_simp;(go_at_call 109;refine (l01Mons_m (m:=m) dc (HD.out.keep hb2) hz (by omega) HC1.out).mono ?_;rintro e W2 ⟨la,lc,rfl,hM,hbX⟩);go_wp2_with fail)
 replace hT:=hT.keep hbX
 replace hO1:=hO1.keep hbX hO1.lt
 replace hb2:=bT' hb2 hbX hs2
 replace hs2:=hb2.size
 clear hbX
 refine hK.out _ _ ?_ (fun _=>?_)
 · ((try dsimp only);(exact ⟨hO1.cell 0,hO1.cell 1⟩))
 clear hK K
 (try simp only [Act.put,pA,pB,pC])
 have hrn:=hT.1
 refine hdC 7 (fun K hK=>?_)
 (go_simp;(go_at_call 131;refine (l03Forms_c lc rc hM hT (csR_red HA hz m).ok HC1.out (by have:=csR_len zs ims m;have:=HC1.out;omega)).mono ?_;rintro e W3 ⟨xa,xc,rfl,hW,hbX⟩);go_wp2_with fail)
 have hbs:=hs2
 replace hO1:=hO1.keep hbX hO1.lt
 replace hb2:=bT' hb2 hbX hs2
 replace hW:=hW.weaken hbs (Nat.le_refl _)
 clear hbX hM hs2
 refine hK.out _ _ ?_ (fun _=>?_)
 · ((try dsimp only);(exact ⟨hO1.cell 0,hO1.cell 1⟩))
 clear hK K
 (try simp only [Act.put,pA,pB,pC])
 refine hdT 8 ?_
 refine wpAnyH_done (by kernel_rfl) ?_ _
 go_wp2_with fail
 go_ret
 exact ⟨xa,_,xc,rfl,hW,hb2⟩
set_option maxHeartbeats 4000000 in
theorem ClassForms_s {w : World} {da : Option Addr} {dn : Nat} {zs : List Int} {a : Option Addr} {k : Nat} {ims : List (List Tm)} (n : Int) (dc c : Nat) (hd : Ints w da dn zs) (hdn : dn ≤ 1048576) (hF : Frms w a k ims) (hk : k ≤ 1048576) (hL : ∀ im ∈ ims, (im.length : Int) ≤ 1048576) :
    Calls Tryz.prog 30 #[.agg #[.slice da dn dc,.slice a k c],.int .i64 n] w fun e w'=>∃ra rn rc,e=.returned (.tuple #[.slice ra rn rc,.int .i64 (mtE zs ims n)])∧OwnF w' w.heap.size w'.heap.size ra rn (csV zs ims n)∧Below w.heap.size w w':=by
 have HD:=Lib.hid hd
 have HF:=Lib.hid hF
 have HLL:=Lib.hid hL
 have HT:=Lib.hid hF.tm
 have hO:=Own.new w 35 #[.slice da dn dc,.slice a k c]
 have hb:=bA1 w (.cells #[.slice da dn dc,.slice a k c] 35)
 clear hd hF hL
 go_enter Tryz.func30,Tryz.ntmps30
 go_wp2_with fail
 refine (l03Code_c dc c (HD.out.keep hb) hdn (HF.out.keep hb) hk HLL.out).mono ?_
 rintro e w1 ⟨rfl,hb1⟩
 have hO1:=hO.keep hb1 hO.lt
 have hb2:=bTn hb hb1
 clear hO hb hb1
 generalize hE:code3 zs ims (low1 n) n=E at *
 have HE:=Lib.hid hE
 clear hE
 by_cases hE0:E=0
 · subst hE0;have HZ:=Lib.hid (code3_zero HE.out);have HLW:=Lib.hid (fun h=>mtE_low (zs:=zs) (ims:=ims) (n:=n) HE.out h);obtain ⟨m,rfl⟩:∃m:Nat,n=m:=⟨n.toNat,by have:=HZ.out.2.1;omega⟩;have c0:=hO1.cell 0;have c1:=hO1.cell 1;have HDG:=Lib.hid (isAlg_dg HZ.out.1);have HAO:=Lib.hid (isAlg_ok HZ.out.1 HT.out);have hq:=HZ.out.2.2;have hlw:=HLW.out;simp only [Int.toNat_natCast] at hq hlw;have HQ:=Lib.hid hq;have HQL:=Lib.hid hlw;clear hq hlw;go_wp2_with fail
   clear c0 c1;refine (l03ClassForms_c (m:=m) dc c (HD.out.keep hb2) (HF.out.keep hb2) HAO.out HZ.out.1 HDG.out (by have:=HQ.out.1;omega) HQ.out.2.1 HQ.out.2.2 HQL.out).mono ?_;rintro e w2 ⟨ra,rn,rc,rfl,hW,hb3⟩;have hb6:=hb2.trans (hb3.mono hb2.size);have hW2:=hW.weaken hb2.size (Nat.le_refl _);clear hW hb2 hb3 hO1;go_wp2_with fail
   go_ret2
   refine ⟨ra,_,rc,by rw [mtE,HE.out];rfl,?_,hb6⟩;rw [csV,mtE,HE.out,if_pos rfl,Int.toNat_natCast];exact hW2
 · have hEb:(E != 0)=true:=(by simpa using hE0);go_wp2_with fail
   go_ret2
   refine ⟨none,0,0,by rw [mtE,HE.out];rfl,?_,hb2⟩;rw [csV,mtE,HE.out,if_neg hE0];exact OwnF.none_
end Go.Proofs.YtifcfoijcodjbaaGreat
