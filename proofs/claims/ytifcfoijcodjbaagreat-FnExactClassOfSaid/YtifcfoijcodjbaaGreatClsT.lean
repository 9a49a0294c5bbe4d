
import Derived.Test.YtifcfoijcodjbaaGreatKerT
import Derived.Test.YtifcfoijcodjbaaGreatRdcC
namespace Go.Proofs.YtifcfoijcodjbaaGreat
set_option maxRecDepth 100000
open Go.RowKit Go.Deep
set_option maxHeartbeats 4000000 in
theorem l03Closed_c0 {w : World} {da : Option Addr} {dn : Nat} {zs : List Int} {a : Option Addr} {k : Nat} {ims : List (List Tm)} {m : Nat} (dc c : Nat) (hd : Ints w da dn zs) (hF : Frms w a k ims) (HA : AlgOk zs ims) (hA : isAlg zs ims = true) (hz : degsOk zs = true) (hm : m ≤ 20) (hc1 : cnt zs m ≤ 120) (hc2 : cnt zs (m + 1) ≤ 120) :
    Calls Tryz.prog 127 #[.agg #[.slice da dn dc,.slice a k c],.int .i64 m] w fun e w'=>∃ra rn rc,e=.returned (.slice ra rn rc)∧Tab w' ra rn (clR zs ims m)∧Below w.heap.size w w':=by
 have HD:=Lib.hid hd
 have HF:=Lib.hid hF
 have HMM:=Lib.hid (row_ok HA hz m)
 have HM1:=Lib.hid (show IntKind.i64.wrap ((m:Int)+1)=((m+1:Nat):Int) by rw [IntWalk.i64_in _ (by omega)];omega)
 have hO1:=Own.new w 35 #[.slice da dn dc,.slice a k c]
 have hb2:=bA1 w (.cells #[.slice da dn dc,.slice a k c] 35)
 clear hd hF
 go_enter Tryz.func127,Tryz.ntmps127
 go_upto_region 1 with fail
 generalize hw1:w.alloc (.cells #[.slice da dn dc,.slice a k c] 35)=w1 at *
 clear hw1
 replace hO1:Own w1.drew w.heap.size 35 #[.slice da dn dc,.slice a k c]:=hO1
 replace hb2:Below w.heap.size w w1.drew:=hb2.drew
 have hs2:=hb2.size
 refine wp_region_held_drew (S:=(fun w'=>w'.cell? ⟨w.heap.size,0,none⟩=some (.slice da dn dc)∧w'.cell? ⟨w.heap.size,1,none⟩=some (.slice a k c))) (by kernel_rfl) ?_ (fun _=>?_)
 · ((try dsimp only);(exact ⟨hO1.cell 0,hO1.cell 1⟩))
 generalize w1.drew=W0 at *
 refine hdT 0 ?_
 refine hdT 1 ?_
 refine hdT 3 ?_
 refine hdT 4 ?_
 refine hdT 5 ?_
 refine hdT 6 ?_
 refine hdC 2 (fun K hK=>?_)
 (go_simp;(go_at_call 124;refine (l03Matrix_c (m:=m) dc c (HD.out.keep hb2) (HF.out.keep hb2) HA hA hz (degs_one hz) hm hc1 hc2).mono ?_;rintro e W1 ⟨ra,rc,rfl,hT0,hbX⟩);go_wp2_with fail)
 have hT:Tab W1 ra (cnt zs m) (mrR zs ims m):=hT0.tab
 replace hO1:=hO1.keep hbX hO1.lt
 replace hb2:=bT' hb2 hbX hs2
 replace hs2:=hb2.size
 clear hbX hT0
 refine hK.out _ _ ?_ (fun _=>?_)
 · ((try dsimp only);(exact ⟨hO1.cell 0,hO1.cell 1⟩))
 clear hK K
 (try simp only [Act.put,pA,pB,pC])
 refine hdC 7 (fun K hK=>?_)
 (go_simp;(go_at_call 109;rw [HM1.out];refine (l01Mons_m (m:=m+1) dc (HD.out.keep hb2) hz (by omega) hc2).mono ?_;rintro e W2 ⟨la,lc,rfl,hM,hbX⟩);go_wp2_with fail)
 replace hT:=hT.keep hbX
 replace hO1:=hO1.keep hbX hO1.lt
 replace hb2:=bT' hb2 hbX hs2
 replace hs2:=hb2.size
 clear hbX hM
 refine hK.out _ _ ?_ (fun _=>?_)
 · ((try dsimp only);(exact ⟨hO1.cell 0,hO1.cell 1⟩))
 clear hK K
 (try simp only [Act.put,pA,pB,pC])
 refine hdT 8 ?_
 refine hdC 9 (fun K hK=>?_)
 (go_simp;(go_at_call 179;refine (l03Kernel_c (W:=cnt zs (m+1)) rc hT HMM.out hc1 hc2).mono ?_;rintro e W3 ⟨b',N',c',rfl,hK3,hbX⟩);go_wp2_with fail)
 replace hO1:=hO1.keep hbX hO1.lt
 replace hb2:=bT' hb2 hbX hs2
 clear hbX hT hs2
 refine hK.out _ _ ?_ (fun _=>?_)
 · ((try dsimp only);(exact ⟨hO1.cell 0,hO1.cell 1⟩))
 clear hK K
 (try simp only [Act.put,pA,pB,pC])
 refine hdT 10 ?_
 refine wpAnyH_done (by kernel_rfl) ?_ _
 go_wp2_with fail
 go_ret
 exact ⟨b',N',c',rfl,hK3,hb2⟩
theorem l03Closed_c {w : World} {da : Option Addr} {dn : Nat} {zs : List Int} {a : Option Addr} {k : Nat} {ims : List (List Tm)} {m : Nat} (dc c : Nat) (hd : Ints w da dn zs) (hF : Frms w a k ims) (HA : AlgOk zs ims) (hA : isAlg zs ims = true) (hz : degsOk zs = true) (hm : m ≤ 20) (hc1 : cnt zs m ≤ 120) (hc2 : cnt zs (m + 1) ≤ 120) (_hl : ¬ m = 0 → cnt zs (m - 1) ≤ 120) :
    Calls Tryz.prog 127 #[.agg #[.slice da dn dc,.slice a k c],.int .i64 m] w fun e w'=>∃ra rn rc,e=.returned (.slice ra rn rc)∧Tab w' ra rn (clR zs ims m)∧Below w.heap.size w w':=
 l03Closed_c0 dc c hd hF HA hA hz hm hc1 hc2
set_option maxHeartbeats 4000000 in
theorem l03Classes_c {w : World} {da : Option Addr} {dn : Nat} {zs : List Int} {a : Option Addr} {k : Nat} {ims : List (List Tm)} {m : Nat} (dc c : Nat) (hd : Ints w da dn zs) (hF : Frms w a k ims) (HA : AlgOk zs ims) (hA : isAlg zs ims = true) (hz : degsOk zs = true) (hm : m ≤ 20) (hc1 : cnt zs m ≤ 120) (hc2 : cnt zs (m + 1) ≤ 120) (hl : ¬ m = 0 → cnt zs (m - 1) ≤ 120) :
    Calls Tryz.prog 111 #[.agg #[.slice da dn dc,.slice a k c],.int .i64 m] w fun e w'=>∃ra rn rc,e=.returned (.slice ra rn rc)∧Tab w' ra rn (csR zs ims m)∧Below w.heap.size w w':=by
 have HD:=Lib.hid hd
 have HF:=Lib.hid hF
 have HC1:=Lib.hid hc1
 have HC2:=Lib.hid hc2
 have HL:=Lib.hid hl
 have HCL:=Lib.hid (clR_red HA hz m)
 have HBD:=Lib.hid (bdR_red HA hz m)
 have hO1:=Own.new w 35 #[.slice da dn dc,.slice a k c]
 have hb2:=bA1 w (.cells #[.slice da dn dc,.slice a k c] 35)
 clear hd hF hc1 hc2 hl
 go_enter Tryz.func111,Tryz.ntmps111
 go_upto_region 1 with fail
 generalize hw1:w.alloc (.cells #[.slice da dn dc,.slice a k c] 35)=w1 at *
 clear hw1
 go_cut [5,6,7] (fun p q r wr=>∃pa pn pc qa qn qc ra,p=.slice pa pn pc∧q=.slice qa qn qc∧r=.slice ra 0 0∧Tab wr pa pn (clR zs ims m)∧Tab wr qa qn (bdR zs ims m)∧Below w.heap.size w wr)
 case first=>
  replace hO1:Own w1.drew w.heap.size 35 #[.slice da dn dc,.slice a k c]:=hO1;replace hb2:Below w.heap.size w w1.drew:=hb2.drew;have hs2:=hb2.size;refine wp_region_held_drew (S:=(fun w'=>w'.cell? ⟨w.heap.size,0,none⟩=some (.slice da dn dc)∧w'.cell? ⟨w.heap.size,1,none⟩=some (.slice a k c))) (by kernel_rfl) ?_ (fun _=>?_)
  · ((try dsimp only);(exact ⟨hO1.cell 0,hO1.cell 1⟩))
  generalize w1.drew=W0 at *;refine hdT 0 ?_;refine hdT 1 ?_;refine hdT 3 ?_;refine hdT 4 ?_;refine wpAnyH_ready (rs:=[2,6]) (by kernel_rfl) (by simp) ?_;refine AllReadyH.cons (hdAt (i:=2) rfl) (fun K hK=>?_) (AllReadyH.cons (hdAt (i:=6) rfl) (fun K hK=>?_) AllReadyH.nil)
  · (go_simp;(go_at_call 127;refine (l03Closed_c (m:=m) dc c (HD.out.keep hb2) (HF.out.keep hb2) HA hA hz hm HC1.out HC2.out HL.out).mono ?_;rintro e W1 ⟨ra,rn,rc,rfl,hT,hbX⟩);go_wp2_with fail)
    replace hO1:=hO1.keep hbX hO1.lt;replace hb2:=bT' hb2 hbX hs2;replace hs2:=hb2.size;clear hbX;refine hK.out _ _ ?_ (fun _=>?_)
    · ((try dsimp only);(exact ⟨hO1.cell 0,hO1.cell 1⟩))
    clear hK K
    (try simp only [Act.put,pA,pB,pC])
    refine wpAnyH_ready (rs:=[5,6]) (by kernel_rfl) (by simp) ?_;refine AllReadyH.cons (hdAt (i:=5) rfl) (fun K hK=>?_) (AllReadyH.cons (hdAt (i:=6) rfl) (fun K hK=>?_) AllReadyH.nil)
    · (go_simp;(go_at_call 110;refine (l03Bounds_c (m:=m) dc c (HD.out.keep hb2) (HF.out.keep hb2) HA hA hz hm HC1.out HC2.out HL.out).mono ?_;rintro e W2 ⟨qa,qn,qc,rfl,hT2,hbX⟩);go_wp2_with fail)
      replace hT:=hT.keep hbX;replace hO1:=hO1.keep hbX hO1.lt;replace hb2:=bT' hb2 hbX hs2;replace hs2:=hb2.size;clear hbX;refine hK.out _ _ ?_ (fun _=>?_)
      · ((try dsimp only);(exact ⟨hO1.cell 0,hO1.cell 1⟩))
      clear hK K
      (try simp only [Act.put,pA,pB,pC])
      refine hdT 7 ?_;refine hdT 8 ?_;refine hdC 6 (fun K hK=>?_)
      (go_simp;try go_wp2_with fail)
      have hbX:=bA1 W2 (.cells #[] 22);replace hT:=hT.keep hbX;replace hT2:=hT2.keep hbX;replace hO1:=hO1.keep hbX hO1.lt;replace hb2:=bT' hb2 hbX hs2;replace hs2:=hb2.size;clear hbX;refine hK.out _ _ ?_ (fun _=>?_)
      · ((try dsimp only);(exact ⟨hO1.cell 0,hO1.cell 1⟩))
      clear hK K
      (try simp only [Act.put,pA,pB,pC])
      refine hdT 9 ?_;refine wpAnyH_done (by kernel_rfl) ?_ _;go_wp2_with fail
      go_meet
      exact ⟨_,_,_,_,_,_,_,rfl,rfl,rfl,hT,hT2,hb2⟩
    · (go_simp;try go_wp2_with fail)
      have hbX:=bA1 W1 (.cells #[] 22);replace hT:=hT.keep hbX;replace hO1:=hO1.keep hbX hO1.lt;replace hb2:=bT' hb2 hbX hs2;replace hs2:=hb2.size;clear hbX;refine hK.out _ _ ?_ (fun _=>?_)
      · ((try dsimp only);(exact ⟨hO1.cell 0,hO1.cell 1⟩))
      clear hK K
      (try simp only [Act.put,pA,pB,pC])
      refine hdC 5 (fun K hK=>?_)
      (go_simp;(go_at_call 110;refine (l03Bounds_c (m:=m) dc c (HD.out.keep hb2) (HF.out.keep hb2) HA hA hz hm HC1.out HC2.out HL.out).mono ?_;rintro e W2 ⟨qa,qn,qc,rfl,hT2,hbX⟩);go_wp2_with fail)
      replace hT:=hT.keep hbX;replace hO1:=hO1.keep hbX hO1.lt;replace hb2:=bT' hb2 hbX hs2;replace hs2:=hb2.size;clear hbX;refine hK.out _ _ ?_ (fun _=>?_)
      · ((try dsimp only);(exact ⟨hO1.cell 0,hO1.cell 1⟩))
      clear hK K
      (try simp only [Act.put,pA,pB,pC])
      refine hdT 7 ?_;refine hdT 8 ?_;refine hdT 9 ?_;refine wpAnyH_done (by kernel_rfl) ?_ _;go_wp2_with fail
      go_meet
      exact ⟨_,_,_,_,_,_,_,rfl,rfl,rfl,hT,hT2,hb2⟩
  · (go_simp;try go_wp2_with fail)
    have hbX:=bA1 W0 (.cells #[] 22);replace hO1:=hO1.keep hbX hO1.lt;replace hb2:=bT' hb2 hbX hs2;replace hs2:=hb2.size;clear hbX;refine hK.out _ _ ?_ (fun _=>?_)
    · ((try dsimp only);(exact ⟨hO1.cell 0,hO1.cell 1⟩))
    clear hK K
    (try simp only [Act.put,pA,pB,pC])
    refine hdC 2 (fun K hK=>?_)
    (go_simp;(go_at_call 127;refine (l03Closed_c (m:=m) dc c (HD.out.keep hb2) (HF.out.keep hb2) HA hA hz hm HC1.out HC2.out HL.out).mono ?_;rintro e W1 ⟨ra,rn,rc,rfl,hT,hbX⟩);go_wp2_with fail)
    replace hO1:=hO1.keep hbX hO1.lt;replace hb2:=bT' hb2 hbX hs2;replace hs2:=hb2.size;clear hbX;refine hK.out _ _ ?_ (fun _=>?_)
    · ((try dsimp only);(exact ⟨hO1.cell 0,hO1.cell 1⟩))
    clear hK K
    (try simp only [Act.put,pA,pB,pC])
    refine hdC 5 (fun K hK=>?_)
    (go_simp;(go_at_call 110;refine (l03Bounds_c (m:=m) dc c (HD.out.keep hb2) (HF.out.keep hb2) HA hA hz hm HC1.out HC2.out HL.out).mono ?_;rintro e W2 ⟨qa,qn,qc,rfl,hT2,hbX⟩);go_wp2_with fail)
    replace hT:=hT.keep hbX;replace hO1:=hO1.keep hbX hO1.lt;replace hb2:=bT' hb2 hbX hs2;replace hs2:=hb2.size;clear hbX;refine hK.out _ _ ?_ (fun _=>?_)
    · ((try dsimp only);(exact ⟨hO1.cell 0,hO1.cell 1⟩))
    clear hK K
    (try simp only [Act.put,pA,pB,pC])
    refine hdT 7 ?_;refine hdT 8 ?_;refine hdT 9 ?_;refine wpAnyH_done (by kernel_rfl) ?_ _;go_wp2_with fail
    go_meet
    exact ⟨_,_,_,_,_,_,_,rfl,rfl,rfl,hT,hT2,hb2⟩
 case rest=>
  obtain ⟨pa,N,pc,qa,M,qc,oa,rfl,rfl,rfl,hT,hT2,hb1⟩:=hcut;clear hO1 hb2;clear w1;have HLn:=Lib.hid hT.1;have HLn2:=Lib.hid hT2.1;have hNl:N≤120:=(by have:=clR_len zs ims m;have:=HC1.out;have:=HLn.out;omega);have hMl:M≤120:=(by have:=bdR_len zs ims m;have:=nbR_lt2 (zs:=zs) HL.out;have:=HLn2.out;omega);have HC1W:=Lib.hid (show cnt zs m≤1000 by have:=HC1.out;omega);go_upto_region 3 with fail
  go_loopw [7,8] (fun z y wx=>∃(k n:Nat) (oa:Option Addr) (oc:Nat),k≤N∧y=.int .i64 k∧z=.slice oa n oc∧Below w.heap.size w wx∧Tab wx pa N (clR zs ims m)∧Tab wx qa M (bdR zs ims m)∧TabC wx oa n (redR ((cbR zs ims m).take k))) (fun _ y _=>N - (intOf y).toNat)
  case atStart=>exact ⟨0,0,_,0,Nat.zero_le _,rfl,rfl,hb1,hT,hT2,by rw [List.take_zero];exact TabC.none_ _ _⟩
  case round=>
   clear hb1 hT hT2;obtain ⟨k,n,oa,oc,hk,rfl,rfl,hb,hT,hT2,hO⟩:=hrel;have hk0:(0:Int)≤(k:Int):=(by omega);have hsz:=hb.size;by_cases hkn:k<N
   · have hki:(k:Int)<(N:Int):=(by omega);have HT:=Lib.hid hT;obtain ⟨b1,off,s,ai,mi,ci,rfl,hbl,hcs,hIs,hx⟩:=hT.at_ hkn;have hsk:=HCL.out.ok s (List.mem_of_getElem? hx.out);obtain rfl:cnt zs m=mi:=(by have:=hIs.len;have:=hsk.len;omega);have HSK:=Lib.hid hsk;have HXX:Hid ((cbR zs ims m)[k]? = some (byR s (bdR zs ims m))):=Lib.hid (by rw [cbR,List.getElem?_map,hx.out];rfl);have HRD:=Lib.hid (redR_redI (V:=(cbR zs ims m).take k) (fun r hr=>cbR_ok HA hz m r (List.mem_of_mem_take hr))).1;have hln:=redR_le ((cbR zs ims m).take k)
     have hn9:n≤900:=by
      have h1:=hO.1.1;rw [List.length_take] at hln;omega
     have HBO:=Lib.hid (byR_ok hsk HBD.out.ok);clear hx hsk hln hT;go_wp2_with fail
     refine (l03By_c ci qc hIs hT2 HC1W.out (by omega) HSK.out (fun t ht=>⟨HBD.out.ok t ht,HBD.out.fst t ht⟩)).mono ?_;rintro e w2 ⟨xa,xc,rfl,hX,hb2⟩;have hb3:=bT' hb hb2 hsz;have hT2':=hT2.keep hb2;have HT':=Lib.hid (HT.out.keep hb2);have hO':=hO.keep hb2;have hsz3:=hb3.size;clear hb hb2 hT2 HT hO hIs hcs hsz;go_wp2_with fail
     refine (l03Put_c xc oc hX hO' HC1W.out hn9 HBO.out (fun t ht=>⟨HRD.out.ok t ht,HRD.out.fst t ht⟩)).mono ?_;rintro e w4 ⟨b',N',c',rfl,hO2,hb4⟩;have hb5:=bT' hb3 hb4 hsz3;have hT2'':=hT2'.keep hb4;have hT'':=HT'.out.keep hb4;clear hb3 hb4 hT2' HT' hO' hX hsz3;go_wp2_with fail
     go_roundw
     case rel=>exact ⟨k+1,N',b',c',by omega,by go_num,rfl,hb5,hT'',hT2'',by rw [redR_snoc HXX.out];exact hO2⟩
     case measure=>simp [intOf] <;> omega
   · have he:k=N:=(by omega);subst he;rw [List.take_of_length_le (by rw [cbR_len];exact Nat.le_of_eq HLn.out)] at hO;go_wp2_with fail
     go_ret
     exact ⟨oa,n,oc,rfl,hO.1,hb⟩
end Go.Proofs.YtifcfoijcodjbaaGreat
