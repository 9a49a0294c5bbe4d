
import Derived.Test.YtfheammnkmjabaaGreatRedT
import Derived.Test.YtfheammnkmjabaaGreatElimC
namespace Go.Proofs.YtfheammnkmjabaaGreat
set_option maxRecDepth 100000
open Go.RowKit Go.Deep
def insQ (r:List Int) (p:Nat):List (List Int)→List (List Int)
 | []=>[]
 | s::L=>if p<fstN s then r::(s::L).map (clr r p) else clr r p s::insQ r p L
def come (p:Nat) (L:List (List Int)):Bool:=L.any (fun s=>decide (p<fstN s))
theorem insQ_snoc {r:List Int} {p:Nat} {s:List Int}:∀{L:List (List Int)},insQ r p (L++[s])=if come p L=true then insQ r p L++[clr r p s] else if p<fstN s then insQ r p L++[r,clr r p s] else insQ r p L++[clr r p s]
 | [] => by
   simp [insQ,come]
 | t :: L => by
   have ih:=insQ_snoc (r:=r) (p:=p) (s:=s) (L:=L);rw [List.cons_append,insQ,insQ];by_cases h:p<fstN t
   · rw [if_pos h,if_pos h,if_pos (by simp [come,h])];simp
   · rw [if_neg h,if_neg h,ih,show come p (t::L)=come p L by simp [come,h]];split
     · rfl
     · split <;> rfl
theorem insR_Q {r:List Int} {p:Nat}:∀{L:List (List Int)},insR r p L=if come p L=true then insQ r p L else insQ r p L++[r]
 | []=>by simp [insR,insQ,come]
 | t :: L => by
   have ih:=insR_Q (r:=r) (p:=p) (L:=L);rw [insR,insQ];by_cases h:p<fstN t
   · rw [if_pos h,if_pos h,if_pos (by simp [come,h])];rfl
   · rw [if_neg h,if_neg h,ih,show come p (t::L)=come p L by simp [come,h]];split <;> rfl
theorem come_snoc {p:Nat} {s:List Int} {L:List (List Int)}:come p (L++[s])=(come p L || decide (p<fstN s)):=by simp [come]
theorem insQ_ok {m p:Nat} {r:List Int} (hr:RowOk m r):∀{L:List (List Int)},(∀s∈L,RowOk m s)→∀t∈insQ r p L,RowOk m t
 | [],_,t,ht=>by simp [insQ] at ht
 | s :: L, hL, t, ht => by
   rw [insQ] at ht;split at ht
   · rw [List.mem_cons] at ht
     rcases ht with rfl | ht
     · exact hr
     · obtain ⟨u,hu,rfl⟩:=List.mem_map.1 ht;exact lessR_ok (hL u hu).len hr.len _
   · rw [List.mem_cons] at ht
     rcases ht with rfl | ht
     · exact lessR_ok (hL s (by simp)).len hr.len _
     · exact insQ_ok hr (fun u hu=>hL u (List.mem_cons_of_mem _ hu)) t ht
theorem insQ_len {r:List Int} {p:Nat}:∀{L:List (List Int)},(insQ r p L).length≤L.length+1
 | []=>by simp [insQ]
 | s :: L => by
   have:=insQ_len (r:=r) (p:=p) (L:=L);rw [insQ];split <;> simp <;> omega
theorem Tryz.info_intsB:∃i z,Tryz.prog.info? 22=some i∧i.zero=some z∧i.size=1∧i.bytes=24∧z.cells.size=1:=by
 have h:(Tryz.prog.info? 22).map (fun i=>(i.zero,i.size,i.bytes))=some (some (.slice none 0 0),1,24):=by kernel_rfl
 obtain ⟨i,hi,hzz⟩:=Option.map_eq_some_iff.1 h
 simp only [Prod.mk.injEq] at hzz
 obtain ⟨hz,hs,hb⟩:=hzz
 exact ⟨i,_,hi,hz,hs,hb,rfl⟩
def midQ (R:List Int) (p:Nat) (L:List (List Int)) (k:Nat):List (List Int):=if come p (L.take k)=true then insQ R p (L.take k) else if come p (L.take (k+1))=true then insQ R p (L.take k)++[R] else insQ R p (L.take k)
theorem take_sn {α:Type} {l:List α} {k:Nat} {x:α} (h:l[k]? = some x):l.take (k+1)=l.take k++[x]:=by
 rw [List.take_add_one,h]
 rfl
theorem midQ_step {R:List Int} {p k:Nat} {L:List (List Int)} {s:List Int} (h:L[k]? = some s):insQ R p (L.take (k+1))=midQ R p L k++[clr R p s]:=by
 rw [midQ,take_sn h,insQ_snoc,come_snoc]
 by_cases h1:come p (L.take k)=true
 · rw [if_pos h1,if_pos h1]
 · rw [if_neg h1,if_neg h1];have h2:come p (L.take k)=false:=(by simpa using h1);rw [h2];by_cases h3:p<fstN s
   · rw [if_pos h3,if_pos (by simp [h3])];simp
   · rw [if_neg h3,if_neg (by simp [h3])]
theorem VL.nil (w:World) (m:Nat):VL w m [] []:=⟨rfl,fun q t ht=>by simp at ht⟩
theorem empty_rowB (w:World) {B:Nat} (hB:B≤w.heap.size):(w.alloc (.cells #[] 22)).ownsRow B 22 1 (.slice (some ⟨w.heap.size,0,none⟩) 0 0) 0 []:=
 ⟨rfl,Or.inr ⟨w.heap.size,0,#[],rfl,hB,heap_alloc_new w _,Nat.le_refl _,by simp [maxLen],rfl,rfl⟩⟩
set_option maxHeartbeats 8000000 in
theorem l03Put_c {w : World} {a b : Option Addr} {m N : Nat} {r : List Int} {L : List (List Int)} (c c2 : Nat) (h : Ints w a m r) (hT : TabC w b N L) (hm : m ≤ 1000) (hN : N ≤ 900) (hr : RowOk m r) (hL : ∀ s ∈ L, RowOk m s ∧ fstN s < m) :
    Calls Tryz.prog 48 #[.slice b N c2,.slice a m c] w fun e w'=>∃b' N' c',e=.returned (.slice b' N' c')∧TabC w' b' N' (putR L r)∧Below w.heap.size w w':=by
 obtain ⟨ti,tz,hti,htz,hts,htb,htzs⟩:=Tryz.info_intsB
 have HI:=Lib.hid hti
 have HZ:=Lib.hid htz
 have HS:=Lib.hid hts
 have HBt:=Lib.hid htb
 have HZs:=Lib.hid htzs
 clear hti htz hts htb htzs
 have HTC:=Lib.hid hT
 have HT:=Lib.hid hT.1
 have HLn:=Lib.hid hT.1.1
 have HL:=Lib.hid hL
 have hbok:=byR_ok hr (fun s hs=>(hL s hs).1)
 have hmk:=run_make_row' (P:=Tryz.prog) 22 2 (.int .i64 0) 8 Tryz.underlying22 Tryz.info_int64 rfl .i64 .i64 m (by omega) (by omega)
 rw [show madeCells #[Value.int .i64 0] m=Array.replicate m (Value.int .i64 0) by (apply Array.ext';rw [toList_madeCells_one];simp)] at hmk
 go_enter Tryz.func48,Tryz.ntmps48
 go_wp2_with fail
 refine (l03By_c c c2 h hT.1 hm (by omega) hr hL).mono ?_
 rintro e w1 ⟨a1,c1,rfl,hI,hb⟩
 obtain ⟨r1,hr1⟩:∃r1,byR r L=r1:=⟨_,rfl⟩
 have hput:putR L r=if fstN r1<r1.length then insR (normR r1) (fstN r1) L else L:=by rw [putR,hr1]
 rw [hr1] at hI hbok
 have HPUT:=Lib.hid hput
 have HR1:=Lib.hid hbok
 clear hr1 hput hbok h hT hL
 by_cases hf:fstN r1<m
 · obtain ⟨p,hp⟩:∃p,fstN r1=p:=⟨_,rfl⟩;have hat:=fstI_lt HR1.out.len hf;rw [hp] at hat hf;obtain ⟨x,hx⟩:∃x,r1.getD p 0=x:=⟨_,rfl⟩;have hxb:=HR1.out.at_ p;have hx0:¬x=0:=(by rw [←hx,←hp];exact fstN_at (by rw [hp,HR1.out.len];exact hf));rw [hx] at hxb;have hx1:1≤x:=(by omega);obtain ⟨v,hv⟩:∃v,pw 14 1 x 10005=v:=⟨_,rfl⟩;have hinv:invOf x=v:=(by rw [invOf,if_pos ⟨hx1,hxb.2⟩,hv]);have hvb:=invOf_bdE x;rw [hinv] at hvb;obtain ⟨f,hf2⟩:∃f,num (-v)=f:=⟨_,rfl⟩;have hfb:0≤f∧f≤10006:=(by rw [←hf2];exact ⟨num_lo _,by have:=num_hi (-v);omega⟩);obtain ⟨R,hR⟩:∃R,lessR (List.replicate m 0) r1 f=R:=⟨_,rfl⟩;have hnorm:normR r1=R:=(by rw [normR,HR1.out.len,hp,hx,hinv,hf2,hR]);have HNO:Hid (putR L r=insR R p L):=Lib.hid (by rw [HPUT.out,if_pos (by rw [hp,HR1.out.len];exact hf),hnorm,hp]);have HRO:Hid (RowOk m R):=Lib.hid (by rw [←hR];exact lessR_ok (by simp) HR1.out.len f);have HAT:=Lib.hid hat;have HV:=Lib.hid hv;have HF2:=Lib.hid hf2;have HR:=Lib.hid hR;have hm1:1≤m:=(by omega);obtain ⟨b2,o2,x2,ha1,hbl2,hcx,hxx⟩:=hI.at_ hf;subst ha1
   obtain rfl:x2=x:=by
    rw [←hx,List.getD_eq_getElem?_getD,hxx.out];rfl
   have HI1:=Lib.hid hI;have hp0:(0:Int)≤(p:Int):=(by omega);have hpi:(p:Int)<(m:Int):=(by omega);have hnl:¬((p:Int)<0):=(by omega);have hng:IntKind.i64.wrap (-v)=-v:=IntWalk.i64_in _ (by omega);clear hat hv hinv hf2 hR hnorm hp hx hxx hI;go_upto_region 5 with (go_at_call 69;refine (l03First_c c1 HI1.out (by omega)).mono ?_;rintro e w2 ⟨rfl,rfl⟩;rw [HAT.out])
   go_cut [1] (fun u wq=>∃(wy:World) (gN:Nat),wy=wq∧u=.slice (some ⟨gN,0,none⟩) m m∧Below w.heap.size w wq∧Own wq gN 2 (ofI R))
   case first=>
    have hI:Ints w1.drew (some ⟨b2,o2,none⟩) m r1:=HI1.out;replace hcx:w1.drew.cell? ⟨b2,o2+p,none⟩=some (.int .i64 x2):=hcx;replace hbl2:b2<w1.drew.heap.size:=hbl2;replace hb:Below w.heap.size w w1.drew:=hb.drew;refine wp_region_held_drew (S:=(fun w'=>w'.cell? ⟨b2,o2+p,none⟩=some (.int .i64 x2))) (by kernel_rfl) ?_ (fun _=>?_)
    · ((try dsimp only);(exact hcx))
    generalize w1.drew=W0d at *;refine hdT 0 ?_;refine hdT 1 ?_;refine hdT 3 ?_;refine hdT 4 ?_;refine hdT 5 ?_;refine hdT 6 ?_;refine hdT 7 ?_;refine wpAnyH_ready (rs:=[2,8]) (by kernel_rfl) (by simp) ?_;refine AllReadyH.cons (hdAt (i:=2) rfl) (fun K hK=>?_) (AllReadyH.cons (hdAt (i:=8) rfl) (fun K hK=>?_) AllReadyH.nil)
    · skip
      have hmk1:=hmk W0d
      (go_simp;try go_wp2_with fail)
      clear hmk1;have hZ:=Own.new W0d 2 (Array.replicate m (Value.int .i64 0));have hbX:=bA1 W0d (.cells (Array.replicate m (Value.int .i64 0)) 2);replace hcx:=(hbX.cell (p:=⟨b2,o2+p,none⟩) hbl2).trans hcx;replace hbl2:=Nat.lt_of_lt_of_le hbl2 hbX.size;replace hI:=hI.keep hbX;replace hb:=bT' hb hbX hb.size;generalize W0d.alloc (.cells (Array.replicate m (Value.int .i64 0)) 2)=W1 at *;generalize hgz:W0d.heap.size=gZ at *;clear hbX hgz;refine hK.out _ _ ?_ (fun _=>?_)
      · ((try dsimp only);(exact hcx))
      clear hK K
      (try simp only [Act.put,pA,pB,pC])
      refine hdC 8 (fun K hK=>?_)
      (go_simp;(go_at_call 71;refine (inverse_s x2 _ hx1 hxb.2).mono ?_;rintro e w2 ⟨rfl,rfl⟩;rw [HV.out]);go_wp2_with fail)
      refine hK.out _ _ ?_ (fun _=>?_)
      · ((try dsimp only);(exact hcx))
      clear hK K
      (try simp only [Act.put,pA,pB,pC])
      refine hdT 9 ?_;refine hdC 10 (fun K hK=>?_)
      (go_simp;(go_at_call 67;(try rw [hng]);refine (l01Mod_c (-v) _ (by omega) (by omega)).mono ?_;rintro e w2 ⟨rfl,rfl⟩;rw [HF2.out]);go_wp2_with fail)
      refine hK.out _ _ ?_ (fun _=>?_)
      · ((try dsimp only);(exact hcx))
      clear hK K
      (try simp only [Act.put,pA,pB,pC])
      refine hdC 11 (fun K hK=>?_)
      (go_simp;(go_at_call 70;refine (l03Less_c m c1 f (r:=List.replicate m 0) (ints_of_own (by rw [←ofI,←ofI_rep];exact hZ) (by simp)) hI hm (fun y hy=>by rw [List.eq_of_mem_replicate hy];omega) HR1.out.bd (by omega)).mono ?_;rintro e Wz ⟨gN,rfl,hgN,hG,hbX⟩);go_wp2_with fail)
      rw [HR.out] at hG;replace hcx:=(hbX.cell (p:=⟨b2,o2+p,none⟩) hbl2).trans hcx;replace hb:=bT' hb hbX hb.size;clear hI hgN hbX hZ;refine hK.out _ _ ?_ (fun _=>?_)
      · ((try dsimp only);(exact hcx))
      clear hK K
      (try simp only [Act.put,pA,pB,pC])
      refine hdT 12 ?_;refine wpAnyH_done (by kernel_rfl) ?_ _;go_wp2_with fail
      go_meet
      exact ⟨_,gN,rfl,rfl,hb,hG⟩
    · skip
      (go_simp;(go_at_call 71;refine (inverse_s x2 _ hx1 hxb.2).mono ?_;rintro e w2 ⟨rfl,rfl⟩;rw [HV.out]);go_wp2_with fail)
      refine hK.out _ _ ?_ (fun _=>?_)
      · ((try dsimp only);(exact hcx))
      clear hK K
      (try simp only [Act.put,pA,pB,pC])
      refine hdT 9 ?_;refine wpAnyH_ready (rs:=[2,10]) (by kernel_rfl) (by simp) ?_;refine AllReadyH.cons (hdAt (i:=2) rfl) (fun K hK=>?_) (AllReadyH.cons (hdAt (i:=10) rfl) (fun K hK=>?_) AllReadyH.nil)
      · skip
        have hmk1:=hmk W0d
        (go_simp;try go_wp2_with fail)
        clear hmk1;have hZ:=Own.new W0d 2 (Array.replicate m (Value.int .i64 0));have hbX:=bA1 W0d (.cells (Array.replicate m (Value.int .i64 0)) 2);replace hcx:=(hbX.cell (p:=⟨b2,o2+p,none⟩) hbl2).trans hcx;replace hbl2:=Nat.lt_of_lt_of_le hbl2 hbX.size;replace hI:=hI.keep hbX;replace hb:=bT' hb hbX hb.size;generalize W0d.alloc (.cells (Array.replicate m (Value.int .i64 0)) 2)=W2 at *;generalize hgz:W0d.heap.size=gZ at *;clear hbX hgz;refine hK.out _ _ ?_ (fun _=>?_)
        · ((try dsimp only);(exact hcx))
        clear hK K
        (try simp only [Act.put,pA,pB,pC])
        refine hdC 10 (fun K hK=>?_)
        (go_simp;(go_at_call 67;(try rw [hng]);refine (l01Mod_c (-v) _ (by omega) (by omega)).mono ?_;rintro e w2 ⟨rfl,rfl⟩;rw [HF2.out]);go_wp2_with fail)
        refine hK.out _ _ ?_ (fun _=>?_)
        · ((try dsimp only);(exact hcx))
        clear hK K
        (try simp only [Act.put,pA,pB,pC])
        refine hdC 11 (fun K hK=>?_)
        (go_simp;(go_at_call 70;refine (l03Less_c m c1 f (r:=List.replicate m 0) (ints_of_own (by rw [←ofI,←ofI_rep];exact hZ) (by simp)) hI hm (fun y hy=>by rw [List.eq_of_mem_replicate hy];omega) HR1.out.bd (by omega)).mono ?_;rintro e Wz ⟨gN,rfl,hgN,hG,hbX⟩);go_wp2_with fail)
        rw [HR.out] at hG;replace hcx:=(hbX.cell (p:=⟨b2,o2+p,none⟩) hbl2).trans hcx;replace hb:=bT' hb hbX hb.size;clear hI hgN hbX hZ;refine hK.out _ _ ?_ (fun _=>?_)
        · ((try dsimp only);(exact hcx))
        clear hK K
        (try simp only [Act.put,pA,pB,pC])
        refine hdT 12 ?_;refine wpAnyH_done (by kernel_rfl) ?_ _;go_wp2_with fail
        go_meet
        exact ⟨_,gN,rfl,rfl,hb,hG⟩
      · skip
        (go_simp;(go_at_call 67;(try rw [hng]);refine (l01Mod_c (-v) _ (by omega) (by omega)).mono ?_;rintro e w2 ⟨rfl,rfl⟩;rw [HF2.out]);go_wp2_with fail)
        refine hK.out _ _ ?_ (fun _=>?_)
        · ((try dsimp only);(exact hcx))
        clear hK K
        (try simp only [Act.put,pA,pB,pC])
        refine hdC 2 (fun K hK=>?_);have hmk1:=hmk W0d
        (go_simp;try go_wp2_with fail)
        clear hmk1;have hZ:=Own.new W0d 2 (Array.replicate m (Value.int .i64 0));have hbX:=bA1 W0d (.cells (Array.replicate m (Value.int .i64 0)) 2);replace hcx:=(hbX.cell (p:=⟨b2,o2+p,none⟩) hbl2).trans hcx;replace hbl2:=Nat.lt_of_lt_of_le hbl2 hbX.size;replace hI:=hI.keep hbX;replace hb:=bT' hb hbX hb.size;generalize W0d.alloc (.cells (Array.replicate m (Value.int .i64 0)) 2)=W3 at *;generalize hgz:W0d.heap.size=gZ at *;clear hbX hgz;refine hK.out _ _ ?_ (fun _=>?_)
        · ((try dsimp only);(exact hcx))
        clear hK K
        (try simp only [Act.put,pA,pB,pC])
        refine hdC 11 (fun K hK=>?_)
        (go_simp;(go_at_call 70;refine (l03Less_c m c1 f (r:=List.replicate m 0) (ints_of_own (by rw [←ofI,←ofI_rep];exact hZ) (by simp)) hI hm (fun y hy=>by rw [List.eq_of_mem_replicate hy];omega) HR1.out.bd (by omega)).mono ?_;rintro e Wz ⟨gN,rfl,hgN,hG,hbX⟩);go_wp2_with fail)
        rw [HR.out] at hG;replace hcx:=(hbX.cell (p:=⟨b2,o2+p,none⟩) hbl2).trans hcx;replace hb:=bT' hb hbX hb.size;clear hI hgN hbX hZ;refine hK.out _ _ ?_ (fun _=>?_)
        · ((try dsimp only);(exact hcx))
        clear hK K
        (try simp only [Act.put,pA,pB,pC])
        refine hdT 12 ?_;refine wpAnyH_done (by kernel_rfl) ?_ _;go_wp2_with fail
        go_meet
        exact ⟨_,gN,rfl,rfl,hb,hG⟩
   case rest=>
   obtain ⟨Wz,gN,rfl,rfl,hbz,hG⟩:=hcut;clear hb;have hb:=hbz;clear hbz;have HG:=Lib.hid hG;have hbs:=hb.size;clear hcx hbl2 hmk HI1 hnl hng;have HVL0:Hid (VL (Wz.alloc (.cells #[] 22)) m [] (insQ R p (L.take 0))):=Lib.hid (by rw [List.take_zero];exact VL.nil _ _);have hO:=empty_rowB Wz (B:=w.heap.size) hbs;have hba:=bA1 Wz (.cells #[] 22);have HGN:=Lib.hid (HG.out.keep hba HG.out.lt);have hb0:=bT' hb hba hb.size;clear hba HG hbs hb;go_upto_region 7 with fail
   generalize Wz.alloc (.cells #[] 22)=w3 at *;generalize Wz.heap.size=gO at *;have HO:=Lib.hid hO;clear hO;go_upto_region 8 with fail
   go_loopw [8,6,7] (fun y z u wr=>∃(k j:Nat) (oa:Option Addr) (oc:Nat) (vals:List Value),k≤N∧y=.int .i64 k∧z=.slice oa j oc∧u=.bool (come p (L.take k))∧Below w.heap.size w wr∧Hid (wr.ownsRow w.heap.size 22 1 (.slice oa j oc) j vals)∧Hid (VL wr m vals (insQ R p (L.take k)))∧Hid (Own wr gN 2 (ofI R))) (fun y _ _ _=>N - (intOf y).toNat)
   case atStart=>exact ⟨0,0,_,0,[],Nat.zero_le _,rfl,rfl,rfl,hb0,HO,HVL0,HGN⟩
   case round=>
    clear hb0 HO HVL0 HGN;obtain ⟨k,j,oa,oc,vals,hk,rfl,rfl,rfl,hb,HO,HVL,HGN⟩:=hrel;have hk0:(0:Int)≤(k:Int):=(by omega);have hjl:j=vals.length:=by have:=HO.out.1;omega
    have hj2:j≤N+1:=by
     have h1:=HVL.out.1;have h2:=insQ_len (r:=R) (p:=p) (L:=L.take k);have h3:(L.take k).length≤L.length:=(by rw [List.length_take];omega);have:=HLn.out;omega
    clear hjl;by_cases hkn:k<N
    · have hki:(k:Int)<(N:Int):=(by omega);obtain ⟨s0,hs0⟩:∃s0,L[k]? = some s0:=⟨_,List.getElem?_eq_getElem (by have:=HLn.out;omega)⟩;have HCM:Hid (come p (L.take (k+1))=(come p (L.take k) || decide (p<fstN s0))):=Lib.hid (by rw [take_sn hs0,come_snoc]);have HS0:=Lib.hid hs0;clear hs0;obtain ⟨pl,hpl⟩:∃pl,come p (L.take k)=pl:=⟨_,rfl⟩;obtain ⟨pm,hpm⟩:∃pm,come p (L.take (k+1))=pm:=⟨_,rfl⟩;rw [hpl];have HPL:=Lib.hid hpl;have HPM:=Lib.hid hpm;clear hpl hpm;go_upto_region 10 with fail
      go_cut [46] (fun u wq=>∃wy:World,wy=wq∧wr=wq∧u=.bool (!pl && pm))
      case first=>
       obtain ⟨b1,off,s,ai,mi,ci,rfl,hbl,hcs,hIs,hx⟩:=(HT.out.keep hb).at_ hkn;obtain rfl:s0=s:=(by have:=HS0.out;rw [hx.out] at this;exact (Option.some.inj this).symm);have hs:=HL.out s0 (List.mem_of_getElem? hx.out);obtain rfl:m=mi:=(by have:=hIs.len;have:=hs.1.len;omega);have hfs:=fstI_lt hs.1.len hs.2;obtain ⟨q,hq⟩:∃q,fstN s0=q:=⟨_,rfl⟩;rw [hq] at hfs;have HQ:=Lib.hid hq;have HFS:=Lib.hid hfs;have HIS:=Lib.hid hIs;clear hs hfs hq hIs
       cases pl with
       | true =>
         go_wp2_with fail
         go_meet
         exact ⟨_,rfl,rfl,rfl⟩
       | false =>
         by_cases hpq:p<q
         · have hpqi:(p:Int)<(q:Int):=(by omega);have HM:Hid (pm=true):=Lib.hid (by rw [←HPM.out,HCM.out,HQ.out];simp [hpq]);go_wp2_with (go_at_call 69;refine (l03First_c ci HIS.out (by omega)).mono ?_;rintro e w2 ⟨rfl,rfl⟩;rw [HFS.out])
           go_meet
           exact ⟨_,rfl,rfl,by rw [HM.out];rfl⟩
         · have hpqi:¬(p:Int)<(q:Int):=(by omega);have HM:Hid (pm=false):=Lib.hid (by rw [←HPM.out,HCM.out,HPL.out,HQ.out];simp [hpq]);go_wp2_with (go_at_call 69;refine (l03First_c ci HIS.out (by omega)).mono ?_;rintro e w2 ⟨rfl,rfl⟩;rw [HFS.out])
           go_meet
           exact ⟨_,rfl,rfl,by rw [HM.out];rfl⟩
      case rest=>
      obtain ⟨wr,rfl,rfl,rfl⟩:=hcut
      go_upto_if 46 with fail
      go_cut [6,7] (fun z u wq=>∃(wy:World) (oa2:Option Addr) (j2 oc2:Nat) (vals2:List Value),wy=wq∧z=.slice oa2 j2 oc2∧u=.bool pm∧Below w.heap.size w wq∧Hid (wq.ownsRow w.heap.size 22 1 (.slice oa2 j2 oc2) j2 vals2)∧Hid (VL wq m vals2 (midQ R p L k))∧Hid (Own wq gN 2 (ofI R))∧j2≤N+2)
      case first=>
       cases pl with
       | true =>
         have HM:Hid (midQ R p L k=insQ R p (L.take k)∧pm=true):=Lib.hid ⟨by rw [midQ,if_pos HPL.out],by rw [←HPM.out,HCM.out,HPL.out];rfl⟩;rw [show (!true && pm)=false from rfl];go_wp2_with fail
         go_meet
         exact ⟨_,oa,j,oc,vals,rfl,rfl,by rw [HM.out.2],hb,HO,by rw [HM.out.1];exact HVL,HGN,by omega⟩
       | false =>
         cases pm with
         | true =>
           have HM:Hid (midQ R p L k=insQ R p (L.take k)++[R]):=Lib.hid (by rw [midQ,if_neg (by rw [HPL.out];simp),if_pos HPM.out]);go_upto_region 11 with fail
           have hnews:∀q u,([Value.slice (some ⟨gN,0,none⟩) m m]:List Value)[q]? = some u→(wr.alloc (.cells #[.slice (some ⟨gN,0,none⟩) m m] 22)).cell? ((⟨wr.heap.size,0,none⟩:Addr).add q)=some u:=fun q u hu=>by
            rw [Addr.add_mid];exact (Own.new wr 22 #[.slice (some ⟨gN,0,none⟩) m m]).range q u hu
           have hone:∀u∈([Value.slice (some ⟨gN,0,none⟩) m m]:List Value),u.oneCell'=true:=(by simp [Value.oneCell']);have HN1:=Lib.hid hnews;have HO1:=Lib.hid hone;have hba:=bA1 wr (.cells #[.slice (some ⟨gN,0,none⟩) m m] 22);have HR2:=Lib.hid (row_keep HO.out hba);have HVL3:=Lib.hid (HVL.out.keep hba);have HGN3:=Lib.hid (HGN.out.keep hba HGN.out.lt);have hb3:=bT' hb hba hb.size;have hbs3:=hb.size;clear hnews hone hba HO HVL HGN hb
           go_wp2_with (refine wpList_append_own_wide _ rfl (.tmp 47) (.tmp 49) 64 rfl w.heap.size 22 ti tz 1 24 Tryz.underlying64 HI.out HZ.out HS.out HBt.out HZs.out (by omega) (.slice oa j oc) j vals rfl HR2.out ⟨wr.heap.size, 0, none⟩ 1 1 [Value.slice (some ⟨gN, 0, none⟩) m m] rfl rfl HN1.out HO1.out (by simp only [maxLen]; omega) (by omega) (by rw [sAl]; omega) (fun v' w' h2 h3 h4 => ?_)
                        obtain ⟨va,vc,rfl⟩:=row_slice h2;have hb4:=grown_below hb3 h3 (fun q e=>by have:=(HR2.out.lt q e).1;omega) hb3.size;have HVL4:=Lib.hid (HVL3.out.grown HR2.out h3);have HGN4:=Lib.hid (HGN3.out.grown h3 (own_ne_row HGN3.out HR2.out (by decide)));have HO4:=Lib.hid h2
                        clear h2 h3 h4 hb3 HVL3 HGN3 HR2 HN1 HO1 hbs3)
           go_wp2_with fail
           go_meet
           exact ⟨_,va,j+1,vc,_,rfl,rfl,rfl,hb4,HO4,by rw [HM.out];exact Lib.hid (HVL4.out.snoc HGN4.out),HGN4,by omega⟩
         | false =>
           have HM:Hid (midQ R p L k=insQ R p (L.take k)):=Lib.hid (by rw [midQ,if_neg (by rw [HPL.out];simp),if_neg (by rw [HPM.out];simp)]);go_wp2_with fail
           go_meet
           exact ⟨_,oa,j,oc,vals,rfl,rfl,rfl,hb,HO,by rw [HM.out];exact HVL,HGN,by omega⟩
      case rest=>
       clear hb HO HVL HGN hj2;obtain ⟨wr,oa,j,oc,vals,rfl,rfl,rfl,hb,HO,HVL,HGN,hj2⟩:=hcut;obtain ⟨b1,off,s,ai,mi,ci,hbe,hbl,hcs0,hIs,hx⟩:=HT.out.at_ hkn;subst hbe;have hs:=HL.out s (List.mem_of_getElem? hx.out);obtain rfl:m=mi:=(by have:=hIs.len;have:=hs.1.len;omega);obtain ⟨b3,o3,y,hae,hbl3,hcy0,hyy⟩:=hIs.at_ hf;subst hae;have hgy:s.getD p 0=y:=(by rw [List.getD_eq_getElem?_getD,hyy.out];rfl);have hyb:=hs.1.at_ p;rw [hgy] at hyb
       have HST:Hid (insQ R p (L.take (k+1))=midQ R p L k++[lessR s R y]):=Lib.hid (by
        have:=midQ_step (R:=R) (p:=p) hx.out
        rw [this,clr,hgy])
       have HSK:=Lib.hid hs.1;have HIS:=Lib.hid hIs;have HCS:=Lib.hid hcs0;have HCY:=Lib.hid hcy0;clear hs hgy hIs hcs0 hcy0;go_upto_region 13 with fail
       replace hb:Below w.heap.size w wr.drew:=hb.drew;have HOd:Hid (wr.drew.ownsRow w.heap.size 22 1 (.slice oa j oc) j vals):=Lib.hid (row_keep HO.out ((Below.refl _ _).drew));have HVLd:Hid (VL wr.drew m vals (midQ R p L k)):=Lib.hid (HVL.out.keep ((Below.refl _ _).drew));have HGNd:Hid (Own wr.drew gN 2 (ofI R)):=Lib.hid HGN.out;clear HO HVL HGN;refine wp_region_held_drew (S:=(fun w'=>w'.cell? ⟨b1,off+k,none⟩=some (.slice (some ⟨b3,o3,none⟩) m ci)∧w'.cell? ⟨b3,o3+p,none⟩=some (.int .i64 y))) (by kernel_rfl) ?_ (fun _=>?_)
       · ((try dsimp only);(exact ⟨(hb.cell (p:=⟨b1,off+k,none⟩) hbl).trans HCS.out,(hb.cell (p:=⟨b3,o3+p,none⟩) hbl3).trans HCY.out⟩))
       generalize wr.drew=V0d at *;refine hdT 0 ?_;refine hdT 1 ?_;refine hdT 2 ?_;refine hdT 3 ?_;refine hdT 4 ?_;refine hdT 5 ?_;refine hdT 6 ?_;refine hdT 7 ?_;refine hdT 8 ?_;refine hdT 9 ?_;refine hdT 10 ?_;refine hdT 11 ?_;refine hdT 12 ?_;refine hdC 13 (fun K hK=>?_)
       (go_simp;(go_at_call 70;refine (l03Less_c ci m y (HIS.out.keep hb) (ints_of_own HGNd.out HRO.out.len) hm HSK.out.bd HRO.out.bd (by omega)).mono ?_;rintro e W1 ⟨gM,rfl,hgM,hG2,hbX⟩);go_wp2_with fail)
       replace hb:=bT' hb hbX hb.size;replace HOd:=Lib.hid (row_keep HOd.out hbX);replace HVLd:=Lib.hid (HVLd.out.keep hbX);replace HGNd:=Lib.hid (HGNd.out.keep hbX HGNd.out.lt);have HG2:=Lib.hid hG2;clear hgM hbX hG2;refine hK.out _ _ ?_ (fun _=>?_)
       · ((try dsimp only);(exact ⟨(hb.cell (p:=⟨b1,off+k,none⟩) hbl).trans HCS.out,(hb.cell (p:=⟨b3,o3+p,none⟩) hbl3).trans HCY.out⟩))
       clear hK K
       (try simp only [Act.put,pA,pB,pC])
       refine hdC 14 (fun K hK=>?_)
       (go_simp;try go_wp2_with fail)
       have hN:=Own.new W1 22 #[.slice (some ⟨gM,0,none⟩) m m];have hbX:=bA1 W1 (.cells #[.slice (some ⟨gM,0,none⟩) m m] 22);replace hb:=bT' hb hbX hb.size;replace HOd:=Lib.hid (row_keep HOd.out hbX);replace HVLd:=Lib.hid (HVLd.out.keep hbX);replace HGNd:=Lib.hid (HGNd.out.keep hbX HGNd.out.lt);replace HG2:=Lib.hid (HG2.out.keep hbX HG2.out.lt);have HON:Hid (∀u∈([Value.slice (some ⟨gM,0,none⟩) m m]:List Value),u.oneCell'=true):=Lib.hid (by simp [Value.oneCell']);generalize W1.alloc (.cells #[.slice (some ⟨gM,0,none⟩) m m] 22)=W2 at *;generalize hhN:W1.heap.size=ghN at *;clear hbX hhN;refine hK.out _ _ ?_ (fun _=>?_)
       · ((try dsimp only);(exact ⟨(hb.cell (p:=⟨b1,off+k,none⟩) hbl).trans HCS.out,(hb.cell (p:=⟨b3,o3+p,none⟩) hbl3).trans HCY.out⟩))
       clear hK K
       (try simp only [Act.put,pA,pB,pC])
       refine hdC 15 (fun K hK=>?_);have HNW:Hid (∀j u,([Value.slice (some ⟨gM,0,none⟩) m m]:List Value)[j]? = some u→W2.cell? ((⟨ghN,0,none⟩:Addr).add j)=some u):=Lib.hid (fun j u hu=>by rw [Addr.add_mid];exact hN.range j u hu);have HRW:=Lib.hid HOd.out;have hszW:w.heap.size≤W2.heap.size:=hb.size;rw [if_pos (by rfl)];refine wp_append_own_wide _ (.tmp 51) (.tmp 65) 64 rfl w.heap.size 22 ti tz 1 24 Tryz.underlying64 HI.out HZ.out HS.out HBt.out HZs.out (by omega) (.slice oa j oc) j _ rfl HRW.out ⟨ghN,0,none⟩ 1 1 [Value.slice (some ⟨gM,0,none⟩) m m] rfl rfl HNW.out HON.out (by simp only [maxLen];omega) (by omega) hszW (fun v' W3 h2 h3 h4=>?_);obtain ⟨xa9,xc9,rfl⟩:=row_slice h2;have H2:=Lib.hid h2;replace HVLd:=Lib.hid (HVLd.out.grown HRW.out h3);replace HGNd:=Lib.hid (HGNd.out.grown h3 (own_ne_row HGNd.out HRW.out (by decide)));replace HG2:=Lib.hid (HG2.out.grown h3 (own_ne_row HG2.out HRW.out (by decide)));replace hb:=grown_below hb h3 (fun q e=>by have:=(HRW.out.lt q e).1;omega) hb.size;clear h2 h4 hN HOd;clear HNW HRW hszW h3;refine hK.out _ _ ?_ (fun _=>?_)
       · ((try dsimp only);(exact ⟨(hb.cell (p:=⟨b1,off+k,none⟩) hbl).trans HCS.out,(hb.cell (p:=⟨b3,o3+p,none⟩) hbl3).trans HCY.out⟩))
       clear hK K
       (try simp only [Act.put,pA,pB,pC])
       refine hdT 16 ?_;refine wpAnyH_done (by kernel_rfl) ?_ _;go_wp2_with fail
       go_roundw
       case rel=>exact ⟨k+1,j+1,xa9,xc9,_,by omega,by go_num,rfl,by rw [HPM.out],hb,H2,by rw [HST.out];exact Lib.hid (HVLd.out.snoc HG2.out),HGNd⟩
       case measure=>simp [intOf] <;> omega
    · have he:k=N:=(by omega);subst he;have htk:L.take k=L:=List.take_of_length_le (Nat.le_of_eq HLn.out);have HTK:=Lib.hid htk;rw [htk] at HVL ⊢;clear htk;have HOKQ:=Lib.hid (insQ_ok (p:=p) HRO.out (fun s hs=>(HL.out s hs).1));obtain ⟨pl,hpl⟩:∃pl,come p L=pl:=⟨_,rfl⟩;rw [hpl];have HPL:=Lib.hid hpl;clear hpl
      cases pl with
      | true =>
        have HE:Hid (putR L r=insQ R p L):=Lib.hid (by rw [HNO.out,insR_Q,if_pos HPL.out]);go_wp2_with fail
        go_ret
        obtain ⟨va,vc,hv,hT⟩:=HVL.out.tabC (fun t ht=>(HOKQ.out t ht).len) HO.out;simp only [Value.slice.injEq] at hv;obtain ⟨rfl,-,rfl⟩:=hv;exact ⟨oa,j,oc,rfl,by rw [HE.out];exact hT,hb⟩
      | false =>
        have HE:Hid (putR L r=insQ R p L++[R]):=Lib.hid (by rw [HNO.out,insR_Q,if_neg (by rw [HPL.out];simp)]);go_upto_region 15 with fail
        have hnews:∀q u,([Value.slice (some ⟨gN,0,none⟩) m m]:List Value)[q]? = some u→(wr.alloc (.cells #[.slice (some ⟨gN,0,none⟩) m m] 22)).cell? ((⟨wr.heap.size,0,none⟩:Addr).add q)=some u:=fun q u hu=>by
         rw [Addr.add_mid];exact (Own.new wr 22 #[.slice (some ⟨gN,0,none⟩) m m]).range q u hu
        have hone:∀u∈([Value.slice (some ⟨gN,0,none⟩) m m]:List Value),u.oneCell'=true:=(by simp [Value.oneCell']);have HN1:=Lib.hid hnews;have HO1:=Lib.hid hone;have hba:=bA1 wr (.cells #[.slice (some ⟨gN,0,none⟩) m m] 22);have HR2:=Lib.hid (row_keep HO.out hba);have HVL3:=Lib.hid (HVL.out.keep hba);have HGN3:=Lib.hid (HGN.out.keep hba HGN.out.lt);have hb3:=bT' hb hba hb.size;have hbs3:=hb.size;clear hnews hone hba HO HVL HGN hb
        go_wp2_with (refine wpList_append_own_wide _ rfl (.tmp 69) (.tmp 71) 64 rfl w.heap.size 22 ti tz 1 24 Tryz.underlying64 HI.out HZ.out HS.out HBt.out HZs.out (by omega) (.slice oa j oc) j vals rfl HR2.out ⟨wr.heap.size, 0, none⟩ 1 1 [Value.slice (some ⟨gN, 0, none⟩) m m] rfl rfl HN1.out HO1.out (by simp only [maxLen]; omega) (by omega) (by rw [sAl]; omega) (fun v' w' h2 h3 h4 => ?_)
                     obtain ⟨va,vc,rfl⟩:=row_slice h2;have hb4:=grown_below hb3 h3 (fun q e=>by have:=(HR2.out.lt q e).1;omega) hb3.size;have HVL4:=Lib.hid (HVL3.out.grown HR2.out h3);have HGN4:=Lib.hid (HGN3.out.grown h3 (own_ne_row HGN3.out HR2.out (by decide)));have HO4:=Lib.hid h2
                     clear h2 h3 h4 hb3 HVL3 HGN3 HR2 HN1 HO1 hbs3)
        go_wp2_with fail
        go_ret
        obtain ⟨ua,uc,hv,hT⟩:=(HVL4.out.snoc HGN4.out).tabC (fun t ht=>by
         rcases List.mem_append.1 ht with h1 | h1
         · exact (HOKQ.out t h1).len
         · obtain rfl:t=R:=by simpa using h1
           exact HRO.out.len) HO4.out
        simp only [Value.slice.injEq] at hv;obtain ⟨rfl,-,rfl⟩:=hv;exact ⟨va,j+1,vc,rfl,by rw [HE.out];exact hT,hb4⟩
 · have hat:=fstI_no HR1.out.len hf;have HAT:=Lib.hid hat;have HNO:Hid (putR L r=L):=Lib.hid (by rw [HPUT.out,if_neg (by rw [HR1.out.len];exact hf)]);have HI1:=Lib.hid hI;clear hat hI;go_wp2_with (go_at_call 69;refine (l03First_c c1 HI1.out (by omega)).mono ?_;rintro e w2 ⟨rfl,rfl⟩;rw [HAT.out])
   go_ret
   exact ⟨b,N,c2,rfl,by rw [HNO.out];exact HTC.out.keep hb,hb⟩
end Go.Proofs.YtfheammnkmjabaaGreat
