
import Derived.Test.YtifcfoijcodjbaaGreatHeld
import Derived.Test.YtifcfoijcodjbaaGreatMatM
import Derived.Test.YtifcfoijcodjbaaGreatTabOf
namespace Go.Proofs.YtifcfoijcodjbaaGreat
set_option maxRecDepth 100000
open Go.RowKit Go.Deep
def fstI (r:List Int):Int:=if fstN r<r.length then (fstN r:Int) else -1
theorem l03First_c {w : World} {a : Option Addr} {m : Nat} {r : List Int} (c : Nat) (h : Ints w a m r) (hm : m ≤ 1048576) :
    Calls Tryz.prog 112 #[.slice a m c] w fun e w'=>e=.returned (.int .i64 (fstI r))∧w=w':=by
 have HL:=Lib.hid h.len
 have HH:=Lib.hid h
 clear h
 go_enter Tryz.func112,Tryz.ntmps112
 go_upto_region 2 with fail
 go_loopw [3] (fun y wr=>∃k:Nat,k≤m∧y=.int .i64 k∧wr=w∧Hid (∀q,q<k→r.getD q 0=0)) (fun y _=>m - (intOf y).toNat)
 case atStart=>exact ⟨0,Nat.zero_le _,rfl,rfl,Lib.hid (fun q hq=>absurd hq (by omega))⟩
 case round=>
  obtain ⟨k,hk,rfl,rfl,HZ⟩:=hrel;have hk0:(0:Int)≤(k:Int):=(by omega);by_cases hkn:k<m
  · have hki:(k:Int)<(m:Int):=(by omega);obtain ⟨b,off,x,rfl,hbl,hc,hx⟩:=HH.out.at_ hkn;have HX:Hid (r.getD k 0=x):=Lib.hid (by rw [List.getD_eq_getElem?_getD,hx.out];rfl);by_cases hx0:x=0
    · subst hx0;go_wp2_with fail
      go_roundw
      case rel=>
       refine ⟨k+1,by omega,by go_num,by trivial,Lib.hid (fun q hq=>?_)⟩;by_cases e:q=k
       · rw [e];exact HX.out
       · exact HZ.out q (by omega)
      case measure=>simp [intOf] <;> omega
    · have hxb:(x != 0)=true:=by simpa using hx0
      have HF:Hid (fstI r=(k:Int)):=Lib.hid (by
       have e:=fstN_eq HZ.out (by rw [HX.out];exact hx0)
       rw [fstI,e,if_pos (by rw [HL.out];exact hkn)])
      go_wp2_with fail
      go_ret
      exact ⟨ret_i (by rw [HF.out]),rfl⟩
  · have he:k=m:=(by omega);subst he
    have HF:Hid (fstI r=-1):=Lib.hid (by
     rw [fstI,if_neg];intro hlt;have h2:=fstN_at hlt
     exact h2 (HZ.out _ (by rw [←HL.out];exact hlt)))
    go_wp2_with fail
    go_ret
    exact ⟨ret_i (by rw [HF.out]),rfl⟩
def lessTo (r o:List Int) (f:Int) (m k:Nat):List Int:=(lessR r o f).take k++List.replicate (m - k) 0
theorem lessTo_step {r o:List Int} {f a x:Int} {m k:Nat} (hr:r.length=m) (ho:o.length=m) (ha:r[k]? = some a) (hx:o[k]? = some x):(lessTo r o f m k).set k (num (a - f * x))=lessTo r o f m (k+1):=by
 have hk:k<m:=by rw [←hr];exact (List.getElem?_eq_some_iff.1 ha).1
 have hl:(lessR r o f).length=m:=(lessR_ok hr ho f).len
 have hlt:((lessR r o f).take k).length=k:=by rw [List.length_take];omega
 have hg:(lessR r o f)[k]'(by omega)=num (a - f * x):=by
  simp only [lessR,List.getElem_zipWith];rw [(List.getElem?_eq_some_iff.1 ha).2,(List.getElem?_eq_some_iff.1 hx).2]
 rw [lessTo,lessTo,List.set_append_right _ _ (by omega),hlt,Nat.sub_self,show m - k=(m - (k+1))+1 by omega,List.replicate_succ,List.set_cons_zero,List.take_succ_eq_append_getElem (by omega),hg,List.append_assoc]
 rfl
theorem lessTo_end {r o:List Int} {f:Int} {m:Nat} (hr:r.length=m) (ho:o.length=m):lessTo r o f m m=lessR r o f:=by
 rw [lessTo,Nat.sub_self,List.take_of_length_le (by rw [(lessR_ok hr ho f).len];exact Nat.le_refl _)]
 simp
theorem mul_in {f x:Int} (hf:-10006≤f∧f≤10006) (hx:0≤x∧x≤10006):-100120036≤f * x∧f * x≤100120036:=by
 have h1:f * x≤10006 * x:=Int.mul_le_mul_of_nonneg_right hf.2 hx.1
 have h2:-10006 * x≤f * x:=Int.mul_le_mul_of_nonneg_right hf.1 hx.1
 omega
set_option maxHeartbeats 1000000 in
theorem l03Less_c {w : World} {a b : Option Addr} {m : Nat} {r o : List Int} (c c2 : Nat) (f : Int) (h : Ints w a m r) (h2 : Ints w b m o) (hm : m ≤ 1000) (hr : ∀ x ∈ r, 0 ≤ x ∧ x ≤ 10006) (ho : ∀ x ∈ o, 0 ≤ x ∧ x ≤ 10006) (hf : -10006 ≤ f ∧ f ≤ 10006) :
    Calls Tryz.prog 126 #[.slice a m c,.slice b m c2,.int .i64 f] w fun e w'=>∃g,e=.returned (.slice (some ⟨g,0,none⟩) m m)∧w.heap.size≤g∧Own w' g 2 (ofI (lessR r o f))∧Below w.heap.size w w':=by
 have HL:=Lib.hid h.len
 have HL2:=Lib.hid h2.len
 have HR:=Lib.hid hr
 have HO:=Lib.hid ho
 have HH:=Lib.hid h
 have HH2:=Lib.hid h2
 have hmk:=run_make_row' (P:=Tryz.prog) 22 2 (.int .i64 0) 8 Tryz.underlying22 Tryz.info_int64 rfl .i64 .i64 m (by omega) (by omega)
 rw [show madeCells #[Value.int .i64 0] m=Array.replicate m (Value.int .i64 0) by (apply Array.ext';rw [toList_madeCells_one];simp)] at hmk
 have hmk1:=hmk w
 have hG0:Own (w.alloc (.cells (Array.replicate m (Value.int .i64 0)) 2)) w.heap.size 2 (ofI (lessTo r o f m 0)):=by
  rw [show lessTo r o f m 0=List.replicate m 0 by simp [lessTo],←ofI_rep];exact Own.new _ _ _
 have hb:=bA1 w (.cells (Array.replicate m (Value.int .i64 0)) 2)
 clear hmk h h2 hr ho
 go_enter Tryz.func126,Tryz.ntmps126
 go_upto_region 2 with fail
 clear hmk1
 generalize w.alloc (.cells (Array.replicate m (Value.int .i64 0)) 2)=w1 at *
 go_upto_region 3 with fail
 go_loopw [8] (fun y wr=>∃k:Nat,k≤m∧y=.int .i64 k∧Below w.heap.size w wr∧Own wr w.heap.size 2 (ofI (lessTo r o f m k))) (fun y _=>m - (intOf y).toNat)
 case atStart=>exact ⟨0,Nat.zero_le _,rfl,hb,hG0⟩
 case round=>
  clear hb hG0;obtain ⟨k,hk,rfl,hb,hG⟩:=hrel;have hk0:(0:Int)≤(k:Int):=(by omega);by_cases hkn:k<m
  · have hki:(k:Int)<(m:Int):=(by omega);obtain ⟨b1,o1,x,rfl,hbl1,hc1,hx⟩:=(HH.out.keep hb).at_ hkn;obtain ⟨b2,o2,y,rfl,hbl2,hc2,hy⟩:=(HH2.out.keep hb).at_ hkn;have hxb:=HR.out x (List.mem_of_getElem? hx.out);have hyb:=HO.out y (List.mem_of_getElem? hy.out);have hmm:=mul_in hf hyb;have e1:IntKind.i64.wrap (f * y)=f * y:=IntWalk.i64_in _ (by omega);have e2:IntKind.i64.wrap (x - f * y)=x - f * y:=IntWalk.i64_in _ (by omega);go_upto_region 5 with fail
    replace hG:Own wr.drew w.heap.size 2 (ofI (lessTo r o f m k)):=hG;replace hb:Below w.heap.size w wr.drew:=hb.drew;replace hc1:wr.drew.cell? ⟨b1,o1+k,none⟩=some (.int .i64 x):=hc1;replace hc2:wr.drew.cell? ⟨b2,o2+k,none⟩=some (.int .i64 y):=hc2;refine wp_region_held_drew (S:=(fun w'=>0≤w'.heap.size)) (by kernel_rfl) ?_ (fun _=>?_)
    · ((try dsimp only);(exact Nat.zero_le _))
    generalize wr.drew=W0d at *;refine hdT 0 ?_;refine hdT 1 ?_;refine hdT 2 ?_;refine hdT 3 ?_;refine hdT 4 ?_;refine hdT 6 ?_;refine hdT 7 ?_;refine hdT 8 ?_;refine hdT 9 ?_;refine wpAnyH_ready (rs:=[5,10]) (by kernel_rfl) (by simp) ?_;refine AllReadyH.cons (hdAt (i:=5) rfl) (fun K hK=>?_) (AllReadyH.cons (hdAt (i:=10) rfl) (fun K hK=>?_) AllReadyH.nil)
    · skip
      (go_simp;try go_wp2_with fail)
      refine hK.out _ _ ?_ (fun _=>?_)
      · ((try dsimp only);(exact Nat.zero_le _))
      clear hK K
      (try simp only [Act.put,pA,pB,pC])
      refine hdC 10 (fun K hK=>?_)
      (go_simp;try go_wp2_with fail)
      refine hK.out _ _ ?_ (fun _=>?_)
      · ((try dsimp only);(exact Nat.zero_le _))
      clear hK K
      (try simp only [Act.put,pA,pB,pC])
      refine hdT 11 ?_;refine hdT 12 ?_;refine hdC 13 (fun K hK=>?_)
      (go_simp;(go_at_call 165;(try rw [e1]);(try rw [e2]);refine (l01Mod_c (x - f * y) _ (by omega) (by omega)).mono ?_;rintro e w2 ⟨rfl,rfl⟩);go_wp2_with fail)
      refine hK.out _ _ ?_ (fun _=>?_)
      · ((try dsimp only);(exact Nat.zero_le _))
      clear hK K
      (try simp only [Act.put,pA,pB,pC])
      refine hdT 14 ?_;refine hdC 15 (fun K hK=>?_);obtain ⟨ov,hcS⟩:=hG.has (i:=k) (by have:=(lessR_ok HL.out HL2.out f).len;simp [ofI,lessTo];omega);have hfS:=hG.frozen k
      (go_simp;go_wp2_with fail)
      clear hcS hfS hc1 hc2;replace hb:=hb.setCell (p:=⟨w.heap.size,k,none⟩) (Nat.le_refl _) (.int .i64 (num (x - f * y)));replace hG:=hG.set k (.int .i64 (num (x - f * y)));generalize W0d.setCell ⟨w.heap.size,k,none⟩ (.int .i64 (num (x - f * y)))=W1 at *;refine hK.out _ _ ?_ (fun _=>?_)
      · ((try dsimp only);(exact Nat.zero_le _))
      clear hK K
      (try simp only [Act.put,pA,pB,pC])
      refine wpAnyH_done (by kernel_rfl) ?_ _;rw [ofI_set,lessTo_step HL.out HL2.out hx.out hy.out] at hG;go_wp2_with fail
      go_roundw
      case rel=>exact ⟨k+1,by omega,by go_num,hb,hG⟩
      case measure=>simp [intOf] <;> omega
    · skip
      (go_simp;try go_wp2_with fail)
      refine hK.out _ _ ?_ (fun _=>?_)
      · ((try dsimp only);(exact Nat.zero_le _))
      clear hK K
      (try simp only [Act.put,pA,pB,pC])
      refine hdT 11 ?_;refine hdC 5 (fun K hK=>?_)
      (go_simp;try go_wp2_with fail)
      refine hK.out _ _ ?_ (fun _=>?_)
      · ((try dsimp only);(exact Nat.zero_le _))
      clear hK K
      (try simp only [Act.put,pA,pB,pC])
      refine hdT 12 ?_;refine hdC 13 (fun K hK=>?_)
      (go_simp;(go_at_call 165;(try rw [e1]);(try rw [e2]);refine (l01Mod_c (x - f * y) _ (by omega) (by omega)).mono ?_;rintro e w2 ⟨rfl,rfl⟩);go_wp2_with fail)
      refine hK.out _ _ ?_ (fun _=>?_)
      · ((try dsimp only);(exact Nat.zero_le _))
      clear hK K
      (try simp only [Act.put,pA,pB,pC])
      refine hdT 14 ?_;refine hdC 15 (fun K hK=>?_);obtain ⟨ov,hcS⟩:=hG.has (i:=k) (by have:=(lessR_ok HL.out HL2.out f).len;simp [ofI,lessTo];omega);have hfS:=hG.frozen k
      (go_simp;go_wp2_with fail)
      clear hcS hfS hc1 hc2;replace hb:=hb.setCell (p:=⟨w.heap.size,k,none⟩) (Nat.le_refl _) (.int .i64 (num (x - f * y)));replace hG:=hG.set k (.int .i64 (num (x - f * y)));generalize W0d.setCell ⟨w.heap.size,k,none⟩ (.int .i64 (num (x - f * y)))=W2 at *;refine hK.out _ _ ?_ (fun _=>?_)
      · ((try dsimp only);(exact Nat.zero_le _))
      clear hK K
      (try simp only [Act.put,pA,pB,pC])
      refine wpAnyH_done (by kernel_rfl) ?_ _;rw [ofI_set,lessTo_step HL.out HL2.out hx.out hy.out] at hG;go_wp2_with fail
      go_roundw
      case rel=>exact ⟨k+1,by omega,by go_num,hb,hG⟩
      case measure=>simp [intOf] <;> omega
  · have he:k=m:=(by omega);subst he;go_wp2_with fail
    go_ret
    rw [lessTo_end HL.out HL2.out] at hG;exact ⟨_,rfl,Nat.le_refl _,hG,hb⟩
theorem fstI_lt {m:Nat} {r:List Int} (h:r.length=m) (hf:fstN r<m):fstI r=(fstN r:Int):=by rw [fstI,if_pos (by omega)]
theorem fstI_no {m:Nat} {r:List Int} (h:r.length=m) (hf:¬fstN r<m):fstI r=-1:=by rw [fstI,if_neg (by omega)]
theorem rdrop {α:Type} {L:List α} {k:Nat} {s:α} (h:L[k]? = some s):L.drop k=s::L.drop (k+1):=by
 obtain ⟨hk,rfl⟩:=List.getElem?_eq_some_iff.1 h
 exact List.drop_eq_getElem_cons hk
set_option maxHeartbeats 1000000 in
theorem l03By_c {w : World} {a b : Option Addr} {m N : Nat} {r : List Int} {L : List (List Int)} (c c2 : Nat) (h : Ints w a m r) (hT : Tab w b N L) (hm : m ≤ 1000) (hN : N ≤ 1000) (hr : RowOk m r) (hL : ∀ s ∈ L, RowOk m s ∧ fstN s < m) :
    Calls Tryz.prog 107 #[.slice a m c,.slice b N c2] w fun e w'=>∃a' c',e=.returned (.slice a' m c')∧Ints w' a' m (byR r L)∧Below w.heap.size w w':=by
 have HT:=Lib.hid hT
 have HLn:=Lib.hid hT.1
 have HL:=Lib.hid hL
 have HR0:Hid (RowOk m r∧byR r L=byR r (L.drop 0)):=Lib.hid ⟨hr,by rw [List.drop_zero]⟩
 obtain ⟨Y,hY⟩:∃Y,byR r L=Y:=⟨_,rfl⟩
 rw [hY] at HR0 ⊢
 clear hT hL hr hY
 go_enter Tryz.func107,Tryz.ntmps107
 go_upto_region 2 with fail
 go_loopw [5,0] (fun y z wr=>∃(k:Nat) (ra:Option Addr) (rc:Nat) (r1:List Int),k≤N∧y=.int .i64 k∧z=.slice ra m rc∧Below w.heap.size w wr∧Ints wr ra m r1∧Hid (RowOk m r1∧Y=byR r1 (L.drop k))) (fun y _ _=>N - (intOf y).toNat)
 case atStart=>exact ⟨0,a,c,r,Nat.zero_le _,rfl,rfl,Below.refl _ _,h,HR0⟩
 case round=>
  clear h HR0;obtain ⟨k,ra,rc,r1,hk,rfl,rfl,hb,hI,HR⟩:=hrel;have hk0:(0:Int)≤(k:Int):=(by omega);by_cases hkn:k<N
  · have hki:(k:Int)<(N:Int):=(by omega);obtain ⟨b1,off,s,ai,mi,ci,rfl,hbl,hcs,hIs,hx⟩:=(HT.out.keep hb).at_ hkn;have hs:=HL.out s (List.mem_of_getElem? hx.out);obtain rfl:mi=m:=(by have:=hIs.len;have:=hs.1.len;omega);have hfs:=fstI_lt hs.1.len hs.2;obtain ⟨p,hp⟩:∃p,fstN s=p:=⟨_,rfl⟩;have hpm:p<mi:=(by rw [←hp];exact hs.2);rw [hp] at hfs;obtain ⟨b2,o2,x,rfl,hbl2,hcx,hxx⟩:=hI.at_ hpm;have hgx:r1.getD p 0=x:=by rw [List.getD_eq_getElem?_getD,hxx.out];rfl
    have HST:Hid (Y=byR (if x=0 then r1 else lessR r1 s x) (L.drop (k+1))):=Lib.hid (by
     rw [HR.out.2,rdrop hx.out,byR,hp,hgx])
    have hxb:=HR.out.1.at_ p;rw [hgx] at hxb;have HFS:=Lib.hid hfs;have HS:=Lib.hid hs.1;have HIS:=Lib.hid hIs;have hp0:(0:Int)≤(p:Int):=(by omega);have hpi:(p:Int)<(mi:Int):=(by omega);clear hs hfs hp hgx hIs;by_cases hx0:x=0
    · subst hx0;go_wp2_with (go_at_call 112;refine (l03First_c ci HIS.out (by omega)).mono ?_;rintro e w2 ⟨rfl,rfl⟩;rw [HFS.out])
      go_roundw
      case rel=>exact ⟨k+1,_,rc,r1,by omega,by go_num,rfl,hb,hI,Lib.hid ⟨HR.out.1,by have:=HST.out;simpa using this⟩⟩
      case measure=>simp [intOf] <;> omega
    · have hxn:(x != 0)=true:=(by simpa using hx0);go_upto_region 6 with (go_at_call 112;refine (l03First_c ci HIS.out (by omega)).mono ?_;rintro e w2 ⟨rfl,rfl⟩;rw [HFS.out])
      have HI:=Lib.hid hI;clear hI;have hI:Ints wr.drew (some ⟨b2,o2,none⟩) mi r1:=HI.out;have hIs:Ints wr.drew ai mi s:=HIS.out;replace hb:Below w.heap.size w wr.drew:=hb.drew;replace hcs:wr.drew.cell? ⟨b1,off+k,none⟩=some (.slice ai mi ci):=hcs;replace hcx:wr.drew.cell? ⟨b2,o2+p,none⟩=some (.int .i64 x):=hcx;replace hbl:b1<wr.drew.heap.size:=hbl;replace hbl2:b2<wr.drew.heap.size:=hbl2;clear HI HIS;refine wp_region_held_drew (S:=(fun w'=>w'.cell? ⟨b1,off+k,none⟩=some (.slice ai mi ci)∧w'.cell? ⟨b2,o2+p,none⟩=some (.int .i64 x))) (by kernel_rfl) ?_ (fun _=>?_)
      · ((try dsimp only);(exact ⟨hcs,hcx⟩))
      generalize wr.drew=W0d at *;refine hdT 0 ?_;refine hdT 1 ?_;refine hdT 2 ?_;refine hdT 3 ?_;refine hdT 4 ?_;refine hdT 5 ?_;refine hdT 6 ?_;refine hdT 7 ?_;refine hdT 8 ?_;refine hdC 9 (fun K hK=>?_)
      (go_simp;(go_at_call 126;refine (l03Less_c rc ci x hI hIs (by omega) HR.out.1.bd HS.out.bd (by omega)).mono ?_;rintro e W1 ⟨gN,rfl,hgN,hG,hbX⟩);go_wp2_with fail)
      replace hcs:=(hbX.cell (p:=⟨b1,off+k,none⟩) hbl).trans hcs;replace hcx:=(hbX.cell (p:=⟨b2,o2+p,none⟩) hbl2).trans hcx;replace hb:=bT' hb hbX hb.size;clear hI hIs hgN hbX;refine hK.out _ _ ?_ (fun _=>?_)
      · ((try dsimp only);(exact ⟨hcs,hcx⟩))
      clear hK K
      (try simp only [Act.put,pA,pB,pC])
      (refine hdTake (i:=10) (v:=?_) rfl (by kernel_rfl) (by kernel_rfl) (by kernel_rfl) (fun _ _ _ h=>h) (by rfl) ?_ (by assumption) ?_;rotate_left;(intro w hSw;(try dsimp only at hSw);go_simp;(try with_reducible rfl));(try simp only [Act.put,List.setIfInBounds_toArray,List.set_cons_zero]))
      refine wpAnyH_done (by kernel_rfl) ?_ _;go_wp2_with fail
      go_roundw
      case rel=>exact ⟨k+1,_,mi,lessR r1 s x,by omega,by go_num,rfl,hb,ints_of_own hG (lessR_ok HR.out.1.len HS.out.len x).len,Lib.hid ⟨lessR_ok HR.out.1.len HS.out.len x,by have:=HST.out;rwa [if_neg hx0] at this⟩⟩
      case measure=>simp [intOf] <;> omega
  · have he:k=N:=(by omega);subst he;go_wp2_with fail
    go_ret
    refine ⟨ra,rc,rfl,?_,hb⟩;rw [HR.out.2,List.drop_of_length_le (Nat.le_of_eq HLn.out)];exact hI
def VL (w:World) (m:Nat) (vals:List Value) (R:List (List Int)):Prop:=vals.length=R.length∧∀(q:Nat) t,R[q]? = some t→∃g,vals[q]? = some (.slice (some ⟨g,0,none⟩) m m)∧Own w g 2 (ofI t)
theorem VL.keep {w w':World} {m:Nat} {vals:List Value} {R:List (List Int)} (h:VL w m vals R) (hb:Below w.heap.size w w'):VL w' m vals R:=
 ⟨h.1,fun q t ht=>by obtain ⟨g,h1,h2⟩:=h.2 q t ht;exact ⟨g,h1,h2.keep hb h2.lt⟩⟩
theorem VL.grown {w w':World} {m B n:Nat} {vals xs:List Value} {v:Value} {R:List (List Int)} (h:VL w m vals R) (ho:w.ownsRow B 22 1 v n xs) (hg:w.grownBy w' v.ownBlock):VL w' m vals R:=
 ⟨h.1,fun q t ht=>by obtain ⟨g,h1,h2⟩:=h.2 q t ht;exact ⟨g,h1,h2.grown hg (own_ne_row h2 ho (by decide))⟩⟩
theorem VL.snoc {w:World} {m g:Nat} {vals:List Value} {R:List (List Int)} {t:List Int} (h:VL w m vals R) (hg:Own w g 2 (ofI t)):VL w m (vals++[.slice (some ⟨g,0,none⟩) m m]) (R++[t]):=
 ⟨by simp [h.1],fun q u hu=>by
  by_cases e:q<R.length
  · rw [List.getElem?_append_left e] at hu;obtain ⟨g1,h1,h2⟩:=h.2 q u hu;exact ⟨g1,by rw [List.getElem?_append_left (by rw [h.1];exact e),h1],h2⟩
  · rw [List.getElem?_append_right (by omega)] at hu;obtain ⟨h3,h4⟩:=List.getElem?_eq_some_iff.1 hu;simp at h3 h4
    subst h4
    exact ⟨g,by rw [List.getElem?_append_right (by rw [h.1];omega),h.1,h3];rfl,hg⟩⟩
theorem VL.tab {w:World} {m B n:Nat} {vals:List Value} {v:Value} {R:List (List Int)} (h:VL w m vals R) (hr:∀t∈R,t.length=m) (ho:w.ownsRow B 22 1 v n vals):∃a c,v=.slice a n c∧Tab w a n R:=by
 have hl:vals.length=n:=by have:=ho.1;omega
 have hc:=fun g=>World.ownsRow.cells (g:=g) ho
 obtain ⟨hl1,h1⟩:=ho
 rcases h1 with ⟨hv,h0⟩ | ⟨g,cap,cur,hv,hb,hg,hn,_,hs,h5⟩
 · have h00:n=0:=(by simpa using h0);subst h00;exact ⟨none,0,hv,by have:=h.1;omega,fun hh=>absurd hh (by omega)⟩
 · refine ⟨some ⟨g,0,none⟩,cap,hv,by have:=h.1;omega,fun hn0=>⟨g,0,rfl,(Array.getElem?_eq_some_iff.1 hg).1,fun i t ht=>?_⟩⟩;obtain ⟨gi,h6,h7⟩:=h.2 i t ht;refine ⟨some ⟨gi,0,none⟩,m,?_,?_⟩
   · rw [hr t (List.mem_of_getElem? ht),Nat.zero_add];have e:=hc g (by rw [hv];rfl) i _ h6
     rwa [Addr.add_mid,Nat.zero_add] at e
   · exact ints_of_own h7 rfl
def TabC (w:World) (a:Option Addr) (n:Nat) (T:List (List Int)):Prop:=Tab w a n T∧∀b off,a=some ⟨b,off,none⟩→b<w.heap.size→∀(i:Nat) r,T[i]? = some r→∃ai ci,w.cell? ⟨b,off+i,none⟩=some (.slice ai r.length ci)∧r.length≤ci
theorem TabC.keep {w w':World} {a:Option Addr} {n:Nat} {T:List (List Int)} (h:TabC w a n T) (hb:Below w.heap.size w w'):TabC w' a n T:=⟨h.1.keep hb,fun b off ha _ i r hi=>by
 have hn:0<n:=by have:=h.1.1;have:=(List.getElem?_eq_some_iff.1 hi).1;omega
 obtain ⟨b',off',e,hbl,-⟩:=h.1.2 hn
 have e2:=ha.symm.trans e
 injection e2 with e2
 injection e2 with e3 e4
 subst e3 e4
 obtain ⟨ai,ci,h1,h2⟩:=h.2 b off ha hbl i r hi
 exact ⟨ai,ci,(World.cell?_of_block (a:=⟨b,off+i,none⟩) (hb.block b hbl)).trans h1,h2⟩⟩
theorem TabC.at_ {w : World} {a : Option Addr} {n : Nat} {T : List (List Int)} (h : TabC w a n T) {k : Nat} (hk : k < n) :
    ∃b off r ai mi ci,a=some ⟨b,off,none⟩∧b<w.heap.size∧w.cell? ⟨b,off+k,none⟩=some (.slice ai mi ci)∧Ints w ai mi r∧Hid (T[k]? = some r)∧mi≤ci:=by
 obtain ⟨b,off,r,ai,mi,ci,ha,hbl,h1,h2,h3⟩:=h.1.at_ hk
 obtain ⟨ai',ci',h4,h5⟩:=h.2 b off ha hbl k r h3.out
 rw [h1] at h4
 simp only [Option.some.injEq,Value.slice.injEq] at h4
 obtain ⟨rfl,rfl,rfl⟩:=h4
 exact ⟨b,off,r,ai,_,ci,ha,hbl,h1,h2,h3,h5⟩
theorem TabC.none_ (w:World) (a:Option Addr):TabC w a 0 []:=⟨⟨rfl,fun h=>absurd h (by omega)⟩,fun _ _ _ _ _ _ h=>by simp at h⟩
theorem VL.tabC {w:World} {m B n:Nat} {vals:List Value} {v:Value} {R:List (List Int)} (h:VL w m vals R) (hr:∀t∈R,t.length=m) (ho:w.ownsRow B 22 1 v n vals):∃a c,v=.slice a n c∧TabC w a n R:=by
 obtain ⟨a,c,hv,hT⟩:=h.tab hr ho
 refine ⟨a,c,hv,hT,fun b off ha _ i t hi=>?_⟩
 obtain ⟨g,hg,-⟩:=h.2 i t hi
 have hc:=World.ownsRow.cells (g:=b) ho (by rw [hv,ha];rfl) i _ hg
 rw [Addr.add_mid] at hc
 have h0:off=0:=by
  rcases ho.2 with ⟨h0,_⟩ | ⟨g',cap,cur,h0,_⟩
  · rw [hv,ha] at h0;simp at h0
  · rw [hv,ha] at h0;simp only [Value.slice.injEq,Option.some.injEq,Addr.mk.injEq] at h0;exact h0.1.2.1
 have hl:=hr t (List.mem_of_getElem? hi)
 exact ⟨_,m,by rw [h0,hl];exact hc,by omega⟩
end Go.Proofs.YtifcfoijcodjbaaGreat
