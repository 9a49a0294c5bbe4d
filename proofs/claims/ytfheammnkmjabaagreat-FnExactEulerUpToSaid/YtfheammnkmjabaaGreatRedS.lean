
import Derived.Test.YtfheammnkmjabaaGreatAddM
import Derived.Test.YtfheammnkmjabaaGreatMatM
namespace Go.Proofs.YtfheammnkmjabaaGreat
set_option maxRecDepth 100000
open Go.RowKit Go.Deep
def fstI (r:List Int):Int:=if fstN r<r.length then (fstN r:Int) else -1
theorem l03First_c {w : World} {a : Option Addr} {m : Nat} {r : List Int} (c : Nat) (h : Ints w a m r) (hm : m ≤ 1048576) :
    Calls Tryz.prog 69 #[.slice a m c] w fun e w'=>e=.returned (.int .i64 (fstI r))∧w=w':=by
 have HL:=Lib.hid h.len
 have HH:=Lib.hid h
 clear h
 go_enter Tryz.func69,Tryz.ntmps69
 go_upto_region 2 with fail
 go_loopw [3] (fun y wr=>∃k:Nat,k≤m∧y=.int .i64 k∧wr=w∧Hid (∀q,q<k→r.getD q 0=0)) (fun y _=>m - (intOf y).toNat)
 case atStart=>exact ⟨0,Nat.zero_le _,rfl,rfl,Lib.hid (fun q hq=>absurd hq (by omega))⟩
 case round=>
  obtain ⟨k,hk,rfl,rfl,HZ⟩:=hrel;have hk0:(0:Int)≤(k:Int):=(by omega);by_cases hkn:k<m
  · have hki:(k:Int)<(m:Int):=(by omega);obtain ⟨b,off,x,rfl,hbl,hc,hx⟩:=HH.out.at_ hkn;have HX:Hid (r.getD k 0=x):=Lib.hid (by rw [List.getD_eq_getElem?_getD,hx.out];rfl);by_cases hx0:x=0
    · subst hx0;go_wp2_with fail
      go_roundw
      case rel=>
       refine ⟨k+1,by omega,by go_num,by trivial,Lib.hid (fun q hq=>?_)⟩;by_cases e:q=k
       · rw [e];exact HX.out
       · exact HZ.out q (by omega)
      case measure=>simp [intOf] <;> omega
    · have hxb:(x != 0)=true:=by simpa using hx0
      have HF:Hid (fstI r=(k:Int)):=Lib.hid (by
       have e:=fstN_eq HZ.out (by rw [HX.out];exact hx0)
       rw [fstI,e,if_pos (by rw [HL.out];exact hkn)])
      go_wp2_with fail
      go_ret
      exact ⟨ret_i (by rw [HF.out]),rfl⟩
  · have he:k=m:=(by omega);subst he
    have HF:Hid (fstI r=-1):=Lib.hid (by
     rw [fstI,if_neg];intro hlt;have h2:=fstN_at hlt
     exact h2 (HZ.out _ (by rw [←HL.out];exact hlt)))
    go_wp2_with fail
    go_ret
    exact ⟨ret_i (by rw [HF.out]),rfl⟩
def lessTo (r o:List Int) (f:Int) (m k:Nat):List Int:=(lessR r o f).take k++List.replicate (m - k) 0
theorem lessTo_step {r o:List Int} {f a x:Int} {m k:Nat} (hr:r.length=m) (ho:o.length=m) (ha:r[k]? = some a) (hx:o[k]? = some x):(lessTo r o f m k).set k (num (a - f * x))=lessTo r o f m (k+1):=by
 have hk:k<m:=by rw [←hr];exact (List.getElem?_eq_some_iff.1 ha).1
 have hl:(lessR r o f).length=m:=(lessR_ok hr ho f).len
 have hlt:((lessR r o f).take k).length=k:=by rw [List.length_take];omega
 have hg:(lessR r o f)[k]'(by omega)=num (a - f * x):=by
  simp only [lessR,List.getElem_zipWith];rw [(List.getElem?_eq_some_iff.1 ha).2,(List.getElem?_eq_some_iff.1 hx).2]
 rw [lessTo,lessTo,List.set_append_right _ _ (by omega),hlt,Nat.sub_self,show m - k=(m - (k+1))+1 by omega,List.replicate_succ,List.set_cons_zero,List.take_succ_eq_append_getElem (by omega),hg,List.append_assoc]
 rfl
theorem lessTo_end {r o:List Int} {f:Int} {m:Nat} (hr:r.length=m) (ho:o.length=m):lessTo r o f m m=lessR r o f:=by
 rw [lessTo,Nat.sub_self,List.take_of_length_le (by rw [(lessR_ok hr ho f).len];exact Nat.le_refl _)]
 simp
theorem mul_in {f x:Int} (hf:-10006≤f∧f≤10006) (hx:0≤x∧x≤10006):-100120036≤f * x∧f * x≤100120036:=by
 have h1:f * x≤10006 * x:=Int.mul_le_mul_of_nonneg_right hf.2 hx.1
 have h2:-10006 * x≤f * x:=Int.mul_le_mul_of_nonneg_right hf.1 hx.1
 omega
set_option maxHeartbeats 1000000 in
theorem l03Less_c {w : World} {a b : Option Addr} {m : Nat} {r o : List Int} (c c2 : Nat) (f : Int) (h : Ints w a m r) (h2 : Ints w b m o) (hm : m ≤ 1000) (hr : ∀ x ∈ r, 0 ≤ x ∧ x ≤ 10006) (ho : ∀ x ∈ o, 0 ≤ x ∧ x ≤ 10006) (hf : -10006 ≤ f ∧ f ≤ 10006) :
    Calls Tryz.prog 70 #[.slice a m c,.slice b m c2,.int .i64 f] w fun e w'=>∃g,e=.returned (.slice (some ⟨g,0,none⟩) m m)∧w.heap.size≤g∧Own w' g 2 (ofI (lessR r o f))∧Below w.heap.size w w':=by
 have HL:=Lib.hid h.len
 have HL2:=Lib.hid h2.len
 have HR:=Lib.hid hr
 have HO:=Lib.hid ho
 have HH:=Lib.hid h
 have HH2:=Lib.hid h2
 have hmk:=run_make_row' (P:=Tryz.prog) 22 2 (.int .i64 0) 8 Tryz.underlying22 Tryz.info_int64 rfl .i64 .i64 m (by omega) (by omega)
 rw [show madeCells #[Value.int .i64 0] m=Array.replicate m (Value.int .i64 0) by (apply Array.ext';rw [toList_madeCells_one];simp)] at hmk
 have hmk1:=hmk w
 have hG0:Own (w.alloc (.cells (Array.replicate m (Value.int .i64 0)) 2)) w.heap.size 2 (ofI (lessTo r o f m 0)):=by
  rw [show lessTo r o f m 0=List.replicate m 0 by simp [lessTo],←ofI_rep];exact Own.new _ _ _
 have hb:=bA1 w (.cells (Array.replicate m (Value.int .i64 0)) 2)
 clear hmk h h2 hr ho
 go_enter Tryz.func70,Tryz.ntmps70
 go_upto_region 2 with fail
 clear hmk1
 generalize w.alloc (.cells (Array.replicate m (Value.int .i64 0)) 2)=w1 at *
 go_upto_region 3 with fail
 go_loopw [8] (fun y wr=>∃k:Nat,k≤m∧y=.int .i64 k∧Below w.heap.size w wr∧Own wr w.heap.size 2 (ofI (lessTo r o f m k))) (fun y _=>m - (intOf y).toNat)
 case atStart=>exact ⟨0,Nat.zero_le _,rfl,hb,hG0⟩
 case round=>
  clear hb hG0;obtain ⟨k,hk,rfl,hb,hG⟩:=hrel;have hk0:(0:Int)≤(k:Int):=(by omega);by_cases hkn:k<m
  · have hki:(k:Int)<(m:Int):=(by omega);obtain ⟨b1,o1,x,rfl,hbl1,hc1,hx⟩:=(HH.out.keep hb).at_ hkn;obtain ⟨b2,o2,y,rfl,hbl2,hc2,hy⟩:=(HH2.out.keep hb).at_ hkn;have hxb:=HR.out x (List.mem_of_getElem? hx.out);have hyb:=HO.out y (List.mem_of_getElem? hy.out);have hmm:=mul_in hf hyb;have e1:IntKind.i64.wrap (f * y)=f * y:=IntWalk.i64_in _ (by omega);have e2:IntKind.i64.wrap (x - f * y)=x - f * y:=IntWalk.i64_in _ (by omega);go_upto_region 5 with fail
    replace hG:Own wr.drew w.heap.size 2 (ofI (lessTo r o f m k)):=hG;replace hb:Below w.heap.size w wr.drew:=hb.drew;replace hc1:wr.drew.cell? ⟨b1,o1+k,none⟩=some (.int .i64 x):=hc1;replace hc2:wr.drew.cell? ⟨b2,o2+k,none⟩=some (.int .i64 y):=hc2;refine wp_region_held_drew (S:=(fun w'=>0≤w'.heap.size)) (by kernel_rfl) ?_ (fun _=>?_)
    · ((try dsimp only);(exact Nat.zero_le _))
    generalize wr.drew=W0d at *;refine hdT 0 ?_;refine hdT 1 ?_;refine hdT 2 ?_;refine hdT 3 ?_;refine hdT 4 ?_;refine hdT 6 ?_;refine hdT 7 ?_;refine hdT 8 ?_;refine hdT 9 ?_;refine wpAnyH_ready (rs:=[5,10]) (by kernel_rfl) (by simp) ?_;refine AllReadyH.cons (hdAt (i:=5) rfl) (fun K hK=>?_) (AllReadyH.cons (hdAt (i:=10) rfl) (fun K hK=>?_) AllReadyH.nil)
    · skip
      (go_simp;try go_wp2_with fail)
      refine hK.out _ _ ?_ (fun _=>?_)
      · ((try dsimp only);(exact Nat.zero_le _))
      clear hK K
      (try simp only [Act.put,pA,pB,pC])
      refine hdC 10 (fun K hK=>?_)
      (go_simp;try go_wp2_with fail)
      refine hK.out _ _ ?_ (fun _=>?_)
      · ((try dsimp only);(exact Nat.zero_le _))
      clear hK K
      (try simp only [Act.put,pA,pB,pC])
      refine hdT 11 ?_;refine hdT 12 ?_;refine hdC 13 (fun K hK=>?_)
      (go_simp;(go_at_call 67;(try rw [e1]);(try rw [e2]);refine (l01Mod_c (x - f * y) _ (by omega) (by omega)).mono ?_;rintro e w2 ⟨rfl,rfl⟩);go_wp2_with fail)
      refine hK.out _ _ ?_ (fun _=>?_)
      · ((try dsimp only);(exact Nat.zero_le _))
      clear hK K
      (try simp only [Act.put,pA,pB,pC])
      refine hdT 14 ?_;refine hdC 15 (fun K hK=>?_);obtain ⟨ov,hcS⟩:=hG.has (i:=k) (by have:=(lessR_ok HL.out HL2.out f).len;simp [ofI,lessTo];omega);have hfS:=hG.frozen k
      (go_simp;go_wp2_with fail)
      clear hcS hfS hc1 hc2;replace hb:=hb.setCell (p:=⟨w.heap.size,k,none⟩) (Nat.le_refl _) (.int .i64 (num (x - f * y)));replace hG:=hG.set k (.int .i64 (num (x - f * y)));generalize W0d.setCell ⟨w.heap.size,k,none⟩ (.int .i64 (num (x - f * y)))=W1 at *;refine hK.out _ _ ?_ (fun _=>?_)
      · ((try dsimp only);(exact Nat.zero_le _))
      clear hK K
      (try simp only [Act.put,pA,pB,pC])
      refine wpAnyH_done (by kernel_rfl) ?_ _;rw [ofI_set,lessTo_step HL.out HL2.out hx.out hy.out] at hG;go_wp2_with fail
      go_roundw
      case rel=>exact ⟨k+1,by omega,by go_num,hb,hG⟩
      case measure=>simp [intOf] <;> omega
    · skip
      (go_simp;try go_wp2_with fail)
      refine hK.out _ _ ?_ (fun _=>?_)
      · ((try dsimp only);(exact Nat.zero_le _))
      clear hK K
      (try simp only [Act.put,pA,pB,pC])
      refine hdT 11 ?_;refine hdC 5 (fun K hK=>?_)
      (go_simp;try go_wp2_with fail)
      refine hK.out _ _ ?_ (fun _=>?_)
      · ((try dsimp only);(exact Nat.zero_le _))
      clear hK K
      (try simp only [Act.put,pA,pB,pC])
      refine hdT 12 ?_;refine hdC 13 (fun K hK=>?_)
      (go_simp;(go_at_call 67;(try rw [e1]);(try rw [e2]);refine (l01Mod_c (x - f * y) _ (by omega) (by omega)).mono ?_;rintro e w2 ⟨rfl,rfl⟩);go_wp2_with fail)
      refine hK.out _ _ ?_ (fun _=>?_)
      · ((try dsimp only);(exact Nat.zero_le _))
      clear hK K
      (try simp only [Act.put,pA,pB,pC])
      refine hdT 14 ?_;refine hdC 15 (fun K hK=>?_);obtain ⟨ov,hcS⟩:=hG.has (i:=k) (by have:=(lessR_ok HL.out HL2.out f).len;simp [ofI,lessTo];omega);have hfS:=hG.frozen k
      (go_simp;go_wp2_with fail)
      clear hcS hfS hc1 hc2;replace hb:=hb.setCell (p:=⟨w.heap.size,k,none⟩) (Nat.le_refl _) (.int .i64 (num (x - f * y)));replace hG:=hG.set k (.int .i64 (num (x - f * y)));generalize W0d.setCell ⟨w.heap.size,k,none⟩ (.int .i64 (num (x - f * y)))=W2 at *;refine hK.out _ _ ?_ (fun _=>?_)
      · ((try dsimp only);(exact Nat.zero_le _))
      clear hK K
      (try simp only [Act.put,pA,pB,pC])
      refine wpAnyH_done (by kernel_rfl) ?_ _;rw [ofI_set,lessTo_step HL.out HL2.out hx.out hy.out] at hG;go_wp2_with fail
      go_roundw
      case rel=>exact ⟨k+1,by omega,by go_num,hb,hG⟩
      case measure=>simp [intOf] <;> omega
  · have he:k=m:=(by omega);subst he;go_wp2_with fail
    go_ret
    rw [lessTo_end HL.out HL2.out] at hG;exact ⟨_,rfl,Nat.le_refl _,hG,hb⟩
end Go.Proofs.YtfheammnkmjabaaGreat
