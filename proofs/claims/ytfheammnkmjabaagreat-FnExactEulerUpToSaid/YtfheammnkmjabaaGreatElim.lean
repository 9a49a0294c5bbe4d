
import Derived.Test.YtfheammnkmjabaaGreatAddM
import Derived.Test.YtfheammnkmjabaaGreatMatQ
namespace Go.Proofs.YtfheammnkmjabaaGreat
set_option maxRecDepth 100000
open Go.RowKit Go.Deep
theorem times3_c (x y:Int) (w:World) (m1:0≤x * y) (m2:x * y≤100120036):Calls Tryz.prog 98 #[.int .i64 x,.int .i64 y] w fun e w'=>e=.returned (.int .i64 (num (x * y)))∧w=w':=by
 go_enter Tryz.func98,Tryz.ntmps98
 go_wp2
 go_ret
 exact ⟨ret_i (by first | rfl | (rw [num,Int.tmod_eq_emod_of_nonneg m1])),rfl⟩
theorem plus3_c (x y:Int) (w:World) (hx:0≤x∧x≤10006) (hy:0≤y∧y≤10006):Calls Tryz.prog 100 #[.int .i64 x,.int .i64 y] w fun e w'=>e=.returned (.int .i64 (num (x+y)))∧w=w':=by
 have m1:0≤x+y:=by omega
 have m2:x+y≤20012:=by omega
 go_enter Tryz.func100,Tryz.ntmps100
 go_wp2
 go_ret
 exact ⟨ret_i (by first | rfl | (rw [num,Int.tmod_eq_emod_of_nonneg m1])),rfl⟩
theorem opposite3_c (x:Int) (w:World) (hx:0≤x∧x≤10006):Calls Tryz.prog 87 #[.int .i64 x] w fun e w'=>e=.returned (.int .i64 (num (-x)))∧w=w':=by
 have m1:0≤10007 - x:=by omega
 have m2:10007 - x≤10007:=by omega
 have e1:(10007 - x) % 10007=num (-x):=by unfold num;omega
 go_enter Tryz.func87,Tryz.ntmps87
 go_wp2
 go_ret
 exact ⟨ret_i (by first | exact e1 | (rw [Int.tmod_eq_emod_of_nonneg m1];exact e1)),rfl⟩
theorem inverse3_c (x:Int) (w:World) (h1:1≤x) (h2:x≤10006):Calls Tryz.prog 85 #[.int .i64 x] w fun e w'=>e=.returned (.int .i64 (invOf x))∧w=w':=by
 go_enter Tryz.func85,Tryz.ntmps85
 go_wp2_with fail
 refine (power_c x w h1 h2).mono ?_
 rintro e w' ⟨rfl,rfl⟩
 go_wp2_with fail
 go_ret
 exact ⟨ret_i (by rw [invOf,if_pos ⟨h1,h2⟩]),rfl⟩
def mapTo (f:Int→Int) (R:List Int) (k:Nat):List Int:=(R.take k).map f++R.drop k
theorem mapTo_len (f:Int→Int) (R:List Int) (k:Nat):(mapTo f R k).length=R.length:=by simp [mapTo];omega
theorem mapTo_get {f:Int→Int} {R:List Int} {k j:Nat} (h:k≤j):(mapTo f R k)[j]? = R[j]? := by
 rw [mapTo]
 by_cases hk:k≤R.length
 · rw [List.getElem?_append_right (by simp;omega),List.getElem?_drop];congr 1
   simp
   omega
 · rw [List.getElem?_eq_none (by simp;omega),List.getElem?_eq_none (by omega)]
theorem mapTo_step {f:Int→Int} {R:List Int} {k:Nat} {x:Int} (h:R[k]? = some x):(mapTo f R k).set k (f x)=mapTo f R (k+1):=by
 obtain ⟨hk,rfl⟩:=List.getElem?_eq_some_iff.1 h
 have hl:((R.take k).map f).length=k:=by simp;omega
 rw [mapTo,mapTo,List.set_append_right _ _ (by omega),hl,Nat.sub_self,List.drop_eq_getElem_cons hk,List.set_cons_zero,List.take_succ_eq_append_getElem hk,List.map_append,List.append_assoc]
 rfl
theorem mapTo_end (f:Int→Int) (R:List Int):mapTo f R R.length=R.map f:=by simp [mapTo]
theorem mid_getE {A R B:List Int} {k:Nat} {x:Int} (h:R[k]? = some x):(A++R++B)[A.length+k]? = some x:=by
 have hk:=(List.getElem?_eq_some_iff.1 h).1
 rw [List.append_assoc,List.getElem?_append_right (by omega),Nat.add_sub_cancel_left,List.getElem?_append_left hk,h]
theorem mid_setE {A R B:List Int} {k:Nat} {x:Int} (hk:k<R.length):(A++R++B).set (A.length+k) x=A++R.set k x++B:=by
 rw [List.append_assoc,List.set_append_right _ _ (by omega),Nat.add_sub_cancel_left,List.set_append_left _ _ hk,List.append_assoc]
set_option maxHeartbeats 1000000 in
theorem scale_c {w : World} {g W : Nat} {A R B : List Int} (c : Nat) (f : Int) (hW : R.length = W) (hn : W ≤ 1000) (hO : Own w g 109 (ofI (A ++ R ++ B))) (hb : ∀ x ∈ R, 0 ≤ x ∧ x ≤ 10006) (hf : 0 ≤ f ∧ f ≤ 10006) :
    Calls Tryz.prog 84 #[.slice (some ⟨g,A.length,none⟩) W c,.int .i64 f] w fun e w'=>e=.returned (.tuple #[])∧Own w' g 109 (ofI (A++R.map (fun x=>num (x * f))++B))∧Touch (fun k=>k=g) w w':=by
 have HW:=Lib.hid hW
 have HB:=Lib.hid hb
 obtain ⟨oA,hoA⟩:∃o,A.length=o:=⟨_,rfl⟩
 have HOA:=Lib.hid hoA
 have ho0:Own w g 109 (ofI (A++mapTo (fun x=>num (x * f)) R 0++B)):=by rw [show mapTo (fun x=>num (x * f)) R 0=R by simp [mapTo]];exact hO
 rw [hoA]
 clear hW hb hoA hO
 go_enter Tryz.func84,Tryz.ntmps84
 go_upto_region 1 with fail
 go_loopw [8] (fun y wr=>∃k:Nat,k≤W∧y=.int .i64 k∧Touch (fun k=>k=g) w wr∧Own wr g 109 (ofI (A++mapTo (fun x=>num (x * f)) R k++B))) (fun y _=>W - (intOf y).toNat)
 case atStart=>exact ⟨0,Nat.zero_le _,rfl,Touch.refl _ _,ho0⟩
 case round=>
  clear ho0;obtain ⟨k,hk,rfl,ht,hO⟩:=hrel;have hk0:(0:Int)≤(k:Int):=(by omega);by_cases hkn:k<W
  · have hki:(k:Int)<(W:Int):=(by omega);obtain ⟨x,hx⟩:∃x,R[k]? = some x:=⟨_,List.getElem?_eq_getElem (by rw [HW.out];exact hkn)⟩;have hxb:=HB.out x (List.mem_of_getElem? hx);have hxm:=mul_b hxb.1 (by omega) hf.1 (by omega);have hc:=hO.cell (oA+k);rw [ofI_get (x:=x) (by rw [←HOA.out];exact mid_getE (by rw [mapTo_get (Nat.le_refl _)];exact hx))] at hc;have hfz:=hO.frozen (oA+k);have HX:=Lib.hid hx;clear hx;go_wp2_with (go_at_call 98;refine (times3_c x f _ hxm.1 hxm.2).mono ?_;rintro e w2 ⟨rfl,rfl⟩)
    go_roundw
    case rel=>
     refine ⟨k+1,by omega,by go_num,ht.trans (Touch.of_only ((Only.refl g _).set (oA+k) _)),?_⟩;have q:=hO.set (oA+k) (.int .i64 (num (x * f)));rw [ofI_set,←HOA.out,mid_setE (by rw [mapTo_len,HW.out];exact hkn),mapTo_step HX.out] at q;rw [←HOA.out];exact q
    case measure=>simp [intOf] <;> omega
  · have he:k=W:=(by omega);subst he;go_wp2_with fail
    go_end0
    refine ⟨rfl,?_,ht⟩;rw [←HW.out,mapTo_end] at hO;exact hO
def addR (R:List Int) (f:Int) (O:List Int):List Int:=List.zipWith (fun a x=>num (a+x * f)) R O
def addTo (R:List Int) (f:Int) (O:List Int) (k:Nat):List Int:=addR (R.take k) f (O.take k)++R.drop k
theorem addTo_len {R O:List Int} {f:Int} {k W:Nat} (hR:R.length=W) (hO:O.length=W):(addTo R f O k).length=W:=by
 simp only [addTo,addR,List.length_append,List.length_zipWith,List.length_take,List.length_drop]
 omega
theorem addTo_get {R O:List Int} {f a:Int} {k j:Nat} (h:R[j]? = some a) (hk:k≤j) (hOl:R.length=O.length:=by omega):(addTo R f O k)[j]? = some a:=by
 have hj:=(List.getElem?_eq_some_iff.1 h).1
 have hl:(addR (R.take k) f (O.take k)).length=k:=by simp only [addR,List.length_zipWith,List.length_take];omega
 rw [addTo,List.getElem?_append_right (by omega),hl,List.getElem?_drop,show k+(j - k)=j by omega,h]
theorem addTo_step {R O:List Int} {f a x:Int} {k:Nat} (h:R[k]? = some a) (h2:O[k]? = some x) (hOl:R.length=O.length:=by omega):(addTo R f O k).set k (num (a+x * f))=addTo R f O (k+1):=by
 obtain ⟨hk,rfl⟩:=List.getElem?_eq_some_iff.1 h
 obtain ⟨hk2,rfl⟩:=List.getElem?_eq_some_iff.1 h2
 have hl:(addR (R.take k) f (O.take k)).length=k:=by simp only [addR,List.length_zipWith,List.length_take];omega
 rw [addTo,addTo,List.set_append_right _ _ (by omega),hl,Nat.sub_self,List.drop_eq_getElem_cons hk,List.set_cons_zero,List.take_succ_eq_append_getElem hk,List.take_succ_eq_append_getElem hk2,addR,addR,List.zipWith_append (by simp;omega),List.append_assoc]
 rfl
theorem addTo_skip {R O:List Int} {f a:Int} {k:Nat} (h:R[k]? = some a) (h2:O[k]? = some 0) (ha:0≤a∧a≤10006) (hOl:R.length=O.length:=by omega):addTo R f O (k+1)=addTo R f O k:=by
 rw [←addTo_step h h2 hOl,Int.zero_mul,Int.add_zero,num_idK ha]
 apply List.ext_getElem?
 intro j
 by_cases e:k=j
 · subst e;rw [addTo_get h (Nat.le_refl _) hOl,List.getElem?_set_self (by rw [addTo_len rfl hOl.symm];exact (List.getElem?_eq_some_iff.1 h).1)]
 · rw [List.getElem?_set_ne e]
theorem addTo_end {R O:List Int} {f:Int} {W:Nat} (hR:R.length=W) (hO:O.length=W):addTo R f O W=addR R f O:=by
 rw [addTo,List.take_of_length_le (by omega),List.take_of_length_le (by omega),List.drop_of_length_le (by omega),List.append_nil]
theorem addR_zero {R O:List Int} {W:Nat} (hR:R.length=W) (hO:O.length=W) (hb:∀x∈R,0≤x∧x≤10006):addR R 0 O=R:=by
 apply List.ext_getElem
 · simp only [addR,List.length_zipWith];omega
 · intro i h1 h2;simp only [addR,List.getElem_zipWith,Int.mul_zero,Int.add_zero];exact num_idK (hb _ (List.getElem_mem h2))
set_option maxHeartbeats 2000000 in
theorem add3_c {w : World} {g W off : Nat} {A R B O : List Int} (c c2 : Nat) (f : Int) (hW : R.length = W) (hOl : O.length = W) (hn : W ≤ 1000) (hO : Own w g 109 (ofI (A ++ R ++ B))) (hb : ∀ x ∈ R, 0 ≤ x ∧ x ≤ 10006) (hbO : ∀ x ∈ O, 0 ≤ x ∧ x ≤ 10006) (hf : 0 ≤ f ∧ f ≤ 10006)
    (hoth:∀R':List Int,R'.length=W→∀(j:Nat) x,O[j]? = some x→(A++R'++B)[off+j]? = some x) :
    Calls Tryz.prog 86 #[.slice (some ⟨g,A.length,none⟩) W c,.int .i64 f,.slice (some ⟨g,off,none⟩) W c2] w fun e w'=>e=.returned (.tuple #[])∧Own w' g 109 (ofI (A++addR R f O++B))∧Touch (fun k=>k=g) w w':=by
 have HW:=Lib.hid hW
 have HOL:=Lib.hid hOl
 have HB:=Lib.hid hb
 have HBO:=Lib.hid hbO
 have HT:=Lib.hid hoth
 obtain ⟨oA,hoA⟩:∃o,A.length=o:=⟨_,rfl⟩
 have HOA:=Lib.hid hoA
 have ho0:Own w g 109 (ofI (A++addTo R f O 0++B)):=by rw [show addTo R f O 0=R by simp [addTo,addR]];exact hO
 rw [hoA]
 clear hb hbO hoth hoA
 by_cases hf0:f=0
 · subst hf0;go_enter Tryz.func86,Tryz.ntmps86
   go_wp2_with fail
   (try simp only [Exit.inBlock,Exit.then])
   refine bodyPost_ret (results_none rfl _ _ _) rfl ?_;exact ⟨rfl,by rw [addR_zero HW.out HOL.out HB.out];exact hO,Touch.refl _ _⟩
 · have hfb:(f==0)=false:=(by simpa using hf0);clear hO hW hOl;go_enter Tryz.func86,Tryz.ntmps86
   go_upto_region 2 with fail
   go_loopw [12] (fun y wr=>∃k:Nat,k≤W∧y=.int .i64 k∧Touch (fun k=>k=g) w wr∧Own wr g 109 (ofI (A++addTo R f O k++B))) (fun y _=>W - (intOf y).toNat)
   case atStart=>exact ⟨0,Nat.zero_le _,rfl,Touch.refl _ _,ho0⟩
   case round=>
    clear ho0;obtain ⟨k,hk,rfl,ht,hO⟩:=hrel;have hk0:(0:Int)≤(k:Int):=(by omega);by_cases hkn:k<W
    · have hki:(k:Int)<(W:Int):=(by omega);obtain ⟨a,ha⟩:∃a,R[k]? = some a:=⟨_,List.getElem?_eq_getElem (by rw [HW.out];exact hkn)⟩;obtain ⟨x,hx⟩:∃x,O[k]? = some x:=⟨_,List.getElem?_eq_getElem (by rw [HOL.out];exact hkn)⟩;have hab:=HB.out a (List.mem_of_getElem? ha);have hxb:=HBO.out x (List.mem_of_getElem? hx);have hxm:=mul_b hxb.1 (by omega) hf.1 (by omega);have hOL2:R.length=O.length:=(by rw [HW.out,HOL.out]);have hc:=hO.cell (off+k);rw [ofI_get (HT.out _ (addTo_len HW.out HOL.out) k x hx)] at hc;have HA:=Lib.hid ha;have HX:=Lib.hid hx;have HNN:Hid (num (a+num (x * f))=num (a+x * f)):=Lib.hid (by unfold num;omega);clear ha hx;by_cases hx0:x=0
      · subst hx0;go_wp2_with fail
        go_roundw
        case rel=>
         rw [←addTo_skip HA.out HX.out hab] at hO;exact ⟨k+1,by omega,by go_num,ht,hO⟩
        case measure=>simp [intOf] <;> omega
      · have hxn:(x != 0)=true:=(by simpa using hx0);go_upto_region 5 with fail
        replace hO:Own wr.drew g 109 (ofI (A++addTo R f O k++B)):=hO;replace ht:Touch (fun k=>k=g) w wr.drew:=ht.trans (Touch.of_below ((Below.refl _ _).drew));clear hc;refine wp_region_held_drew (S:=(fun w'=>0≤w'.heap.size)) (by kernel_rfl) ?_ (fun _=>?_)
        · ((try dsimp only);(exact Nat.zero_le _))
        generalize wr.drew=W0d at *;refine hdT 0 ?_;refine hdT 1 ?_;refine hdT 2 ?_;refine hdT 3 ?_;refine hdT 4 ?_;refine hdT 6 ?_;refine hdT 7 ?_;refine wpAnyH_ready (rs:=[5,8]) (by kernel_rfl) (by simp) ?_;refine AllReadyH.cons (hdAt (i:=5) rfl) (fun K hK=>?_) (AllReadyH.cons (hdAt (i:=8) rfl) (fun K hK=>?_) AllReadyH.nil)
        · skip
          have cL:=hO.cell (oA+k);rw [ofI_get (x:=a) (by rw [←HOA.out];exact mid_getE (addTo_get HA.out (Nat.le_refl _)))] at cL
          (go_simp;try go_wp2_with fail)
          refine hK.out _ _ ?_ (fun _=>?_)
          · ((try dsimp only);(exact Nat.zero_le _))
          clear hK K
          (try simp only [Act.put,pA,pB,pC])
          refine hdC 8 (fun K hK=>?_)
          (go_simp;(go_at_call 98;refine (times3_c x f _ hxm.1 hxm.2).mono ?_;rintro e w2 ⟨rfl,rfl⟩);go_wp2_with fail)
          refine hK.out _ _ ?_ (fun _=>?_)
          · ((try dsimp only);(exact Nat.zero_le _))
          clear hK K
          (try simp only [Act.put,pA,pB,pC])
          refine hdC 9 (fun K hK=>?_)
          (go_simp;(go_at_call 100;refine (plus3_c a (num (x * f)) _ hab ⟨num_lo _,by have:=num_hi (x * f);omega⟩).mono ?_;rintro e w2 ⟨rfl,rfl⟩);go_wp2_with fail)
          refine hK.out _ _ ?_ (fun _=>?_)
          · ((try dsimp only);(exact Nat.zero_le _))
          clear hK K
          (try simp only [Act.put,pA,pB,pC])
          refine hdT 10 ?_;refine hdC 11 (fun K hK=>?_);have hcS:=hO.cell (oA+k);have hfS:=hO.frozen (oA+k)
          (go_simp;go_wp2_with fail)
          clear hcS hfS;replace ht:=ht.trans (Touch.of_only ((Only.refl g W0d).set (oA+k) (.int .i64 (num (a+num (x * f))))));replace hO:=hO.set (oA+k) (.int .i64 (num (a+num (x * f))));generalize W0d.setCell ⟨g,oA+k,none⟩ (.int .i64 (num (a+num (x * f))))=W1 at *;refine hK.out _ _ ?_ (fun _=>?_)
          · ((try dsimp only);(exact Nat.zero_le _))
          clear hK K
          (try simp only [Act.put,pA,pB,pC])
          refine wpAnyH_done (by kernel_rfl) ?_ _;go_wp2_with fail
          go_roundw
          case rel=>
           rw [ofI_set,←HOA.out,mid_setE (by rw [addTo_len HW.out HOL.out];exact hkn),HNN.out,addTo_step HA.out HX.out] at hO;exact ⟨k+1,by omega,by go_num,ht,hO⟩
          case measure=>simp [intOf] <;> omega
        · skip
          (go_simp;(go_at_call 98;refine (times3_c x f _ hxm.1 hxm.2).mono ?_;rintro e w2 ⟨rfl,rfl⟩);go_wp2_with fail)
          refine hK.out _ _ ?_ (fun _=>?_)
          · ((try dsimp only);(exact Nat.zero_le _))
          clear hK K
          (try simp only [Act.put,pA,pB,pC])
          refine hdC 5 (fun K hK=>?_);have cL:=hO.cell (oA+k);rw [ofI_get (x:=a) (by rw [←HOA.out];exact mid_getE (addTo_get HA.out (Nat.le_refl _)))] at cL
          (go_simp;try go_wp2_with fail)
          refine hK.out _ _ ?_ (fun _=>?_)
          · ((try dsimp only);(exact Nat.zero_le _))
          clear hK K
          (try simp only [Act.put,pA,pB,pC])
          refine hdC 9 (fun K hK=>?_)
          (go_simp;(go_at_call 100;refine (plus3_c a (num (x * f)) _ hab ⟨num_lo _,by have:=num_hi (x * f);omega⟩).mono ?_;rintro e w2 ⟨rfl,rfl⟩);go_wp2_with fail)
          refine hK.out _ _ ?_ (fun _=>?_)
          · ((try dsimp only);(exact Nat.zero_le _))
          clear hK K
          (try simp only [Act.put,pA,pB,pC])
          refine hdT 10 ?_;refine hdC 11 (fun K hK=>?_);have hcS:=hO.cell (oA+k);have hfS:=hO.frozen (oA+k)
          (go_simp;go_wp2_with fail)
          clear hcS hfS;replace ht:=ht.trans (Touch.of_only ((Only.refl g W0d).set (oA+k) (.int .i64 (num (a+num (x * f))))));replace hO:=hO.set (oA+k) (.int .i64 (num (a+num (x * f))));generalize W0d.setCell ⟨g,oA+k,none⟩ (.int .i64 (num (a+num (x * f))))=W2 at *;refine hK.out _ _ ?_ (fun _=>?_)
          · ((try dsimp only);(exact Nat.zero_le _))
          clear hK K
          (try simp only [Act.put,pA,pB,pC])
          refine wpAnyH_done (by kernel_rfl) ?_ _;go_wp2_with fail
          go_roundw
          case rel=>
           rw [ofI_set,←HOA.out,mid_setE (by rw [addTo_len HW.out HOL.out];exact hkn),HNN.out,addTo_step HA.out HX.out] at hO;exact ⟨k+1,by omega,by go_num,ht,hO⟩
          case measure=>simp [intOf] <;> omega
    · have he:k=W:=(by omega);subst he;go_wp2_with fail
      go_end0
      refine ⟨rfl,?_,ht⟩;rw [addTo_end HW.out HOL.out] at hO;exact hO
end Go.Proofs.YtfheammnkmjabaaGreat
