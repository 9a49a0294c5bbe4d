
import Derived.Test.YtifcfoijcodjbaaGreatElim
import Derived.WalkMore
import Derived.OwnWalk
namespace Go.Proofs.YtifcfoijcodjbaaGreat
set_option maxRecDepth 100000
open Go.RowKit Go.Deep
def RowAt (w:World) (g:Nat) (R:List Int):Prop:=∃cs,Own w g 173 cs∧∀(j:Nat) x,R[j]? = some x→cs[j]? = some (.int .i64 x)
def RdAt (w:World) (g off:Nat) (R:List Int):Prop:=∀(j:Nat) x,R[j]? = some x→w.cell? ⟨g,off+j,none⟩=some (.int .i64 x)
section
variable {w w':World} {g:Nat} {R:List Int}
theorem RowAt.lt (h:RowAt w g R):g<w.heap.size:=by obtain ⟨cs,h1,-⟩:=h;exact h1.lt
theorem RowAt.cell (h:RowAt w g R) {j:Nat} {x:Int} (hx:R[j]? = some x):w.cell? ⟨g,j,none⟩=some (.int .i64 x):=by
 obtain ⟨cs,h1,h2⟩:=h
 rw [h1.cell j,h2 j x hx]
theorem RowAt.has (h:RowAt w g R) {j:Nat} (hj:j<R.length):∃v,w.cell? ⟨g,j,none⟩=some v:=⟨_,h.cell (List.getElem?_eq_getElem hj)⟩
theorem RowAt.frozen (h:RowAt w g R) (j:Nat):w.frozen? ⟨g,j,none⟩=false:=by
 obtain ⟨cs,h1,-⟩:=h
 exact h1.frozen j
theorem RowAt.set (h:RowAt w g R) {j:Nat} {x:Int} (hj:j<R.length):RowAt (w.setCell ⟨g,j,none⟩ (.int .i64 x)) g (R.set j x):=by
 obtain ⟨cs,h1,h2⟩:=h
 refine ⟨_,h1.set j (.int .i64 x),fun i y hy=>?_⟩
 by_cases e:j=i
 · subst e;rw [List.getElem?_set_self hj,Option.some.injEq] at hy;subst hy;have:=h2 j _ (List.getElem?_eq_getElem hj);rw [Array.getElem?_setIfInBounds_self_of_lt (Array.getElem?_eq_some_iff.1 this).1]
 · rw [List.getElem?_set_ne e] at hy;rw [Array.getElem?_setIfInBounds_ne e];exact h2 i y hy
theorem RowAt.keep {B:Nat} (h:RowAt w g R) (hb:Below B w w') (hg:g<B):RowAt w' g R:=by
 obtain ⟨cs,h1,h2⟩:=h
 exact ⟨cs,h1.keep hb hg,h2⟩
theorem RowAt.touch {p:Nat→Prop} (h:RowAt w g R) (ht:Touch p w w') (hp:¬p g):RowAt w' g R:=by
 obtain ⟨cs,h1,h2⟩:=h
 exact ⟨cs,ht.own h1 hp,h2⟩
theorem RowAt.grown {row:Option Nat} (h:RowAt w g R) (hb:w.grownBy w' row) (hg:some g≠row):RowAt w' g R:=by
 obtain ⟨cs,h1,h2⟩:=h
 exact ⟨cs,h1.grown hb hg,h2⟩
theorem RowAt.far (h:RowAt w g R) {p:Addr} (hp:g≠p.block) (u:Value):RowAt (w.setCell p u) g R:=by
 obtain ⟨cs,h1,h2⟩:=h
 exact ⟨cs,h1.far hp u,h2⟩
theorem RowAt.of_own (h:Own w g 173 (ofI R)):RowAt w g R:=⟨_,h,fun _ _ hx=>ofI_get hx⟩
theorem RowAt.rd (h:RowAt w g R) {S:List Int} (off:Nat) (hS:∀(j:Nat) x,S[j]? = some x→R[off+j]? = some x):RdAt w g off S:=fun j x hx=>h.cell (hS j x hx)
theorem RowAt.rd0 (h:RowAt w g R):RdAt w g 0 R:=h.rd 0 (fun j x hx=>by rw [Nat.zero_add];exact hx)
end
set_option maxHeartbeats 1000000 in
theorem scaleA_c {w : World} {g W : Nat} {R : List Int} (c : Nat) (f : Int) (hW : R.length = W) (hn : W ≤ 1000) (hO : RowAt w g (R)) (hb : ∀ x ∈ R, 0 ≤ x ∧ x ≤ 10006) (hf : 0 ≤ f ∧ f ≤ 10006) :
    Calls Tryz.prog 211 #[.slice (some ⟨g,0,none⟩) W c,.int .i64 f] w fun e w'=>e=.returned (.tuple #[])∧RowAt w' g (R.map (fun x=>num (x * f)))∧Touch (fun k=>k=g) w w':=by
 have HW:=Lib.hid hW
 have HB:=Lib.hid hb
 have ho0:RowAt w g (mapTo (fun x=>num (x * f)) R 0):=by rw [show mapTo (fun x=>num (x * f)) R 0=R by simp [mapTo]];exact hO
 clear hW hb hO
 go_enter Tryz.func211,Tryz.ntmps211
 go_upto_region 1 with fail
 go_loopw [8] (fun y wr=>∃k:Nat,k≤W∧y=.int .i64 k∧Touch (fun k=>k=g) w wr∧RowAt wr g (mapTo (fun x=>num (x * f)) R k)) (fun y _=>W - (intOf y).toNat)
 case atStart=>exact ⟨0,Nat.zero_le _,rfl,Touch.refl _ _,ho0⟩
 case round=>
  clear ho0;obtain ⟨k,hk,rfl,ht,hO⟩:=hrel;have hk0:(0:Int)≤(k:Int):=(by omega);by_cases hkn:k<W
  · have hki:(k:Int)<(W:Int):=(by omega);obtain ⟨x,hx⟩:∃x,R[k]? = some x:=⟨_,List.getElem?_eq_getElem (by rw [HW.out];exact hkn)⟩;have hxb:=HB.out x (List.mem_of_getElem? hx);have hxm:=mul_b hxb.1 (by omega) hf.1 (by omega);have hc:=hO.cell (j:=k) (x:=x) (by rw [mapTo_get (Nat.le_refl _)];exact hx);have hfz:=hO.frozen k;have HX:=Lib.hid hx;clear hx;go_wp2_with (go_at_call 181;refine (times3_c x f _ hxm.1 hxm.2).mono ?_;rintro e w2 ⟨rfl,rfl⟩)
    go_roundw
    case rel=>
     refine ⟨k+1,by omega,by go_num,ht.trans (Touch.of_only ((Only.refl g _).set k _)),?_⟩;have q:=hO.set (j:=k) (x:=num (x * f)) (by rw [mapTo_len,HW.out];exact hkn);rw [mapTo_step HX.out] at q;exact q
    case measure=>simp [intOf] <;> omega
  · have he:k=W:=(by omega);subst he;go_wp2_with fail
    go_end0
    refine ⟨rfl,?_,ht⟩;rw [←HW.out,mapTo_end] at hO;exact hO
set_option maxHeartbeats 2000000 in
theorem addA_c {w : World} {g g2 W off : Nat} {R O : List Int} (c c2 : Nat) (f : Int) (hW : R.length = W) (hOl : O.length = W) (hn : W ≤ 1000) (hO : RowAt w g (R)) (hb : ∀ x ∈ R, 0 ≤ x ∧ x ≤ 10006) (hbO : ∀ x ∈ O, 0 ≤ x ∧ x ≤ 10006) (hf : 0 ≤ f ∧ f ≤ 10006)
    (hoth:∀w',Touch (fun k=>k=g) w w'→RdAt w' g2 off O) :
    Calls Tryz.prog 130 #[.slice (some ⟨g,0,none⟩) W c,.int .i64 f,.slice (some ⟨g2,off,none⟩) W c2] w fun e w'=>e=.returned (.tuple #[])∧RowAt w' g (addR R f O)∧Touch (fun k=>k=g) w w':=by
 have HW:=Lib.hid hW
 have HOL:=Lib.hid hOl
 have HB:=Lib.hid hb
 have HBO:=Lib.hid hbO
 have HT:=Lib.hid hoth
 have ho0:RowAt w g (addTo R f O 0):=by rw [show addTo R f O 0=R by simp [addTo,addR]];exact hO
 clear hb hbO hoth
 by_cases hf0:f=0
 · subst hf0;go_enter Tryz.func130,Tryz.ntmps130
   go_wp2_with fail
   (try simp only [Exit.inBlock,Exit.then])
   refine bodyPost_ret (results_none rfl _ _ _) rfl ?_;exact ⟨rfl,by rw [addR_zero HW.out HOL.out HB.out];exact hO,Touch.refl _ _⟩
 · have hfb:(f==0)=false:=(by simpa using hf0);clear hO hW hOl;go_enter Tryz.func130,Tryz.ntmps130
   go_upto_region 2 with fail
   go_loopw [12] (fun y wr=>∃k:Nat,k≤W∧y=.int .i64 k∧Touch (fun k=>k=g) w wr∧RowAt wr g (addTo R f O k)) (fun y _=>W - (intOf y).toNat)
   case atStart=>exact ⟨0,Nat.zero_le _,rfl,Touch.refl _ _,ho0⟩
   case round=>
    clear ho0;obtain ⟨k,hk,rfl,ht,hO⟩:=hrel;have hk0:(0:Int)≤(k:Int):=(by omega);by_cases hkn:k<W
    · have hki:(k:Int)<(W:Int):=(by omega);obtain ⟨a,ha⟩:∃a,R[k]? = some a:=⟨_,List.getElem?_eq_getElem (by rw [HW.out];exact hkn)⟩;obtain ⟨x,hx⟩:∃x,O[k]? = some x:=⟨_,List.getElem?_eq_getElem (by rw [HOL.out];exact hkn)⟩;have hab:=HB.out a (List.mem_of_getElem? ha);have hxb:=HBO.out x (List.mem_of_getElem? hx);have hxm:=mul_b hxb.1 (by omega) hf.1 (by omega);have hOL2:R.length=O.length:=(by rw [HW.out,HOL.out]);have hc:=HT.out _ ht k x hx;have HA:=Lib.hid ha;have HX:=Lib.hid hx;have HNN:Hid (num (a+num (x * f))=num (a+x * f)):=Lib.hid (by unfold num;omega);clear ha hx;by_cases hx0:x=0
      · subst hx0;go_wp2_with fail
        go_roundw
        case rel=>
         rw [←addTo_skip HA.out HX.out hab] at hO;exact ⟨k+1,by omega,by go_num,ht,hO⟩
        case measure=>simp [intOf] <;> omega
      · have hxn:(x != 0)=true:=(by simpa using hx0);go_upto_region 5 with fail
        replace hO:RowAt wr.drew g (addTo R f O k):=hO;replace ht:Touch (fun k=>k=g) w wr.drew:=ht.trans (Touch.of_below ((Below.refl _ _).drew));clear hc;refine wp_region_held_drew (S:=(fun w'=>0≤w'.heap.size)) (by kernel_rfl) ?_ (fun _=>?_)
        · ((try dsimp only);(exact Nat.zero_le _))
        generalize wr.drew=W0d at *;refine hdT 0 ?_;refine hdT 1 ?_;refine hdT 2 ?_;refine hdT 3 ?_;refine hdT 4 ?_;refine hdT 6 ?_;refine hdT 7 ?_;refine wpAnyH_ready (rs:=[5,8]) (by kernel_rfl) (by simp) ?_;refine AllReadyH.cons (hdAt (i:=5) rfl) (fun K hK=>?_) (AllReadyH.cons (hdAt (i:=8) rfl) (fun K hK=>?_) AllReadyH.nil)
        · skip
          have cL:=hO.cell (j:=k) (x:=a) (addTo_get HA.out (Nat.le_refl _))
          (go_simp;try go_wp2_with fail)
          refine hK.out _ _ ?_ (fun _=>?_)
          · ((try dsimp only);(exact Nat.zero_le _))
          clear hK K
          (try simp only [Act.put,pA,pB,pC])
          refine hdC 8 (fun K hK=>?_)
          (go_simp;(go_at_call 181;refine (times3_c x f _ hxm.1 hxm.2).mono ?_;rintro e w2 ⟨rfl,rfl⟩);go_wp2_with fail)
          refine hK.out _ _ ?_ (fun _=>?_)
          · ((try dsimp only);(exact Nat.zero_le _))
          clear hK K
          (try simp only [Act.put,pA,pB,pC])
          refine hdC 9 (fun K hK=>?_)
          (go_simp;(go_at_call 180;refine (plus3_c a (num (x * f)) _ hab ⟨num_lo _,by have:=num_hi (x * f);omega⟩).mono ?_;rintro e w2 ⟨rfl,rfl⟩);go_wp2_with fail)
          refine hK.out _ _ ?_ (fun _=>?_)
          · ((try dsimp only);(exact Nat.zero_le _))
          clear hK K
          (try simp only [Act.put,pA,pB,pC])
          refine hdT 10 ?_;refine hdC 11 (fun K hK=>?_);obtain ⟨ov,hcS⟩:=hO.has (j:=k) (by rw [addTo_len HW.out HOL.out];exact hkn);have hfS:=hO.frozen k
          (go_simp;go_wp2_with fail)
          clear hcS hfS;replace ht:=ht.trans (Touch.of_only ((Only.refl g W0d).set k (.int .i64 (num (a+num (x * f))))));replace hO:=hO.set (j:=k) (x:=num (a+num (x * f))) (by rw [addTo_len HW.out HOL.out];exact hkn);generalize W0d.setCell ⟨g,k,none⟩ (.int .i64 (num (a+num (x * f))))=W1 at *;refine hK.out _ _ ?_ (fun _=>?_)
          · ((try dsimp only);(exact Nat.zero_le _))
          clear hK K
          (try simp only [Act.put,pA,pB,pC])
          refine wpAnyH_done (by kernel_rfl) ?_ _;go_wp2_with fail
          go_roundw
          case rel=>
           rw [HNN.out,addTo_step HA.out HX.out] at hO;exact ⟨k+1,by omega,by go_num,ht,hO⟩
          case measure=>simp [intOf] <;> omega
        · skip
          (go_simp;(go_at_call 181;refine (times3_c x f _ hxm.1 hxm.2).mono ?_;rintro e w2 ⟨rfl,rfl⟩);go_wp2_with fail)
          refine hK.out _ _ ?_ (fun _=>?_)
          · ((try dsimp only);(exact Nat.zero_le _))
          clear hK K
          (try simp only [Act.put,pA,pB,pC])
          refine hdC 5 (fun K hK=>?_);have cL:=hO.cell (j:=k) (x:=a) (addTo_get HA.out (Nat.le_refl _))
          (go_simp;try go_wp2_with fail)
          refine hK.out _ _ ?_ (fun _=>?_)
          · ((try dsimp only);(exact Nat.zero_le _))
          clear hK K
          (try simp only [Act.put,pA,pB,pC])
          refine hdC 9 (fun K hK=>?_)
          (go_simp;(go_at_call 180;refine (plus3_c a (num (x * f)) _ hab ⟨num_lo _,by have:=num_hi (x * f);omega⟩).mono ?_;rintro e w2 ⟨rfl,rfl⟩);go_wp2_with fail)
          refine hK.out _ _ ?_ (fun _=>?_)
          · ((try dsimp only);(exact Nat.zero_le _))
          clear hK K
          (try simp only [Act.put,pA,pB,pC])
          refine hdT 10 ?_;refine hdC 11 (fun K hK=>?_);obtain ⟨ov,hcS⟩:=hO.has (j:=k) (by rw [addTo_len HW.out HOL.out];exact hkn);have hfS:=hO.frozen k
          (go_simp;go_wp2_with fail)
          clear hcS hfS;replace ht:=ht.trans (Touch.of_only ((Only.refl g W0d).set k (.int .i64 (num (a+num (x * f))))));replace hO:=hO.set (j:=k) (x:=num (a+num (x * f))) (by rw [addTo_len HW.out HOL.out];exact hkn);generalize W0d.setCell ⟨g,k,none⟩ (.int .i64 (num (a+num (x * f))))=W2 at *;refine hK.out _ _ ?_ (fun _=>?_)
          · ((try dsimp only);(exact Nat.zero_le _))
          clear hK K
          (try simp only [Act.put,pA,pB,pC])
          refine wpAnyH_done (by kernel_rfl) ?_ _;go_wp2_with fail
          go_roundw
          case rel=>
           rw [HNN.out,addTo_step HA.out HX.out] at hO;exact ⟨k+1,by omega,by go_num,ht,hO⟩
          case measure=>simp [intOf] <;> omega
    · have he:k=W:=(by omega);subst he;go_wp2_with fail
      go_end0
      refine ⟨rfl,?_,ht⟩;rw [addTo_end HW.out HOL.out] at hO;exact hO
def putAt (Fl:List Int) (W i:Nat) (r:List Int):List Int:=Fl.take (i * W)++r++Fl.drop (i * W+W)
structure Mat (Fl:List Int) (W n:Nat) (o:List Nat):Prop where
 len:Fl.length=n * W
 ol:o.length=n
 nd:o.Nodup
 lt:∀i∈o,i<n
 bd:∀x∈Fl,0≤x∧x≤10006
theorem mul_fit {n W i:Nat} (h:i<n):i * W+W≤n * W:=by
 have:(i+1) * W≤n * W:=Nat.mul_le_mul_right W h
 rw [Nat.add_mul,Nat.one_mul] at this
 exact this
section
variable {Fl:List Int} {W n:Nat} {o:List Nat}
theorem take_lenW (hl:Fl.length=n * W) {i:Nat} (h:i<n):(Fl.take (i * W)).length=i * W:=by
 have:=mul_fit (W:=W) h
 rw [List.length_take];omega
theorem putAt_len (hl:Fl.length=n * W) {i:Nat} (h:i<n) {r:List Int} (hr:r.length=W):(putAt Fl W i r).length=n * W:=by
 have:=mul_fit (W:=W) h
 rw [putAt,List.length_append,List.length_append,List.length_drop,take_lenW hl h]
 omega
theorem apart_rows {W i j:Nat} (h:¬i=j) {c:Nat} (hc:c<W):j * W+c<i * W∨i * W+W≤j * W+c:=by
 rcases Nat.lt_or_gt_of_ne h with hl | hg
 · have:=mul_fit (W:=W) hl;omega
 · have:=mul_fit (W:=W) hg;omega
theorem Mat.put (h:Mat Fl W n o) {i:Nat} (hi:i<n) {r:List Int} (hr:RowOk W r):Mat (putAt Fl W i r) W n o:=
 ⟨putAt_len h.len hi hr.len,h.ol,h.nd,h.lt,fun x hx=>by
  rw [putAt,List.mem_append,List.mem_append] at hx
  rcases hx with (hx | hx) | hx
  · exact h.bd x (List.mem_of_mem_take hx)
  · exact hr.bd x hx
  · exact h.bd x (List.mem_of_mem_drop hx)⟩
end
theorem addR_clr {R O:List Int} {W:Nat} (hR:R.length=W) (hO:O.length=W) (k:Int):addR R (num (-k)) O=lessR R O k:=by
 apply List.ext_getElem
 · simp [addR,lessR]
 · intro i h1 h2;simp only [addR,lessR,List.getElem_zipWith];refine toK_inj ⟨num_lo _,by have:=num_hi (R[i]'(by simp [addR] at h1;omega)+O[i]'(by simp [addR] at h1;omega) * num (-k));omega⟩ ⟨num_lo _,by have:=num_hi (R[i]'(by simp [addR] at h1;omega) - k * O[i]'(by simp [addR] at h1;omega));omega⟩ ?_;rw [toK_num,toK_num,toK_add,toK_mul,toK_num,show ∀a b:Int,a - k * b=a+(-k) * b from fun a b=>by rw [Int.neg_mul];omega,toK_add,toK_mul]
   grind
theorem scale_norm {R:List Int} {m c:Nat} (h:RowOk m R) (hf:fstN R=c):R.map (fun x=>num (x * invOf (R.getD c 0)))=normR R:=by
 subst hf
 apply List.ext_getElem
 · rw [(normR_ok h).len,List.length_map,h.len]
 · intro i h1 h2;rw [List.getElem_map];refine toK_inj ⟨num_lo _,by have:=num_hi (R[i]'(by simpa using h1) * invOf (R.getD (fstN R) 0));omega⟩ ((normR_ok h).bd _ (List.getElem_mem h2)) ?_;have e:=congrFun (normR_vec h) i;rw [vec,List.getD_eq_getElem?_getD,List.getElem?_eq_getElem h2] at e;rw [toK_num,toK_mul];simp only [Option.getD_some] at e;rw [e]
   have e3:vec R i=toK (R[i]'(by simpa using h1)):=by
    rw [vec,List.getD_eq_getElem?_getD,List.getElem?_eq_getElem (by simpa using h1)];rfl
   rw [e3]
   grind
theorem pw_bdE:∀(f:Nat) (out sq kk:Int),0≤out∧out≤10006→0≤pw f out sq kk∧pw f out sq kk≤10006
 | 0,out,sq,kk,h=>by rw [pw];exact h
 | f + 1, out, sq, kk, h => by
   rw [pw];split
   · refine pw_bdE f _ _ _ ?_;split
     · exact ⟨num_lo _,by have:=num_hi (out * sq);omega⟩
     · exact h
   · exact h
theorem invOf_bdE (x:Int):0≤invOf x∧invOf x≤10006:=by
 rw [invOf]
 split
 · exact pw_bdE _ _ _ _ (by omega)
 · omega
end Go.Proofs.YtifcfoijcodjbaaGreat
