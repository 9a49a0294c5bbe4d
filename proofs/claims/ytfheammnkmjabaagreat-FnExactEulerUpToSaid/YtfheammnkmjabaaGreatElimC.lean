
import Derived.Test.YtfheammnkmjabaaGreatElim
namespace Go.Proofs.YtfheammnkmjabaaGreat
set_option maxRecDepth 100000
open Go.RowKit Go.Deep
def slc (g W:Nat) (o:List Nat):List Value:=o.map (fun i=>Value.slice (some ⟨g,i * W,none⟩) W W)
def rowOf (Fl:List Int) (W i:Nat):List Int:=(Fl.drop (i * W)).take W
def putAt (Fl:List Int) (W i:Nat) (r:List Int):List Int:=Fl.take (i * W)++r++Fl.drop (i * W+W)
structure Mat (Fl:List Int) (W n:Nat) (o:List Nat):Prop where
 len:Fl.length=n * W
 ol:o.length=n
 nd:o.Nodup
 lt:∀i∈o,i<n
 bd:∀x∈Fl,0≤x∧x≤10006
theorem mul_fit {n W i:Nat} (h:i<n):i * W+W≤n * W:=by
 have:(i+1) * W≤n * W:=Nat.mul_le_mul_right W h
 rw [Nat.add_mul,Nat.one_mul] at this
 exact this
section
variable {Fl:List Int} {W n:Nat} {o:List Nat}
theorem rowOf_len (hl:Fl.length=n * W) {i:Nat} (h:i<n):(rowOf Fl W i).length=W:=by
 have:=mul_fit (W:=W) h
 rw [rowOf,List.length_take,List.length_drop]
 omega
theorem rowOf_ok (h:Mat Fl W n o) {i:Nat} (hi:i<n):RowOk W (rowOf Fl W i):=⟨rowOf_len h.len hi,fun x hx=>h.bd x (List.mem_of_mem_drop (List.mem_of_mem_take hx))⟩
theorem rowOf_get (_hl:Fl.length=n * W) {i:Nat} (_h:i<n) {c:Nat} (hc:c<W):Fl[i * W+c]? = (rowOf Fl W i)[c]? := by
 rw [rowOf,List.getElem?_take,if_pos hc,List.getElem?_drop]
theorem split_at (_hl:Fl.length=n * W) {i:Nat} (_h:i<n):Fl=Fl.take (i * W)++rowOf Fl W i++Fl.drop (i * W+W):=by
 rw [rowOf,List.append_assoc,←List.drop_drop,List.take_append_drop,List.take_append_drop]
theorem take_lenW (hl:Fl.length=n * W) {i:Nat} (h:i<n):(Fl.take (i * W)).length=i * W:=by
 have:=mul_fit (W:=W) h
 rw [List.length_take];omega
theorem putAt_len (hl:Fl.length=n * W) {i:Nat} (h:i<n) {r:List Int} (hr:r.length=W):(putAt Fl W i r).length=n * W:=by
 have:=mul_fit (W:=W) h
 rw [putAt,List.length_append,List.length_append,List.length_drop,take_lenW hl h]
 omega
theorem putAt_same (hl:Fl.length=n * W) {i:Nat} (h:i<n) {r:List Int} (hr:r.length=W):rowOf (putAt Fl W i r) W i=r:=by
 rw [rowOf,putAt,List.append_assoc,List.drop_append_of_le_length (by rw [take_lenW hl h];exact Nat.le_refl _),List.drop_of_length_le (by rw [take_lenW hl h];exact Nat.le_refl _),List.nil_append,List.take_append_of_le_length (by omega),List.take_of_length_le (by omega)]
theorem putAt_get (hl:Fl.length=n * W) {i:Nat} (h:i<n) {r:List Int} (hr:r.length=W) {k:Nat} (hk:k<i * W∨i * W+W≤k):(putAt Fl W i r)[k]? = Fl[k]? := by
 have ht:=take_lenW hl h
 rw [putAt,List.append_assoc]
 rcases hk with hk | hk
 · rw [List.getElem?_append_left (by omega),List.getElem?_take,if_pos hk]
 · rw [List.getElem?_append_right (by omega),ht,List.getElem?_append_right (by omega),List.getElem?_drop];congr 1
   omega
theorem apart_rows {W i j:Nat} (h:¬i=j) {c:Nat} (hc:c<W):j * W+c<i * W∨i * W+W≤j * W+c:=by
 rcases Nat.lt_or_gt_of_ne h with hl | hg
 · have:=mul_fit (W:=W) hl;omega
 · have:=mul_fit (W:=W) hg;omega
theorem putAt_other (hl:Fl.length=n * W) {i j:Nat} (h:i<n) (hj:j<n) {r:List Int} (hr:r.length=W) (hne:¬i=j):rowOf (putAt Fl W i r) W j=rowOf Fl W j:=by
 apply List.ext_getElem?
 intro c
 by_cases hc:c<W
 · rw [←rowOf_get (putAt_len hl h hr) hj hc,←rowOf_get hl hj hc,putAt_get hl h hr (apart_rows hne hc)]
 · rw [List.getElem?_eq_none (by rw [rowOf_len (putAt_len hl h hr) hj];omega),List.getElem?_eq_none (by rw [rowOf_len hl hj];omega)]
theorem Mat.put (h:Mat Fl W n o) {i:Nat} (hi:i<n) {r:List Int} (hr:RowOk W r):Mat (putAt Fl W i r) W n o:=
 ⟨putAt_len h.len hi hr.len,h.ol,h.nd,h.lt,fun x hx=>by
  rw [putAt,List.mem_append,List.mem_append] at hx
  rcases hx with (hx | hx) | hx
  · exact h.bd x (List.mem_of_mem_take hx)
  · exact hr.bd x hx
  · exact h.bd x (List.mem_of_mem_drop hx)⟩
theorem Mat.o_lt (h:Mat Fl W n o) {q:Nat} (hq:q<n):o.getD q 0<n:=by
 rw [List.getD_eq_getElem?_getD,List.getElem?_eq_getElem (by rw [h.ol];exact hq)]
 exact h.lt _ (List.getElem_mem _)
theorem Mat.o_ne (h:Mat Fl W n o) {q p:Nat} (hq:q<n) (hp:p<n) (hne:¬q=p):¬o.getD q 0=o.getD p 0:=by
 have h1:q<o.length:=by rw [h.ol];exact hq
 have h2:p<o.length:=by rw [h.ol];exact hp
 rw [List.getD_eq_getElem?_getD,List.getElem?_eq_getElem h1,List.getD_eq_getElem?_getD,List.getElem?_eq_getElem h2]
 simp only [Option.getD_some]
 intro e
 exact hne ((List.getElem_inj h.nd).1 e)
theorem slc_get (h:o.length=n) {g q:Nat} (hq:q<n):(slc g W o).toArray[q]? = some (.slice (some ⟨g,o.getD q 0 * W,none⟩) W W):=by
 have h1:q<o.length:=by rw [h];exact hq
 rw [List.getElem?_toArray,slc,List.getElem?_map,List.getD_eq_getElem?_getD,List.getElem?_eq_getElem h1]
 rfl
end
theorem addR_clr {R O:List Int} {W:Nat} (hR:R.length=W) (hO:O.length=W) (k:Int):addR R (num (-k)) O=lessR R O k:=by
 apply List.ext_getElem
 · simp [addR,lessR]
 · intro i h1 h2;simp only [addR,lessR,List.getElem_zipWith];refine toK_inj ⟨num_lo _,by have:=num_hi (R[i]'(by simp [addR] at h1;omega)+O[i]'(by simp [addR] at h1;omega) * num (-k));omega⟩ ⟨num_lo _,by have:=num_hi (R[i]'(by simp [addR] at h1;omega) - k * O[i]'(by simp [addR] at h1;omega));omega⟩ ?_;rw [toK_num,toK_num,toK_add,toK_mul,toK_num,show ∀a b:Int,a - k * b=a+(-k) * b from fun a b=>by rw [Int.neg_mul];omega,toK_add,toK_mul]
   grind
theorem scale_norm {R:List Int} {m c:Nat} (h:RowOk m R) (hf:fstN R=c):R.map (fun x=>num (x * invOf (R.getD c 0)))=normR R:=by
 subst hf
 apply List.ext_getElem
 · rw [(normR_ok h).len,List.length_map,h.len]
 · intro i h1 h2;rw [List.getElem_map];refine toK_inj ⟨num_lo _,by have:=num_hi (R[i]'(by simpa using h1) * invOf (R.getD (fstN R) 0));omega⟩ ((normR_ok h).bd _ (List.getElem_mem h2)) ?_;have e:=congrFun (normR_vec h) i;rw [vec,List.getD_eq_getElem?_getD,List.getElem?_eq_getElem h2] at e;rw [toK_num,toK_mul];simp only [Option.getD_some] at e;rw [e]
   have e3:vec R i=toK (R[i]'(by simpa using h1)):=by
    rw [vec,List.getD_eq_getElem?_getD,List.getElem?_eq_getElem (by simpa using h1)];rfl
   rw [e3]
   grind
theorem pw_bdE:∀(f:Nat) (out sq kk:Int),0≤out∧out≤10006→0≤pw f out sq kk∧pw f out sq kk≤10006
 | 0,out,sq,kk,h=>by rw [pw];exact h
 | f + 1, out, sq, kk, h => by
   rw [pw];split
   · refine pw_bdE f _ _ _ ?_;split
     · exact ⟨num_lo _,by have:=num_hi (out * sq);omega⟩
     · exact h
   · exact h
theorem invOf_bdE (x:Int):0≤invOf x∧invOf x≤10006:=by
 rw [invOf]
 split
 · exact pw_bdE _ _ _ _ (by omega)
 · omega
set_option maxHeartbeats 4000000 in
theorem clearColumn_c {w : World} {g gr W n i cc : Nat} {Fl : List Int} {o : List Nat} (c : Nat) (hM : Mat Fl W n o) (hn : n ≤ 1000) (hW : W ≤ 1000) (hi : i < n) (hcW : cc < W) (hgr : ¬ gr = g) (hO : Own w g 109 (ofI Fl)) (hR : Own w gr 84 (slc g W o).toArray)
    (hne:¬(rowOf Fl W (o.getD i 0)).getD cc 0=0) :
    Calls Tryz.prog 60 #[.slice (some ⟨gr,0,none⟩) n c,.int .i64 i,.int .i64 cc] w fun e w'=>e=.returned (.tuple #[])∧∃Fl',Own w' g 109 (ofI Fl')∧Hid (Mat Fl' W n o∧∀q,q<n→rowOf Fl' W (o.getD q 0)=if q=i then (rowOf Fl W (o.getD i 0)).map (fun x=>num (x * invOf ((rowOf Fl W (o.getD i 0)).getD cc 0))) else clr ((rowOf Fl W (o.getD i 0)).map (fun x=>num (x * invOf ((rowOf Fl W (o.getD i 0)).getD cc 0)))) cc (rowOf Fl W (o.getD q 0)))∧Touch (fun k=>k=g) w w':=by
 have hoi:=hM.o_lt hi
 obtain ⟨R,hRe⟩:∃R,rowOf Fl W (o.getD i 0)=R:=⟨_,rfl⟩
 rw [hRe] at hne ⊢
 have hRok:=rowOf_ok hM hoi
 rw [hRe] at hRok
 obtain ⟨x,hx⟩:∃x,R.getD cc 0=x:=⟨_,rfl⟩
 have hxb:=hRok.at_ cc
 rw [hx] at hne hxb ⊢
 have hx1:1≤x:=by omega
 have hvb:=invOf_bdE x
 obtain ⟨f,hf⟩:∃f,invOf x=f:=⟨_,rfl⟩
 rw [hf] at hvb ⊢
 obtain ⟨N,hN⟩:∃N,R.map (fun x=>num (x * f))=N:=⟨_,rfl⟩
 rw [hN]
 have hNok:RowOk W N:=⟨by rw [←hN,List.length_map,hRok.len],fun y hy=>by
  rw [←hN] at hy;obtain ⟨z,_,rfl⟩:=List.mem_map.1 hy
  exact ⟨num_lo _,by have:=num_hi (z * f);omega⟩⟩
 obtain ⟨off,hoff⟩:∃off,o.getD i 0 * W=off:=⟨_,rfl⟩
 have hci:=hR.cell i
 rw [slc_get hM.ol hi,hoff] at hci
 have hcx:w.cell? ⟨g,off+cc,none⟩=some (.int .i64 x):=by
  rw [hO.cell (off+cc)];refine ofI_get ?_;rw [←hoff,rowOf_get hM.len hoi hcW,hRe,←hx,List.getD_eq_getElem?_getD,List.getElem?_eq_getElem (by rw [hRok.len];exact hcW)];rfl
 have HSC:Hid (∀w',Own w' g 109 (ofI Fl)→Calls Tryz.prog 84 #[.slice (some ⟨g,off,none⟩) W W,.int .i64 f] w' fun e w''=>e=.returned (.tuple #[])∧Own w'' g 109 (ofI (putAt Fl W (o.getD i 0) N))∧Touch (fun k=>k=g) w' w''):=Lib.hid (fun w' h'=>by
  have e1:=split_at hM.len hoi;have e2:=take_lenW hM.len hoi;rw [hRe] at e1;rw [e1] at h';have:=scale_c W f hRok.len hW h' hRok.bd hvb;rw [e2,hoff,hN] at this;rw [putAt,hoff]
  exact this)
 have HM:=Lib.hid hM
 have HRE:=Lib.hid hRe
 have HX:=Lib.hid hx
 have HF:=Lib.hid hf
 have HNK:=Lib.hid hNok
 have HRK:=Lib.hid hRok
 have HOFF:=Lib.hid hoff
 have hcc0:(0:Int)≤(cc:Int):=by omega
 have hccW:(cc:Int)<(W:Int):=by omega
 have hi0:(0:Int)≤(i:Int):=by omega
 have hin:(i:Int)<(n:Int):=by omega
 clear hM hRe hx hf hNok hRok hoff hN
 go_enter Tryz.func60,Tryz.ntmps60
 go_upto_region 0 with fail
 replace hO:Own w.drew g 109 (ofI Fl):=hO
 replace hcx:w.drew.cell? ⟨g,off+cc,none⟩=some (.int .i64 x):=hcx
 replace hci:w.drew.cell? ⟨gr,i,none⟩=some (.slice (some ⟨g,off,none⟩) W W):=hci
 replace hR:Own w.drew gr 84 (slc g W o).toArray:=hR
 have ht:Touch (fun k=>k=g) w w.drew:=Touch.of_below ((Below.refl _ _).drew)
 have HCI:Hid (∀{w1:World},Own w1 gr 84 (slc g W o).toArray→w1.cell? ⟨gr,i,none⟩=some (.slice (some ⟨g,off,none⟩) W W)):=Lib.hid (fun h=>by
  have:=h.cell i;rw [slc_get HM.out.ol hi,HOFF.out] at this
  exact this)
 refine wp_region_held_drew (S:=(fun w'=>w'.cell? ⟨gr,i,none⟩=some (.slice (some ⟨g,off,none⟩) W W))) (by kernel_rfl) ?_ (fun _=>?_)
 · ((try dsimp only);(exact hci))
 generalize w.drew=W0d at *
 refine hdT 0 ?_
 refine hdT 1 ?_
 refine hdT 2 ?_
 refine hdT 3 ?_
 refine hdT 4 ?_
 refine hdT 5 ?_
 refine hdT 6 ?_
 refine hdT 7 ?_
 refine hdT 8 ?_
 refine hdT 9 ?_
 refine hdC 10 (fun K hK=>?_)
 (go_simp;try go_wp2_with fail)
 refine hK.out _ _ ?_ (fun _=>?_)
 · ((try dsimp only);(exact hci))
 clear hK K
 (try simp only [Act.put,pA,pB,pC])
 refine hdC 11 (fun K hK=>?_)
 (go_simp;(go_at_call 85;refine (inverse3_c x _ hx1 hxb.2).mono ?_;rintro e w2 ⟨rfl,rfl⟩;rw [HF.out]);go_wp2_with fail)
 refine hK.out _ _ ?_ (fun _=>?_)
 · ((try dsimp only);(exact hci))
 clear hK K
 (try simp only [Act.put,pA,pB,pC])
 refine hdC 12 (fun K hK=>?_)
 (go_simp;(go_at_call 84;refine (HSC.out _ hO).mono ?_;rintro e W1 ⟨rfl,hO2,ht2⟩);go_wp2_with fail)
 replace ht:=ht.trans ht2
 replace hR:=ht2.own hR hgr
 clear hO ht2 hcx hci
 have hci:=HCI.out hR
 refine hK.out _ _ ?_ (fun _=>?_)
 · ((try dsimp only);(exact hci))
 clear hK K
 (try simp only [Act.put,pA,pB,pC])
 refine wpAnyH_done (by kernel_rfl) ?_ _
 go_wp2_with fail
 have HF1:Hid (Mat (putAt Fl W (o.getD i 0) N) W n o∧∀q,q<n→rowOf (putAt Fl W (o.getD i 0) N) W (o.getD q 0)=if q=i then N else if q<0 then clr N cc (rowOf Fl W (o.getD q 0)) else rowOf Fl W (o.getD q 0)):=Lib.hid ⟨HM.out.put hoi HNK.out,fun q hq=>by
  by_cases e:q=i
  · rw [if_pos e,e,putAt_same HM.out.len hoi HNK.out.len]
  · rw [if_neg e,if_neg (by omega),putAt_other HM.out.len hoi (HM.out.o_lt hq) HNK.out.len (HM.out.o_ne hi hq (fun h=>e h.symm))]⟩
 generalize putAt Fl W (o.getD i 0) N=F0 at *
 go_upto_region 2 with fail
 go_loopw [23] (fun y wr=>∃(j:Nat) (F1:List Int),j≤n∧y=.int .i64 j∧Touch (fun k=>k=g) w wr∧Own wr g 109 (ofI F1)∧Own wr gr 84 (slc g W o).toArray∧Hid (Mat F1 W n o∧∀q,q<n→rowOf F1 W (o.getD q 0)=if q=i then N else if q<j then clr N cc (rowOf Fl W (o.getD q 0)) else rowOf Fl W (o.getD q 0))) (fun y _=>n - (intOf y).toNat)
 case atStart=>exact ⟨0,F0,Nat.zero_le _,rfl,ht,hO2,hR,HF1⟩
 case round=>
  clear ht hO2 hR HF1 hci;obtain ⟨j,F1,hj,rfl,ht,hO,hR,H1⟩:=hrel;have hj0:(0:Int)≤(j:Int):=(by omega);by_cases hjn:j<n
  · have hji:(j:Int)<(n:Int):=(by omega);have hcj:=hR.cell j;rw [slc_get H1.out.1.ol hjn] at hcj;by_cases hji2:j=i
    · subst hji2;have hjb:((j:Int) != (j:Int))=false:=(by simp);go_wp2_with fail
      go_roundw
      case rel=>
       refine ⟨j+1,F1,by omega,by go_num,ht,hO,hR,Lib.hid ⟨H1.out.1,fun q hq=>?_⟩⟩;rw [H1.out.2 q hq];by_cases e:q=j
       · rw [if_pos e,if_pos e]
       · rw [if_neg e,if_neg e];by_cases e2:q<j
         · rw [if_pos e2,if_pos (by omega)]
         · rw [if_neg e2,if_neg (by omega)]
      case measure=>simp [intOf] <;> omega
    · have hjb:((j:Int) != (i:Int))=true:=(by simp;omega);have hoj:=HM.out.o_lt hjn;have hne2:=HM.out.o_ne hi hjn (fun h=>hji2 h.symm);obtain ⟨P,hP⟩:∃P,rowOf Fl W (o.getD j 0)=P:=⟨_,rfl⟩;have hPok:=rowOf_ok HM.out hoj;rw [hP] at hPok;have hP1:rowOf F1 W (o.getD j 0)=P:=(by rw [H1.out.2 j hjn,if_neg hji2,if_neg (by omega),hP]);obtain ⟨k,hk⟩:∃k,P.getD cc 0=k:=⟨_,rfl⟩;have hkb:=hPok.at_ cc;rw [hk] at hkb;obtain ⟨offj,hoffj⟩:∃offj,o.getD j 0 * W=offj:=⟨_,rfl⟩;rw [hoffj] at hcj
      have hck:wr.cell? ⟨g,offj+cc,none⟩=some (.int .i64 k):=by
       rw [hO.cell (offj+cc)];refine ofI_get ?_;rw [←hoffj,rowOf_get H1.out.1.len hoj hcW,hP1,←hk,List.getD_eq_getElem?_getD,List.getElem?_eq_getElem (by rw [hPok.len];exact hcW)];rfl
      have HAD:Hid (∀w',Own w' g 109 (ofI F1)→Calls Tryz.prog 86 #[.slice (some ⟨g,offj,none⟩) W W,.int .i64 (num (-k)),.slice (some ⟨g,off,none⟩) W W] w' fun e w''=>e=.returned (.tuple #[])∧Own w'' g 109 (ofI (putAt F1 W (o.getD j 0) (clr N cc P)))∧Touch (fun k=>k=g) w' w''):=Lib.hid (fun w' h'=>by
       have e1:=split_at H1.out.1.len hoj;have e2:=take_lenW H1.out.1.len hoj;rw [hP1] at e1;rw [e1] at h';have hNi:rowOf F1 W (o.getD i 0)=N:=by rw [H1.out.2 i hi,if_pos rfl]
       have:=add3_c (off:=off) (O:=N) W W (num (-k)) hPok.len HNK.out.len hW h' hPok.bd HNK.out.bd ⟨num_lo _,by have:=num_hi (-k);omega⟩ (fun R' hR' q y hy=>by
        have hqW:q<W:=(by have:=(List.getElem?_eq_some_iff.1 hy).1;have:=HNK.out.len;omega);have e3:=putAt_get (Fl:=F1) H1.out.1.len hoj hR' (apart_rows (W:=W) (i:=o.getD j 0) (j:=o.getD i 0) (fun h=>hne2 h.symm) hqW);show (putAt F1 W (o.getD j 0) R')[off+q]? = some y
        rw [←HOFF.out,e3,rowOf_get H1.out.1.len hoi hqW,hNi]
        exact hy)
       rw [e2,hoffj,addR_clr hPok.len HNK.out.len] at this;rw [putAt,hoffj,clr,hk]
       exact this)
      have HP1:=Lib.hid hP1;have HP:=Lib.hid hP;have HPK:=Lib.hid hPok;clear hP1 hP hPok hoffj hk;go_upto_region 5 with fail
      replace hO:Own wr.drew g 109 (ofI F1):=hO;replace hR:Own wr.drew gr 84 (slc g W o).toArray:=hR;replace hck:wr.drew.cell? ⟨g,offj+cc,none⟩=some (.int .i64 k):=hck;have hci:wr.drew.cell? ⟨gr,i,none⟩=some (.slice (some ⟨g,off,none⟩) W W):=HCI.out hR;replace ht:Touch (fun k=>k=g) w wr.drew:=ht.trans (Touch.of_below ((Below.refl _ _).drew));clear hcj;refine wp_region_held_drew (S:=(fun w'=>w'.cell? ⟨gr,i,none⟩=some (.slice (some ⟨g,off,none⟩) W W))) (by kernel_rfl) ?_ (fun _=>?_)
      · ((try dsimp only);(exact hci))
      generalize wr.drew=W0d at *;refine hdT 0 ?_;refine hdT 1 ?_;refine hdT 2 ?_;refine hdT 3 ?_;refine hdT 6 ?_;refine hdT 7 ?_;refine hdT 8 ?_;refine hdT 9 ?_;refine hdC 4 (fun K hK=>?_)
      (go_simp;try go_wp2_with fail)
      refine hK.out _ _ ?_ (fun _=>?_)
      · ((try dsimp only);(exact hci))
      clear hK K
      (try simp only [Act.put,pA,pB,pC])
      refine hdC 5 (fun K hK=>?_)
      (go_simp;(go_at_call 87;refine (opposite3_c k _ hkb).mono ?_;rintro e w2 ⟨rfl,rfl⟩);go_wp2_with fail)
      refine hK.out _ _ ?_ (fun _=>?_)
      · ((try dsimp only);(exact hci))
      clear hK K
      (try simp only [Act.put,pA,pB,pC])
      refine hdC 10 (fun K hK=>?_)
      (go_simp;(go_at_call 86;refine (HAD.out _ hO).mono ?_;rintro e W1 ⟨rfl,hO2,ht2⟩);go_wp2_with fail)
      replace ht:=ht.trans ht2;replace hR:=ht2.own hR hgr;clear hO ht2 hck hci;have hci:=HCI.out hR;refine hK.out _ _ ?_ (fun _=>?_)
      · ((try dsimp only);(exact hci))
      clear hK K
      (try simp only [Act.put,pA,pB,pC])
      refine wpAnyH_done (by kernel_rfl) ?_ _;go_wp2_with fail
      go_roundw
      case rel=>
       refine ⟨j+1,_,by omega,by go_num,ht,hO2,hR,Lib.hid ⟨H1.out.1.put hoj ?_,fun q hq=>?_⟩⟩
       · exact lessR_ok HPK.out.len HNK.out.len _
       · by_cases e3:q=j
         · rw [e3,putAt_same (r:=clr N cc P) H1.out.1.len hoj (lessR_ok HPK.out.len HNK.out.len _).len,if_neg hji2,if_pos (by omega),HP.out]
         · rw [putAt_other (r:=clr N cc P) H1.out.1.len hoj (HM.out.o_lt hq) (lessR_ok HPK.out.len HNK.out.len _).len (HM.out.o_ne hjn hq (fun h=>e3 h.symm)),H1.out.2 q hq];by_cases e:q=i
           · rw [if_pos e,if_pos e]
           · rw [if_neg e,if_neg e];by_cases e2:q<j
             · rw [if_pos e2,if_pos (by omega)]
             · rw [if_neg e2,if_neg (by omega)]
      case measure=>simp [intOf] <;> omega
  · have he:j=n:=(by omega);subst he;go_wp2_with fail
    go_end0
    refine ⟨rfl,F1,hO,Lib.hid ⟨H1.out.1,fun q hq=>?_⟩,ht⟩;rw [H1.out.2 q hq];by_cases e:q=i
    · rw [if_pos e,if_pos e]
    · rw [if_neg e,if_neg e,if_pos hq]
end Go.Proofs.YtfheammnkmjabaaGreat
