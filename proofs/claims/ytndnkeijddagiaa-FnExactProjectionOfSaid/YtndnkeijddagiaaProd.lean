
import Derived.Test.YtndnkeijddagiaaMono
import Derived.Test.YtndnkeijddagiaaMonoB
namespace Go.Proofs.Ytndnkeijddagiaa
set_option maxRecDepth 100000
open Go.RowKit
def sgn3:List (Int × Int × Int)→Int × Int
 | []=>(1,1)
 | (d,a,b)::r=>if odd d then (if b=1 then (sgn3 r).1 * (sgn3 r).2 else (sgn3 r).1,if a=1 then -(sgn3 r).2 else (sgn3 r).2) else sgn3 r
def bad3 (x:Int × Int × Int):Bool:=odd x.1 && decide (1<x.2.1+x.2.2)
def trip (zs m k:List Int):List (Int × Int × Int):=zs.zip (m.zip k)
def addM (m k:List Int):List Int:=List.zipWith (·+·) m k
def isNul (zs m k:List Int):Bool:=(trip zs m k).any bad3
def joinM (zs m k:List Int):List Int:=if isNul zs m k then nul8 else addM m k
def joinS (zs m k:List Int):Int:=if isNul zs m k then 0 else (sgn3 (trip zs m k)).1
theorem sgn3_pm (l:List (Int × Int × Int)):((sgn3 l).1=1∨(sgn3 l).1=-1)∧((sgn3 l).2=1∨(sgn3 l).2=-1):=by
 induction l with
 | nil=>simp [sgn3]
 | cons x r ih =>
   obtain ⟨d,a,b⟩:=x;obtain ⟨h1,h2⟩:=ih;simp only [sgn3];split
   · constructor
     · dsimp only;split
       · rcases h1 with h1 | h1 <;> rcases h2 with h2 | h2 <;> simp [h1,h2]
       · exact h1
     · dsimp only;split
       · rcases h2 with h2 | h2 <;> simp [h2]
       · exact h2
   · exact ⟨h1,h2⟩
theorem trip_get {zs m k:List Int} {i:Nat} {d a b:Int} (h1:zs[i]? = some d) (h2:m[i]? = some a) (h3:k[i]? = some b):(trip zs m k)[i]? = some (d,a,b):=by
 simp [trip,List.getElem?_zip_eq_some,h1,h2,h3]
theorem trip_len {zs m k:List Int} (hz:zs.length≤8) (hm:m.length=8) (hk:k.length=8):(trip zs m k).length=zs.length:=by
 simp [trip,hm,hk];omega
theorem drop_of {l:List (Int × Int × Int)} {i:Nat} {x:Int × Int × Int} (h:l[i]? = some x):l.drop i=x::l.drop (i+1):=by
 obtain ⟨hlt,he⟩:=List.getElem?_eq_some_iff.1 h
 rw [List.drop_eq_getElem_cons hlt,he]
theorem sgn3_even {d a b:Int} {r:List (Int × Int × Int)} (h:odd d=false):sgn3 ((d,a,b)::r)=sgn3 r:=by simp [sgn3,h]
theorem sgn3_odd {d a b:Int} {r:List (Int × Int × Int)} (h:odd d=true):sgn3 ((d,a,b)::r)=(if b=1 then (sgn3 r).1 * (sgn3 r).2 else (sgn3 r).1,if a=1 then -(sgn3 r).2 else (sgn3 r).2):=by simp [sgn3,h]
theorem left_even {l : List (Int × Int × Int)} {i : Nat} {d a b s R : Int} (h : l[i]? = some (d, a, b)) (ho : odd d = false) (H : s * (sgn3 (l.drop i)).1 = R ∧ (l.take i).any bad3 = false) :
    s * (sgn3 (l.drop (i+1))).1=R∧(l.take (i+1)).any bad3=false:=by
 rw [drop_of h,sgn3_even ho] at H
 refine ⟨H.1,?_⟩
 rw [List.take_add_one,h,List.any_append,H.2]
 simp [bad3,ho]
theorem left_odd0 {l : List (Int × Int × Int)} {i : Nat} {d a b s R : Int} (h : l[i]? = some (d, a, b)) (ho : odd d = true) (hb : b ≠ 1) (hab : a + b ≤ 1) (H : s * (sgn3 (l.drop i)).1 = R ∧ (l.take i).any bad3 = false) :
    s * (sgn3 (l.drop (i+1))).1=R∧(l.take (i+1)).any bad3=false:=by
 rw [drop_of h,sgn3_odd ho,if_neg hb] at H
 refine ⟨H.1,?_⟩
 rw [List.take_add_one,h,List.any_append,H.2]
 simp [bad3];intro;omega
theorem left_odd1 {l : List (Int × Int × Int)} {i : Nat} {d a b s t R : Int} (h : l[i]? = some (d, a, b)) (ho : odd d = true) (hb : b = 1) (hab : a + b ≤ 1) (H : s * (sgn3 (l.drop i)).1 = R ∧ (l.take i).any bad3 = false)
    (ht:t=s * (sgn3 (l.drop (i+1))).2):t * (sgn3 (l.drop (i+1))).1=R∧(l.take (i+1)).any bad3=false:=by
 rw [drop_of h,sgn3_odd ho,if_pos hb] at H
 refine ⟨by rw [←H.1,ht,Int.mul_assoc,Int.mul_comm (sgn3 _).2],?_⟩
 rw [List.take_add_one,h,List.any_append,H.2]
 simp [bad3];intro;omega
theorem left_bad {l:List (Int × Int × Int)} {i:Nat} {d a b:Int} (h:l[i]? = some (d,a,b)) (ho:odd d=true) (hab:1<a+b):l.any bad3=true:=by
 rw [List.any_eq_true]
 exact ⟨_,List.mem_of_getElem? h,by simp [bad3,ho];omega⟩
theorem pass_flip {l:List (Int × Int × Int)} {j:Nat} {d a b t R:Int} (h:l[j]? = some (d,a,b)) (ho:odd d=true) (ha:a=1) (H:t * (sgn3 (l.drop j)).2=R):-t * (sgn3 (l.drop (j+1))).2=R:=by
 rw [drop_of h,sgn3_odd ho] at H
 simp only [ha,if_true] at H
 rw [Int.neg_mul,←H,Int.mul_neg]
theorem pass_stay {l:List (Int × Int × Int)} {j:Nat} {d a b t R:Int} (h:l[j]? = some (d,a,b)) (ho:¬(odd d=true∧a=1)) (H:t * (sgn3 (l.drop j)).2=R):t * (sgn3 (l.drop (j+1))).2=R:=by
 rw [drop_of h] at H
 cases hd:odd d with
 | true =>
   rw [sgn3_odd hd] at H;have ha:a≠1:=fun e=>ho ⟨hd,e⟩;simpa only [if_neg ha] using H
 | false=>rwa [sgn3_even hd] at H
theorem right_any {l:List (Int × Int × Int)} {i:Nat} {x:Int × Int × Int} (h:l[i]? = some x) (hx:bad3 x=false) (H:(l.drop (i+1)).any bad3=false):(l.drop i).any bad3=false:=by
 rw [drop_of h,List.any_cons,hx,H];rfl
theorem addM_get {m k:List Int} {i:Nat} {a b:Int} (h1:m[i]? = some a) (h2:k[i]? = some b):(addM m k)[i]? = some (a+b):=by
 simp [addM,List.getElem?_zipWith,h1,h2]
theorem addM_len {m k:List Int} (hm:m.length=8) (hk:k.length=8):(addM m k).length=8:=by simp [addM,hm,hk]
def rowS (A:List Int) (k:Nat):List Int:=A.take k++List.replicate (8 - k) 0
def rowI (A:List Int) (k:Nat):List Int:=List.replicate k 0++A.drop k
theorem rowS_zero (A:List Int):rowS A 0=nul8:=by simp [rowS,nul8]
theorem rowS_step {A:List Int} (hA:A.length=8) {k:Nat} {v:Int} (hk:k<8) (hv:A[k]? = some v):(rowS A k).set k v=rowS A (k+1):=by
 have hlen:(A.take k).length=k:=by simp [hA];omega
 rw [rowS,List.set_append_right _ _ (by omega),hlen,Nat.sub_self,rowS,List.take_add_one,hv]
 obtain ⟨r,hr⟩:∃r,8 - k=r+1:=⟨8 - k - 1,by omega⟩
 rw [hr,show 8 - (k+1)=r by omega]
 simp [List.replicate_succ]
theorem rowS_len {A:List Int} (hA:A.length=8) {k:Nat} (hk:k≤8):(rowS A k).length=8:=by simp [rowS,hA];omega
theorem rowI_len {A:List Int} (hA:A.length=8) {k:Nat} (hk:k≤8):(rowI A k).length=8:=by simp [rowI,hA];omega
theorem rowI_step {A:List Int} {k:Nat} {v:Int} (hv:A[k]? = some v):(rowI A (k+1)).set k v=rowI A k:=by
 obtain ⟨hlt,he⟩:=List.getElem?_eq_some_iff.1 hv
 rw [rowI,List.set_append_left _ _ (by simp),rowI,List.drop_eq_getElem_cons hlt,he]
 rw [List.replicate_succ',List.set_append_right _ _ (by simp)]
 simp
theorem rowI_zero (A:List Int):rowI A 0=A:=by simp [rowI]
def Tail0 (A:List Int) (n:Nat):Prop:=∀i,n≤i→i<8→A[i]? = some 0
theorem rowI_n {A:List Int} (hA:A.length=8) {n:Nat} (hn:n≤8) (h:Tail0 A n):rowI A n=nul8:=by
 have e:A.drop n=List.replicate (8 - n) 0:=by
  apply List.ext_getElem?
  intro i;rw [List.getElem?_drop];by_cases hi:i<8 - n
  · rw [h (n+i) (by omega) (by omega)];simp [hi]
  · rw [List.getElem?_eq_none (by omega),List.getElem?_eq_none (by simp;omega)]
 rw [rowI,e,List.replicate_append_replicate,show n+(8 - n)=8 by omega]
 rfl
theorem rowS_n {A:List Int} (hA:A.length=8) {n:Nat} (hn:n≤8) (h:Tail0 A n):rowS A n=A:=by
 have e:A.drop n=List.replicate (8 - n) 0:=by
  apply List.ext_getElem?
  intro i;rw [List.getElem?_drop];by_cases hi:i<8 - n
  · rw [h (n+i) (by omega) (by omega)];simp [hi]
  · rw [List.getElem?_eq_none (by omega),List.getElem?_eq_none (by simp;omega)]
 rw [rowS,←e,List.take_append_drop]
theorem monoOk_at {zs m:List Int} (h:monoOk zs m=true) {i:Nat} (hi:i<8) {y:Int} (hy:m[i]? = some y):y≤capAt zs i:=by
 simp only [monoOk,List.all_eq_true,List.mem_range] at h
 have:=h i hi
 rw [fits_eq hy] at this
 simpa using this
theorem tail0 {zs m:List Int} (hm:IsMono m) (h:monoOk zs m=true):Tail0 m zs.length:=by
 intro i h1 h2
 obtain ⟨y,hy0,_,_,hy⟩:=mono_at hm h2
 have:y≤0:=by simpa [capAt,List.getElem?_eq_none h1] using monoOk_at h h2 hy.out
 rw [hy.out]
 congr 1
 omega
theorem tail0_add {m k:List Int} {n:Nat} (h1:Tail0 m n) (h2:Tail0 k n):Tail0 (addM m k) n:=by
 intro i hi h8
 rw [addM_get (h1 i hi h8) (h2 i hi h8)];rfl
theorem mono20 {zs m:List Int} (h:monoOk zs m=true) {i:Nat} (hi:i<8) {y:Int} (hy:m[i]? = some y):y≤20:=by
 have:=monoOk_at h hi hy
 have:=capAt_hi zs i
 omega
theorem mcells_set {r:List Int} {i:Nat} {v:Int}:(mcells r).toArray.setIfInBounds i (.int .u8 v)=(mcells (r.set i v)).toArray:=by
 apply Array.ext'
 simp [mcells,List.map_set]
open Go.RowKit Go.Deep
structure FitW (zs m k:List Int):Prop where
 n8:zs.length≤8
 hm:IsMono m
 hk:IsMono k
 tm:Tail0 m zs.length
 tk:Tail0 k zs.length
 bm:∀(i:Nat) (y:Int),m[i]? = some y→y≤120
 bk:∀(i:Nat) (y:Int),k[i]? = some y→y≤120
theorem nul8_cells:(mcells nul8).toArray=#[Value.int .u8 0,.int .u8 0,.int .u8 0,.int .u8 0,.int .u8 0,.int .u8 0,.int .u8 0,.int .u8 0]:=rfl
theorem own4 (w : World) (t : TypeId) (A B C D : Array Value) :
    Own ((((w.alloc (.cells A t)).alloc (.cells B t)).alloc (.cells C t)).alloc (.cells D t)) w.heap.size t A ∧
    Own ((((w.alloc (.cells A t)).alloc (.cells B t)).alloc (.cells C t)).alloc (.cells D t)) (w.heap.size+1) t B ∧
    Own ((((w.alloc (.cells A t)).alloc (.cells B t)).alloc (.cells C t)).alloc (.cells D t)) (w.heap.size+1+1) t C ∧
    Own ((((w.alloc (.cells A t)).alloc (.cells B t)).alloc (.cells C t)).alloc (.cells D t)) (w.heap.size+1+1+1) t D ∧
    Below w.heap.size w ((((w.alloc (.cells A t)).alloc (.cells B t)).alloc (.cells C t)).alloc (.cells D t)):=by
 have o1:=(((Own.new w t A).alloc (.cells B t)).alloc (.cells C t)).alloc (.cells D t)
 have o2:=((Own.new (w.alloc (.cells A t)) t B).alloc (.cells C t)).alloc (.cells D t)
 have o3:=(Own.new ((w.alloc (.cells A t)).alloc (.cells B t)) t C).alloc (.cells D t)
 have o4:=Own.new (((w.alloc (.cells A t)).alloc (.cells B t)).alloc (.cells C t)) t D
 rw [sAl] at o2
 rw [sAl,sAl] at o3
 rw [sAl,sAl,sAl] at o4
 exact ⟨o1,o2,o3,o4,bTn (bTn (bTn (bA1 w _) (bA1 _ _)) (bA1 _ _)) (bA1 _ _)⟩
theorem u8_sum {x y:Int} (h1:0≤x) (h2:x≤120) (h3:0≤y) (h4:y≤120):IntKind.u8.wrap (x+y)=x+y:=by
 simp only [IntKind.wrap,IntKind.signed,IntKind.bits];simp;omega
theorem productOf_w {w : World} {a : Option Addr} {n : Nat} {zs m k : List Int} (c : Nat) (h : Ints w a n zs) (F : FitW zs m k) :
    Calls Try.prog 143 #[.slice a n c,monoV m,monoV k] w fun e w'=>e=.returned (.tuple #[monoV (joinM zs m k),.int .i64 (joinS zs m k)])∧Below w.heap.size w w':=by
 have hl:=h.len
 have HL:=Lib.hid hl
 have n8:n≤8:=by have:=F.n8;omega
 clear hl
 have hAl:=Lib.hid (addM_len F.hm.1 F.hk.1)
 unfold monoV
 go_enter Try.func143,Try.ntmps143
 go_wp2
 rw [←nul8_cells]
 obtain ⟨o4,o5,o6,o8,hb⟩:=own4 w 74 (mcells m).toArray (mcells k).toArray (mcells nul8).toArray (mcells nul8).toArray
 generalize (((w.alloc (.cells (mcells m).toArray 74)).alloc (.cells (mcells k).toArray 74)).alloc (.cells (mcells nul8).toArray 74)).alloc (.cells (mcells nul8).toArray 74)=w0 at *
 go_loopw [9, 10, 11] (fun s t i wr => ∃ q : Nat, q ≤ n ∧ i = .int .i64 ((q : Int) - 1) ∧ Own wr w.heap.size 74 (mcells m).toArray ∧ Own wr (w.heap.size + 1) 74 (mcells k).toArray ∧ Own wr (w.heap.size + 1 + 1) 74 (mcells nul8).toArray ∧ Own wr (w.heap.size + 1 + 1 + 1) 74 (mcells (rowI (addM m k) q)).toArray ∧ Below w.heap.size w wr ∧
     s=.int .i64 (sgn3 ((trip zs m k).drop q)).1∧t=.int .i64 (sgn3 ((trip zs m k).drop q)).2∧Hid (((trip zs m k).drop q).any bad3=false)) (fun _ _ i _=>(intOf i+1).toNat)
 case atStart=>
  refine ⟨n,Nat.le_refl _,rfl,o4,o5,o6,?_,hb,?_,?_,?_⟩
  · rw [rowI_n hAl.out n8 (tail0_add (HL.out ▸ F.tm) (HL.out ▸ F.tk))];exact o8
  · rw [List.drop_of_length_le (by rw [trip_len F.n8 F.hm.1 F.hk.1,HL.out];exact Nat.le_refl _)];rfl
  · rw [List.drop_of_length_le (by rw [trip_len F.n8 F.hm.1 F.hk.1,HL.out];exact Nat.le_refl _)];rfl
  · show _=false
    rw [List.drop_of_length_le (by rw [trip_len F.n8 F.hm.1 F.hk.1,HL.out];exact Nat.le_refl _)];rfl
 case round=>
  clear o4 o5 o6 o8 hb;obtain ⟨q,hq,rfl,o4,o5,o6,o8,hb,rfl,rfl,H⟩:=hrel
  cases q with
  | zero =>
    rw [rowI_zero] at o8;have hno:isNul zs m k=false:=(by have:=H.out;simpa [isNul] using this);have HN:=Lib.hid hno;clear hno;have m8:=Lib.hid (show (mcells (addM m k)).toArray.size=8 by simp [mcells_length,hAl.out])
    go_wp2_with (first
     | (refine wpList_load_row rfl 74 (.tmp 8) rfl _ rfl 74 (mcells (addM m k)).toArray (0,0) _ o8 Try.underlying74 rfl (by rw [m8.out];exact Try.info_mono) ?_)
     | (refine wpList_store_row rfl 74 (.tmp 6) (.tmp 52) rfl _ (mcells (addM m k)).toArray rfl rfl 74 _ o6 (by rw [m8.out];exact Try.info_mono) (by rw [m8.out];rfl) (mcells_one _) ?_))
    refine bodyPost_ret (results_row2 rfl _ _ (w.heap.size+1+1) 74 (mcells (addM m k)).toArray (0,0) _ rfl (o6.setRow _) Try.underlying74 rfl (by rw [m8.out];exact Try.info_mono)) rfl ⟨?_,below_setRow hb (by omega) _⟩;rw [joinM,joinS,HN.out];rfl
  | succ j =>
    have e1:((j+1:Nat):Int) - 1=(j:Int):=(by omega);rw [e1];clear e1;have hj8:j<8:=(by omega);obtain ⟨b,off,x,rfl,hbl,hc,hx⟩:=h.at_ (show j<n by omega);obtain ⟨y,hy0,-,hy,HY⟩:=mono_at F.hm hj8;obtain ⟨z,hz0,-,hz,HZ⟩:=mono_at F.hk hj8;have hy20:=F.bm _ _ HY.out;have hz20:=F.bk _ _ HZ.out;have hA:=addM_get HY.out HZ.out;have HA:=Lib.hid hA;clear hA;have ht:=trip_get hx.out HY.out HZ.out;have HT:=Lib.hid ht;clear ht;have hj0:(0:Int)≤(j:Int):=(by omega);have hj1:(j:Int)<8:=(by omega);have c4:=o4.cell j;have c5:=o5.cell j;rw [List.getElem?_toArray,hy] at c4;rw [List.getElem?_toArray,hz] at c5;have hcr:=(hb.cell (p:=⟨b,off+j,none⟩) hbl).trans hc;have hsz:j<(mcells (rowI (addM m k) (j+1))).toArray.size:=(by simp [mcells_length,rowI_len hAl.out (show j+1≤8 by omega)];omega);obtain ⟨old,c8⟩:=o8.has hsz;have f8:=o8.frozen j;have s1:=u8_sum hy0 hy20 hz0 hz20;clear hc hsz;have pm:=sgn3_pm ((trip zs m k).drop (j+1));generalize hS:(sgn3 ((trip zs m k).drop (j+1))).1=S at *;generalize hB:(sgn3 ((trip zs m k).drop (j+1))).2=B at *;have HS:=Lib.hid hS;have HB:=Lib.hid hB;have q1:-1≤S * B∧S * B≤1:=(by rcases pm.1 with h1 | h1 <;> rcases pm.2 with h2 | h2 <;> rw [h1,h2] <;> decide);have q2:-1≤S∧S≤1:=(by rcases pm.1 with h1 | h1 <;> rw [h1] <;> decide);have q3:-1≤B∧B≤1:=(by rcases pm.2 with h2 | h2 <;> rw [h2] <;> decide);obtain ⟨q1,q1'⟩:=q1;obtain ⟨q2,q2'⟩:=q2;obtain ⟨q3,q3'⟩:=q3;clear hS hB pm
    cases ho:odd x with
    | false =>
      go_wp2_with fail
      go_region
      clear s1;go_wp2_with (go_at_call 65;refine (isOdd_c _ _).mono ?_;rintro e w' ⟨rfl,rfl⟩)
      go_roundw
      case rel=>exact ⟨j,by omega,rfl,o4.drew.far (by dsimp only;omega) _,o5.drew.far (by dsimp only;omega) _,o6.drew.far (by dsimp only;omega) _,by rw [←rowI_step HA.out,←mcells_set];exact o8.drew.set j _,hb.drew.setCell (by dsimp only;omega) _,by rw [drop_of HT.out,sgn3_even ho,HS.out],by rw [drop_of HT.out,sgn3_even ho,HB.out],right_any HT.out (by simp [bad3,ho]) H.out⟩
      case measure=>simp [intOf] <;> omega
    | true =>
      have HO:=Lib.hid ho;by_cases hbad:1<y+z
      · have hyes:isNul zs m k=true:=left_bad HT.out ho hbad;have HN:=Lib.hid hyes;clear hyes;go_wp2_with fail
        go_region
        clear s1;have o6':=(o6.far (p:=⟨w.heap.size+1+1+1,j,none⟩) (by dsimp only;omega) (.int .u8 (y+z))).drew;have hb':=(hb.setCell (p:=⟨w.heap.size+1+1+1,j,none⟩) (by dsimp only;omega) (.int .u8 (y+z))).drew
        go_wp2_with (first
         | (go_at_call 65;refine (isOdd_c _ _).mono ?_;rintro e w' ⟨rfl,rfl⟩)
         | (refine wpList_store_row rfl 74 (.tmp 6) (.tmp 38) rfl _ (mcells nul8).toArray rfl rfl 74 _ o6' Try.info_mono rfl (mcells_one _) ?_))
        refine bodyPost_ret (results_row2 rfl _ _ (w.heap.size+1+1) 74 (mcells nul8).toArray (0,0) _ rfl (o6'.setRow _) Try.underlying74 rfl Try.info_mono) rfl ⟨?_,below_setRow hb' (by omega) _⟩;rw [joinM,joinS,HN.out];rfl
      · have hy2:y≤1:=(by omega);by_cases hz1:z=1
        · have hy1:y=0:=(by omega);subst hz1;subst hy1;clear hbad;go_wp2_with fail
          go_region
          clear s1;go_wp2_with (go_at_call 65;refine (isOdd_c _ _).mono ?_;rintro e w' ⟨rfl,rfl⟩)
          go_roundw
          case rel=>exact ⟨j,by omega,rfl,o4.drew.far (by dsimp only;omega) _,o5.drew.far (by dsimp only;omega) _,o6.drew.far (by dsimp only;omega) _,by rw [←rowI_step HA.out,←mcells_set];exact o8.drew.set j _,hb.drew.setCell (by dsimp only;omega) _,by rw [drop_of HT.out,sgn3_odd HO.out];simp [HS.out,HB.out],by rw [drop_of HT.out,sgn3_odd HO.out];simp [HB.out],right_any HT.out (by simp [bad3] <;> omega) H.out⟩
          case measure=>simp [intOf] <;> omega
        · have hqz:(z==1)=false:=(by simpa using hz1);by_cases hy1:y=1
          · subst hy1;go_wp2_with fail
            go_region
            clear s1;go_wp2_with (go_at_call 65;refine (isOdd_c _ _).mono ?_;rintro e w' ⟨rfl,rfl⟩)
            go_roundw
            case rel=>exact ⟨j,by omega,rfl,o4.drew.far (by dsimp only;omega) _,o5.drew.far (by dsimp only;omega) _,o6.drew.far (by dsimp only;omega) _,by rw [←rowI_step HA.out,←mcells_set];exact o8.drew.set j _,hb.drew.setCell (by dsimp only;omega) _,by rw [drop_of HT.out,sgn3_odd HO.out];simp [hz1,HS.out],by rw [drop_of HT.out,sgn3_odd HO.out];simp [HB.out],right_any HT.out (by simp [bad3] <;> omega) H.out⟩
            case measure=>simp [intOf] <;> omega
          · have hqy:(y==1)=false:=(by simpa using hy1);go_wp2_with fail
            go_region
            clear s1;go_wp2_with (go_at_call 65;refine (isOdd_c _ _).mono ?_;rintro e w' ⟨rfl,rfl⟩)
            go_roundw
            case rel=>exact ⟨j,by omega,rfl,o4.drew.far (by dsimp only;omega) _,o5.drew.far (by dsimp only;omega) _,o6.drew.far (by dsimp only;omega) _,by rw [←rowI_step HA.out,←mcells_set];exact o8.drew.set j _,hb.drew.setCell (by dsimp only;omega) _,by rw [drop_of HT.out,sgn3_odd HO.out];simp [hz1,HS.out],by rw [drop_of HT.out,sgn3_odd HO.out];simp [hy1,HB.out],right_any HT.out (by simp [bad3] <;> omega) H.out⟩
            case measure=>simp [intOf] <;> omega
theorem l01Joined_w {w : World} {a : Option Addr} {n : Nat} {zs m k : List Int} (c : Nat) (h : Ints w a n zs) (F : FitW zs m k) :
    Calls Try.prog 138 #[.slice a n c,monoV m,monoV k] w fun e w'=>e=.returned (.tuple #[monoV (joinM zs m k),.int .i64 (joinS zs m k)])∧Below w.heap.size w w':=by
 have hl:=h.len
 have HL:=Lib.hid hl
 have n8:n≤8:=by have:=F.n8;omega
 clear hl
 have hAl:=Lib.hid (addM_len F.hm.1 F.hk.1)
 unfold monoV
 go_enter Try.func138,Try.ntmps138
 go_wp2
 rw [←nul8_cells]
 obtain ⟨o4,o5,o6,o8,hb⟩:=own4 w 74 (mcells m).toArray (mcells k).toArray (mcells nul8).toArray (mcells nul8).toArray
 generalize (((w.alloc (.cells (mcells m).toArray 74)).alloc (.cells (mcells k).toArray 74)).alloc (.cells (mcells nul8).toArray 74)).alloc (.cells (mcells nul8).toArray 74)=w0 at *
 go_loopw [9, 10] (fun s i wr => ∃ (q : Nat) (s' : Int), q ≤ n ∧ i = .int .i64 q ∧ s = .int .i64 s' ∧ -1 ≤ s' ∧ s' ≤ 1 ∧ Own wr w.heap.size 74 (mcells m).toArray ∧ Own wr (w.heap.size + 1) 74 (mcells k).toArray ∧ Own wr (w.heap.size + 1 + 1) 74 (mcells nul8).toArray ∧ Own wr (w.heap.size + 1 + 1 + 1) 74 (mcells (rowS (addM m k) q)).toArray ∧ Below w.heap.size w wr ∧
     Hid (s' * (sgn3 ((trip zs m k).drop q)).1=(sgn3 (trip zs m k)).1∧((trip zs m k).take q).any bad3=false)) (fun _ i _=>n - (intOf i).toNat)
 case atStart=>
  refine ⟨0,1,Nat.zero_le _,rfl,rfl,by omega,by omega,o4,o5,o6,?_,hb,?_,rfl⟩
  · rw [rowS_zero];exact o8
  · rw [List.drop_zero,Int.one_mul]
 case round=>
  clear o4 o5 o6 o8 hb;obtain ⟨j,s',hq,rfl,rfl,p1,p2,o4,o5,o6,o8,hb,H⟩:=hrel;by_cases hlt:j<n
  · have hj8:j<8:=(by omega);obtain ⟨b,off,x,rfl,hbl,hc,hx⟩:=h.at_ hlt;obtain ⟨y,hy0,-,hy,HY⟩:=mono_at F.hm hj8;obtain ⟨z,hz0,-,hz,HZ⟩:=mono_at F.hk hj8;have hy20:=F.bm _ _ HY.out;have hz20:=F.bk _ _ HZ.out;have hA:=addM_get HY.out HZ.out;have HA:=Lib.hid hA;clear hA;have ht:=trip_get hx.out HY.out HZ.out;have HT:=Lib.hid ht;clear ht;have hj0:(0:Int)≤(j:Int):=(by omega);have hj1:(j:Int)<8:=(by omega);have c4:=o4.cell j;have c5:=o5.cell j;rw [List.getElem?_toArray,hy] at c4;rw [List.getElem?_toArray,hz] at c5;have hcr:=(hb.cell (p:=⟨b,off+j,none⟩) hbl).trans hc;have hsz:j<(mcells (rowS (addM m k) j)).toArray.size:=(by simp [mcells_length,rowS_len hAl.out (show j≤8 by omega)];omega);obtain ⟨old,c8⟩:=o8.has hsz;have f8:=o8.frozen j;have s1:=u8_sum hy0 hy20 hz0 hz20;clear hc hsz
    cases ho:odd x with
    | false =>
      have hq2:x.tmod 2=0:=by
       have:(x.tmod 2 != 0)=false:=(by rw [odd_bne];exact ho);simpa using this
      go_wp2_with fail
      go_region
      clear s1;go_wp2_with fail
      go_roundw
      case rel=>exact ⟨j+1,s',by omega,by go_num,rfl,p1,p2,o4.drew.far (by dsimp only;omega) _,o5.drew.far (by dsimp only;omega) _,o6.drew.far (by dsimp only;omega) _,by rw [←rowS_step hAl.out hj8 HA.out,←mcells_set];exact o8.drew.set j _,hb.drew.setCell (by dsimp only;omega) _,left_even HT.out ho H.out⟩
      case measure=>simp [intOf] <;> omega
    | true =>
      have hq1:(x.tmod 2==0)=false:=(by rw [odd_beq,ho];rfl);have HO:=Lib.hid ho;by_cases hbad:1<y+z
      · have hyes:isNul zs m k=true:=left_bad HT.out ho hbad;have HN:=Lib.hid hyes;clear hyes;clear ho;go_wp2_with fail
        go_region
        clear s1;have o6':=(o6.far (p:=⟨w.heap.size+1+1+1,j,none⟩) (by dsimp only;omega) (.int .u8 (y+z))).drew;have hb':=(hb.setCell (p:=⟨w.heap.size+1+1+1,j,none⟩) (by dsimp only;omega) (.int .u8 (y+z))).drew;go_wp2_with (refine wpList_store_row rfl 74 (.tmp 6) (.tmp 38) rfl _ (mcells nul8).toArray rfl rfl 74 _ o6' Try.info_mono rfl (mcells_one _) ?_)
        refine bodyPost_ret (results_row2 rfl _ _ (w.heap.size+1+1) 74 (mcells nul8).toArray (0,0) _ rfl (o6'.setRow _) Try.underlying74 rfl Try.info_mono) rfl ⟨?_,below_setRow hb' (by omega) _⟩;rw [joinM,joinS,HN.out];rfl
      · by_cases hz1:z=1
        · have hy1:y=0:=(by omega);subst hz1;subst hy1;go_wp2_with fail
          go_region
          clear s1;go_wp2_with fail
          have o4':=(o4.far (p:=⟨w.heap.size+1+1+1,j,none⟩) (by dsimp only;omega) (.int .u8 (0+1))).drew;have o5':=(o5.far (p:=⟨w.heap.size+1+1+1,j,none⟩) (by dsimp only;omega) (.int .u8 (0+1))).drew;have o6':=(o6.far (p:=⟨w.heap.size+1+1+1,j,none⟩) (by dsimp only;omega) (.int .u8 (0+1))).drew;have o8':Own ((wr.setCell ⟨w.heap.size+1+1+1,j,none⟩ (.int .u8 (0+1))).drew) (w.heap.size+1+1+1) 74 (mcells (rowS (addM m k) (j+1))).toArray:=(by rw [←rowS_step hAl.out hj8 HA.out,←mcells_set];exact (o8.set j _).drew);have hb':=(hb.setCell (p:=⟨w.heap.size+1+1+1,j,none⟩) (by dsimp only;omega) (.int .u8 (0+1))).drew;have hI:=h.keep hb';clear c4 c5 c8 f8 hcr o4 o5 o6 o8 hb hbad;simp only [Int.zero_add] at o4' o5' o6' o8' hb' hI;generalize (wr.setCell ⟨w.heap.size+1+1+1,j,none⟩ (.int .u8 1)).drew=w1 at *;have c5:=o5'.cell j;rw [List.getElem?_toArray,hz] at c5
          go_loop [9,11] (fun t i=>∃(jj:Nat) (t':Int),j+1≤jj∧jj≤n∧i=.int .i64 jj∧t=.int .i64 t'∧-1≤t'∧t'≤1∧Hid (t' * (sgn3 ((trip zs m k).drop jj)).2=s' * (sgn3 ((trip zs m k).drop (j+1))).2)) (fun _ i=>n - (intOf i).toNat)
          case atStart=>exact ⟨j+1,s',Nat.le_refl _,by omega,by go_num,rfl,p1,p2,rfl⟩
          case round=>
           obtain ⟨jj,t',hjj,hjn,rfl,rfl,r1,r2,H2⟩:=hrel;by_cases hlt2:jj<n
           · obtain ⟨b2,off2,x2,hsl,hbl2,hc2,hx2⟩:=hI.at_ hlt2;obtain ⟨y2,hy20',-,hy2,HY2⟩:=mono_at F.hm (show jj<8 by omega);obtain ⟨z2,-,-,-,HZ2⟩:=mono_at F.hk (show jj<8 by omega);have ht2:=trip_get hx2.out HY2.out HZ2.out;have HT2:=Lib.hid ht2;clear ht2;have hjj8:(jj:Int)<8:=(by omega);have c4:=o4'.cell jj;rw [List.getElem?_toArray,hy2] at c4
             injection hsl with hsl
             injection hsl with hsl1 hsl2
             subst hsl1;subst hsl2
             cases ho2:odd x2 with
             | true =>
               have hq3:(x2.tmod 2 != 0)=true:=(by rw [odd_bne];exact ho2);have hq4:¬x2.tmod 2=0:=(by simpa using hq3);have HO2:=Lib.hid ho2;clear ho2;by_cases hy21:y2=1
               · have HY21:=Lib.hid hy21;subst hy21
                 go_wp2
                 go_round
                 case rel=>exact ⟨jj+1,-t',by omega,by omega,by go_num,rfl,by omega,by omega,pass_flip HT2.out HO2.out rfl H2.out⟩
                 case measure=>simp [intOf] <;> omega
               · have hqy:(y2==1)=false:=(by simpa using hy21);have HY21:=Lib.hid hy21
                 go_wp2
                 go_round
                 case rel=>exact ⟨jj+1,t',by omega,by omega,by go_num,rfl,by omega,by omega,pass_stay HT2.out (fun hh=>HY21.out hh.2) H2.out⟩
                 case measure=>simp [intOf] <;> omega
             | false =>
               have hq3:x2.tmod 2=0:=by
                have:(x2.tmod 2 != 0)=false:=(by rw [odd_bne];exact ho2);simpa using this
               have HO2:=Lib.hid ho2;clear ho2
               go_wp2
               go_round
               case rel=>exact ⟨jj+1,t',by omega,by omega,by go_num,rfl,by omega,by omega,pass_stay HT2.out (fun hh=>by rw [HO2.out] at hh;exact absurd hh.1 (by simp)) H2.out⟩
               case measure=>simp [intOf] <;> omega
           · have hjj:jj=n:=(by omega);subst hjj
             have ht':t'=s' * (sgn3 ((trip zs m k).drop (j+1))).2:=by
              have:=H2.out;rw [List.drop_of_length_le (by rw [trip_len F.n8 F.hm.1 F.hk.1,HL.out];exact Nat.le_refl _)] at this;simpa [sgn3] using this
             have HT':=Lib.hid ht';clear ht'
             go_wp2
             go_roundw
             case rel=>exact ⟨j+1,t',by omega,by go_num,rfl,r1,r2,o4',o5',o6',o8',hb',left_odd1 HT.out HO.out rfl (by omega) H.out HT'.out⟩
             case measure=>simp [intOf] <;> omega
        · have hqz:(z==1)=false:=(by simpa using hz1);have HZ1:=Lib.hid hz1;go_wp2_with fail
          go_region
          clear s1;go_wp2_with fail
          have o4':=(o4.far (p:=⟨w.heap.size+1+1+1,j,none⟩) (by dsimp only;omega) (.int .u8 (y+z))).drew;have o5':=(o5.far (p:=⟨w.heap.size+1+1+1,j,none⟩) (by dsimp only;omega) (.int .u8 (y+z))).drew;have o6':=(o6.far (p:=⟨w.heap.size+1+1+1,j,none⟩) (by dsimp only;omega) (.int .u8 (y+z))).drew;have o8':Own ((wr.setCell ⟨w.heap.size+1+1+1,j,none⟩ (.int .u8 (y+z))).drew) (w.heap.size+1+1+1) 74 (mcells (rowS (addM m k) (j+1))).toArray:=(by rw [←rowS_step hAl.out hj8 HA.out,←mcells_set];exact (o8.set j _).drew);have hb':=(hb.setCell (p:=⟨w.heap.size+1+1+1,j,none⟩) (by dsimp only;omega) (.int .u8 (y+z))).drew;clear c4 c5 c8 f8 hcr o4 o5 o6 o8 hb;generalize (wr.setCell ⟨w.heap.size+1+1+1,j,none⟩ (.int .u8 (y+z))).drew=w1 at *;have c5:=o5'.cell j;rw [List.getElem?_toArray,hz] at c5
          go_loop [9,11] (fun t i=>t=.int .i64 s'∧i=.int .i64 ((j:Int)+1)) (fun _ _=>0)
          case atStart=>exact ⟨rfl,rfl⟩
          case round=>
           obtain ⟨rfl,rfl⟩:=hrel
           go_wp2
           all_goals
            go_roundw
            case rel=>exact ⟨j+1,s',by omega,by go_num,rfl,p1,p2,o4',o5',o6',o8',hb',left_odd0 HT.out HO.out HZ1.out (by omega) H.out⟩
            case measure=>simp [intOf] <;> omega
  · have hj:j=n:=(by omega);subst hj;have hr:rowS (addM m k) j=addM m k:=rowS_n hAl.out n8 (tail0_add (HL.out ▸ F.tm) (HL.out ▸ F.tk));rw [hr] at o8;clear hr;have hlen:(trip zs m k).length=j:=(by rw [trip_len F.n8 F.hm.1 F.hk.1,HL.out]);have hno:isNul zs m k=false:=(by have:=H.out.2;rwa [List.take_of_length_le (Nat.le_of_eq hlen)] at this);have hsg:s'=(sgn3 (trip zs m k)).1:=(by have:=H.out.1;rw [List.drop_of_length_le (Nat.le_of_eq hlen)] at this;simpa [sgn3] using this);have HN:=Lib.hid hno;have HS:=Lib.hid hsg;clear hno hsg hlen;have m8:=Lib.hid (show (mcells (addM m k)).toArray.size=8 by simp [mcells_length,hAl.out])
    go_wp2_with (first
     | (refine wpList_load_row rfl 74 (.tmp 8) rfl _ rfl 74 (mcells (addM m k)).toArray (0,0) _ o8 Try.underlying74 rfl (by rw [m8.out];exact Try.info_mono) ?_)
     | (refine wpList_store_row rfl 74 (.tmp 6) (.tmp 67) rfl _ (mcells (addM m k)).toArray rfl rfl 74 _ o6 (by rw [m8.out];exact Try.info_mono) (by rw [m8.out];rfl) (mcells_one _) ?_))
    refine bodyPost_ret (results_row2 rfl _ _ (w.heap.size+1+1) 74 (mcells (addM m k)).toArray (0,0) _ rfl (o6.setRow _) Try.underlying74 rfl (by rw [m8.out];exact Try.info_mono)) rfl ⟨?_,below_setRow hb (by omega) _⟩;rw [joinM,joinS,HN.out,←HS.out];rfl
theorem joinM_monoW {zs m k:List Int} (F:FitW zs m k):IsMono (joinM zs m k):=by
 unfold joinM
 split
 · exact ⟨rfl,by decide⟩
 · have hl:=addM_len F.hm.1 F.hk.1;refine ⟨hl,fun x hx=>?_⟩;obtain ⟨i,hi,rfl⟩:=List.mem_iff_getElem.1 hx;have hi8:i<8:=(by omega);obtain ⟨y,hy0,hy1,-,HY⟩:=mono_at F.hm hi8;obtain ⟨z,hz0,hz1,-,HZ⟩:=mono_at F.hk hi8;have hA:=addM_get HY.out HZ.out;rw [List.getElem?_eq_getElem hi] at hA
   injection hA with hA
   have:=F.bm _ _ HY.out;have:=F.bk _ _ HZ.out;rw [hA];omega
end Go.Proofs.Ytndnkeijddagiaa
