
import Derived.Test.YtfheammnkmjabaaGreatMonoB
import Derived.Test.YtfheammnkmjabaaGreatSpan
import Derived.Test.YtfheammnkmjabaaGreatAddM
import Derived.Test.YtfheammnkmjabaaGreatDiffT
namespace Go.Proofs.YtfheammnkmjabaaGreat
open Go.RowKit Go.Deep
def down {α:Type} (f:Nat→List α):Nat→List α
 | 0=>[]
 | k+1=>f k++down f k
def gx (d:Int):Nat:=if odd d then 1 else 20
def mons:List Int→Nat→List (List Int)
 | [],n=>if n=0 then [[]] else []
 | d::zs,n=>down (fun e=>(mons zs (n - e * d.toNat)).map ((e:Int)::·)) (min (gx d) (n / d.toNat)+1)
def cnt (zs:List Int) (n:Nat):Nat:=(mons zs n).length
def cpart (d:Int) (zs:List Int):Nat→Nat→Nat
 | 0,_=>0
 | e+1,n=>cpart d zs e n+if e * d.toNat≤n then cnt zs (n - e * d.toNat) else 0
theorem down_len {α:Type} (f:Nat→List α):∀k,(down f k).length=((List.range k).map fun e=>(f e).length).sum
 | 0=>rfl
 | k+1=>by rw [down,List.length_append,down_len f k,List.range_succ,List.map_append,List.sum_append];simp [Nat.add_comm]
theorem cpart_sum {d:Int} {zs:List Int} {n:Nat}:∀k,(∀e,e<k→e * d.toNat≤n)→cpart d zs k n=((List.range k).map fun e=>cnt zs (n - e * d.toNat)).sum
 | 0,_=>rfl
 | k + 1, h => by
   rw [cpart,cpart_sum k (fun e he=>h e (by omega)),if_pos (h k (by omega)),List.range_succ,List.map_append,List.sum_append];simp
theorem cpart_stop {d:Int} {zs:List Int} {n k:Nat} (h:∀e,k≤e→¬e * d.toNat≤n):∀j,cpart d zs (k+j) n=cpart d zs k n
 | 0=>rfl
 | j + 1 => by
   rw [←Nat.add_assoc,cpart,if_neg (h (k+j) (by omega)),Nat.add_zero];exact cpart_stop h j
theorem cpart_end {d:Int} {zs:List Int} {n:Nat} (hd:1≤d):cpart d zs (gx d+1) n=cnt (d::zs) n:=by
 have hd':0<d.toNat:=by omega
 have h2:cnt (d::zs) n=((List.range (min (gx d) (n / d.toNat)+1)).map fun e=>cnt zs (n - e * d.toNat)).sum:=by
  rw [cnt,mons,down_len];simp [cnt]
 rw [h2,←cpart_sum (min (gx d) (n / d.toNat)+1) (fun e he=>by
  have:e≤n / d.toNat:=by omega
  exact (Nat.le_div_iff_mul_le hd').1 this)]
 by_cases h:gx d≤n / d.toNat
 · rw [Nat.min_eq_left h]
 · rw [Nat.min_eq_right (by omega)]
   have:=cpart_stop (d:=d) (zs:=zs) (n:=n) (k:=n / d.toNat+1) (fun e he hh=>by
    have:=(Nat.le_div_iff_mul_le hd').2 hh
    omega) (gx d - n / d.toNat)
   rw [show n / d.toNat+1+(gx d - n / d.toNat)=gx d+1 by omega] at this;exact this
theorem down_mem {α:Type} {f:Nat→List α} {x:α}:∀{k},x∈down f k→∃e,e<k∧x∈f e
 | 0,h=>by simp [down] at h
 | k + 1, h => by
   rw [down,List.mem_append] at h
   rcases h with h | h
   · exact ⟨k,by omega,h⟩
   · obtain ⟨e,he,hx⟩:=down_mem h;exact ⟨e,by omega,hx⟩
theorem gx_le (d:Int):gx d≤20:=by unfold gx;split <;> omega
theorem mons_len:∀{zs:List Int} {n:Nat} {m:List Int},m∈mons zs n→m.length=zs.length∧∀x∈m,0≤x∧x≤20
 | [], n, m, h => by
   rw [mons] at h;split at h
   · simp at h;subst h;simp
   · simp at h
 | d :: zs, n, m, h => by
   rw [mons] at h;obtain ⟨e,he,hm⟩:=down_mem h;obtain ⟨m',hm',rfl⟩:=List.mem_map.1 hm;obtain ⟨h1,h2⟩:=mons_len hm';refine ⟨by simp [h1],fun x hx=>?_⟩;have:=gx_le d
   rcases List.mem_cons.1 hx with rfl | hx
   · omega
   · exact h2 x hx
theorem cnt_le (zs:List Int):∀n,cnt zs n≤21 ^ zs.length:=by
 induction zs with
 | nil=>intro n;rw [cnt,mons];split <;> simp
 | cons d zs ih =>
   intro n
   have:∀k,(down (fun e=>(mons zs (n - e * d.toNat)).map ((e:Int)::·)) k).length≤k * 21 ^ zs.length:=by
    intro k
    induction k with
    | zero=>simp [down]
    | succ k ihk =>
      rw [down,List.length_append,List.length_map,Nat.succ_mul];have:=ih (n - k * d.toNat);rw [cnt] at this;omega
   rw [cnt,mons];refine Nat.le_trans (this _) ?_;rw [List.length_cons,Nat.pow_succ,Nat.mul_comm];have:=gx_le d;exact Nat.mul_le_mul_left _ (by omega)
def ext (p:List Int) (L:List (List Int)):List (List Int):=L.map (fun x=>(p++x)++List.replicate (8 - (p++x).length) 0)
theorem ext_cons (p:List Int) (e:Int) (L:List (List Int)):ext p (L.map (e::·))=ext (p++[e]) L:=by
 simp [ext,List.map_map,Function.comp_def]
theorem ext_app (p:List Int) (L K:List (List Int)):ext p (L++K)=ext p L++ext p K:=by simp [ext]
theorem ext_len (p:List Int) (L:List (List Int)):(ext p L).length=L.length:=by simp [ext]
theorem take_set_next {E:List Int} {i:Nat} {e:Int} (h:i<E.length):(E.set i e).take (i+1)=E.take i++[e]:=by
 rw [List.take_succ_eq_append_getElem (by simpa using h),List.take_set_of_le (Nat.le_refl _)]
 simp
theorem drop_set_lt {E:List Int} {i n:Nat} {e:Int} (h:i<n):(E.set i e).drop n=E.drop n:=by
 rw [List.drop_set];rw [if_pos h]
theorem take_more {α:Type} {X:List α} (Y:List α) {k:Nat} (h:k≤(X.take k).length):(X++Y).take k=X.take k:=by
 rw [List.length_take] at h
 rw [List.take_append_of_le_length (by omega)]
theorem take_app {α:Type} {X:List α} {k:Nat} (h:(X.take k).length<k):X.take k=X:=by
 rw [List.length_take] at h
 rw [List.take_of_length_le (by omega)]
theorem cpart_le (d:Int) (zs:List Int) (n:Nat):∀e,cpart d zs e n≤e * 21 ^ zs.length
 | 0=>by simp [cpart]
 | e + 1 => by
   rw [cpart,Nat.succ_mul];have h1:=cpart_le d zs n e;have h2:=cnt_le zs (n - e * d.toNat);split <;> omega
def cntR (zs:List Int) (r:Nat):List Int:=(List.range (r+1)).map fun s=>(cnt zs s:Int)
def mix (d:Int) (zs:List Int) (e t s:Nat):Nat:=if s<t then cpart d zs (e+1) s else cpart d zs e s
def mixR (d:Int) (zs:List Int) (r e t:Nat):List Int:=(List.range (r+1)).map fun s=>(mix d zs e t s:Int)
theorem mixR_len (d:Int) (zs:List Int) (r e t:Nat):(mixR d zs r e t).length=r+1:=by simp [mixR]
theorem cntR_len (zs:List Int) (r:Nat):(cntR zs r).length=r+1:=by simp [cntR]
theorem mixR_step {d:Int} {zs:List Int} {r e t:Nat} (ht:t≤r) (he:e * d.toNat≤t):(mixR d zs r e t).set t ((cpart d zs e t:Int)+(cnt zs (t - e * d.toNat):Int))=mixR d zs r e (t+1):=by
 apply List.ext_getElem?
 intro s
 rw [List.getElem?_set]
 by_cases hs:t=s
 · subst hs;rw [if_pos rfl,if_pos (by rw [mixR_len];omega),mixR,List.getElem?_map,List.getElem?_range (by omega)];simp only [Option.map_some,mix];rw [if_pos (by omega),cpart,if_pos he,Int.natCast_add]
 · rw [if_neg hs];by_cases hr:s<r+1
   · rw [mixR,mixR,List.getElem?_map,List.getElem?_map,List.getElem?_range hr];simp only [Option.map_some,mix];by_cases h:s<t
     · rw [if_pos h,if_pos (by omega)]
     · rw [if_neg h,if_neg (by omega)]
   · rw [List.getElem?_eq_none (by rw [mixR_len];omega),List.getElem?_eq_none (by rw [mixR_len];omega)]
theorem mixR_start (d:Int) (zs:List Int) (r e:Nat):mixR d zs r e (e * d.toNat)=(List.range (r+1)).map fun s=>(cpart d zs e s:Int):=by
 apply List.map_congr_left
 intro s _
 rw [mix]
 split
 · rw [cpart,if_neg (by omega),Nat.add_zero]
 · rfl
theorem mixR_end {d:Int} {zs:List Int} {r e t:Nat} (ht:r<t):mixR d zs r e t=(List.range (r+1)).map fun s=>(cpart d zs (e+1) s:Int):=by
 apply List.map_congr_left
 intro s hs
 have:=List.mem_range.1 hs
 rw [mix,if_pos (by omega)]
theorem mixR_done {d:Int} {zs:List Int} {r:Nat} (hd:1≤d):((List.range (r+1)).map fun s=>(cpart d zs (gx d+1) s:Int))=cntR (d::zs) r:=by
 apply List.map_congr_left
 intro s _
 rw [cpart_end hd]
theorem mixR_zero (d:Int) (zs:List Int) (r:Nat):((List.range (r+1)).map fun s=>(cpart d zs 0 s:Int))=List.replicate (r+1) 0:=by
 simp only [cpart]
 rw [List.map_const']
 simp
theorem mixR_get {d:Int} {zs:List Int} {r e t:Nat} (ht:t≤r):(mixR d zs r e t)[t]? = some (cpart d zs e t:Int):=by
 rw [mixR,List.getElem?_map,List.getElem?_range (by omega)]
 simp [mix]
theorem cntR_get {zs:List Int} {r s:Nat} (hs:s≤r):(cntR zs r)[s]? = some (cnt zs s:Int):=by
 rw [cntR,List.getElem?_map,List.getElem?_range (by omega)]
 rfl
theorem cntR_nil (r:Nat):(List.replicate (r+1) (0:Int)).set 0 1=cntR [] r:=by
 apply List.ext_getElem?
 intro s
 rw [List.getElem?_set]
 by_cases h:s<r+1
 · rw [cntR_get (by omega)]
   cases s with
   | zero=>simp [cnt,mons]
   | succ s=>simp [cnt,mons,List.getElem?_replicate];omega
 · have h1:(cntR [] r)[s]? = none:=List.getElem?_eq_none (by rw [cntR_len];omega);have h2:(List.replicate (r+1) (0:Int))[s]? = none:=List.getElem?_eq_none (by rw [List.length_replicate];omega);rw [h1,if_neg (by omega),h2]
theorem capAt_gx {zs:List Int} {i:Nat} {d:Int} (h:zs[i]? = some d):capAt zs i=(gx d:Int):=by
 rw [capAt,h,gx]
 simp only []
 cases odd d <;> rfl
theorem drop_at {zs:List Int} {i:Nat} {d:Int} (h:zs[i]? = some d):zs.drop i=d::zs.drop (i+1):=by
 obtain ⟨hk,rfl⟩:=List.getElem?_eq_some_iff.1 h
 rw [List.drop_eq_getElem_cons hk]
def capped:List Int→List Int→Prop
 | [],[]=>True
 | d::zs,x::m=>(0≤x∧x≤(gx d:Int))∧capped zs m
 | _,_=>False
theorem mem_down {α:Type} {f:Nat→List α} {x:α}:∀{k e:Nat},e<k→x∈f e→x∈down f k
 | k + 1, e, h, hx => by
   rw [down,List.mem_append];by_cases he:e=k
   · subst he;exact Or.inl hx
   · exact Or.inr (mem_down (by omega) hx)
theorem wt_nil (m:List Int):wt [] m=0:=by simp [wt,wtTo]
theorem capped_wt:∀{zs m:List Int},(∀z∈zs,1≤z)→capped zs m→0≤wt zs m
 | [],m,_,_=>by rw [wt_nil];exact Int.le_refl 0
 | d :: zs, x :: m, hz, h => by
   rw [wt_cons];have h1:=capped_wt (zs:=zs) (m:=m) (fun z hzz=>hz z (by simp [hzz])) h.2;have h2:=hz d (by simp);have h3:0≤d * x:=Int.mul_nonneg (by omega) h.1.1;omega
theorem mons_iff:∀{zs m:List Int} {n:Nat},(∀z∈zs,1≤z)→(m∈mons zs n↔capped zs m∧wt zs m=n)
 | [], m, n, _ => by
   rw [mons,wt_nil]
   cases m with
   | nil =>
     split
     · rename_i h;subst h;simp [capped]
     · rename_i h;simp [capped];omega
   | cons x m =>
     split <;> simp [capped]
 | d :: zs, m, n, hz => by
   have hzs:∀z∈zs,1≤z:=fun z hzz=>hz z (by simp [hzz]);have hd:=hz d (by simp);obtain ⟨D,rfl⟩:∃D:Nat,d=D:=⟨d.toNat,by omega⟩;have hD:0<D:=(by omega);rw [mons];simp only [Int.toNat_natCast];constructor
   · intro h;obtain ⟨e,he,hx⟩:=down_mem h;obtain ⟨m',hm',rfl⟩:=List.mem_map.1 hx;obtain ⟨h1,h2⟩:=(mons_iff hzs).1 hm';have hen:e≤n / D:=(by omega);have hle:e * D≤n:=(Nat.le_div_iff_mul_le hD).1 hen;refine ⟨⟨⟨by omega,by omega⟩,h1⟩,?_⟩;rw [wt_cons,h2,Int.mul_comm];have:((e * D:Nat):Int)=(e:Int) * (D:Int):=(by simp);omega
   · rintro ⟨h1,h2⟩
     match m,h1 with
     | x :: m', h1 =>
       obtain ⟨e,rfl⟩:∃e:Nat,x=e:=⟨x.toNat,by have:=h1.1.1;omega⟩;have hw:=capped_wt hzs h1.2;rw [wt_cons,Int.mul_comm] at h2;have hc:((e * D:Nat):Int)=(e:Int) * (D:Int):=(by simp);have hle:e * D≤n:=(by omega);have hen:e≤n / D:=(Nat.le_div_iff_mul_le hD).2 hle;have h3:=h1.1.2;refine mem_down (e:=e) (by omega) (List.mem_map.2 ⟨m',(mons_iff hzs).2 ⟨h1.2,by omega⟩,rfl⟩)
theorem down_ord {f:Nat→List (List Int)} (hf:∀e,(f e).Pairwise fun a b=>cmpM a b=-1) (hh:∀e m,m∈f e→∃m',m=(e:Int)::m'):∀k,(down f k).Pairwise fun a b=>cmpM a b=-1
 | 0=>List.Pairwise.nil
 | k + 1 => by
   rw [down,List.pairwise_append];refine ⟨hf k,down_ord hf hh k,fun a ha b hb=>?_⟩;obtain ⟨e,he,hb'⟩:=down_mem hb;obtain ⟨a',rfl⟩:=hh k a ha;obtain ⟨b',rfl⟩:=hh e b hb';rw [cmpM_cons];exact Or.inl (by omega)
theorem mons_ord:∀(zs:List Int) (n:Nat),(mons zs n).Pairwise fun a b=>cmpM a b=-1
 | [],n=>by rw [mons];split <;> simp
 | d :: zs, n => by
   rw [mons];refine down_ord (fun e=>?_) (fun e m hm=>?_) _
   · rw [List.pairwise_map];exact (mons_ord zs _).imp fun h=>by rw [cmpM_cons];exact Or.inr ⟨rfl,h⟩
   · obtain ⟨m',_,rfl⟩:=List.mem_map.1 hm;exact ⟨m',rfl⟩
theorem cmpM_app:∀{a b:List Int} (x y:List Int),cmpM a b=-1→cmpM (a++x) (b++y)=-1
 | [],[],_,_,h=>by simp [cmpM] at h
 | [],_::_,_,_,h=>by simp [cmpM] at h
 | _::_,[],_,_,h=>by simp [cmpM] at h
 | a :: l1, b :: l2, x, y, h => by
   rw [cmpM_cons] at h;rw [List.cons_append,List.cons_append,cmpM_cons]
   rcases h with h | ⟨h1,h2⟩
   · exact Or.inl h
   · exact Or.inr ⟨h1,cmpM_app x y h2⟩
theorem ext_ord (zs:List Int) (n:Nat):(ext [] (mons zs n)).Pairwise fun m k=>before m k=true:=by
 rw [ext,List.pairwise_map]
 refine (mons_ord zs n).imp fun h=>?_
 rw [before,decide_eq_true_eq]
 simp only [List.nil_append]
 exact cmpM_app _ _ h
theorem capped_of {zs m:List Int} (h8:zs.length≤8) (hm:IsMono m) (ok:monoOk zs m=true):capped zs (m.take zs.length)∧m=m.take zs.length++List.replicate (8 - zs.length) 0:=by
 have hf:∀i,i<8→m.getD i 0≤capAt zs i:=fun i hi=>by
  have:=List.all_eq_true.1 ok i (List.mem_range.2 hi);simpa [fits] using this
 constructor
 · have key : ∀ (zs m : List Int), zs.length ≤ m.length → (∀ x ∈ m, 0 ≤ x) → (∀ i, i < zs.length → m.getD i 0 ≤ capAt zs i) → capped zs (m.take zs.length) := by
     intro zs
     induction zs with
     | nil=>intro m _ _ _;simp [capped]
     | cons d zs ih =>
       intro m hl h0 hc
       match m,hl with
       | x :: m, hl =>
         have hc0:=hc 0 (by simp);simp [capAt] at hc0
         refine ⟨⟨h0 x (by simp),?_⟩,ih m (by simpa using hl) (fun y hy=>h0 y (by simp [hy])) (fun i hi=>?_)⟩
         · unfold gx;split at hc0 <;> rename_i hh <;> simp [hh] <;> omega
         · have:=hc (i+1) (by simpa using hi);simpa [capAt] using this
   exact key zs m (by rw [hm.1];exact h8) (fun x hx=>(hm.2 x hx).1) (fun i hi=>hf i (by omega))
 · have hd : m.drop zs.length = List.replicate (8 - zs.length) 0 := by
     rw [List.eq_replicate_iff];refine ⟨by rw [List.length_drop,hm.1],fun x hx=>?_⟩;obtain ⟨i,hi,rfl⟩:=List.getElem_of_mem hx;rw [List.length_drop,hm.1] at hi;have h1:=hf (zs.length+i) (by omega)
     have h2:capAt zs (zs.length+i)=0:=by
      rw [capAt,List.getElem?_eq_none (by omega)]
     rw [List.getElem_drop];have h3:m[zs.length+i]'(by rw [hm.1];omega)∈m:=List.getElem_mem _;have h4:=(hm.2 _ h3).1;rw [h2,List.getD_eq_getElem?_getD,List.getElem?_eq_getElem (by rw [hm.1];omega)] at h1;simp at h1
     omega
   rw [←hd,List.take_append_drop]
theorem wtTo_take (zs m:List Int) (k:Nat):∀j,j≤k→wtTo zs (m.take k) j=wtTo zs m j
 | 0,_=>rfl
 | j + 1, h => by
   rw [wtTo,wtTo,wtTo_take zs m k j (by omega)];simp [List.getD_eq_getElem?_getD,show j<k by omega]
theorem ext_mem {zs m:List Int} {n:Nat} (h8:zs.length≤8) (hz:∀z∈zs,1≤z) (hm:IsMono m) (ok:monoOk zs m=true) (hw:wt zs m=n):m∈ext [] (mons zs n):=by
 obtain ⟨h1,h2⟩:=capped_of h8 hm ok
 rw [ext,List.mem_map]
 refine ⟨m.take zs.length,(mons_iff hz).2 ⟨h1,?_⟩,?_⟩
 · rw [←hw,wt,wt,wtTo_take _ _ _ _ (Nat.le_refl _)]
 · rw [List.nil_append,List.length_take,hm.1,Nat.min_eq_left h8];exact h2.symm
theorem capped_len:∀{zs m:List Int},capped zs m→m.length=zs.length
 | [],[],_=>rfl
 | _::zs,_::m,h=>by rw [List.length_cons,List.length_cons,capped_len h.2]
theorem capped_at:∀{zs m:List Int} (i:Nat),capped zs m→i<zs.length→m.getD i 0≤capAt zs i
 | d :: zs, x :: m, 0, h, _ => by
   have:=h.1.2;unfold gx at this;simp only [List.getD_cons_zero,capAt,List.getElem?_cons_zero];split at this <;> rename_i hh <;> simp [hh] <;> omega
 | d :: zs, x :: m, i + 1, h, hi => by
   have:=capped_at i h.2 (by simpa using hi);simpa [capAt] using this
theorem ext_ok {zs m:List Int} {n:Nat} (_h8:zs.length≤8) (hz:∀z∈zs,1≤z) (h:m∈ext [] (mons zs n)):monoOk zs m=true∧wt zs m=n:=by
 rw [ext,List.mem_map] at h
 obtain ⟨p,hp,rfl⟩:=h
 obtain ⟨h1,h2⟩:=(mons_iff hz).1 hp
 have hl:=capped_len h1
 rw [List.nil_append]
 constructor
 · rw [monoOk,List.all_eq_true];intro i hi;have hi8:i<8:=(by simpa using hi);rw [fits,decide_eq_true_eq];by_cases hlt:i<zs.length
   · have:=capped_at i h1 hlt;rw [List.getD_eq_getElem?_getD,List.getElem?_append_left (by omega),←List.getD_eq_getElem?_getD];exact this
   · rw [capAt,List.getElem?_eq_none (by omega),List.getD_eq_getElem?_getD,List.getElem?_append_right (by omega),List.getElem?_replicate];split <;> simp
 · rw [←h2,wt,wt,←wtTo_take zs (p++_) zs.length _ (Nat.le_refl _),List.take_append_of_le_length (by omega),List.take_of_length_le (by omega)]
structure Deg1 (zs k:List Int) (N:Int):Prop where
 wt:_root_.Go.Proofs.YtfheammnkmjabaaGreat.wt zs k=N
 odd1:∀(j:Nat) (z y:Int),zs[j]? = some z→k[j]? = some y→odd z=true→y≤1
 tail:Tail0 k zs.length
theorem join_deg {zs m k:List Int} (F:FitW zs m k) (hj:¬joinS zs m k=0):Deg1 zs (joinM zs m k) (wt zs m+wt zs k):=by
 have hn:isNul zs m k=false:=by
  unfold joinS at hj;split at hj
  · exact absurd rfl hj
  · rename_i h1;simpa using h1
 rw [join_ne hj]
 refine ⟨wt_add zs m k (by have:=F.n8;have:=F.hm.1;omega) (by rw [F.hm.1,F.hk.1]),fun j z y hz hy ho=>?_,fun i h1 h2=>?_⟩
 · have hj8:j<8:=(by have:=(List.getElem?_eq_some_iff.1 hz).1;have:=F.n8;omega);obtain ⟨a,ha0,-,-,HA⟩:=mono_at F.hm hj8;obtain ⟨b,hb0,-,-,HB⟩:=mono_at F.hk hj8;have hA:=addM_get HA.out HB.out;rw [hA,Option.some.injEq] at hy;subst hy
   have hb:bad3 (z,a,b)=false:=by
    have:=hn;rw [isNul,List.any_eq_false] at this;have:=this (z,a,b) (List.mem_of_getElem? (trip_get hz HA.out HB.out));simpa using this
   simp only [bad3,ho,Bool.true_and,decide_eq_false_iff_not] at hb;omega
 · have:=addM_get (F.tm i h1 h2) (F.tk i h1 h2);simpa using this
theorem wtTo_ge {zs m:List Int} (hz:∀z∈zs,1≤z) (hm:∀x∈m,0≤x):∀j,0≤wtTo zs m j∧∀i,i<j→zs.getD i 0 * m.getD i 0≤wtTo zs m j
 | 0=>⟨by simp [wtTo],fun i h=>absurd h (by omega)⟩
 | j + 1 => by
   obtain ⟨h1,h2⟩:=wtTo_ge hz hm j
   have g:∀(l:List Int) (i:Nat),(∀x∈l,0≤x)→0≤l.getD i 0:=fun l i hl=>by
    rw [List.getD_eq_getElem?_getD]
    cases h:l[i]? with
    | none=>simp
    | some x=>simpa using hl x (List.mem_of_getElem? h)
   have h3:0≤zs.getD j 0 * m.getD j 0:=Int.mul_nonneg (g zs j (fun z hzz=>by have:=hz z hzz;omega)) (g m j hm);rw [wtTo];refine ⟨by omega,fun i hi=>?_⟩;by_cases e:i=j
   · subst e;omega
   · have:=h2 i (by omega);omega
theorem Deg1.ok {zs k:List Int} {N:Int} (h:Deg1 zs k N) (hz:∀z∈zs,1≤z) (_h8:zs.length≤8) (hk:IsMono k) (hN:N≤41):monoOk zs k=true:=by
 rw [monoOk,List.all_eq_true]
 intro i hi
 have hi8:i<8:=by simpa using hi
 obtain ⟨y,hy0,-,-,HY⟩:=mono_at hk hi8
 cases hzi:zs[i]? with
 | none =>
   have hle:=List.getElem?_eq_none_iff.1 hzi;have:=h.tail i hle hi8;rw [HY.out,Option.some.injEq] at this;rw [fits_out hle HY.out,decide_eq_true_eq];omega
 | some z =>
   have hlt:=(List.getElem?_eq_some_iff.1 hzi).1;rw [fits_in hzi HY.out,decide_eq_true_eq]
   cases ho:odd z with
   | true =>
     simpa using h.odd1 i z y hzi HY.out ho
   | false =>
     have h1:=(wtTo_ge hz (fun x hx=>(hk.2 x hx).1) zs.length).2 i hlt;rw [show wtTo zs k zs.length=_root_.Go.Proofs.YtfheammnkmjabaaGreat.wt zs k from rfl,h.wt,List.getD_eq_getElem?_getD,List.getD_eq_getElem?_getD,hzi,HY.out] at h1;simp only [Option.getD_some] at h1;have hz1:=hz z (List.mem_of_getElem? hzi)
     have hz2:2≤z:=by
      have hne:¬z=1:=fun e=>(by subst e;revert ho;decide);omega
     have h2:2 * y≤z * y:=Int.mul_le_mul_of_nonneg_right hz2 hy0;simp
     omega
theorem wt_set {zs m:List Int} {i:Nat} {v:Int} (hi:i<zs.length) (hm:i<m.length):wt zs (m.set i v)=wt zs m+zs.getD i 0 * (v - m.getD i 0):=by
 have key:∀j,wtTo zs (m.set i v) j=wtTo zs m j+if i<j then zs.getD i 0 * (v - m.getD i 0) else 0:=by
  intro j
  induction j with
  | zero=>simp [wtTo]
  | succ j ih =>
    rw [wtTo,wtTo,ih];by_cases e:i=j
    · subst e;rw [if_neg (by omega),if_pos (by omega)];rw [show (m.set i v).getD i 0=v by rw [List.getD_eq_getElem?_getD,List.getElem?_set_self hm];rfl,Int.mul_sub];omega
    · rw [show (m.set i v).getD j 0=m.getD j 0 by rw [List.getD_eq_getElem?_getD,List.getElem?_set_ne e,←List.getD_eq_getElem?_getD]];by_cases h:i<j
      · rw [if_pos h,if_pos (by omega)];omega
      · rw [if_neg h,if_neg (by omega)];omega
 rw [wt,key,if_pos hi,wt]
theorem around_add {m:List Int} {i:Nat} (hm:m.length=8) (hi:i<8):addM (leftM m i) (backM m i)=m.set i (m.getD i 0 - 1):=by
 have hx:m[i]? = some (m.getD i 0):=by rw [List.getD_eq_getElem?_getD,List.getElem?_eq_getElem (by omega)];rfl
 apply List.ext_getElem?
 intro j
 by_cases hj:j<8
 · have hL : (leftM m i)[j]? = some (if j < i then m.getD j 0 else if j = i then m.getD i 0 - 1 else 0) := by
     rw [leftM,List.getElem?_set,frontM_len hm (by omega)];by_cases e:i=j
     · subst e;simp [hj]
     · rw [if_neg e,frontM];by_cases h:j<i
       · rw [List.getElem?_append_left (by rw [List.length_take];omega),List.getElem?_take,if_pos h,if_pos h,List.getD_eq_getElem?_getD,List.getElem?_eq_getElem (by omega)];rfl
       · rw [List.getElem?_append_right (by rw [List.length_take];omega),List.getElem?_replicate,if_pos (by rw [List.length_take];omega),if_neg h,if_neg (fun h=>e h.symm)]
   have hB:(backM m i)[j]? = some (if i<j then m.getD j 0 else 0):=by
    rw [backM];by_cases h:i<j
    · rw [List.getElem?_append_right (by rw [List.length_replicate];omega),List.length_replicate,List.getElem?_drop,if_pos h,show i+1+(j - (i+1))=j by omega,List.getD_eq_getElem?_getD,List.getElem?_eq_getElem (by omega)];rfl
    · rw [List.getElem?_append_left (by rw [List.length_replicate];omega),List.getElem?_replicate,if_pos (by omega),if_neg h]
   rw [addM_get hL hB,List.getElem?_set,hm];by_cases e:i=j
   · subst e;simp [hj]
   · rw [if_neg e,List.getElem?_eq_getElem (by omega)];congr 1
     have hg:m.getD j 0=m[j]:=(by rw [List.getD_eq_getElem?_getD,List.getElem?_eq_getElem (by omega)];rfl);rw [hg];by_cases h:j<i
     · rw [if_pos h,if_neg (show ¬i<j by omega)];omega
     · rw [if_neg h,if_neg (fun h=>e h.symm),if_pos (show i<j by omega)];omega
 · rw [List.getElem?_eq_none (by simp [addM,leftM,frontM,backM];omega),List.getElem?_eq_none (by simp [hm];omega)]
theorem wt_around {zs m:List Int} {i:Nat} (h8:zs.length≤8) (hm:m.length=8) (hi:i<zs.length):wt zs (leftM m i)+wt zs (backM m i)=wt zs m - zs.getD i 0:=by
 have hl:=leftM_len hm (show i≤8 by omega)
 have hb:=backM_len hm (show i<8 by omega)
 rw [←wt_add zs _ _ (by omega) (by omega),around_add hm (by omega),wt_set hi (by omega),show m.getD i 0 - 1 - m.getD i 0=-1 by omega]
 omega
theorem zeroOr_wt {zs:List Int} {ts:List Tm} {x:Int} (h:zeroOr zs ts x=true):∀u∈ts,wt zs u.m=x:=by
 intro u hu
 have hf:=zeroOr_form h
 simp only [zeroOr,Bool.and_eq_true,Bool.or_eq_true,beq_iff_eq] at h
 obtain ⟨h1,h2⟩:=h
 have hne:¬ts.length=0:=fun e=>by rw [List.length_eq_zero_iff.1 e] at hu;simp at hu
 have h3:degF zs ts=x:=by
  rcases h2 with h2 | h2
  · exact h2
  · exact absurd h2 hne
 have hw:allW zs ts=true:=by
  simp only [codF,if_pos hf] at h1;split at h1
  · assumption
  · omega
 rw [degF,if_pos ⟨hf,hw⟩] at h3
 obtain ⟨i,hi,rfl⟩:=List.mem_iff_getElem.1 hu
 have:=List.all_eq_true.1 hw i (List.mem_range.2 hi)
 rw [sameW_of (List.getElem?_eq_getElem hi),decide_eq_true_eq] at this
 rw [this,h3]
theorem isAlg_wt {zs:List Int} {ims:List (List Tm)} (h:isAlg zs ims=true) {i:Nat} (hi:i<zs.length):∀u∈ims.getD i [],wt zs u.m=zs.getD i 0+1:=by
 simp only [isAlg,Bool.and_eq_true,decide_eq_true_eq] at h
 have:=List.all_eq_true.1 h.2.2.1 i (List.mem_range.2 (by omega))
 exact zeroOr_wt this
def AllD (zs:List Int) (T:List Tm) (N:Int):Prop:=∀x∈T,Deg1 zs x.m N
theorem between_deg {zs m:List Int} {ims:List (List Tm)} (hA:isAlg zs ims=true) (h:AlgOk zs ims) {i:Nat} (hm:IsMono m) (ok:monoOk zs m=true) (hi:i<zs.length) (hp:0<m.getD i 0):AllD zs (_root_.Go.Proofs.YtfheammnkmjabaaGreat.between zs (leftM m i) (backM m i) (ims.getD i [])) (wt zs m+1):=by
 obtain ⟨h1,h2,h3,h4,h5⟩:=h.at_ i
 have T1:=two_left h.h8 hm ok hi hp h2 h3 h4 h5
 have T2:=two_back h.h8 hm ok hi hp h2 h3 h4 h5
 have hw:=wt_around h.h8 hm.1 hi
 have hu:=isAlg_wt hA hi
 have D1:∀x∈timesT zs (ims.getD i []) [] [⟨leftM m i,1⟩],wt zs x.m=wt zs (leftM m i)+(zs.getD i 0+1):=
  times_all (p:=fun k=>wt zs k=wt zs (leftM m i)+(zs.getD i 0+1)) (by simp) (fun t ht u hu' hj=>by
   obtain rfl:t=⟨leftM m i,1⟩:=by simpa using ht
   rw [(join_deg (T1.fit _ ht u hu') hj).wt,hu u hu'])
 refine times_all (p:=fun k=>Deg1 zs k (wt zs m+1)) (by simp) (fun t ht u hu' hj=>?_)
 obtain rfl:u=⟨backM m i,1⟩:=by simpa using hu'
 have:=join_deg (T2.fit t ht _ hu') hj
 have e:wt zs t.m+wt zs (backM m i)=wt zs m+1:=by rw [D1 t ht];omega
 rw [e] at this
 exact this
theorem term_deg {zs:List Int} {ims:List (List Tm)} (hA:isAlg zs ims=true) (h:AlgOk zs ims) {t:Tm} {out:List Tm} (hm:IsMono t.m) (ok:monoOk zs t.m=true) (H:AllD zs out (wt zs t.m+1)):∀i:Nat,i≤zs.length→AllD zs (termT zs ims t out i) (wt zs t.m+1)
 | 0,_=>by rw [termT];exact H
 | i + 1, hi => by
   have ih:=term_deg hA h hm ok H i (by omega);have hg:=getD_mono hm i;rw [termT];split
   · exact ih
   · exact addT_all (p:=fun x=>Deg1 zs x.m (wt zs t.m+1)) _ _ ih (fun g hg' _ _=>between_deg hA h hm ok (by omega) (by omega) g hg') (fun f hf _ _=>ih f hf)
theorem diff_mem {zs:List Int} {ims:List (List Tm)} (hA:isAlg zs ims=true) (h:AlgOk zs ims) (hz:∀z∈zs,1≤z) {t:Tm} (ht:IsTm t) (ok:monoOk zs t.m=true) {n:Nat} (hw:wt zs t.m=n) (hn:n≤40):∀x∈diffT zs ims [] [t],x.m∈ext [] (mons zs (n+1)):=by
 intro x hx
 have hD:Deg1 zs x.m (wt zs t.m+1):=term_deg hA h (out:=[]) ht.1 ok (fun _ hx=>absurd hx (by simp)) zs.length (Nat.le_refl _) x hx
 have hs := h.diff [t] [] 0 (fun u hu => by obtain rfl : u = t := by simpa using hu
                                            exact ht) (fun u hu => by obtain rfl : u = t := by simpa using hu
                                                                      exact ok) sum9_nil
 have hm:=(hs.tm x hx).1
 rw [hw] at hD
 exact ext_mem h.h8 hz hm (hD.ok hz h.h8 hm (by omega)) (by rw [hD.wt];rfl)
end Go.Proofs.YtfheammnkmjabaaGreat
