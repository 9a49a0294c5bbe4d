
import Derived.Test.YtdppjlndcacfnaaGreatDiffT
namespace Go.Proofs.YtdppjlndcacfnaaGreat
open Go.RowKit Go.Deep
def Ag:List Int→List Int→List Int→Prop
 | [],_,_=>True
 | _::_,[],[]=>True
 | z::zs,a::m,b::k=>(odd z=true→a=b)∧Ag zs m k
 | _,_,_=>False
theorem ag_refl:∀zs m,Ag zs m m
 | [],_=>trivial
 | _::_,[]=>trivial
 | _::zs,_::m=>⟨fun _=>rfl,ag_refl zs m⟩
theorem ag_of:∀zs m k,m.length=k.length→(∀j,odd (zs.getD j 0)=true→m.getD j 0=k.getD j 0)→Ag zs m k
 | [],_,_,_,_=>trivial
 | _::_,[],[],_,_=>trivial
 | _::_,[],_::_,hl,_=>by simp at hl
 | _::_,_::_,[],hl,_=>by simp at hl
 | z::zs,a::m,b::k,hl,h=>⟨fun ho=>by simpa using h 0 (by simpa using ho),ag_of zs m k (by simpa using hl) (fun j hj=>by simpa using h (j+1) (by simpa using hj))⟩
theorem Ag.add:∀{zs m k:List Int} (u:List Int),Ag zs m k→Ag zs (addM m u) (addM k u)
 | [],_,_,_,_=>trivial
 | _::_,[],[],_,_=>by simp [addM,Ag]
 | _::_,[],_::_,_,h=>False.elim h
 | _::_,_::_,[],_,h=>False.elim h
 | _::_,_::_,_::_,[],_=>by simp [addM,Ag]
 | z::zs,a::m,b::k,c::u,h=>⟨fun ho=>by rw [h.1 ho],Ag.add (zs:=zs) u h.2⟩
theorem sgn_ag:∀{zs m m' k k':List Int},Ag zs m m'→Ag zs k k'→sgn3 (trip zs m k)=sgn3 (trip zs m' k')∧(trip zs m k).any bad3=(trip zs m' k').any bad3
 | [],_,_,_,_,_,_=>by simp [trip]
 | _::_,[],[],_,_,_,_=>by simp [trip]
 | _::_,[],_::_,_,_,h,_=>False.elim h
 | _::_,_::_,[],_,_,h,_=>False.elim h
 | _::_,_::_,_::_,[],[],_,_=>by simp [trip]
 | _::_,_::_,_::_,[],_::_,_,h=>False.elim h
 | _::_,_::_,_::_,_::_,[],_,h=>False.elim h
 | z :: zs, a :: m, b :: m', c :: k, d :: k', h, g => by
   obtain ⟨i1,i2⟩:=sgn_ag (zs:=zs) h.2 g.2;have e1:trip (z::zs) (a::m) (c::k)=(z,a,c)::trip zs m k:=rfl;have e2:trip (z::zs) (b::m') (d::k')=(z,b,d)::trip zs m' k':=rfl;rw [e1,e2]
   cases ho:odd z with
   | false=>simp [sgn3,bad3,ho,i1,i2]
   | true =>
     have ea:=h.1 ho;have ec:=g.1 ho;subst ea ec;simp [sgn3,bad3,i1,i2]
theorem joinS_ag {zs m m' k k':List Int} (h:Ag zs m m') (g:Ag zs k k'):joinS zs m k=joinS zs m' k':=by
 obtain ⟨h1,h2⟩:=sgn_ag h g
 rw [joinS,joinS,isNul,isNul,h1,h2]
theorem isNul_ag {zs m m' k k':List Int} (h:Ag zs m m') (g:Ag zs k k'):isNul zs m k=isNul zs m' k':=(sgn_ag h g).2
theorem joinS_nul {zs m k:List Int} (h:¬joinS zs m k=0):isNul zs m k=false:=by
 cases hn:isNul zs m k with
 | false=>rfl
 | true=>rw [joinS,hn] at h;simp at h
theorem joinM_ne9 {zs m k:List Int} (h:isNul zs m k=false):joinM zs m k=addM m k:=by rw [joinM,h];rfl
def restM (m:List Int) (i:Nat):List Int:=(backM m i).set i (m.getD i 0 - 1)
theorem restM_len {m:List Int} {i:Nat} (h:m.length=8) (hi:i<8):(restM m i).length=8:=by rw [restM,List.length_set];exact backM_len h hi
theorem getD_setA (l:List Int) (i j:Nat) (v:Int) (hi:i<l.length):(l.set i v).getD j 0=if j=i then v else l.getD j 0:=by
 rw [List.getD_eq_getElem?_getD,List.getElem?_set]
 by_cases h:i=j
 · subst h;rw [if_pos rfl,if_pos hi,if_pos rfl];rfl
 · rw [if_neg h,if_neg (fun e=>h e.symm),←List.getD_eq_getElem?_getD]
theorem front_at {m:List Int} {i:Nat} (hl:m.length=8) (hi:i<8):(frontM m i).getD i 0=0:=by
 rw [frontM,List.getD_eq_getElem?_getD,List.getElem?_append_right (by rw [List.length_take];omega),List.getElem?_replicate]
 split <;> rfl
theorem back_at {m:List Int} {i:Nat}:(backM m i).getD i 0=0:=by
 rw [backM,List.getD_eq_getElem?_getD,List.getElem?_append_left (by rw [List.length_replicate];omega),List.getElem?_replicate]
 split <;> rfl
theorem addM_getD {m k:List Int} (hm:m.length=8) (hk:k.length=8) (j:Nat):(addM m k).getD j 0=m.getD j 0+k.getD j 0:=by
 by_cases hj:j<8
 · have h1:m[j]? = some m[j]:=List.getElem?_eq_getElem (by omega);have h2:k[j]? = some k[j]:=List.getElem?_eq_getElem (by omega);rw [List.getD_eq_getElem?_getD,addM_get h1 h2,List.getD_eq_getElem?_getD,h1,List.getD_eq_getElem?_getD,h2];rfl
 · rw [List.getD_eq_getElem?_getD,List.getElem?_eq_none (by rw [addM_len hm hk];omega),List.getD_eq_getElem?_getD,List.getElem?_eq_none (by omega),List.getD_eq_getElem?_getD,List.getElem?_eq_none (by omega)];rfl
theorem ext8A {m k:List Int} (hm:m.length=8) (hk:k.length=8) (h:∀j,m.getD j 0=k.getD j 0):m=k:=by
 apply List.ext_getElem (by omega)
 intro j h1 h2
 have:=h j
 rw [List.getD_eq_getElem?_getD,List.getD_eq_getElem?_getD,List.getElem?_eq_getElem h1,List.getElem?_eq_getElem h2] at this
 exact this
section
variable {zs m:List Int} {i:Nat}
theorem left_ag (hm:IsMono m) (ok:monoOk zs m=true) (hi:i<8) (hp:0<m.getD i 0):Ag zs (leftM m i) (frontM m i):=by
 have hl:=hm.1
 refine ag_of zs _ _ (by rw [leftM_len hl (by omega),frontM_len hl (by omega)]) (fun j hj=>?_)
 rw [leftM,getD_setA _ _ _ _ (by rw [frontM_len hl (by omega)];omega)]
 split
 · rename_i e;subst e;have:=odd_le1 hm ok hj;rw [front_at hl hi];omega
 · rfl
theorem back_ag (hm:IsMono m) (ok:monoOk zs m=true) (hi:i<8) (hp:0<m.getD i 0):Ag zs (backM m i) (restM m i):=by
 have hl:=hm.1
 refine ag_of zs _ _ (by rw [backM_len hl hi,restM_len hl hi]) (fun j hj=>?_)
 rw [restM,getD_setA _ _ _ _ (by rw [backM_len hl hi];omega)]
 split
 · rename_i e;subst e;have:=odd_le1 hm ok hj;rw [back_at];omega
 · rfl
theorem move_sum {u:List Int} (hl:m.length=8) (hi:i<8) (hu:u.length=8):addM (addM (leftM m i) u) (backM m i)=addM (addM (frontM m i) u) (restM m i):=by
 have f:=frontM_len hl (show i≤8 by omega)
 have l:=leftM_len hl (show i≤8 by omega)
 have b:=backM_len hl hi
 have r:=restM_len hl hi
 refine ext8A (by rw [addM_len (addM_len l hu) b]) (by rw [addM_len (addM_len f hu) r]) (fun j=>?_)
 rw [addM_getD (addM_len l hu) b,addM_getD l hu,addM_getD (addM_len f hu) r,addM_getD f hu,restM,leftM,getD_setA _ _ _ _ (by omega),getD_setA _ _ _ _ (by omega)]
 split
 · rename_i e;subst e;rw [front_at hl hi,back_at];omega
 · rfl
theorem pstep_move (hm : IsMono m) (ok : monoOk zs m = true) (hi : i < 8) (hp : 0 < m.getD i 0) (F : Int) (S : List Int → Int) (u : Tm) (hu : u.m.length = 8) :
    pstep zs (leftM m i) (backM m i) F S u=pstep zs (frontM m i) (restM m i) F S u:=by
 have hl:=hm.1
 have A:=left_ag hm ok hi hp
 have B:=back_ag hm ok hi hp
 have e1:=joinS_ag A (ag_refl zs u.m)
 rw [pstep,pstep,←e1]
 by_cases h0:joinS zs (leftM m i) u.m=0
 · rw [if_pos h0,if_pos h0]
 · have n1:=joinS_nul h0;have n2:isNul zs (frontM m i) u.m=false:=(by rw [←isNul_ag A (ag_refl zs u.m)];exact n1);have j1:joinM zs (leftM m i) u.m=addM (leftM m i) u.m:=(by rw [joinM,n1];rfl);have j2:joinM zs (frontM m i) u.m=addM (frontM m i) u.m:=by rw [joinM,n2];rfl
   have e2:joinS zs (joinM zs (leftM m i) u.m) (backM m i)=joinS zs (joinM zs (frontM m i) u.m) (restM m i):=by
    rw [j1,j2];exact joinS_ag (A.add u.m) B
   rw [if_neg h0,if_neg h0,←e2];by_cases h1:joinS zs (joinM zs (leftM m i) u.m) (backM m i)=0
   · rw [if_pos h1,if_pos h1]
   · have n3:=joinS_nul h1
     have n4:isNul zs (joinM zs (frontM m i) u.m) (restM m i)=false:=by
      rw [j2,←isNul_ag (A.add u.m) B,←j1];exact n3
     have e3:joinM zs (joinM zs (leftM m i) u.m) (backM m i)=joinM zs (joinM zs (frontM m i) u.m) (restM m i):=by
      rw [joinM_ne9 n3,joinM_ne9 n4,j1,j2];exact move_sum hl hi hu
     rw [if_neg h1,if_neg h1,←e3]
theorem addP_move (hm:IsMono m) (ok:monoOk zs m=true) (hi:i<8) (hp:0<m.getD i 0) (F:Int):∀(im:List Tm) (S:List Int→Int),(∀u∈im,u.m.length=8)→addP zs (leftM m i) (backM m i) F S im=addP zs (frontM m i) (restM m i) F S im
 | [],_,_=>rfl
 | u :: im, S, h => by
   show addP zs _ _ F (pstep zs (leftM m i) (backM m i) F S u) im=addP zs _ _ F (pstep zs (frontM m i) (restM m i) F S u) im
   rw [pstep_move hm ok hi hp F S u (h u (by simp))];exact addP_move hm ok hi hp F im _ (fun x hx=>h x (by simp [hx]))
end
theorem num_fac {a b q x y:Int} (h:num x=num y):num (a+b * num x * q)=num (a+b * y * q):=by
 rw [h,show b * num y * q=(b * q) * num y by ac_rfl,num_add_mul,show (b * q) * y=b * y * q by ac_rfl]
theorem addP_coefC {zs left right:List Int} {F f c:Int} {S0:List Int→Int} (hF:num F=num (f * c)):∀(im:List Tm) (S G:List Int→Int),(∀m,S m=num (S0 m+f * G m))→∀m,addP zs left right F S im m=num (S0 m+f * sumS zs [⟨right,1⟩] G (shiftT zs ⟨left,c⟩ im) m)
 | [],S,G,h,m=>h m
 | u :: im, S, G, h, m => by
   show addP zs left right F (pstep zs left right F S u) im m=_
   by_cases h1:joinS zs left u.m=0
   · rw [shiftT_no (t:=⟨left,c⟩) h1,pstep,if_pos h1];exact addP_coefC hF im S G h m
   · rw [shiftT_yes (t:=⟨left,c⟩) h1,pstep,if_neg h1];show addP zs left right F _ im m=num (S0 m+f * sumS zs [⟨right,1⟩] (stepS zs ⟨joinM zs left u.m,num (joinS zs left u.m * c * u.f)⟩ G ⟨right,1⟩) (shiftT zs ⟨left,c⟩ im) m)
     refine addP_coefC hF im _ _ (fun k=>?_) m;by_cases h2:joinS zs (joinM zs left u.m) right=0
     · rw [if_pos h2,stepS,if_pos h2];exact h k
     · rw [if_neg h2,stepS,if_neg h2];unfold updS;by_cases hk:k=joinM zs (joinM zs left u.m) right
       · rw [if_pos hk,if_pos hk,hk,h];dsimp only;generalize S0 (joinM zs (joinM zs left u.m) right)=s;generalize G (joinM zs (joinM zs left u.m) right)=g;generalize joinS zs (joinM zs left u.m) right=j2;generalize joinS zs left u.m=j1;generalize u.f=v;rw [num_add',num_fac hF,Int.mul_one,num_add_mul];rw [Int.mul_add,←Int.add_assoc,←Int.mul_assoc f j2,num_add_mul];congr 2
         ac_rfl
       · rw [if_neg hk,if_neg hk];exact h k
theorem own_shiftC {zs left:List Int} {im:List Tm} {c:Int} (hc:1≤c∧c≤10006) (hf:∀u∈im,1≤u.f∧u.f≤10006):timesT zs im [] [⟨left,c⟩]=shiftT zs ⟨left,c⟩ im:=by
 show addT 1 [] (shiftT zs ⟨left,c⟩ im)=_
 have hx:∀x∈shiftT zs ⟨left,c⟩ im,1≤x.f∧x.f≤10006:=fun x hx=>by
  have hb:=shiftT_bd x hx;obtain ⟨u,hu,hj,_,e⟩:=shiftT_mem hx;have h1:=num_mul_ne hc.1 hc.2 (hf u hu).1 (hf u hu).2
  have h2:¬num (joinS zs left u.m * c * u.f)=0:=by
   rw [Int.mul_assoc]
   rcases joinS_pm hj with h | h
   · rw [h,Int.one_mul];exact h1
   · rw [h,Int.neg_one_mul];exact num_neg_ne h1
  dsimp only at e;rw [←e] at h2;omega
 rw [scT_add (by omega) (by omega) _ hx,scT]
 have:∀l:List Tm,(∀x∈l,1≤x.f∧x.f≤10006)→(l.map fun t=>(⟨t.m,num (1 * t.f)⟩:Tm))=l:=by
  intro l
  induction l with
  | nil=>intro _;rfl
  | cons t l ih =>
    intro h;have ht:=h t (by simp);rw [List.map_cons,ih (fun x hx=>h x (by simp [hx])),Int.one_mul,num_self (by omega)]
 exact this _ hx
def pcs (k:Int) (zs m:List Int) (i:Nat):Int:=if (wtTo zs m i * k) % 2=0 then m.getD i 0 else -(m.getD i 0)
def pieceO (zs:List Int) (gss:List (List Tm)) (k:Int) (m:List Int) (i:Nat):List Tm:=timesT zs (gss.getD i []) [] [⟨frontM m i,num (pcs k zs m i)⟩]
def piece (zs:List Int) (gss:List (List Tm)) (k:Int) (m:List Int) (i:Nat):List Tm:=timesT zs [⟨restM m i,1⟩] [] (pieceO zs gss k m i)
def monoT (zs:List Int) (gss:List (List Tm)) (k:Int) (m:List Int):Nat→List Tm
 | 0=>[]
 | i+1=>if m.getD i 0=0 then monoT zs gss k m i else addT 1 (monoT zs gss k m i) (piece zs gss k m i)
def applyT (zs:List Int) (gss:List (List Tm)) (k:Int) (out:List Tm) (fs:List Tm):List Tm:=fs.foldl (fun out t=>addT t.f out (monoT zs gss k t.m zs.length)) out
theorem applyT_take {zs:List Int} {gss:List (List Tm)} {k:Int} {t:Tm} {fs:List Tm} {i:Nat} (h:fs[i]? = some t):applyT zs gss k [] (fs.take (i+1))=addT t.f (applyT zs gss k [] (fs.take i)) (monoT zs gss k t.m zs.length):=by
 rw [applyT,applyT,List.take_add_one,h,List.foldl_append];rfl
section
variable {zs m:List Int} {gss:List (List Tm)} {k:Int} {i:Nat}
theorem sgn_pcs (hm:IsMono m) (ok:monoOk zs m=true):sgnO (odd k) zs m i * m.getD i 0=pcs k zs m i:=by
 have hp:∀j,j<i→odd (zs.getD j 0)=true→m.getD j 0=0∨m.getD j 0=1:=fun j _ ho=>by
  have h1:=odd_le1 hm ok ho;have h2:=getD_mono hm j;omega
 rw [pcs,sgnO,sgnTo_par i hp]
 have hk:odd k=!(decide (k % 2=0)):=by
  rw [odd];by_cases h:k % 2=0 <;> simp [h]
 have hm2:(wtTo zs m i * k) % 2=((wtTo zs m i % 2) * (k % 2)) % 2:=Int.mul_emod _ _ _
 have w1:wtTo zs m i % 2=0∨wtTo zs m i % 2=1:=by omega
 have k1:k % 2=0∨k % 2=1:=by omega
 rw [hm2,hk]
 rcases w1 with w | w <;> rcases k1 with q | q <;> simp [w,q]
theorem pcs_nz (hm:IsMono m) (ok:monoOk zs m=true) (hi:i<8) (hp:0<m.getD i 0):1≤num (pcs k zs m i)∧num (pcs k zs m i)≤10006:=by
 have h20:m.getD i 0≤20:=by
  have:=mono20 (i:=i) ok hi (y:=m.getD i 0) (by
   rw [List.getD_eq_getElem?_getD,List.getElem?_eq_getElem (by rw [hm.1];exact hi)];rfl)
  exact this
 rw [pcs]
 unfold num
 split <;> omega
theorem rest_in {B:Int} (h:In B m) (hB:0≤B) (hi:i<m.length) (hp:0<m.getD i 0):In B (restM m i):=fun y hy=>by
 rcases List.mem_or_eq_of_mem_set hy with e | e
 · exact back_in h hB y e
 · have:=h _ (getD_mem hi);omega
theorem front_inA {B:Int} (h:In B m) (hB:0≤B):In B (frontM m i):=fun y hy=>by
 rw [frontM,List.mem_append] at hy
 rcases hy with e | e
 · exact h y (List.mem_of_mem_take e)
 · rw [(List.mem_replicate.1 e).2];omega
theorem front_tail {n:Nat} (hl:m.length=8) (hi:i<n):Tail0 (frontM m i) n:=by
 intro j hj hj8
 rw [frontM,List.getElem?_append_right (by rw [List.length_take];omega),List.getElem?_replicate,if_pos (by rw [List.length_take];omega)]
theorem rest_tail {n:Nat} (hl:m.length=8) (hi:i<n) (h:Tail0 m n):Tail0 (restM m i) n:=by
 intro j hj hj8
 rw [restM,List.getElem?_set,if_neg (by omega)]
 exact back_tail hl hi h j hj hj8
theorem front_fit (h8 : zs.length ≤ 8) (hm : IsMono m) (ok : monoOk zs m = true) {u : List Int} (hu : IsMono u) (ou : monoOk zs u = true) (hi : i < zs.length) (hp : 0 < m.getD i 0) :
    FitW zs (frontM m i) u∧FitW zs (joinM zs (frontM m i) u) (restM m i):=by
 have i1:=ok_in hm ok
 have i2:=ok_in hu ou
 have hl:=hm.1
 have L:=front_inA (i:=i) i1 (by omega)
 have K:=rest_in i1 (by omega) (by omega) hp (i:=i)
 have ll:(frontM m i).length=8:=frontM_len hl (by omega)
 have kl:(restM m i).length=8:=restM_len hl (by omega)
 have tl:=front_tail (n:=zs.length) hl hi
 have tk:=rest_tail hl hi (tail0 hm ok)
 have F1:FitW zs (frontM m i) u:=⟨h8,L.isMono ll (by omega),hu,tl,tail0 hu ou,fun _ y h=>by have:=L.at_ h;omega,fun _ y h=>by have:=i2.at_ h;omega⟩
 have J:=join_in (zs:=zs) L i2 (by omega) (by omega)
 exact ⟨F1,⟨h8,joinM_monoW F1,K.isMono kl (by omega),join_tail tl (tail0 hu ou),tk,fun _ y h=>by have:=J.at_ h;omega,fun _ y h=>by have:=K.at_ h;omega⟩⟩
theorem front_monoA (hm:IsMono m) (ok:monoOk zs m=true) (hi:i<8):IsMono (frontM m i):=(front_inA (i:=i) (ok_in hm ok) (by omega):In 20 (frontM m i)).isMono (frontM_len hm.1 (by omega)) (by omega)
theorem rest_mono (hm:IsMono m) (ok:monoOk zs m=true) (hi:i<8) (hp:0<m.getD i 0):IsMono (restM m i):=(rest_in (i:=i) (ok_in hm ok) (by omega) (by rw [hm.1];exact hi) hp:In 20 (restM m i)).isMono (restM_len hm.1 hi) (by omega)
theorem two_front (H:AlgOk zs gss) (hm:IsMono m) (ok:monoOk zs m=true) (hi:i<zs.length) (hp:0<m.getD i 0):Two zs [⟨frontM m i,num (pcs k zs m i)⟩] (gss.getD i []):=by
 obtain ⟨-,ht,hk,hf,hs⟩:=H.at_ i
 have h8:=H.h8
 have L:=front_monoA (i:=i) hm ok (by omega)
 have hc:=pcs_nz (k:=k) hm ok (show i<8 by omega) hp
 refine ⟨?_,ht,?_,?_,hf,hs⟩
 · intro t h;obtain rfl:t=⟨frontM m i,num (pcs k zs m i)⟩:=(by simpa using h);exact ⟨L,by dsimp only;omega,by dsimp only;omega⟩
 · intro t h u hu;obtain rfl:t=⟨frontM m i,num (pcs k zs m i)⟩:=(by simpa using h);exact (front_fit H.h8 hm ok (ht u hu).1 (hk u hu) hi hp).1
 · intro t h;obtain rfl:t=⟨frontM m i,num (pcs k zs m i)⟩:=(by simpa using h);exact hc
theorem two_rest (H:AlgOk zs gss) (hm:IsMono m) (ok:monoOk zs m=true) (hi:i<zs.length) (hp:0<m.getD i 0):Two zs (pieceO zs gss k m i) [⟨restM m i,1⟩]:=by
 have T1:=two_front (k:=k) H hm ok hi hp
 obtain ⟨-,ht,hk,hf,hs⟩:=H.at_ i
 have h8:=H.h8
 have K:=rest_mono (i:=i) hm ok (by omega) hp
 refine ⟨T1.tm,?_,?_,T1.good.nz,?_,List.pairwise_singleton _ _⟩
 · intro t h;obtain rfl:t=⟨restM m i,1⟩:=(by simpa using h);exact ⟨K,by dsimp only;omega,by dsimp only;omega⟩
 · intro t h u hu;obtain rfl:u=⟨restM m i,1⟩:=(by simpa using hu);refine times_all (p:=fun x=>FitW zs x (restM m i)) (by simp) (fun s hs u hu _=>?_) t h;obtain rfl:s=⟨frontM m i,num (pcs k zs m i)⟩:=(by simpa using hs);exact (front_fit H.h8 hm ok (ht u hu).1 (hk u hu) hi hp).2
 · intro t h;obtain rfl:t=⟨restM m i,1⟩:=(by simpa using h);exact ⟨by dsimp only;omega,by dsimp only;omega⟩
theorem piece_len:(piece zs gss k m i).length≤(gss.getD i []).length:=by
 have h1:=times_len (zs:=zs) (gs:=[⟨restM m i,1⟩]) (pieceO zs gss k m i) []
 have h2:=times_len (zs:=zs) (gs:=gss.getD i []) [⟨frontM m i,num (pcs k zs m i)⟩] []
 rw [List.length_nil,List.length_singleton,Nat.mul_one,Nat.zero_add] at h1
 rw [List.length_nil,List.length_singleton,Nat.one_mul,Nat.zero_add] at h2
 exact Nat.le_trans h1 h2
theorem pieceO_len:(pieceO zs gss k m i).length≤(gss.getD i []).length:=by
 have h2:=times_len (zs:=zs) (gs:=gss.getD i []) [⟨frontM m i,num (pcs k zs m i)⟩] []
 rw [List.length_nil,List.length_singleton,Nat.one_mul,Nat.zero_add] at h2
 exact h2
theorem piece9 (H:AlgOk zs gss) (hm:IsMono m) (ok:monoOk zs m=true) (hi:i<zs.length) (hp:0<m.getD i 0):Sum9 (piece zs gss k m i) 400:=by
 have T2:=two_rest (k:=k) H hm ok hi hp
 exact ⟨T2.tm,T2.good,Nat.le_trans piece_len (H.at_ i).1⟩
theorem mono9 (H:AlgOk zs gss) (hm:IsMono m) (ok:monoOk zs m=true):∀i:Nat,i≤zs.length→Sum9 (monoT zs gss k m i) (i * 400)
 | 0,_=>by rw [monoT,Nat.zero_mul];exact sum9_nil
 | i + 1, hi => by
   have ih:=mono9 H hm ok i (by omega);have hg:=getD_mono hm i;rw [monoT];split
   · exact ih.mono (by omega)
   · exact (ih.add 1 (piece9 H hm ok (by omega) (by omega))).mono (by omega)
theorem apply9 (H:AlgOk zs gss):∀(fs out:List Tm) (N:Nat),(∀t∈fs,IsTm t)→(∀t∈fs,monoOk zs t.m=true)→Sum9 out N→Sum9 (applyT zs gss k out fs) (N+fs.length * 3200)
 | [],out,N,_,_,h=>h.mono (by omega)
 | t :: fs, out, N, ht, hk, h => by
   have h8:=H.h8;have:=apply9 H fs _ _ (fun u hu=>ht u (by simp [hu])) (fun u hu=>hk u (by simp [hu])) (h.add t.f (mono9 (k:=k) H (ht t (by simp)).1 (hk t (by simp)) zs.length (Nat.le_refl _)));refine this.mono ?_;rw [List.length_cons];omega
theorem piece_coef (H : AlgOk zs gss) (hm : IsMono m) (ok : monoOk zs m = true) (hi : i < zs.length) (hp : 0 < m.getD i 0) {f : Int} {S : List Int → Int} (hS : ∀ x, 0 ≤ S x ∧ S x ≤ 10006) (x : List Int) :
    addP zs (leftM m i) (backM m i) (sgnO (odd k) zs m i * m.getD i 0 * f) S (gss.getD i []) x=num (S x+f * coef (piece zs gss k m i) x):=by
 obtain ⟨-,ht,hk,hf,hs⟩:=H.at_ i
 have h8:=H.h8
 have hi8:i<8:=by omega
 have hc:=pcs_nz (k:=k) hm ok hi8 hp
 have hF:num (sgnO (odd k) zs m i * m.getD i 0 * f)=num (f * num (pcs k zs m i)):=by
  rw [sgn_pcs hm ok,Int.mul_comm,num_mul]
 rw [addP_move hm ok hi8 hp _ _ _ (fun u hu=>(ht u hu).1.1)]
 rw [addP_coefC hF (gss.getD i []) S zeroL (fun y=>by
  show _=num (_+f * 0)
  rw [Int.mul_zero,Int.add_zero,num_self (hS y)]) x]
 have l2:∀y∈shiftT zs ⟨frontM m i,num (pcs k zs m i)⟩ (gss.getD i []),y.m.length=8:=fun y hy=>by
  obtain ⟨u,hu,hj,e,-⟩:=shiftT_mem hy;rw [e,join_ne hj];exact addM_length (frontM_len hm.1 (by omega)) (ht u hu).1.1
 have:=(times_coef (zs:=zs) (gs:=[⟨restM m i,1⟩]) (by simpa using restM_len hm.1 hi8) (List.pairwise_singleton _ _) (shiftT zs ⟨frontM m i,num (pcs k zs m i)⟩ (gss.getD i [])) [] zeroL l2 good_nil (fun _=>rfl)).1 x
 rw [this,piece,pieceO,own_shiftC hc hf]
theorem coef_rg {ts:List Tm} {N:Nat} (h:Sum9 ts N) (x:List Int):0≤coef ts x∧coef ts x≤10006:=coef_bd h.bd
theorem add_coef9 {out ts:List Tm} {N M:Nat} (h:Sum9 out N) (g:Sum9 ts M) (f:Int) (x:List Int):coef (addT f out ts) x=num (coef out x+f * coef ts x):=coef_add _ _ h.good.len g.good.len h.good.srt g.good.srt h.bd
theorem mono_coef (H:AlgOk zs gss) (hm:IsMono m) (ok:monoOk zs m=true) {f:Int} {S:List Int→Int} (hS:∀x,0≤S x∧S x≤10006):∀i:Nat,i≤zs.length→∀x,termR (odd k) zs gss ⟨m,f⟩ S i x=num (S x+f * coef (monoT zs gss k m i) x)
 | 0, _, x => by
   show S x=num (S x+f * 0)
   rw [Int.mul_zero,Int.add_zero,num_self (hS x)]
 | i + 1, hi, x => by
   have ih:=mono_coef (f:=f) H hm ok hS i (by omega);have hg:=getD_mono hm i;rw [termR,monoT];dsimp only;by_cases he:m.getD i 0=0
   · rw [if_neg (by omega),if_pos he];exact ih x
   · rw [if_pos (by omega),if_neg he];have hp:0<m.getD i 0:=by omega
     have hb:∀y,0≤termR (odd k) zs gss ⟨m,f⟩ S i y∧termR (odd k) zs gss ⟨m,f⟩ S i y≤10006:=fun y=>by
      rw [ih y];have h1:=num_lo (S y+f * coef (monoT zs gss k m i) y);have h2:=num_hi (S y+f * coef (monoT zs gss k m i) y);omega
     rw [piece_coef H hm ok (by omega) hp hb x,ih x,add_coef9 (mono9 H hm ok i (by omega)) (piece9 H hm ok (by omega) hp) 1 x,num_add',num_add_mul,Int.one_mul,Int.mul_add,Int.add_assoc]
theorem apply_coef (H:AlgOk zs gss) {c:Int} {B:List Int→Int}:∀(fs out:List Tm) (S:List Int→Int) (N:Nat),(∀t∈fs,IsTm t)→(∀t∈fs,monoOk zs t.m=true)→Sum9 out N→(∀x,0≤S x∧S x≤10006)→(∀x,S x=num (B x+c * coef out x))→∀x,diffR (odd k) zs gss c S fs x=num (B x+c * coef (applyT zs gss k out fs) x)
 | [],out,S,N,_,_,_,_,h,x=>h x
 | t :: fs, out, S, N, ht, hk, ho, hS, h, x => by
   have hm:=(ht t (by simp)).1;have hok:=hk t (by simp);have M9:=mono9 (k:=k) H hm hok zs.length (Nat.le_refl _);show diffR (odd k) zs gss c (termR (odd k) zs gss ⟨t.m,c * t.f⟩ S gss.length) fs x=num (B x+c * coef (applyT zs gss k (addT t.f out (monoT zs gss k t.m zs.length)) fs) x)
   rw [H.ln];have hT:=mono_coef (k:=k) H hm hok (f:=c * t.f) hS zs.length (Nat.le_refl _);refine apply_coef H fs _ _ _ (fun u hu=>ht u (by simp [hu])) (fun u hu=>hk u (by simp [hu])) (ho.add t.f M9) (fun y=>?_) (fun y=>?_) x
   · rw [hT y];have h1:=num_lo (S y+c * t.f * coef (monoT zs gss k t.m zs.length) y);have h2:=num_hi (S y+c * t.f * coef (monoT zs gss k t.m zs.length) y);omega
   · rw [hT y,h y,add_coef9 ho M9 t.f y,num_add',num_add_mul,Int.mul_add,Int.add_assoc,Int.mul_assoc]
theorem diffR_apply (H : AlgOk zs gss) {c : Int} {fs : List Tm} {S : List Int → Int} (ht : ∀ t ∈ fs, IsTm t) (hk : ∀ t ∈ fs, monoOk zs t.m = true) (hS : ∀ x, 0 ≤ S x ∧ S x ≤ 10006) (x : List Int) :
    diffR (odd k) zs gss c S fs x=num (S x+c * coef (applyT zs gss k [] fs) x):=
 apply_coef H fs [] S 0 ht hk sum9_nil hS (fun y=>by show S y=num (S y+c * 0);rw [Int.mul_zero,Int.add_zero,num_self (hS y)]) x
end
end Go.Proofs.YtdppjlndcacfnaaGreat
