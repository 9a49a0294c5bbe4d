
import Derived.Test.YtikldofmpkidbaaTerm
import Derived.Stop.BytesEq
import Derived.Test.YtikldofmpkidbaaMulM
import Derived.Test.YtikldofmpkidbaaOpen
namespace Go.Proofs.Ytikldofmpkidbaa
open Go.RowKit Go.Deep
theorem u8s_beq {m k:List Int} (hm:∀x∈m,0≤x∧x≤255) (hk:∀x∈k,0≤x∧x≤255):(m.map (fun x=>UInt8.ofNat x.toNat)==k.map (fun x=>UInt8.ofNat x.toNat))=decide (m=k):=by
 have back:∀l:List Int,(∀x∈l,0≤x∧x≤255)→(l.map (fun x=>UInt8.ofNat x.toNat)).map (fun u=>((u.toNat:Nat):Int))=l:=by
  intro l
  induction l with
  | nil=>intro _;rfl
  | cons a l ih =>
    intro h;have ha:=h a (by simp);rw [List.map_cons,List.map_cons,ih (fun x hx=>h x (by simp [hx]))];congr 1
    rw [UInt8.toNat_ofNat',Nat.mod_eq_of_lt (by omega)];omega
 rw [Bool.eq_iff_iff,beq_iff_eq,decide_eq_true_eq]
 constructor
 · intro h;rw [←back m hm,←back k hk,h]
 · intro h;rw [h]
theorem mcells_u8 {m:List Int} (hm:∀x∈m,0≤x∧x≤255):mcells m=(m.map (fun x=>UInt8.ofNat x.toNat)).map Extern.Stop.cell:=by
 rw [mcells,List.map_map]
 apply List.map_congr_left
 intro x hx
 have ha:=hm x hx
 simp only [Function.comp_def,Extern.Stop.cell,UInt8.toNat_ofNat']
 rw [Nat.mod_eq_of_lt (by omega)]
 congr 1
 exact (Int.toNat_of_nonneg ha.1).symm
theorem eqM_run {w:World} {m k:List Int} (hm:IsMono m) (hk:IsMono k):(Op.equalIn 10000 86 (.agg (mcells m).toArray) (.agg (mcells k).toArray)).run Try.prog w=.ok (decide (m=k)) w:=by
 rw [mcells_u8 hm.2,mcells_u8 hk.2,←u8s_beq hm.2 hk.2]
 exact run_equalIn_bytes w 9998 86 5 8 Try.underlying86 Try.underlying5 (fun w=>by kernel_rfl) _ _ (by rw [List.length_map,hm.1]) (by rw [List.length_map,hk.1])
def pwN:Nat→Nat→Nat→Nat→Nat
 | 0,out,_,_=>out
 | f+1,out,sq,k=>if 0<k then pwN f (if k % 2=1 then out * sq % 10007 else out) (sq * sq % 10007) (k / 2) else out
theorem pw_nat:∀(f out sq k:Nat),pw f (out:Int) (sq:Int) (k:Int)=((pwN f out sq k:Nat):Int)
 | 0,_,_,_=>rfl
 | f + 1, out, sq, k => by
   rw [pw,pwN];by_cases h:0<k
   · rw [if_pos h,if_pos (by omega)];have e1:num ((sq:Int) * sq)=((sq * sq % 10007:Nat):Int):=(by unfold num;omega);have e2:num ((out:Int) * sq)=((out * sq % 10007:Nat):Int):=(by unfold num;omega);have e3:((k:Int) / 2)=((k / 2:Nat):Int):=(by omega);rw [e1,e3];by_cases h2:k % 2=1
     · rw [if_pos h2,if_pos (by omega),e2,pw_nat]
     · rw [if_neg h2,if_neg (by omega),pw_nat]
   · rw [if_neg h,if_neg (by omega)]
def fermatTo (lo:Nat):Nat→Bool
 | 0=>true
 | n+1=>((lo+n) * pwN 14 1 (lo+n) 10005 % 10007==1) && fermatTo lo n
theorem fermatTo_at {lo:Nat}:∀{n:Nat},fermatTo lo n=true→∀i,i<n→(lo+i) * pwN 14 1 (lo+i) 10005 % 10007=1
 | n + 1, h, i, hi => by
   rw [fermatTo,Bool.and_eq_true] at h;by_cases e:i=n
   · subst e;simpa using h.1
   · exact fermatTo_at h.2 i (by omega)
theorem fermat_1_:fermatTo 1 400=true:=by kernel_rfl
theorem fermat_2_:fermatTo 401 400=true:=by kernel_rfl
theorem fermat_3_:fermatTo 801 400=true:=by kernel_rfl
theorem fermat_4_:fermatTo 1201 400=true:=by kernel_rfl
theorem fermat_5_:fermatTo 1601 400=true:=by kernel_rfl
theorem fermat_6_:fermatTo 2001 400=true:=by kernel_rfl
theorem fermat_7_:fermatTo 2401 400=true:=by kernel_rfl
theorem fermat_8_:fermatTo 2801 400=true:=by kernel_rfl
theorem fermat_9_:fermatTo 3201 400=true:=by kernel_rfl
theorem fermat_10_:fermatTo 3601 400=true:=by kernel_rfl
theorem fermat_11_:fermatTo 4001 400=true:=by kernel_rfl
theorem fermat_12_:fermatTo 4401 400=true:=by kernel_rfl
theorem fermat_13_:fermatTo 4801 400=true:=by kernel_rfl
theorem fermat_14_:fermatTo 5201 400=true:=by kernel_rfl
theorem fermat_15_:fermatTo 5601 400=true:=by kernel_rfl
theorem fermat_16_:fermatTo 6001 400=true:=by kernel_rfl
theorem fermat_17_:fermatTo 6401 400=true:=by kernel_rfl
theorem fermat_18_:fermatTo 6801 400=true:=by kernel_rfl
theorem fermat_19_:fermatTo 7201 400=true:=by kernel_rfl
theorem fermat_20_:fermatTo 7601 400=true:=by kernel_rfl
theorem fermat_21_:fermatTo 8001 400=true:=by kernel_rfl
theorem fermat_22_:fermatTo 8401 400=true:=by kernel_rfl
theorem fermat_23_:fermatTo 8801 400=true:=by kernel_rfl
theorem fermat_24_:fermatTo 9201 400=true:=by kernel_rfl
theorem fermat_25_:fermatTo 9601 400=true:=by kernel_rfl
theorem fermat_last:fermatTo 10001 6=true:=by kernel_rfl
theorem fermat_n {n:Nat} (h0:1≤n) (h1:n≤10006):n * pwN 14 1 n 10005 % 10007=1:=by
 rcases (show n≤10000∨10001≤n by omega) with h | h
 · have hq:(n - 1) / 400<25:=(by omega);have hr:n=(1+400 * ((n - 1) / 400))+(n - 1) % 400:=(by omega);have hm:(n - 1) % 400<400:=Nat.mod_lt _ (by decide);generalize (n - 1) / 400=q at *;generalize (n - 1) % 400=r at *;subst hr
   match q,hq with
   | 0,_=>exact fermatTo_at fermat_1_ r hm
   | 1,_=>exact fermatTo_at fermat_2_ r hm
   | 2,_=>exact fermatTo_at fermat_3_ r hm
   | 3,_=>exact fermatTo_at fermat_4_ r hm
   | 4,_=>exact fermatTo_at fermat_5_ r hm
   | 5,_=>exact fermatTo_at fermat_6_ r hm
   | 6,_=>exact fermatTo_at fermat_7_ r hm
   | 7,_=>exact fermatTo_at fermat_8_ r hm
   | 8,_=>exact fermatTo_at fermat_9_ r hm
   | 9,_=>exact fermatTo_at fermat_10_ r hm
   | 10,_=>exact fermatTo_at fermat_11_ r hm
   | 11,_=>exact fermatTo_at fermat_12_ r hm
   | 12,_=>exact fermatTo_at fermat_13_ r hm
   | 13,_=>exact fermatTo_at fermat_14_ r hm
   | 14,_=>exact fermatTo_at fermat_15_ r hm
   | 15,_=>exact fermatTo_at fermat_16_ r hm
   | 16,_=>exact fermatTo_at fermat_17_ r hm
   | 17,_=>exact fermatTo_at fermat_18_ r hm
   | 18,_=>exact fermatTo_at fermat_19_ r hm
   | 19,_=>exact fermatTo_at fermat_20_ r hm
   | 20,_=>exact fermatTo_at fermat_21_ r hm
   | 21,_=>exact fermatTo_at fermat_22_ r hm
   | 22,_=>exact fermatTo_at fermat_23_ r hm
   | 23,_=>exact fermatTo_at fermat_24_ r hm
   | 24,_=>exact fermatTo_at fermat_25_ r hm
   | q+25,hq'=>exact absurd hq' (by omega)
 · obtain ⟨r,rfl⟩:∃r,n=10001+r:=⟨n - 10001,by omega⟩;exact fermatTo_at fermat_last r (by omega)
theorem inv_one {x:Int} (h0:1≤x) (h1:x≤10006):(x * invOf x) % 10007=1:=by
 obtain ⟨n,rfl⟩:∃n:Nat,x=n:=⟨x.toNat,by omega⟩
 have h:=fermat_n (n:=n) (by omega) (by omega)
 have e:=pw_nat 14 1 n 10005
 rw [invOf,if_pos ⟨h0,h1⟩]
 have e':pw 14 1 (n:Int) 10005=((pwN 14 1 n 10005:Nat):Int):=e
 rw [e']
 omega
abbrev K:=Fin 10007
abbrev Vec:=Nat→K
def toK (x:Int):K:=⟨(x % 10007).toNat,by omega⟩
theorem toK_num (x:Int):toK (num x)=toK x:=by
 apply Fin.ext
 simp only [toK,num]
 omega
theorem toK_add (x y:Int):toK (x+y)=toK x+toK y:=by
 apply Fin.ext
 simp only [toK,Fin.val_add]
 omega
theorem toK_mul (x y:Int):toK (x * y)=toK x * toK y:=by
 apply Fin.ext
 simp only [toK,Fin.val_mul]
 have h1:0≤x % 10007:=Int.emod_nonneg _ (by decide)
 have h2:0≤y % 10007:=Int.emod_nonneg _ (by decide)
 obtain ⟨a,ha⟩:∃a:Nat,x % 10007=a:=⟨(x % 10007).toNat,by omega⟩
 obtain ⟨b,hb⟩:∃b:Nat,y % 10007=b:=⟨(y % 10007).toNat,by omega⟩
 rw [Int.mul_emod,ha,hb]
 simp only [Int.toNat_natCast]
 have:((a:Int) * (b:Int)) % 10007=((a * b % 10007:Nat):Int):=by simp
 rw [this,Int.toNat_natCast]
theorem toK_zero:toK 0=0:=by decide
theorem toK_one:toK 1=1:=by decide
theorem toK_inj {x y:Int} (hx:0≤x∧x≤10006) (hy:0≤y∧y≤10006) (h:toK x=toK y):x=y:=by
 have:=congrArg Fin.val h
 simp only [toK] at this
 omega
inductive Sp (V:List Vec):Vec→Prop
 | zero:Sp V (fun _=>0)
 | step (k:K) (v x:Vec) (hv:v∈V) (hx:Sp V x):Sp V (fun c=>x c+k * v c)
theorem Sp.mem {V:List Vec} {v:Vec} (h:v∈V):Sp V v:=by
 have:=Sp.step 1 v _ h (Sp.zero (V:=V))
 have e:(fun c=>(0:K)+1 * v c)=v:=by funext c;grind
 rwa [e] at this
theorem Sp.add {V:List Vec} {x y:Vec} (hx:Sp V x) (k:K) (hy:Sp V y):Sp V (fun c=>x c+k * y c):=by
 induction hy with
 | zero =>
   have e:(fun c=>x c+k * 0)=x:=(by funext c;grind);rw [e];exact hx
 | step j v y hv hy ih =>
   have:=Sp.step (k * j) v _ hv ih;have e:(fun c=>(x c+k * y c)+k * j * v c)=(fun c=>x c+k * (y c+j * v c)):=(by funext c;grind);rw [←e];exact this
theorem Sp.of_sub {V W:List Vec} (h:∀v∈V,Sp W v) {x:Vec} (hx:Sp V x):Sp W x:=by
 induction hx with
 | zero=>exact Sp.zero
 | step k v x hv _ ih=>exact Sp.add ih k (h v hv)
def SameSp (V W:List Vec):Prop:=(∀v∈V,Sp W v)∧∀w∈W,Sp V w
theorem SameSp.refl (V:List Vec):SameSp V V:=⟨fun _ h=>Sp.mem h,fun _ h=>Sp.mem h⟩
theorem SameSp.symm {V W:List Vec} (h:SameSp V W):SameSp W V:=⟨h.2,h.1⟩
theorem SameSp.trans {U V W:List Vec} (h:SameSp U V) (h':SameSp V W):SameSp U W:=
 ⟨fun v hv=>Sp.of_sub h'.1 (h.1 v hv),fun w hw=>Sp.of_sub h.2 (h'.2 w hw)⟩
structure Red (L:List (Nat × Vec)):Prop where
 srt:L.Pairwise fun a b=>a.1<b.1
 one:∀e∈L,e.2 e.1=1
 low:∀e∈L,∀c,c<e.1→e.2 c=0
 off:∀e∈L,∀f∈L,¬e.1=f.1→e.2 f.1=0
def cmb (x:Vec):List (Nat × Vec)→Vec
 | []=>fun _=>0
 | e::L=>fun c=>x e.1 * e.2 c+cmb x L c
def InL (L:List (Nat × Vec)) (x:Vec):Prop:=∀c,x c=cmb x L c
theorem cmb_add (x y:Vec) (k:K):∀(L:List (Nat × Vec)) (c:Nat),cmb (fun c=>x c+k * y c) L c=cmb x L c+k * cmb y L c
 | [],c=>by simp only [cmb];grind
 | e :: L, c => by
   have:=cmb_add x y k L c;simp only [cmb,this]
   grind
theorem cmb_none {x:Vec} {c:Nat}:∀{L:List (Nat × Vec)},(∀e∈L,x e.1=0∨e.2 c=0)→cmb x L c=0
 | [],_=>rfl
 | e :: L, h => by
   have h1:=h e (by simp);have h2:=cmb_none (L:=L) (fun f hf=>h f (by simp [hf]));simp only [cmb,h2]
   rcases h1 with h1 | h1 <;> rw [h1] <;> grind
theorem InL.zero (L:List (Nat × Vec)):InL L (fun _=>0):=fun _=>(cmb_none (fun _ _=>Or.inl rfl)).symm
theorem InL.add {L:List (Nat × Vec)} {x y:Vec} (hx:InL L x) (k:K) (hy:InL L y):InL L (fun c=>x c+k * y c):=fun c=>by
 rw [cmb_add,←hx c,←hy c]
theorem cmb_own {s:Vec} {q:Nat} {c:Nat}:∀{L:List (Nat × Vec)},L.Pairwise (fun a b=>a.1<b.1)→(q,s)∈L→s q=1→(∀f∈L,¬q=f.1→s f.1=0)→cmb s L c=s c
 | [],_,h,_,_=>by simp at h
 | e :: L, hs, h, h1, h0 => by
   rw [List.pairwise_cons] at hs;rw [List.mem_cons] at h
   rcases h with h | h
   · subst h;have:=cmb_none (x:=s) (c:=c) (L:=L) (fun f hf=>Or.inl (h0 f (by simp [hf]) (by have:=hs.1 f hf;omega)));simp only [cmb,h1,this]
     grind
   · have:=cmb_own (c:=c) hs.2 h h1 (fun f hf=>h0 f (by simp [hf]));have h2:=h0 e (by simp) (by have:=hs.1 _ h;omega);simp only [cmb,h2,this]
     grind
theorem Red.own {L:List (Nat × Vec)} (h:Red L) {e:Nat × Vec} (he:e∈L):InL L e.2:=fun c=>
 (cmb_own h.srt (by exact he) (h.one e he) (fun f hf hne=>h.off e he f hf hne)).symm
theorem Red.span {L:List (Nat × Vec)} (h:Red L) {x:Vec} (hx:Sp (L.map (·.2)) x):InL L x:=by
 induction hx with
 | zero=>exact InL.zero L
 | step k v x hv _ ih =>
   obtain ⟨e,he,rfl⟩:=List.mem_map.1 hv;exact InL.add ih k (h.own he)
def vec (r:List Int):Vec:=fun c=>toK (r.getD c 0)
structure RowOk (m:Nat) (r:List Int):Prop where
 len:r.length=m
 bd:∀x∈r,0≤x∧x≤10006
theorem RowOk.at_ {m:Nat} {r:List Int} (h:RowOk m r) (c:Nat):0≤r.getD c 0∧r.getD c 0≤10006:=by
 rw [List.getD_eq_getElem?_getD]
 cases hc:r[c]? with
 | none=>simp
 | some x=>exact h.bd x (List.mem_of_getElem? hc)
theorem vec_zero_iff {m:Nat} {r:List Int} (h:RowOk m r) (c:Nat):vec r c=0↔r.getD c 0=0:=by
 constructor
 · intro e;exact toK_inj (h.at_ c) ⟨by omega,by omega⟩ (e.trans toK_zero.symm)
 · intro e;rw [vec,e,toK_zero]
def fstN:List Int→Nat
 | []=>0
 | x::r=>if x=0 then fstN r+1 else 0
theorem fstN_le:∀r:List Int,fstN r≤r.length
 | []=>Nat.le_refl _
 | x :: r => by
   have:=fstN_le r;rw [fstN,List.length_cons];split <;> omega
theorem fstN_low:∀{r:List Int} {c:Nat},c<fstN r→r.getD c 0=0
 | [],c,h=>by simp [fstN] at h
 | x :: r, c, h => by
   rw [fstN] at h;split at h
   · rename_i hx
     cases c with
     | zero=>simpa using hx
     | succ c=>simpa using fstN_low (r:=r) (c:=c) (by omega)
   · omega
theorem fstN_at:∀{r:List Int},fstN r<r.length→¬r.getD (fstN r) 0=0
 | [],h=>by simp [fstN] at h
 | x :: r, h => by
   rw [fstN] at h ⊢;split
   · rename_i hx;rw [if_pos hx,List.length_cons] at h;simpa using fstN_at (r:=r) (by omega)
   · rename_i hx;simpa using hx
theorem fstN_eq {r:List Int} {k:Nat} (h1:∀c,c<k→r.getD c 0=0) (h2:¬r.getD k 0=0):fstN r=k:=by
 have hk:k<r.length:=by
  by_cases h:k<r.length
  · exact h
  · rw [List.getD_eq_getElem?_getD,List.getElem?_eq_none (by omega)] at h2;exact absurd rfl h2
 rcases Nat.lt_trichotomy (fstN r) k with h | h | h
 · exact absurd (h1 _ h) (fstN_at (by omega))
 · exact h
 · exact absurd (fstN_low h) h2
def lessR (r o:List Int) (k:Int):List Int:=List.zipWith (fun a b=>num (a - k * b)) r o
theorem lessR_ok {m:Nat} {r o:List Int} (hr:r.length=m) (ho:o.length=m) (k:Int):RowOk m (lessR r o k):=⟨by rw [lessR,List.length_zipWith];omega,fun x hx=>by
 rw [lessR,List.mem_iff_getElem] at hx
 obtain ⟨i,hi,rfl⟩:=hx
 rw [List.getElem_zipWith]
 have:=num_lo (r[i]'(by simp at hi;omega) - k * o[i]'(by simp at hi;omega))
 have:=num_hi (r[i]'(by simp at hi;omega) - k * o[i]'(by simp at hi;omega))
 omega⟩
theorem lessR_get {m:Nat} {r o:List Int} (hr:r.length=m) (ho:o.length=m) (k:Int) (c:Nat):(lessR r o k).getD c 0=num (r.getD c 0 - k * o.getD c 0):=by
 rw [lessR,List.getD_eq_getElem?_getD,List.getD_eq_getElem?_getD,List.getD_eq_getElem?_getD]
 by_cases hc:c<m
 · rw [List.getElem?_zipWith,List.getElem?_eq_getElem (show c<r.length by omega),List.getElem?_eq_getElem (show c<o.length by omega)];rfl
 · rw [List.getElem?_eq_none (by simp;omega),List.getElem?_eq_none (by omega),List.getElem?_eq_none (by omega)];simp [num]
theorem lessR_vec {m:Nat} {r o:List Int} (hr:r.length=m) (ho:o.length=m) (k:Int):vec (lessR r o k)=fun c=>vec r c+toK (-k) * vec o c:=by
 funext c
 rw [vec,lessR_get hr ho,toK_num,show r.getD c 0 - k * o.getD c 0=r.getD c 0+(-k) * o.getD c 0 by rw [Int.neg_mul];omega,toK_add,toK_mul]
 rfl
theorem toK_neg_add (k:Int):toK (-k)+toK k=0:=by
 rw [←toK_add,Int.add_left_neg,toK_zero]
def pairs (L:List (List Int)):List (Nat × Vec):=L.map (fun r=>(fstN r,vec r))
structure RedI (m:Nat) (L:List (List Int)):Prop where
 ok:∀r∈L,RowOk m r
 red:Red (pairs L)
 fst:∀r∈L,fstN r<m
theorem pairs_mem {L:List (List Int)} {s:List Int} (h:s∈L):(fstN s,vec s)∈pairs L:=List.mem_map.2 ⟨s,h,rfl⟩
theorem RedI.one {m:Nat} {L:List (List Int)} (h:RedI m L) {s:List Int} (hs:s∈L):s.getD (fstN s) 0=1:=by
 have h1:=h.red.one _ (pairs_mem hs)
 exact toK_inj ((h.ok s hs).at_ _) ⟨by omega,by omega⟩ (h1.trans toK_one.symm)
theorem RedI.off {m:Nat} {L:List (List Int)} (h:RedI m L) {s t:List Int} (hs:s∈L) (ht:t∈L) (hne:¬fstN s=fstN t):s.getD (fstN t) 0=0:=
 (vec_zero_iff (h.ok s hs) _).1 (h.red.off _ (pairs_mem hs) _ (pairs_mem ht) hne)
theorem RedI.tail {m:Nat} {s:List Int} {L:List (List Int)} (h:RedI m (s::L)):RedI m L:=
 ⟨fun r hr=>h.ok r (by simp [hr]),⟨by have:=h.red.srt;simp only [pairs,List.map_cons,List.pairwise_cons] at this;exact this.2,
  fun e he=>h.red.one e (by simp only [pairs,List.map_cons,List.mem_cons];exact Or.inr he),fun e he=>h.red.low e (by simp only [pairs,List.map_cons,List.mem_cons];exact Or.inr he),
  fun e he f hf=>h.red.off e (by simp only [pairs,List.map_cons,List.mem_cons];exact Or.inr he) f (by simp only [pairs,List.map_cons,List.mem_cons];exact Or.inr hf)⟩,fun r hr=>h.fst r (by simp [hr])⟩
theorem RedI.lt {m:Nat} {s:List Int} {L:List (List Int)} (h:RedI m (s::L)):∀t∈L,fstN s<fstN t:=by
 have:=h.red.srt
 simp only [pairs,List.map_cons,List.pairwise_cons] at this
 intro t ht
 exact this.1 _ (pairs_mem ht)
def normR (r:List Int):List Int:=lessR (List.replicate r.length 0) r (num (-(invOf (r.getD (fstN r) 0))))
theorem RedI.nil (m:Nat):RedI m []:=⟨by simp,⟨by simp [pairs],by simp [pairs],by simp [pairs],by simp [pairs]⟩,by simp⟩
theorem normR_ok {m:Nat} {r:List Int} (h:RowOk m r):RowOk m (normR r):=lessR_ok (m:=m) (by rw [List.length_replicate,h.len]) h.len _
theorem normR_vec {m:Nat} {r:List Int} (h:RowOk m r):vec (normR r)=fun c=>toK (invOf (r.getD (fstN r) 0)) * vec r c:=by
 rw [normR,lessR_vec (m:=m) (by rw [List.length_replicate,h.len]) h.len]
 funext c
 have e:vec (List.replicate r.length 0) c=0:=by
  rw [vec,show (List.replicate r.length (0:Int)).getD c 0=0 by
   rw [List.getD_eq_getElem?_getD,List.getElem?_replicate]
   split <;> rfl,toK_zero]
 rw [e]
 have e2:toK (-(num (-(invOf (r.getD (fstN r) 0)))))=toK (invOf (r.getD (fstN r) 0)):=by
  apply Fin.ext
  simp only [toK,num];omega
 rw [e2]
 grind
theorem normR_inv {m:Nat} {r:List Int} (h:RowOk m r) (hl:fstN r<r.length):toK (invOf (r.getD (fstN r) 0)) * vec r (fstN r)=1:=by
 have h1:=h.at_ (fstN r)
 have h2:=fstN_at hl
 have:=inv_one (x:=r.getD (fstN r) 0) (by omega) h1.2
 rw [vec,←toK_mul,Int.mul_comm,←toK_num,num,this]
 rfl
def clr (r:List Int) (p:Nat) (s:List Int):List Int:=lessR s r (s.getD p 0)
section
variable {m p:Nat} {r:List Int} {L:List (List Int)}
structure NewR (m p:Nat) (r:List Int) (L:List (List Int)):Prop where
 ok:RowOk m r
 low:∀c,c<p→r.getD c 0=0
 one:r.getD p 0=1
 at_:∀s∈L,r.getD (fstN s) 0=0
theorem NewR.fst (h:NewR m p r L):fstN r=p:=fstN_eq h.low (by rw [h.one];omega)
theorem NewR.lt (h:NewR m p r L):p<m:=by
 rw [←h.fst,←h.ok.len]
 have h1:=fstN_le r
 by_cases e:fstN r=r.length
 · have:=h.one;rw [←h.fst,e,List.getD_eq_getElem?_getD,List.getElem?_eq_none (Nat.le_refl _)] at this;simp at this
 · omega
theorem NewR.tail {s:List Int} (h:NewR m p r (s::L)):NewR m p r L:=⟨h.ok,h.low,h.one,fun t ht=>h.at_ t (List.mem_cons_of_mem _ ht)⟩
theorem clr_get (h:NewR m p r L) {s:List Int} (hs:RowOk m s) (c:Nat):(clr r p s).getD c 0=num (s.getD c 0 - s.getD p 0 * r.getD c 0):=lessR_get hs.len h.ok.len _ c
theorem clr_ok (h:NewR m p r L) {s:List Int} (hs:RowOk m s):RowOk m (clr r p s):=lessR_ok hs.len h.ok.len _
theorem num_idK {x:Int} (h:0≤x∧x≤10006):num x=x:=by unfold num;omega
theorem clr_same (h:NewR m p r L) {s:List Int} (hs:RowOk m s) {c:Nat} (hc:r.getD c 0=0):(clr r p s).getD c 0=s.getD c 0:=by
 rw [clr_get h hs,hc,Int.mul_zero,Int.sub_zero,num_idK (hs.at_ c)]
theorem clr_p (h:NewR m p r L) {s:List Int} (hs:RowOk m s):(clr r p s).getD p 0=0:=by
 rw [clr_get h hs,h.one,Int.mul_one,Int.sub_self];rfl
end
abbrev rw_ (R:List (List Int)) (j:Nat):List Int:=R.getD j []
structure GJ (V:List Vec) (m:Nat) (R:List (List Int)) (F:List Nat) (c:Nat):Prop where
 ok:∀r∈R,RowOk m r
 span:SameSp (R.map vec) V
 le:F.length≤R.length
 srt:F.Pairwise (· < ·)
 lt:∀f∈F,f<c
 one:∀(i f:Nat),F[i]? = some f→(rw_ R i).getD f 0=1
 low:∀(i f:Nat),F[i]? = some f→∀q,q<f→(rw_ R i).getD q 0=0
 off:∀(i f j:Nat),F[i]? = some f→j<R.length→¬j=i→(rw_ R j).getD f 0=0
 rest:∀j,F.length≤j→j<R.length→∀q,q<c→(rw_ R j).getD q 0=0
theorem rw_mem {R:List (List Int)} {j:Nat} (h:j<R.length):rw_ R j∈R:=by
 rw [rw_,List.getD_eq_getElem?_getD,List.getElem?_eq_getElem h]
 exact List.getElem_mem h
theorem rw_at {R:List (List Int)} {j:Nat} {r:List Int} (h:R[j]? = some r):rw_ R j=r:=by
 rw [rw_,List.getD_eq_getElem?_getD,h];rfl
theorem GJ.start {V:List (List Int)} {m:Nat} (h:∀r∈V,RowOk m r):GJ (V.map vec) m V [] 0:=
 ⟨h,SameSp.refl _,by simp,by simp,by simp,by simp,by simp,by simp,fun j _ _ q hq=>absurd hq (by omega)⟩
theorem GJ.step {V : List Vec} {m c i : Nat} {R R' : List (List Int)} {F : List Nat} (h : GJ V m R F c) (hi : F.length ≤ i) (hn : i < R.length) (hne : ¬ (rw_ R i).getD c 0 = 0)
    (hl:R'.length=R.length) (hN:rw_ R' F.length=normR (rw_ R i)) (hO:∀j,j<R.length→¬j=F.length→rw_ R' j=clr (normR (rw_ R i)) c (if j=i then rw_ R F.length else rw_ R j)):GJ V m R' (F++[c]) (c+1):=by
 have hfi:fstN (rw_ R i)=c:=fstN_eq (fun q hq=>h.rest i hi hn q hq) hne
 have hoi:=h.ok _ (rw_mem hn)
 have hlen:fstN (rw_ R i)<(rw_ R i).length:=by
  by_cases e:fstN (rw_ R i)<(rw_ R i).length
  · exact e
  · rw [hfi] at e;rw [List.getD_eq_getElem?_getD,List.getElem?_eq_none (by omega)] at hne;exact absurd rfl hne
 have hcm:c<m:=by rw [hfi,hoi.len] at hlen;exact hlen
 obtain ⟨N,hNe⟩:∃N,normR (rw_ R i)=N:=⟨_,rfl⟩
 have hnv:=normR_vec hoi
 have hni:=normR_inv hoi hlen
 have hnok:=normR_ok hoi
 rw [hNe] at hN hO hnv hnok
 rw [hfi] at hni
 have hNlow:∀q,q<c→N.getD q 0=0:=fun q hq=>by
  rw [←vec_zero_iff hnok,hnv];show _ * toK ((rw_ R i).getD q 0)=0
  rw [h.rest i hi hn q hq,toK_zero]
  grind
 have hNone:N.getD c 0=1:=by
  refine toK_inj (hnok.at_ _) ⟨by omega,by omega⟩ ?_;show vec N c=_
  rw [hnv,toK_one,hfi];exact hni
 have hnew:NewR m c N []:=⟨hnok,hNlow,hNone,by simp⟩
 have hd:F.length<R.length:=by omega
 have hold:∀j,j<R.length→RowOk m (if j=i then rw_ R F.length else rw_ R j):=fun j hj=>by
  split
  · exact h.ok _ (rw_mem hd)
  · exact h.ok _ (rw_mem hj)
 have hok':∀j,j<R.length→RowOk m (rw_ R' j):=fun j hj=>by
  by_cases e:j=F.length
  · rw [e,hN];exact hnok
  · rw [hO j hj e];exact clr_ok hnew (hold j hj)
 have hF:∀(k f:Nat),(F++[c])[k]? = some f→(k<F.length∧F[k]? = some f∧f<c)∨(k=F.length∧f=c):=fun k f hk=>by
  by_cases e:k<F.length
  · rw [List.getElem?_append_left e] at hk;exact Or.inl ⟨e,hk,h.lt f (List.mem_of_getElem? hk)⟩
  · rw [List.getElem?_append_right (by omega)] at hk;obtain ⟨h1,h2⟩:=List.getElem?_eq_some_iff.1 hk;simp at h1 h2
    exact Or.inr ⟨by omega,h2.symm⟩
 have hsame:∀j,j<R.length→¬j=F.length→∀q,q<c→(rw_ R' j).getD q 0=(if j=i then rw_ R F.length else rw_ R j).getD q 0:=fun j hj hne q hq=>by
  rw [hO j hj hne,clr_same hnew (hold j hj) (hNlow q hq)]
 refine ⟨fun r hr=>?_,?_,by rw [List.length_append,hl];simp;omega,?_,fun f hf=>?_,fun k f hk=>?_,fun k f hk q hq=>?_,fun k f j hk hj hjk=>?_,fun j h1 h2 q hq=>?_⟩
 · obtain ⟨j,hj,rfl⟩:=List.mem_iff_getElem.1 hr;have:=hok' j (by omega)
   rwa [rw_at (List.getElem?_eq_getElem hj)] at this
 · refine SameSp.trans ⟨fun v hv=>?_,fun v hv=>?_⟩ h.span
   · obtain ⟨r,hr,rfl⟩:=List.mem_map.1 hv;obtain ⟨j,hj,rfl⟩:=List.mem_iff_getElem.1 hr;have hmem:∀k,k<R.length→Sp (R.map vec) (vec (rw_ R k)):=fun k hk=>Sp.mem (List.mem_map.2 ⟨_,rw_mem hk,rfl⟩)
     have hspN:Sp (R.map vec) (vec N):=by
      have:=Sp.add (Sp.zero (V:=R.map vec)) (toK (invOf ((rw_ R i).getD (fstN (rw_ R i)) 0))) (hmem i hn);rw [hnv];have e:(fun q=>(0:K)+toK (invOf ((rw_ R i).getD (fstN (rw_ R i)) 0)) * vec (rw_ R i) q)=(fun q=>toK (invOf ((rw_ R i).getD (fstN (rw_ R i)) 0)) * vec (rw_ R i) q):=by funext q;grind
      rwa [e] at this
     have hj':j<R.length:=(by omega);rw [←rw_at (List.getElem?_eq_getElem hj)];by_cases e:j=F.length
     · rw [e,hN];exact hspN
     · rw [hO j hj' e,clr,lessR_vec (hold j hj').len hnok.len];refine Sp.add ?_ _ hspN;split
       · exact hmem _ hd
       · exact hmem j hj'
   · obtain ⟨r,hr,rfl⟩:=List.mem_map.1 hv;obtain ⟨j,hj,rfl⟩:=List.mem_iff_getElem.1 hr;have hmem:∀k,k<R.length→Sp (R'.map vec) (vec (rw_ R' k)):=fun k hk=>Sp.mem (List.mem_map.2 ⟨_,rw_mem (by omega),rfl⟩);have hspN:Sp (R'.map vec) (vec N):=by rw [←hN];exact hmem _ hd
     have hback:∀k,k<R.length→¬k=F.length→Sp (R'.map vec) (vec (if k=i then rw_ R F.length else rw_ R k)):=fun k hk hkd=>by
      have h1:=Sp.add (hmem k hk) (toK ((if k=i then rw_ R F.length else rw_ R k).getD c 0)) hspN;rw [hO k hk hkd,clr,lessR_vec (hold k hk).len hnok.len] at h1;obtain ⟨o,ho⟩:∃o,(if k=i then rw_ R F.length else rw_ R k)=o:=⟨_,rfl⟩;rw [ho] at h1 ⊢
      have e:(fun q=>(vec o q+toK (-(o.getD c 0)) * vec N q)+toK (o.getD c 0) * vec N q)=vec o:=by
       funext q
       have:=toK_neg_add (o.getD c 0)
       grind
      rwa [e] at h1
     rw [←rw_at (List.getElem?_eq_getElem hj)];by_cases e:j=i
     · -- the row of the place itself
       have h1:=Sp.add (Sp.zero (V:=R'.map vec)) (vec (rw_ R i) c) hspN
       have e2:(fun q=>(0:K)+vec (rw_ R i) c * vec N q)=vec (rw_ R i):=by
        funext q
        have e1:=congrFun hnv q;rw [hfi] at e1
        grind
       rw [e2] at h1;rw [e];exact h1
     · by_cases e2:j=F.length
       · have:=hback i hn (by omega);rw [if_pos rfl] at this;rw [e2];exact this
       · have:=hback j hj e2
         rwa [if_neg e] at this
 · rw [List.pairwise_append]
   exact ⟨h.srt,by simp,fun a ha b hb=>by
    obtain rfl:b=c:=by simpa using hb
    exact h.lt a ha⟩
 · rw [List.mem_append] at hf
   rcases hf with hf | hf
   · have:=h.lt f hf;omega
   · obtain rfl:f=c:=(by simpa using hf);omega
 · rcases hF k f hk with ⟨h1,h2,h3⟩ | ⟨rfl,rfl⟩
   · rw [hsame k (by omega) (by omega) f h3,if_neg (by omega)];exact h.one k f h2
   · rw [hN];exact hNone
 · rcases hF k f hk with ⟨h1,h2,h3⟩ | ⟨rfl,rfl⟩
   · rw [hsame k (by omega) (by omega) q (by omega),if_neg (by omega)];exact h.low k f h2 q hq
   · rw [hN];exact hNlow q hq
 · rw [hl] at hj
   rcases hF k f hk with ⟨h1,h2,h3⟩ | ⟨rfl,rfl⟩
   · by_cases e:j=F.length
     · rw [e,hN];exact hNlow f h3
     · rw [hsame j hj e f h3];split
       · exact h.off k f F.length h2 hd (by omega)
       · exact h.off k f j h2 hj hjk
   · rw [hO j hj hjk];exact clr_p hnew (hold j hj)
 · rw [List.length_append] at h1;simp at h1
   rw [hl] at h2;by_cases e:q=c
   · rw [e,hO j h2 (by omega)];exact clr_p hnew (hold j h2)
   · rw [hsame j h2 (by omega) q (by omega)];split
     · exact h.rest F.length (Nat.le_refl _) hd q (by omega)
     · exact h.rest j (by omega) h2 q (by omega)
end Go.Proofs.Ytikldofmpkidbaa
