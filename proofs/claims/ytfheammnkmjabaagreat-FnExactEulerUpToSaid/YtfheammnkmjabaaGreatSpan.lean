
import Derived.Test.YtfheammnkmjabaaGreatProd
import Derived.Deep.DeepCutAuto
import Derived.Test.YtfheammnkmjabaaGreatNum
namespace Go.Proofs.YtfheammnkmjabaaGreat
open Go.RowKit Go.Deep
def mxTo (m:List Int):Nat→Int
 | 0=>m.getD 0 0
 | j+1=>max (mxTo m j) (m.getD (j+1) 0)
def within (m:List Int):Bool:=m.all fun x=>decide (x≤20)
theorem mxTo_le (m:List Int) (j:Nat) (B:Int):mxTo m j≤B↔∀i,i≤j→m.getD i 0≤B:=by
 induction j with
 | zero=>simp [mxTo]
 | succ j ih =>
   simp only [mxTo];rw [Int.max_le,ih];constructor
   · rintro ⟨h1,h2⟩ i hi;by_cases h:i=j+1
     · subst h;exact h2
     · exact h1 i (by omega)
   · intro h;exact ⟨fun i hi=>h i (by omega),h (j+1) (Nat.le_refl _)⟩
theorem within_mx {m:List Int} (h:m.length=8):decide (mxTo m 7≤20)=within m:=by
 rw [Bool.eq_iff_iff,decide_eq_true_eq,mxTo_le,within,List.all_eq_true]
 constructor
 · intro hh x hx;obtain ⟨i,hi,rfl⟩:=List.mem_iff_getElem.1 hx;have:=hh i (by omega);simpa [List.getD,hi] using this
 · intro hh i hi;have hl:i<m.length:=(by omega);have:=hh m[i] (List.getElem_mem hl);simpa [List.getD,hl] using this
theorem mxTo_succ {m:List Int} {j:Nat} {y:Int} (hy:m[j+1]? = some y):mxTo m (j+1)=max (mxTo m j) y:=by
 simp [mxTo,List.getD,hy]
theorem Max_c {w : World} {g c : Nat} {m : List Int} (hm : IsMono m) (hO : Own w g 69 (mcells m).toArray) :
    Calls Tryz.prog 80 #[.slice (some ⟨g,0,none⟩) 8 c] w fun e w'=>e=.returned (.int .u8 (mxTo m 7))∧w=w':=by
 obtain ⟨y0,-,-,hy0,HY0⟩:=mono_at hm (show 0<8 by omega)
 have c0:=hO.cell 0
 rw [List.getElem?_toArray,hy0] at c0
 go_enter Tryz.func80,Tryz.ntmps80
 go_wp2
 go_loop [3,4] (fun v i=>∃j:Nat,j≤7∧i=.int .i64 ((j:Int)+1)∧v=.int .u8 (mxTo m j)) (fun _ i=>8 - (intOf i).toNat)
 case atStart=>exact ⟨0,by omega,rfl,by simp [mxTo,List.getD,HY0.out]⟩
 case round=>
  obtain ⟨j,hj,rfl,rfl⟩:=hrel;by_cases hlt:j<7
  · obtain ⟨y,h0,h1,hy,HY⟩:=mono_at hm (show j+1<8 by omega);have cj:=hO.cell (j+1);rw [List.getElem?_toArray,hy] at cj
    go_wp2
    go_round
    case rel=>exact ⟨j+1,by omega,by go_num,by rw [mxTo_succ HY.out];congr 1;split <;> omega⟩
    case measure=>simp [intOf] <;> omega
  · have:j=7:=(by omega);subst this
    go_wp2
    go_ret
    exact ⟨rfl,rfl⟩
theorem withinPowers_c {w : World} {m : List Int} (hm : IsMono m) :
    Calls Tryz.prog 56 #[monoV m] w fun e w'=>e=.returned (.bool (within m))∧Below w.heap.size w w':=by
 have hW:=Lib.hid (within_mx hm.1)
 unfold monoV
 go_enter Tryz.func56,Tryz.ntmps56
 go_wp2_with (go_at_call 80;refine (Max_c hm (Own.new w 69 (mcells m).toArray)).mono ?_;rintro e w' ⟨rfl,rfl⟩)
 go_ret
 exact ⟨ret_b (by rw [←hW.out]),bA1 w _⟩
theorem joinS_bd (zs m k:List Int):-1≤joinS zs m k∧joinS zs m k≤1:=by
 unfold joinS
 split
 · decide
 · rcases (sgn3_pm (trip zs m k)).1 with h | h <;> rw [h] <;> decide
theorem wtTo_cons (z x:Int) (zs m:List Int) (j:Nat):wtTo (z::zs) (x::m) (j+1)=z * x+wtTo zs m j:=by
 induction j with
 | zero=>simp [wtTo]
 | succ j ih =>
   rw [wtTo,ih,wtTo];simp only [List.getD_cons_succ];omega
theorem wt_cons (z x:Int) (zs m:List Int):wt (z::zs) (x::m)=z * x+wt zs m:=by
 rw [wt,List.length_cons,wtTo_cons,wt]
theorem wt_add:∀(zs m k:List Int),zs.length≤m.length→m.length=k.length→wt zs (addM m k)=wt zs m+wt zs k
 | [],_,_,_,_=>by simp [wt,wtTo]
 | z :: zs, a :: m, b :: k, h1, h2 => by
   simp only [List.length_cons] at h1 h2;have e:addM (a::m) (b::k)=(a+b)::addM m k:=rfl;rw [e,wt_cons,wt_cons,wt_cons,wt_add zs m k (by omega) (by omega),Int.mul_add];omega
 | z::zs,[],k,h1,h2=>by simp at h1
 | z::zs,a::m,[],h1,h2=>by simp at h2
def pwN:Nat→Nat→Nat→Nat→Nat
 | 0,out,_,_=>out
 | f+1,out,sq,k=>if 0<k then pwN f (if k % 2=1 then out * sq % 10007 else out) (sq * sq % 10007) (k / 2) else out
theorem pw_nat:∀(f out sq k:Nat),pw f (out:Int) (sq:Int) (k:Int)=((pwN f out sq k:Nat):Int)
 | 0,_,_,_=>rfl
 | f + 1, out, sq, k => by
   rw [pw,pwN];by_cases h:0<k
   · rw [if_pos h,if_pos (by omega)];have e1:num ((sq:Int) * sq)=((sq * sq % 10007:Nat):Int):=(by unfold num;omega);have e2:num ((out:Int) * sq)=((out * sq % 10007:Nat):Int):=(by unfold num;omega);have e3:((k:Int) / 2)=((k / 2:Nat):Int):=(by omega);rw [e1,e3];by_cases h2:k % 2=1
     · rw [if_pos h2,if_pos (by omega),e2,pw_nat]
     · rw [if_neg h2,if_neg (by omega),pw_nat]
   · rw [if_neg h,if_neg (by omega)]
def fermatTo (lo:Nat):Nat→Bool
 | 0=>true
 | n+1=>((lo+n) * pwN 14 1 (lo+n) 10005 % 10007==1) && fermatTo lo n
theorem fermatTo_at {lo:Nat}:∀{n:Nat},fermatTo lo n=true→∀i,i<n→(lo+i) * pwN 14 1 (lo+i) 10005 % 10007=1
 | n + 1, h, i, hi => by
   rw [fermatTo,Bool.and_eq_true] at h;by_cases e:i=n
   · subst e;simpa using h.1
   · exact fermatTo_at h.2 i (by omega)
theorem fermat_1_:fermatTo 1 400=true:=by kernel_rfl
theorem fermat_2_:fermatTo 401 400=true:=by kernel_rfl
theorem fermat_3_:fermatTo 801 400=true:=by kernel_rfl
theorem fermat_4_:fermatTo 1201 400=true:=by kernel_rfl
theorem fermat_5_:fermatTo 1601 400=true:=by kernel_rfl
theorem fermat_6_:fermatTo 2001 400=true:=by kernel_rfl
theorem fermat_7_:fermatTo 2401 400=true:=by kernel_rfl
theorem fermat_8_:fermatTo 2801 400=true:=by kernel_rfl
theorem fermat_9_:fermatTo 3201 400=true:=by kernel_rfl
theorem fermat_10_:fermatTo 3601 400=true:=by kernel_rfl
theorem fermat_11_:fermatTo 4001 400=true:=by kernel_rfl
theorem fermat_12_:fermatTo 4401 400=true:=by kernel_rfl
theorem fermat_13_:fermatTo 4801 400=true:=by kernel_rfl
theorem fermat_14_:fermatTo 5201 400=true:=by kernel_rfl
theorem fermat_15_:fermatTo 5601 400=true:=by kernel_rfl
theorem fermat_16_:fermatTo 6001 400=true:=by kernel_rfl
theorem fermat_17_:fermatTo 6401 400=true:=by kernel_rfl
theorem fermat_18_:fermatTo 6801 400=true:=by kernel_rfl
theorem fermat_19_:fermatTo 7201 400=true:=by kernel_rfl
theorem fermat_20_:fermatTo 7601 400=true:=by kernel_rfl
theorem fermat_21_:fermatTo 8001 400=true:=by kernel_rfl
theorem fermat_22_:fermatTo 8401 400=true:=by kernel_rfl
theorem fermat_23_:fermatTo 8801 400=true:=by kernel_rfl
theorem fermat_24_:fermatTo 9201 400=true:=by kernel_rfl
theorem fermat_25_:fermatTo 9601 400=true:=by kernel_rfl
theorem fermat_last:fermatTo 10001 6=true:=by kernel_rfl
theorem fermat_n {n:Nat} (h0:1≤n) (h1:n≤10006):n * pwN 14 1 n 10005 % 10007=1:=by
 rcases (show n≤10000∨10001≤n by omega) with h | h
 · have hq:(n - 1) / 400<25:=(by omega);have hr:n=(1+400 * ((n - 1) / 400))+(n - 1) % 400:=(by omega);have hm:(n - 1) % 400<400:=Nat.mod_lt _ (by decide);generalize (n - 1) / 400=q at *;generalize (n - 1) % 400=r at *;subst hr
   match q,hq with
   | 0,_=>exact fermatTo_at fermat_1_ r hm
   | 1,_=>exact fermatTo_at fermat_2_ r hm
   | 2,_=>exact fermatTo_at fermat_3_ r hm
   | 3,_=>exact fermatTo_at fermat_4_ r hm
   | 4,_=>exact fermatTo_at fermat_5_ r hm
   | 5,_=>exact fermatTo_at fermat_6_ r hm
   | 6,_=>exact fermatTo_at fermat_7_ r hm
   | 7,_=>exact fermatTo_at fermat_8_ r hm
   | 8,_=>exact fermatTo_at fermat_9_ r hm
   | 9,_=>exact fermatTo_at fermat_10_ r hm
   | 10,_=>exact fermatTo_at fermat_11_ r hm
   | 11,_=>exact fermatTo_at fermat_12_ r hm
   | 12,_=>exact fermatTo_at fermat_13_ r hm
   | 13,_=>exact fermatTo_at fermat_14_ r hm
   | 14,_=>exact fermatTo_at fermat_15_ r hm
   | 15,_=>exact fermatTo_at fermat_16_ r hm
   | 16,_=>exact fermatTo_at fermat_17_ r hm
   | 17,_=>exact fermatTo_at fermat_18_ r hm
   | 18,_=>exact fermatTo_at fermat_19_ r hm
   | 19,_=>exact fermatTo_at fermat_20_ r hm
   | 20,_=>exact fermatTo_at fermat_21_ r hm
   | 21,_=>exact fermatTo_at fermat_22_ r hm
   | 22,_=>exact fermatTo_at fermat_23_ r hm
   | 23,_=>exact fermatTo_at fermat_24_ r hm
   | 24,_=>exact fermatTo_at fermat_25_ r hm
   | q+25,hq'=>exact absurd hq' (by omega)
 · obtain ⟨r,rfl⟩:∃r,n=10001+r:=⟨n - 10001,by omega⟩;exact fermatTo_at fermat_last r (by omega)
theorem inv_one {x:Int} (h0:1≤x) (h1:x≤10006):(x * invOf x) % 10007=1:=by
 obtain ⟨n,rfl⟩:∃n:Nat,x=n:=⟨x.toNat,by omega⟩
 have h:=fermat_n (n:=n) (by omega) (by omega)
 have e:=pw_nat 14 1 n 10005
 rw [invOf,if_pos ⟨h0,h1⟩]
 have e':pw 14 1 (n:Int) 10005=((pwN 14 1 n 10005:Nat):Int):=e
 rw [e']
 omega
abbrev K:=Fin 10007
abbrev Vec:=Nat→K
def toK (x:Int):K:=⟨(x % 10007).toNat,by omega⟩
theorem toK_num (x:Int):toK (num x)=toK x:=by
 apply Fin.ext
 simp only [toK,num]
 omega
theorem toK_add (x y:Int):toK (x+y)=toK x+toK y:=by
 apply Fin.ext
 simp only [toK,Fin.val_add]
 omega
theorem toK_mul (x y:Int):toK (x * y)=toK x * toK y:=by
 apply Fin.ext
 simp only [toK,Fin.val_mul]
 have h1:0≤x % 10007:=Int.emod_nonneg _ (by decide)
 have h2:0≤y % 10007:=Int.emod_nonneg _ (by decide)
 obtain ⟨a,ha⟩:∃a:Nat,x % 10007=a:=⟨(x % 10007).toNat,by omega⟩
 obtain ⟨b,hb⟩:∃b:Nat,y % 10007=b:=⟨(y % 10007).toNat,by omega⟩
 rw [Int.mul_emod,ha,hb]
 simp only [Int.toNat_natCast]
 have:((a:Int) * (b:Int)) % 10007=((a * b % 10007:Nat):Int):=by simp
 rw [this,Int.toNat_natCast]
theorem toK_zero:toK 0=0:=by decide
theorem toK_one:toK 1=1:=by decide
theorem toK_inj {x y:Int} (hx:0≤x∧x≤10006) (hy:0≤y∧y≤10006) (h:toK x=toK y):x=y:=by
 have:=congrArg Fin.val h
 simp only [toK] at this
 omega
theorem K_one_ne:¬(1:K)=0:=by decide
inductive Sp (V:List Vec):Vec→Prop
 | zero:Sp V (fun _=>0)
 | step (k:K) (v x:Vec) (hv:v∈V) (hx:Sp V x):Sp V (fun c=>x c+k * v c)
theorem Sp.mem {V:List Vec} {v:Vec} (h:v∈V):Sp V v:=by
 have:=Sp.step 1 v _ h (Sp.zero (V:=V))
 have e:(fun c=>(0:K)+1 * v c)=v:=by funext c;grind
 rwa [e] at this
theorem Sp.add {V:List Vec} {x y:Vec} (hx:Sp V x) (k:K) (hy:Sp V y):Sp V (fun c=>x c+k * y c):=by
 induction hy with
 | zero =>
   have e:(fun c=>x c+k * 0)=x:=(by funext c;grind);rw [e];exact hx
 | step j v y hv hy ih =>
   have:=Sp.step (k * j) v _ hv ih;have e:(fun c=>(x c+k * y c)+k * j * v c)=(fun c=>x c+k * (y c+j * v c)):=(by funext c;grind);rw [←e];exact this
theorem Sp.of_sub {V W:List Vec} (h:∀v∈V,Sp W v) {x:Vec} (hx:Sp V x):Sp W x:=by
 induction hx with
 | zero=>exact Sp.zero
 | step k v x hv _ ih=>exact Sp.add ih k (h v hv)
def SameSp (V W:List Vec):Prop:=(∀v∈V,Sp W v)∧∀w∈W,Sp V w
theorem SameSp.refl (V:List Vec):SameSp V V:=⟨fun _ h=>Sp.mem h,fun _ h=>Sp.mem h⟩
theorem SameSp.symm {V W:List Vec} (h:SameSp V W):SameSp W V:=⟨h.2,h.1⟩
theorem SameSp.trans {U V W:List Vec} (h:SameSp U V) (h':SameSp V W):SameSp U W:=
 ⟨fun v hv=>Sp.of_sub h'.1 (h.1 v hv),fun w hw=>Sp.of_sub h.2 (h'.2 w hw)⟩
structure Red (L:List (Nat × Vec)):Prop where
 srt:L.Pairwise fun a b=>a.1<b.1
 one:∀e∈L,e.2 e.1=1
 low:∀e∈L,∀c,c<e.1→e.2 c=0
 off:∀e∈L,∀f∈L,¬e.1=f.1→e.2 f.1=0
def cmb (x:Vec):List (Nat × Vec)→Vec
 | []=>fun _=>0
 | e::L=>fun c=>x e.1 * e.2 c+cmb x L c
def InL (L:List (Nat × Vec)) (x:Vec):Prop:=∀c,x c=cmb x L c
theorem cmb_add (x y:Vec) (k:K):∀(L:List (Nat × Vec)) (c:Nat),cmb (fun c=>x c+k * y c) L c=cmb x L c+k * cmb y L c
 | [],c=>by simp only [cmb];grind
 | e :: L, c => by
   have:=cmb_add x y k L c;simp only [cmb,this]
   grind
theorem cmb_none {x:Vec} {c:Nat}:∀{L:List (Nat × Vec)},(∀e∈L,x e.1=0∨e.2 c=0)→cmb x L c=0
 | [],_=>rfl
 | e :: L, h => by
   have h1:=h e (by simp);have h2:=cmb_none (L:=L) (fun f hf=>h f (by simp [hf]));simp only [cmb,h2]
   rcases h1 with h1 | h1 <;> rw [h1] <;> grind
theorem InL.zero (L:List (Nat × Vec)):InL L (fun _=>0):=fun _=>(cmb_none (fun _ _=>Or.inl rfl)).symm
theorem InL.add {L:List (Nat × Vec)} {x y:Vec} (hx:InL L x) (k:K) (hy:InL L y):InL L (fun c=>x c+k * y c):=fun c=>by
 rw [cmb_add,←hx c,←hy c]
theorem cmb_own {s:Vec} {q:Nat} {c:Nat}:∀{L:List (Nat × Vec)},L.Pairwise (fun a b=>a.1<b.1)→(q,s)∈L→s q=1→(∀f∈L,¬q=f.1→s f.1=0)→cmb s L c=s c
 | [],_,h,_,_=>by simp at h
 | e :: L, hs, h, h1, h0 => by
   rw [List.pairwise_cons] at hs;rw [List.mem_cons] at h
   rcases h with h | h
   · subst h;have:=cmb_none (x:=s) (c:=c) (L:=L) (fun f hf=>Or.inl (h0 f (by simp [hf]) (by have:=hs.1 f hf;omega)));simp only [cmb,h1,this]
     grind
   · have:=cmb_own (c:=c) hs.2 h h1 (fun f hf=>h0 f (by simp [hf]));have h2:=h0 e (by simp) (by have:=hs.1 _ h;omega);simp only [cmb,h2,this]
     grind
theorem Red.own {L:List (Nat × Vec)} (h:Red L) {e:Nat × Vec} (he:e∈L):InL L e.2:=fun c=>
 (cmb_own h.srt (by exact he) (h.one e he) (fun f hf hne=>h.off e he f hf hne)).symm
theorem Red.span {L:List (Nat × Vec)} (h:Red L) {x:Vec} (hx:Sp (L.map (·.2)) x):InL L x:=by
 induction hx with
 | zero=>exact InL.zero L
 | step k v x hv _ ih =>
   obtain ⟨e,he,rfl⟩:=List.mem_map.1 hv;exact InL.add ih k (h.own he)
theorem Red.first {x:Vec}:∀{L:List (Nat × Vec)},L.Pairwise (fun a b=>a.1<b.1)→(∀e∈L,∀c,c<e.1→e.2 c=0)→(∃c,¬cmb x L c=0)→∃e∈L,¬x e.1=0∧∀c,c<e.1→cmb x L c=0
 | [],_,_,⟨c,h⟩=>absurd rfl h
 | e :: L, hs, hl, ⟨c, h⟩ => by
   by_cases he:x e.1=0
   · have hz:∀d,cmb x (e::L) d=cmb x L d:=fun d=>(by simp only [cmb,he];grind);rw [List.pairwise_cons] at hs;obtain ⟨f,hf,h1,h2⟩:=Red.first hs.2 (fun g hg=>hl g (by simp [hg])) ⟨c,by rw [←hz c];exact h⟩;exact ⟨f,by simp [hf],h1,fun d hd=>by rw [hz];exact h2 d hd⟩
   · refine ⟨e,by simp,he,fun d hd=>cmb_none (fun f hf=>Or.inr (hl f hf d ?_))⟩;rw [List.mem_cons] at hf
     rcases hf with rfl | hf
     · exact hd
     · have:=(List.pairwise_cons.1 hs).1 f hf;omega
theorem Red.place {L M:List (Nat × Vec)} (h:Red L) (h':Red M) (hs:∀e∈M,Sp (L.map (·.2)) e.2):∀e∈M,∃f∈L,f.1=e.1:=by
 intro e he
 have hin:=h.span (hs e he)
 have h1:=h'.one e he
 obtain ⟨f,hf,h2,h3⟩:=Red.first (x:=e.2) h.srt h.low ⟨e.1,by rw [←hin e.1,h1];exact K_one_ne⟩
 refine ⟨f,hf,?_⟩
 rcases Nat.lt_trichotomy f.1 e.1 with hl | he2 | hg
 · exact absurd (h'.low e he f.1 hl) h2
 · exact he2
 · have:=h3 e.1 hg;rw [←hin e.1,h1] at this;exact absurd this K_one_ne
theorem nodup_le' {α:Type} [BEq α] [LawfulBEq α]:∀{xs ys:List α},xs.Nodup→(∀x∈xs,x∈ys)→xs.length≤ys.length
 | [],_,_,_=>Nat.zero_le _
 | x :: xs, ys, h, hs => by
   obtain ⟨h0,h1⟩:=List.nodup_cons.1 h;have hx:=hs x (by simp);have h2:=nodup_le' (xs:=xs) (ys:=ys.erase x) h1 (fun y hy=>(List.mem_erase_of_ne (fun e=>h0 (by rw [←e];exact hy))).2 (hs y (by simp [hy])));have h3:=List.length_erase_of_mem hx;have h4:=List.length_pos_of_mem hx;rw [List.length_cons];omega
theorem Red.nodup {L:List (Nat × Vec)} (h:Red L):(L.map (·.1)).Nodup:=by
 rw [List.Nodup,List.pairwise_map]
 exact h.srt.imp (fun hab=>by omega)
theorem Red.le {L M:List (Nat × Vec)} (h:Red L) (h':Red M) (hs:∀e∈M,Sp (L.map (·.2)) e.2):M.length≤L.length:=by
 have:=nodup_le' (xs:=M.map (·.1)) (ys:=L.map (·.1)) h'.nodup (fun x hx=>by
  obtain ⟨e,he,rfl⟩:=List.mem_map.1 hx;obtain ⟨f,hf,e2⟩:=h.place h' hs e he
  exact List.mem_map.2 ⟨f,hf,e2⟩)
 rwa [List.length_map,List.length_map] at this
def IsRank (V:List Vec) (k:Nat):Prop:=∃L,Red L∧SameSp (L.map (·.2)) V∧L.length=k
theorem IsRank.uniq {V:List Vec} {k j:Nat} (h:IsRank V k) (h':IsRank V j):k=j:=by
 obtain ⟨L,h1,h2,rfl⟩:=h
 obtain ⟨M,h3,h4,rfl⟩:=h'
 have s:=h2.trans h4.symm
 have a:=Red.le h1 h3 (fun e he=>s.2 e.2 (List.mem_map.2 ⟨e,he,rfl⟩))
 have b:=Red.le h3 h1 (fun e he=>s.1 e.2 (List.mem_map.2 ⟨e,he,rfl⟩))
 omega
end Go.Proofs.YtfheammnkmjabaaGreat
