
import Derived.Test.YtdppjlndcacfnaaGreatApm
import Derived.Test.YtdppjlndcacfnaaGreatFdim
import Derived.Test.YtdppjlndcacfnaaGreatDerC
namespace Go.Proofs.YtdppjlndcacfnaaGreat
open Go.RowKit Go.Deep
section
variable {zs m:List Int} {ims gss:List (List Tm)} {k:Int} {fs:List Tm}
theorem winPiece {i:Nat} (H:AlgOk zs gss) (hm:IsMono m) (ok:monoOk zs m=true) (hi:i<zs.length) (hp:0<m.getD i 0):WinOk zs (piece zs gss k m i):=(two_rest (k:=k) H hm ok hi hp).winOkW
theorem winMono (H:AlgOk zs gss) (hm:IsMono m) (ok:monoOk zs m=true):∀i:Nat,i≤zs.length→WinOk zs (monoT zs gss k m i)
 | 0,_=>by rw [monoT];simp [WinOk]
 | i + 1, hi => by
   have ih:=winMono H hm ok i (by omega);have hg:=getD_mono hm i;rw [monoT];split
   · exact ih
   · exact addT_all (p:=fun x=>monoOk zs x.m=within x.m) _ _ ih (fun g hg' _ _=>winPiece (k:=k) H hm ok (by omega) (by omega) g hg') (fun f hf _ _=>ih f hf)
theorem winApply (H:AlgOk zs gss):∀(fs out:List Tm),(∀t∈fs,IsTm t)→(∀t∈fs,monoOk zs t.m=true)→WinOk zs out→WinOk zs (applyT zs gss k out fs)
 | [],out,_,_,h=>h
 | t :: fs, out, ht, hk, h => winApply H fs _ (fun u hu => ht u (by simp [hu])) (fun u hu => hk u (by simp [hu]))
     (addT_all (p:=fun x=>monoOk zs x.m=within x.m) _ _ h (fun g hg _ _=>winMono (k:=k) H (ht t (by simp)).1 (hk t (by simp)) zs.length (Nat.le_refl _) g hg) (fun f hf _ _=>h f hf))
theorem derB_ok (h:derB zs ims k gss=true) (hT:∀ts∈gss,∀t∈ts,IsTm t):AlgOk zs gss:=by
 simp only [derB,Bool.and_eq_true,decide_eq_true_eq] at h
 have hA:=h.1
 simp only [isAlg,Bool.and_eq_true] at hA
 refine ⟨degsOk_len hA.1,h.2.2.1,fun ts hts=>?_,hT⟩
 obtain ⟨i,hi,rfl⟩:=List.mem_iff_getElem.1 hts
 have h1:=h.2.2.2
 rw [derF,List.all_eq_true] at h1
 have h2:=h1 i (by simpa using hi)
 rw [derAt,List.getD_eq_getElem?_getD,List.getElem?_eq_getElem hi] at h2
 exact zeroOr_form h2
theorem derB_degs (h:derB zs ims k gss=true):degsOk zs=true:=by
 simp only [derB,Bool.and_eq_true] at h
 have hA:=h.1
 simp only [isAlg,Bool.and_eq_true] at hA
 exact hA.1
end
section
variable {zs:List Int} {ims gss:List (List Tm)} {k:Int} {fs:List Tm}
end
def sg9 (k m:Int):Int:=if (k * m) % 2=0 then 10006 else 1
def sc9 (k m:Int):Int:=if odd k=true∧odd m=true then 1 else -1
theorem sg9_rg (k m:Int):0≤sg9 k m∧sg9 k m≤10006:=by rw [sg9];split <;> omega
theorem sg9_sc9 (k m x y:Int):num (x+sc9 k m * y)=num (x+sg9 k m * y):=by
 have h:(k * m) % 2=0↔¬(odd k=true∧odd m=true):=by
  have hm2:(k * m) % 2=((k % 2) * (m % 2)) % 2:=Int.mul_emod _ _ _;have a:k % 2=0∨k % 2=1:=(by omega);have b:m % 2=0∨m % 2=1:=(by omega);rw [hm2]
  rcases a with a | a <;> rcases b with b | b <;> simp [a,b,odd]
 rw [sg9,sc9]
 by_cases q:(k * m) % 2=0
 · rw [if_pos q,if_neg (h.1 q)];unfold num;omega
 · rw [if_neg q,if_pos (Decidable.not_not.1 (fun hh=>q (h.2 hh)))]
section
variable {zs:List Int} {A B:List Tm} {N M:Nat}
def two9 (k m:Int) (A B:List Tm):List Tm:=addT (sg9 k m) A B
theorem two9_9 (k m:Int) (hA:Sum9 A N) (hB:Sum9 B M):Sum9 (two9 k m A B) (N+M):=hA.add _ hB
theorem two9_win (k m:Int) (hA:WinOk zs A) (hB:WinOk zs B):WinOk zs (two9 k m A B):=
 addT_all (p:=fun x=>monoOk zs x.m=within x.m) _ _ hA (fun g hg _ _=>hB g hg) (fun f hf _ _=>hA f hf)
theorem two9_coef (k m:Int) (hA:Sum9 A N) (hB:Sum9 B M) (x:List Int):num (coef A x+sc9 k m * coef B x)=coef (two9 k m A B) x:=by
 rw [sg9_sc9,two9,add_coef9 hA hB]
end
def brAt (zs:List Int) (k:Int) (gss:List (List Tm)) (m:Int) (hss:List (List Tm)) (i:Nat):List Tm:=
 two9 k m (applyT zs gss k [] (hss.getD i [])) (applyT zs hss m [] (gss.getD i []))
def dfAt (zs:List Int) (ims:List (List Tm)) (k:Int) (gss:List (List Tm)) (i:Nat):List Tm:=
 two9 k 1 (diffT zs ims [] (gss.getD i [])) (applyT zs gss k [] (ims.getD i []))
theorem odd_neg1:odd (-1)=true:=by decide
theorem odd_one:odd 1=true:=by decide
section
variable {zs:List Int} {ims gss hss:List (List Tm)} {k m:Int}
theorem ap9_at (H:AlgOk zs gss) (G:AlgOk zs hss) (k:Int) (i:Nat):Sum9 (applyT zs gss k [] (hss.getD i [])) 1280000∧WinOk zs (applyT zs gss k [] (hss.getD i [])):=by
 obtain ⟨h1,h2,h3,h4,h5⟩:=G.at_ i
 exact ⟨(apply9 (k:=k) H _ [] 0 h2 h3 sum9_nil).mono (by omega),winApply (k:=k) H _ [] h2 h3 (by simp [WinOk])⟩
theorem df9_at (H:AlgOk zs ims) (G:AlgOk zs gss) (i:Nat):Sum9 (diffT zs ims [] (gss.getD i [])) 1280000∧WinOk zs (diffT zs ims [] (gss.getD i [])):=by
 obtain ⟨h1,h2,h3,h4,h5⟩:=G.at_ i
 exact ⟨(H.diff _ [] 0 h2 h3 sum9_nil).mono (by omega),H.winDiff _ [] h2 h3 (by simp [WinOk])⟩
theorem br_coef (H : AlgOk zs gss) (G : AlgOk zs hss) (i : Nat) (x : List Int) :
    diffR (odd m) zs hss (sc9 k m) (diffR (odd k) zs gss 1 zeroL (hss.getD i [])) (gss.getD i []) x=coef (brAt zs k gss m hss i) x:=by
 obtain ⟨a1,a2,a3,a4,a5⟩:=H.at_ i
 obtain ⟨b1,b2,b3,b4,b5⟩:=G.at_ i
 have h0:∀y,diffR (odd k) zs gss 1 zeroL (hss.getD i []) y=coef (applyT zs gss k [] (hss.getD i [])) y:=fun y=>by
  rw [diffR_apply (k:=k) H b2 b3 (fun _=>by simp [zeroL]) y];show num (0+1 * _)=_
  rw [Int.zero_add,Int.one_mul,num_self (coef_rg (ap9_at H G k i).1 y)]
 have hr:∀y,0≤diffR (odd k) zs gss 1 zeroL (hss.getD i []) y∧diffR (odd k) zs gss 1 zeroL (hss.getD i []) y≤10006:=fun y=>by rw [h0 y];exact coef_rg (ap9_at H G k i).1 y
 rw [diffR_apply (k:=m) G a2 a3 hr x,h0 x,brAt]
 exact two9_coef k m (ap9_at H G k i).1 (ap9_at G H m i).1 x
theorem df_coef (H : AlgOk zs ims) (G : AlgOk zs gss) (i : Nat) (x : List Int) :
    diffR (odd k) zs gss (sc9 (-1) k) (diffR true zs ims 1 zeroL (gss.getD i [])) (ims.getD i []) x=coef (dfAt zs ims k gss i) x:=by
 obtain ⟨a1,a2,a3,a4,a5⟩:=H.at_ i
 obtain ⟨b1,b2,b3,b4,b5⟩:=G.at_ i
 have h0:∀y,diffR true zs ims 1 zeroL (gss.getD i []) y=coef (diffT zs ims [] (gss.getD i [])) y:=fun y=>by
  rw [diffR_odd];exact (diff_coef H.ims H.ln H.h8 _ [] zeroL (fun t hx=>(b2 t hx).1) b3 (fun _=>rfl) good_nil).1 y
 have hr:∀y,0≤diffR true zs ims 1 zeroL (gss.getD i []) y∧diffR true zs ims 1 zeroL (gss.getD i []) y≤10006:=fun y=>by rw [h0 y];exact coef_rg (df9_at H G i).1 y
 have hs:sc9 (-1) k=sc9 k 1:=by rw [sc9,sc9,odd_neg1,odd_one];congr 1;exact propext ⟨fun h=>⟨h.2,rfl⟩,fun h=>⟨rfl,h.1⟩⟩
 rw [diffR_apply (k:=k) G a2 a3 hr x,h0 x,dfAt,hs]
 exact two9_coef k 1 (df9_at H G i).1 (ap9_at G H k i).1 x
end
def brs (B:Nat→List Tm) (n:Nat):List (List Tm):=(List.range n).map B
def okBr (zs:List Int) (B:Nat→List Tm) (n:Nat):Bool:=(List.range n).all fun i=>okT zs (B i)
def brE (zs:List Int) (B:Nat→List Tm) (n:Nat):Int:=if okBr zs B n=true then 0 else 3
def brD (zs:List Int) (B:Nat→List Tm) (n:Nat) (d:Int):Int:=if okBr zs B n=true then d else 0
def brI (zs:List Int) (B:Nat→List Tm) (n:Nat):List (List Tm):=if okBr zs B n=true then brs B n else []
theorem brs_len (B:Nat→List Tm) (n:Nat):(brs B n).length=n:=by simp [brs]
theorem brs_succ (B:Nat→List Tm) (n:Nat):brs B (n+1)=brs B n++[B n]:=by simp [brs,List.range_succ]
theorem brs_tm {B:Nat→List Tm} (h:∀i,∀t∈B i,IsTm t) (n:Nat):∀ts∈brs B n,∀t∈ts,IsTm t:=by
 intro ts hts
 obtain ⟨i,-,rfl⟩:=List.mem_map.1 hts
 exact h i
theorem okBr_no {zs:List Int} {B:Nat→List Tm} {n i:Nat} (hi:i<n) (h:okT zs (B i)=false):brE zs B n=3∧(∀d,brD zs B n d=0)∧brI zs B n=[]:=by
 have e:okBr zs B n=false:=range_all_no hi h
 exact ⟨by rw [brE,e];rfl,fun d=>by rw [brD,e];rfl,by rw [brI,e];rfl⟩
theorem okBr_yes {zs:List Int} {B:Nat→List Tm} {n:Nat} (h:∀i,i<n→okT zs (B i)=true):brE zs B n=0∧(∀d,brD zs B n d=d)∧brI zs B n=brs B n:=by
 have e:okBr zs B n=true:=by
  rw [okBr,List.all_eq_true];intro i hi;exact h i (by simpa using hi)
 exact ⟨by rw [brE,if_pos e],fun d=>by rw [brD,if_pos e],by rw [brI,if_pos e]⟩
def fE (zs:List Int) (ts:List Tm):Int:=if okT zs ts=true then 0 else 3
def fV (zs:List Int) (ts:List Tm):List Tm:=if okT zs ts=true then ts else []
theorem FormOf.tolds {w w' : World} {S : List Int → Int} {e : Ending} {zs : List Int} {T : List Tm} (h : FormOf w S e w') (hg : Good T) (ht : ∀ x ∈ T, IsTm x) (hw : WinOk zs T) (hc : ∀ m, S m = coef T m) :
    ∃v,e=.returned (.tuple #[.agg #[v],.int .i64 (fE zs T)])∧OwnR w' w.heap.size v (fV zs T):=by
 rcases h.told hg ht hw hc with ⟨hok,v,rfl,hO⟩ | ⟨hok,rfl⟩
 · exact ⟨v,by rw [fE,if_pos hok],by rw [fV,if_pos hok];exact hO⟩
 · exact ⟨.slice none 0 0,by rw [fE,hok];rfl,by rw [fV,hok];exact ownR_none _ _⟩
theorem brAt9 {zs:List Int} {gss hss:List (List Tm)} {k m:Int} (H:AlgOk zs gss) (G:AlgOk zs hss) (i:Nat):Sum9 (brAt zs k gss m hss i) 2560000∧WinOk zs (brAt zs k gss m hss i):=
 ⟨two9_9 k m (ap9_at H G k i).1 (ap9_at G H m i).1,two9_win k m (ap9_at H G k i).2 (ap9_at G H m i).2⟩
theorem dfAt9 {zs:List Int} {ims gss:List (List Tm)} {k:Int} (H:AlgOk zs ims) (G:AlgOk zs gss) (i:Nat):Sum9 (dfAt zs ims k gss i) 2560000∧WinOk zs (dfAt zs ims k gss i):=
 ⟨two9_9 k 1 (df9_at H G i).1 (ap9_at G H k i).1,two9_win k 1 (df9_at H G i).2 (ap9_at G H k i).2⟩
end Go.Proofs.YtdppjlndcacfnaaGreat
