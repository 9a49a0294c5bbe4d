
import Derived.Test.YtndnkeijddagiaaDiffQ
import Derived.Test.YtndnkeijddagiaaAlg
namespace Go.Proofs.Ytndnkeijddagiaa
open Go.RowKit Go.Deep Go.Maps
theorem Frms.grown {w w':World} {a:Option Addr} {n b k:Nat} {fss:List (List Tm)} {S:List Int→Int} (h:Frms w a n fss) (hM:MapIs w b k S) (hg:w.grownBy w' (some b)):Frms w' a n fss:=by
 obtain ⟨hl,hr⟩:=h
 refine ⟨hl,fun hn=>?_⟩
 obtain ⟨b',off,ha,hlt,hc⟩:=hr hn
 have hne:b'≠b:=by
  intro e;subst e;have h0:fss[0]? = some fss[0]:=List.getElem?_eq_getElem (by omega);obtain ⟨ai,ni,ci,h1,-,-⟩:=hc 0 _ h0;rw [hM.nocell] at h1;cases h1
 refine ⟨b',off,ha,Nat.lt_of_lt_of_le hlt hg.size,fun i ts hi=>?_⟩
 obtain ⟨ai,ni,ci,h1,h2,h3⟩:=hc i ts hi
 exact ⟨ai,ni,ci,(World.cell?_of_block (a:=⟨b',off+i,none⟩) (hg.block b' hlt (by simpa using hne))).trans h1,h2.grown hM hg,h3⟩
theorem bel_grown {w w0 w1:World} {b:Nat} (hb:Below w.heap.size w w0) (hg:w0.grownBy w1 (some b)) (h:w.heap.size≤b):Below w.heap.size w w1:=
 grown_below hb hg (fun k e=>by cases e;exact h) hb.size
open Go.RowKit
theorem frontM_row (m:List Int) (i:Nat):frontM m i=rowS m i:=rfl
theorem backM_row (m:List Int) (i:Nat):backM m i=rowI m (i+1):=rfl
theorem rowI_clear {A:List Int} {j:Nat} (hA:A.length=8) (hj:j<8):(rowI A j).set j 0=rowI A (j+1):=by
 apply List.ext_getElem?
 intro k
 rw [List.getElem?_set]
 simp only [rowI,List.getElem?_append,List.length_append,List.length_replicate,List.length_drop,List.getElem?_replicate,List.getElem?_drop]
 by_cases h1:j=k
 · subst h1;rw [if_pos rfl,if_pos (by omega),if_pos (by omega),if_pos (by omega)]
 · rw [if_neg h1];by_cases h2:k<j
   · rw [if_pos h2,if_pos h2,if_pos (by omega),if_pos (by omega)]
   · rw [if_neg h2,if_neg (by omega),show j+(k - j)=j+1+(k - (j+1)) by omega]
theorem left_mem {m:List Int} {i:Nat} {y:Int} (h:y∈leftM m i):y=m.getD i 0 - 1∨y∈m∨y=0:=by
 rcases List.mem_or_eq_of_mem_set h with h | h
 · rw [frontM,List.mem_append] at h
   rcases h with h | h
   · exact Or.inr (Or.inl (List.mem_of_mem_take h))
   · exact Or.inr (Or.inr (List.mem_replicate.1 h).2)
 · exact Or.inl h
theorem back_mem {m:List Int} {i:Nat} {y:Int} (h:y∈backM m i):y∈m∨y=0:=by
 rw [backM,List.mem_append] at h
 rcases h with h | h
 · exact Or.inr (List.mem_replicate.1 h).2
 · exact Or.inl (List.mem_of_mem_drop h)
theorem getD_mem {m:List Int} {i:Nat} (h:i<m.length):m.getD i 0∈m:=by
 rw [List.getD_eq_getElem?_getD,List.getElem?_eq_getElem h]
 exact List.getElem_mem h
def In (B:Int) (m:List Int):Prop:=∀y∈m,0≤y∧y≤B
theorem In.at_ {B:Int} {m:List Int} (h:In B m) {i:Nat} {y:Int} (hi:m[i]? = some y):0≤y∧y≤B:=h y (List.mem_of_getElem? hi)
theorem In.mono {B C:Int} {m:List Int} (h:In B m) (hc:B≤C):In C m:=fun y hy=>by have:=h y hy;omega
theorem In.isMono {B:Int} {m:List Int} (h:In B m) (hl:m.length=8) (hb:B≤255):IsMono m:=⟨hl,fun y hy=>by have:=h y hy;omega⟩
theorem left_in {B:Int} {m:List Int} {i:Nat} (h:In B m) (hB:0≤B) (hi:i<m.length) (hp:0<m.getD i 0):In B (leftM m i):=fun y hy=>by
 have:=h _ (getD_mem hi)
 rcases left_mem hy with e | e | e
 · omega
 · exact h y e
 · omega
theorem back_in {B:Int} {m:List Int} {i:Nat} (h:In B m) (hB:0≤B):In B (backM m i):=fun y hy=>by
 rcases back_mem hy with e | e
 · exact h y e
 · omega
theorem left_tail {m:List Int} {n i:Nat} (hl:m.length=8) (hi:i<n):Tail0 (leftM m i) n:=by
 intro k hk hk8
 rw [leftM,List.getElem?_set,if_neg (by omega),frontM,List.getElem?_append_right (by rw [List.length_take];omega),List.getElem?_replicate,if_pos (by rw [List.length_take];omega)]
theorem back_tail {m:List Int} {n i:Nat} (_hl:m.length=8) (hi:i<n) (h:Tail0 m n):Tail0 (backM m i) n:=by
 intro k hk hk8
 rw [backM,List.getElem?_append_right (by rw [List.length_replicate];omega),List.length_replicate,List.getElem?_drop,show i+1+(k - (i+1))=k by omega]
 exact h k hk hk8
theorem join_in {B C:Int} {zs m k:List Int} (hm:In B m) (hk:In C k) (hB:0≤B) (hC:0≤C):In (B+C) (joinM zs m k):=by
 intro y hy
 rw [joinM] at hy
 split at hy
 · have:y=0:=(by simpa [nul8] using hy);omega
 · obtain ⟨i,hi,rfl⟩:=List.mem_iff_getElem.1 hy;simp only [addM,List.getElem_zipWith];simp only [addM,List.length_zipWith] at hi;have h1:=hm _ (List.getElem_mem (show i<m.length by omega));have h2:=hk _ (List.getElem_mem (show i<k.length by omega));omega
theorem join_tail {zs m k:List Int} {n:Nat} (hm:Tail0 m n) (hk:Tail0 k n):Tail0 (joinM zs m k) n:=by
 intro i hi hi8
 rw [joinM]
 split
 · show (List.replicate 8 (0:Int))[i]? = some 0
   rw [List.getElem?_replicate,if_pos hi8]
 · have:=addM_get (hm i hi hi8) (hk i hi hi8);simpa using this
theorem ok_in {zs m:List Int} (hm:IsMono m) (h:monoOk zs m=true):In 20 m:=fun y hy=>by
 obtain ⟨i,hi,rfl⟩:=List.mem_iff_getElem.1 hy
 have h8:=hm.1
 have:=mono20 h (show i<8 by omega) (List.getElem?_eq_getElem hi)
 exact ⟨(hm.2 _ (List.getElem_mem hi)).1,this⟩
theorem around_fit {zs m u : List Int} {i : Nat} (h8 : zs.length ≤ 8) (hm : IsMono m) (ok : monoOk zs m = true) (hu : IsMono u) (ou : monoOk zs u = true) (hi : i < zs.length) (hp : 0 < m.getD i 0) :
    FitW zs (leftM m i) u∧FitW zs (joinM zs (leftM m i) u) (backM m i):=by
 have i1:=ok_in hm ok
 have i2:=ok_in hu ou
 have hl:=hm.1
 have L:=left_in i1 (by omega) (by omega) hp (i:=i)
 have K:=back_in (i:=i) i1 (by omega)
 have ll:(leftM m i).length=8:=leftM_len hl (by omega)
 have kl:(backM m i).length=8:=backM_len hl (by omega)
 have tl:=left_tail (n:=zs.length) hl hi
 have tk:=back_tail hl hi (tail0 hm ok)
 have F1:FitW zs (leftM m i) u:=⟨h8,L.isMono ll (by omega),hu,tl,tail0 hu ou,fun _ y h=>by have:=L.at_ h;omega,fun _ y h=>by have:=i2.at_ h;omega⟩
 have J:=join_in (zs:=zs) L i2 (by omega) (by omega)
 exact ⟨F1,⟨h8,joinM_monoW F1,K.isMono kl (by omega),join_tail tl (tail0 hu ou),tk,fun _ y h=>by have:=J.at_ h;omega,fun _ y h=>by have:=K.at_ h;omega⟩⟩
theorem grown_set {w wr:World} {k g i:Nat} {u:Value} (hg:w.grownBy wr (some k)) (hl:w.heap.size≤g):w.grownBy (wr.setCell ⟨g,i,none⟩ u) (some k):=by
 have h:=(Below.refl w.heap.size wr).setCell (p:=⟨g,i,none⟩) hl u
 exact ⟨h.os.trans hg.os,h.tape.trans hg.tape,h.output.trans hg.output,Nat.le_trans hg.size h.size,fun j hj hne=>(h.block j hj).trans (hg.block j hj hne)⟩
theorem left_set {m:List Int} {i:Nat} (hl:m.length=8) (hi:i<8):(leftM m i).set i (m.getD i 0)=rowS m (i+1):=by
 rw [leftM,List.set_set,frontM_row]
 exact rowS_step hl hi (by rw [List.getD_eq_getElem?_getD,List.getElem?_eq_getElem (by omega)];rfl)
end Go.Proofs.Ytndnkeijddagiaa
