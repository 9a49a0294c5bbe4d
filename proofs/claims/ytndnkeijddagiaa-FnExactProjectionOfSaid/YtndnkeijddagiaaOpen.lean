
import Derived.Test.YtndnkeijddagiaaDegs
import Derived.ProofKit
import Derived.OpenShut
import Derived.Deep.Slices
import Derived.Deep.MidRow
namespace Go.Proofs.Ytndnkeijddagiaa
open Go.RowKit Go.ChangeShapes Go.WideShapes Go.Deep
def mcells (m:List Int):List Value:=m.map (Value.int .u8)
def monoV (m:List Int):Value:=.agg (mcells m).toArray
def IsMono (m:List Int):Prop:=m.length=8∧∀x∈m,0≤x∧x≤255
structure Tm where
 m:List Int
 f:Int
def tcells (t:Tm):List Value:=mcells t.m++[.int .i64 t.f]
def termV (t:Tm):Value:=.agg (tcells t).toArray
def IsTm (t:Tm):Prop:=IsMono t.m∧-9223372036854775808≤t.f∧t.f≤9223372036854775807
def rcells (ts:List Tm):List Value:=ts.flatMap tcells
theorem mcells_length (m:List Int):(mcells m).length=m.length:=by simp [mcells]
def nul8:List Int:=[0,0,0,0,0,0,0,0]
theorem mcells_one (m:List Int):(mcells m).toArray.all (·.oneCell')=true:=by simp [mcells,Value.oneCell']
theorem tcells_length {t:Tm} (h:IsTm t):(tcells t).length=9:=by simp [tcells,mcells_length,h.1.1]
theorem rcells_length {ts:List Tm} (h:∀t∈ts,IsTm t):(rcells ts).length=ts.length * 9:=by
 induction ts with
 | nil=>rfl
 | cons t ts ih =>
   have h1:=tcells_length (h t (by simp));have h2:=ih (fun u hu=>h u (by simp [hu]));simp only [rcells,List.flatMap_cons,List.length_append,List.length_cons] at h2 ⊢;omega
def Terms (w:World) (a:Option Addr) (n:Nat) (ts:List Tm):Prop:=
 ts.length=n∧(∀t∈ts,IsTm t)∧(0<n→∃b off,a=some ⟨b,off,none⟩∧b<w.heap.size∧w.rangeAt b off (rcells ts))
theorem Terms.keep {w w':World} {a:Option Addr} {n:Nat} {ts:List Tm} (h:Terms w a n ts) (hb:Below w.heap.size w w'):Terms w' a n ts:=
 ⟨h.1,h.2.1,fun hn=>by
  obtain ⟨b,off,ha,hlt,hc⟩:=h.2.2 hn
  exact ⟨b,off,ha,Nat.lt_of_lt_of_le hlt hb.size,rgK hc (hb.block b hlt)⟩⟩
section
variable {H:Type} {enc:TypeId × Value→H} {w:World} {base:Nat} {spare:Nat→Bool} {held:Bool}
theorem one_drop (cs:List Value) (i:Nat) (h:i<cs.length):(cs.drop i).take 1=[cs[i]]:=by
 rw [List.drop_eq_getElem_cons h];rfl
theorem mono_of_trod {t : TypeId} {fuel : Nat} {cs : List Value} {x : DataW H × List MemPlace} (ht : Try.prog.underlying t = some (.array 8 5)) (hC : Try.prog.cellsOf t = 8)
    (h:DataW.trod enc Try.prog w base spare held fuel t cs=some x):∃m,IsMono m∧cs=mcells m:=by
 obtain ⟨xs,k,_,_,hlen,hxl,hx⟩:=DataW.trod_array ht h
 rw [hC] at hlen
 have hce:Try.prog.cellsOf 5=1:=by kernel_rfl
 obtain ⟨f,hf⟩:=choose_lt (α:=Int) (n:=8) (p:=fun i n=>cs[i]? = some (Value.int .u8 n)∧0≤n∧n≤255) (fun i hi=>by
  have h1:=hx i hi;rw [hce,Nat.mul_one,one_drop cs i (by omega),List.getElem?_eq_getElem (by omega)] at h1;obtain ⟨n,hn,_,hw⟩:=DataW.trod_int Try.underlying5 h1;have:=bounds_u8 hw;refine ⟨n,?_,this.1,this.2⟩;rw [List.getElem?_eq_getElem (by omega)];simp at hn
  rw [hn])
 refine ⟨(List.range 8).map f,⟨by simp,fun x hx=>?_⟩,?_⟩
 · simp only [List.mem_map,List.mem_range] at hx;obtain ⟨i,hi,rfl⟩:=hx;exact (hf i hi).2
 · apply List.ext_getElem?
   intro i;by_cases hi:i<8
   · rw [(hf i hi).1];simp [mcells,hi]
   · rw [List.getElem?_eq_none (by omega),List.getElem?_eq_none (by simp [mcells];omega)]
theorem term_of_trod {fuel:Nat} {cs:List Value} {x:DataW H × List MemPlace} (h:DataW.trod enc Try.prog w base spare held fuel 125 cs=some x):∃t:Tm,IsTm t∧cs=tcells t:=by
 obtain ⟨xs,k,_,_,hlen,hxl,hx⟩:=DataW.trod_struct Try.underlying125 h
 have hC:Try.prog.cellsOf 125=9:=by kernel_rfl
 have hC1:Try.prog.cellsOf 73=8:=by kernel_rfl
 have hC2:Try.prog.cellsOf 2=1:=by kernel_rfl
 rw [hC] at hlen
 have h0:DataW.trod enc Try.prog w base spare held k 73 ((cs.drop 0).take (Try.prog.cellsOf 73))=xs[0]? := hx 0 _ rfl
 have h1:DataW.trod enc Try.prog w base spare held k 2 ((cs.drop 8).take (Try.prog.cellsOf 2))=xs[1]? := hx 1 _ rfl
 rw [hC1,List.getElem?_eq_getElem (by rw [hxl];decide),List.drop_zero] at h0
 rw [hC2,List.getElem?_eq_getElem (by rw [hxl];decide),one_drop cs 8 (by omega)] at h1
 obtain ⟨m,hm,he⟩:=mono_of_trod Try.underlying73 hC1 h0
 obtain ⟨n,hn,_,hw⟩:=DataW.trod_int Try.underlying2 h1
 have hbd:=bounds_i64 hw
 refine ⟨⟨m,n⟩,⟨hm,hbd.1,hbd.2⟩,?_⟩
 simp only [tcells,←he,←hn]
 apply List.ext_getElem?
 intro i
 by_cases hi:i<8
 · rw [List.getElem?_append_left (by simp;omega),List.getElem?_take,if_pos hi]
 · by_cases h8:i=8
   · subst h8;rw [List.getElem?_append_right (by simp;omega)];simp [hlen]
   · rw [List.getElem?_eq_none (by omega),List.getElem?_eq_none (by simp;omega)]
theorem flat_get {ts:List Tm} (h:∀t∈ts,IsTm t) {j:Nat} {v:Value} (hv:(rcells ts)[j]? = some v):∃i t,ts[i]? = some t∧j=i * 9+(j - i * 9)∧i * 9≤j∧j - i * 9<9∧(tcells t)[j - i * 9]? = some v:=by
 induction ts generalizing j with
 | nil=>simp [rcells] at hv
 | cons t ts ih =>
   have h1:=tcells_length (h t (by simp));simp only [rcells,List.flatMap_cons] at hv;by_cases hj:j<9
   · rw [List.getElem?_append_left (by omega)] at hv;exact ⟨0,t,rfl,by omega,by omega,by omega,by simpa using hv⟩
   · rw [List.getElem?_append_right (by omega),h1] at hv;obtain ⟨i,u,hu,e1,e2,e3,e4⟩:=ih (fun u hu=>h u (by simp [hu])) hv;refine ⟨i+1,u,by simpa using hu,by omega,by omega,by omega,?_⟩;rw [show j - (i+1) * 9=j - 9 - i * 9 by omega];exact e4
theorem terms_of_trod {t : TypeId} {fuel : Nat} {cs : List Value} {x : DataW H × List MemPlace} (ht : Try.prog.underlying t = some (.slice 125)) (h : DataW.trod enc Try.prog w 0 spare held fuel t cs = some x) :
    ∃a n c ts,cs=[.slice a n c]∧Terms w a n ts:=by
 have hC:Try.prog.cellsOf 125=9:=by kernel_rfl
 rcases open_slice ht h with ⟨hcs,_⟩ | ⟨x,l,c,m,k,D,Pl,hcs,_,hl,hm,hmm,_,hx⟩
 · exact ⟨_,_,_,[],hcs,rfl,by simp,fun h=>absurd h (by omega)⟩
 · rw [hC] at hx;have hle:l≤m:=(by rw [hmm];split <;> omega);have:Inhabited Tm:=⟨⟨[],0⟩⟩
   obtain ⟨f,hf⟩:=choose_lt (α:=Tm) (n:=l) (p:=fun i t=>IsTm t∧w.cells? 0 (x.add (i * 9)) 9=some (tcells t)) (fun i hi=>by
    obtain ⟨cs',h1,h2⟩:=hx i (by omega);obtain ⟨t,ht,rfl⟩:=term_of_trod h2
    exact ⟨t,ht,h1⟩)
   have hall:∀t∈(List.range l).map f,IsTm t:=by
    intro t ht;simp only [List.mem_map,List.mem_range] at ht;obtain ⟨i,hi,rfl⟩:=ht;exact (hf i hi).1
   refine ⟨_,_,_,(List.range l).map f,hcs,by simp,hall,fun hn=>?_⟩;obtain ⟨b,off,spot⟩:=x;obtain ⟨_,hcl,hat⟩:=World.cells?_some (hf 0 hn).2;have h0:=hat 0 (by omega);rw [List.getElem?_eq_getElem (by rw [hcl];omega)] at h0
   have hs:spot=none:=by
    have:=World.cell?_spot h0;simpa [Addr.add] using this
   subst hs;refine ⟨b,off,rfl,?_,fun j v hv=>?_⟩
   · have:=World.block_lt_of_cell? w _ h0;simpa [Addr.add] using this
   · obtain ⟨i,t,hi,e1,e2,e3,e4⟩:=flat_get hall hv
     have hil:i<l:=by
      have:=(List.getElem?_eq_some_iff.1 hi).1;simpa using this
     have hft:f i=t:=(by simpa [hil] using hi);obtain ⟨_,hcl',hat'⟩:=World.cells?_some (hf i hil).2;have h9:=hat' (j - i * 9) e3;rw [hft,e4,Addr.add_mid,Addr.add_mid,show off+i * 9+(j - i * 9)=off+j by omega] at h9;exact h9
end
end Go.Proofs.Ytndnkeijddagiaa
