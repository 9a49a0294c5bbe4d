
import Derived.Test.YtndnkeijddagiaaOpen
import Derived.Test.YtndnkeijddagiaaForm
namespace Go.Proofs.Ytndnkeijddagiaa
set_option maxRecDepth 100000
open Go.RowKit Go.ChangeShapes Go.WideShapes Go.Deep
def Frms (w:World) (a:Option Addr) (n:Nat) (fss:List (List Tm)):Prop:=
 fss.length=n∧(0<n→∃b off,a=some ⟨b,off,none⟩∧b<w.heap.size∧∀i ts,fss[i]? = some ts→∃ai ni ci,w.cell? ⟨b,off+i,none⟩=some (.slice ai ni ci)∧Terms w ai ni ts∧(ni:Int)≤9223372036854775807)
theorem Frms.len {w:World} {a:Option Addr} {n:Nat} {fss:List (List Tm)} (h:Frms w a n fss):fss.length=n:=h.1
theorem Frms.keep {w w':World} {a:Option Addr} {n:Nat} {fss:List (List Tm)} (h:Frms w a n fss) (hb:Below w.heap.size w w'):Frms w' a n fss:=
 ⟨h.1,fun hn=>by
  obtain ⟨b,off,ha,hlt,hc⟩:=h.2 hn;refine ⟨b,off,ha,Nat.lt_of_lt_of_le hlt hb.size,fun i ts hi=>?_⟩;obtain ⟨ai,ni,ci,h1,h2,h3⟩:=hc i ts hi
  exact ⟨ai,ni,ci,(World.cell?_of_block (a:=⟨b,off+i,none⟩) (hb.block b hlt)).trans h1,h2.keep hb,h3⟩⟩
theorem Frms.at_ {w : World} {a : Option Addr} {n : Nat} {fss : List (List Tm)} (h : Frms w a n fss) {i : Nat} (hi : i < n) :
    ∃b off ts ai ni ci,a=some ⟨b,off,none⟩∧b<w.heap.size∧w.cell? ⟨b,off+i,none⟩=some (.slice ai ni ci)∧Terms w ai ni ts∧(ni:Int)≤9223372036854775807∧Hid (fss[i]? = some ts):=by
 obtain ⟨b,off,ha,hlt,hc⟩:=h.2 (by omega)
 have hl:=h.1
 have hx:fss[i]? = some fss[i]:=List.getElem?_eq_getElem (by omega)
 obtain ⟨ai,ni,ci,h1,h2,h3⟩:=hc i _ hx
 exact ⟨b,off,_,ai,ni,ci,ha,hlt,h1,h2,h3,hx⟩
section
variable {H:Type} {enc:TypeId × Value→H} {w:World} {spare:Nat→Bool} {held:Bool}
theorem ints_of_trod {t:TypeId} {fuel:Nat} {cs:List Value} {x:DataW H × List MemPlace} (ht:Try.prog.underlying t=some (.slice 2)) (hf:DataW.trod enc Try.prog w 0 spare held fuel t cs=some x):∃a n c zs,cs=[.slice a n c]∧Ints w a n zs:=by
 rcases open_ints ht Try.underlying2 (by kernel_rfl) hf with ⟨hcs,_⟩ | ⟨x,l,c',zs,hcs,_,hl,hm,hz,_,hcell,hwz⟩
 · exact ⟨_,_,_,[],hcs,rfl,fun h=>absurd h (by omega)⟩
 · have hle:l≤zs.length:=(by rw [hz];split <;> omega);refine ⟨_,_,_,zs.take l,hcs,by simp;omega,fun hn=>?_⟩;obtain ⟨b,off,spot⟩:=x;have h0:=hcell 0 (by omega);have hs:spot=none:=(by simpa [Addr.add] using World.cell?_spot h0);subst hs;refine ⟨b,off,rfl,?_,fun i hi=>?_⟩
   · have:=World.block_lt_of_cell? w _ h0;simpa [Addr.add] using this
   · have:=hcell i (by omega);rw [Addr.add_mid] at this;rw [this];simp [List.getD,hi]
theorem terms_of_trod' {t : TypeId} {fuel : Nat} {cs : List Value} {x : DataW H × List MemPlace} (ht : Try.prog.underlying t = some (.slice 125)) (h : DataW.trod enc Try.prog w 0 spare held fuel t cs = some x) :
    ∃a n c ts,cs=[.slice a n c]∧Terms w a n ts∧(n:Int)≤9223372036854775807:=by
 obtain ⟨a,n,c,ts,rfl,hT⟩:=terms_of_trod ht h
 refine ⟨a,n,c,ts,rfl,hT,?_⟩
 rcases open_slice ht h with ⟨hcs,_⟩ | ⟨x,l,c',m,k,D,Pl,hcs,_,hl,hm,hmm,_,hx⟩
 · simp at hcs;omega
 · simp at hcs
   have:(maxLen:Int)≤9223372036854775807:=(by decide);omega
theorem form_of_trod {t u : TypeId} {fuel : Nat} {cs : List Value} {x : DataW H × List MemPlace} {fd : Field} (ht : Try.prog.underlying t = some (.struct #[fd])) (hfd : fd.type = u) (hof : fd.offset = 0) (hC : Try.prog.cellsOf t = 1) (hCu : Try.prog.cellsOf u = 1)
    (hu:Try.prog.underlying u=some (.slice 125)) (h:DataW.trod enc Try.prog w 0 spare held fuel t cs=some x):∃a n c ts,cs=[.slice a n c]∧Terms w a n ts∧(n:Int)≤9223372036854775807:=by
 obtain ⟨xs,k,_,_,hlen,hxl,hx⟩:=DataW.trod_struct ht h
 have h0:=hx 0 fd rfl
 rw [hfd,hof,hCu,List.drop_zero,List.getElem?_eq_getElem (by rw [hxl];simp)] at h0
 rw [hC] at hlen
 rw [List.take_of_length_le (by omega)] at h0
 exact terms_of_trod' hu h0
theorem forms_of_trod {t : TypeId} {fuel : Nat} {cs : List Value} {x : DataW H × List MemPlace} (ht : Try.prog.underlying t = some (.slice 42)) (h : DataW.trod enc Try.prog w 0 spare held fuel t cs = some x) :
    ∃a n c fss,cs=[.slice a n c]∧Frms w a n fss∧(n:Int)≤9223372036854775807:=by
 have hC:Try.prog.cellsOf 42=1:=by kernel_rfl
 rcases open_slice ht h with ⟨hcs,_⟩ | ⟨x,l,c,m,k,D,Pl,hcs,_,hl,hm,hmm,_,hx⟩
 · exact ⟨_,_,_,[],hcs,⟨rfl,fun h=>absurd h (by omega)⟩,by omega⟩
 · rw [hC] at hx;have hle:l≤m:=(by rw [hmm];split <;> omega);have hml:(maxLen:Int)≤9223372036854775807:=by decide
   obtain ⟨f,hf⟩:=choose_lt (α:=List Tm) (n:=l) (p:=fun i ts=>∃ai ni ci,w.cells? 0 (x.add (i * 1)) 1=some [.slice ai ni ci]∧Terms w ai ni ts∧(ni:Int)≤9223372036854775807) (fun i hi=>by
    obtain ⟨cs',h1,h2⟩:=hx i (by omega);obtain ⟨ai,ni,ci,ts,rfl,hT,hb⟩:=form_of_trod Try.underlying42 rfl rfl (by kernel_rfl) (by kernel_rfl) Try.underlying40 h2
    exact ⟨ts,ai,ni,ci,h1,hT,hb⟩)
   refine ⟨_,_,_,(List.range l).map f,hcs,⟨by simp,fun hn=>?_⟩,by omega⟩;obtain ⟨b,off,spot⟩:=x;obtain ⟨a0,n0,c0,hc0,_,_⟩:=hf 0 hn;obtain ⟨_,hcl,hat⟩:=World.cells?_some hc0;have h0:=hat 0 (by omega)
   have hs:spot=none:=by
    have:=World.cell?_spot (by simpa using h0);simpa [Addr.add] using this
   subst hs;refine ⟨b,off,rfl,?_,fun i ts hi=>?_⟩
   · have:=World.block_lt_of_cell? w _ (by simpa using h0);simpa [Addr.add] using this
   · have hil : i < l := by
       have:=(List.getElem?_eq_some_iff.1 hi).1;simpa using this
     have hfi:f i=ts:=(by simpa [hil] using hi);obtain ⟨ai,ni,ci,hci,hT,hb⟩:=hf i hil;obtain ⟨_,_,hat'⟩:=World.cells?_some hci;have h9:=hat' 0 (by omega);rw [Addr.add_mid,Addr.add_mid,Nat.mul_one,Nat.add_zero] at h9;exact ⟨ai,ni,ci,by simpa using h9,by rw [←hfi];exact hT,hb⟩
theorem ints_of_trod' {t : TypeId} {fuel : Nat} {cs : List Value} {x : DataW H × List MemPlace} (ht : Try.prog.underlying t = some (.slice 2)) (h : DataW.trod enc Try.prog w 0 spare held fuel t cs = some x) :
    ∃a n c zs,cs=[.slice a n c]∧Ints w a n zs∧(n:Int)≤9223372036854775807:=by
 obtain ⟨a,n,c,zs,rfl,hI⟩:=ints_of_trod ht h
 refine ⟨a,n,c,zs,rfl,hI,?_⟩
 rcases open_slice ht h with ⟨hcs,_⟩ | ⟨x,l,c',m,k,D,Pl,hcs,_,hl,hm,hmm,_,hx⟩
 · simp at hcs;omega
 · simp at hcs
   have:(maxLen:Int)≤9223372036854775807:=(by decide);omega
theorem algebra_open {t u v : TypeId} {r : Reach} {b0 : Nat} {x : Value} {d : DataW H} {p : List MemPlace} {fd fe : Field} (ht : Try.prog.underlying t = some (.struct #[fd, fe])) (hfd : fd.type = u) (hof : fd.offset = 0) (hfe : fe.type = v) (hoe : fe.offset = 1)
    (hC:Try.prog.cellsOf t=2) (hCu:Try.prog.cellsOf u=1) (hCv:Try.prog.cellsOf v=1) (hu:Try.prog.underlying u=some (.slice 2)) (hv0:Try.prog.underlying v=some (.slice 42))
    (hv:Value.okWide Try.prog w r b0 t x) (h:DataW.Trod enc Try.prog w 0 spare held t x d p):∃da dn dc a n c zs fss,x=.agg #[.slice da dn dc,.slice a n c]∧Ints w da dn zs∧(dn:Int)≤9223372036854775807∧Frms w a n fss∧(n:Int)≤9223372036854775807:=by
 obtain ⟨cs,rfl,hsz⟩:=okWide_struct ht hv
 obtain ⟨fuel,hf⟩:=h
 obtain ⟨xs,k,_,_,hlen,hxl,hx⟩:=DataW.trod_struct ht hf
 have h0:=hx 0 fd rfl
 have h1:=hx 1 fe rfl
 rw [hfd,hof,hCu,List.drop_zero,List.getElem?_eq_getElem (by rw [hxl];simp)] at h0
 rw [hfe,hoe,hCv,List.getElem?_eq_getElem (by rw [hxl];simp)] at h1
 rw [hC] at hlen hsz
 simp only [Value.cells] at h0 h1 hlen
 obtain ⟨da,dn,dc,zs,e0,hI,hb0⟩:=ints_of_trod' hu h0
 obtain ⟨a,n,c,fss,e1,hF,hb⟩:=forms_of_trod hv0 h1
 refine ⟨da,dn,dc,a,n,c,zs,fss,?_,hI,hb0,hF,hb⟩
 obtain ⟨l⟩:=cs
 match l,hlen with
 | [c0, c1], _ =>
   simp at e0 e1
   rw [e0,e1]
end
end Go.Proofs.Ytndnkeijddagiaa
