
import Derived.Test.YtefjinnpofojnaaDerR
namespace Go.Proofs.Ytefjinnpofojnaa
open Go.RowKit Go.Deep
def OwnG (w:World) (lo hi:Nat) (a:Option Addr) (n:Nat) (V:List Tm):Prop:=
 V.length=n∧(0<n→∃g cs,a=some ⟨g,0,none⟩∧lo≤g∧g<hi∧Own w g 97 cs∧n * 9≤cs.size∧∀(j:Nat) u,(rcells V)[j]? = some u→cs[j]? = some u)
def MarkedG (w:World) (a:Option Addr) (n:Nat) (K:Int):Prop:=n=0∨∃g cs,a=some ⟨g,0,none⟩∧Own w g 97 (markA (mkT K) cs (n * 9))∧n * 9≤cs.size
section
variable {w w':World} {lo hi n:Nat} {a:Option Addr} {V:List Tm} {K:Int}
theorem OwnG.of {B c:Nat} (h:OwnR w B (.slice a n c) V):OwnG w B w.heap.size a n V:=by
 have hc:=fun g=>World.ownsRow.cells (g:=g) h
 rcases h.2 with ⟨hv,h0⟩ | ⟨g,cap,cur,hv,hb,hg,hn,_,hs,_⟩
 · simp only [Value.slice.injEq] at hv;exact ⟨by omega,fun hp=>absurd hp (by omega)⟩
 · simp only [Value.slice.injEq] at hv;obtain ⟨rfl,rfl,rfl⟩:=hv;have hO:Own w g 97 cur:=hg;refine ⟨rfl,fun _=>⟨g,cur,rfl,hb,hO.lt,hO,by rw [hs];exact Nat.mul_le_mul_right 9 hn,fun j u hu=>?_⟩⟩;have h1:=hc g rfl j u hu;rw [Addr.add_mid,Nat.zero_add] at h1;rw [←hO.cell j];exact h1
theorem OwnG.keep (h:OwnG w lo hi a n V) (hb:Below w.heap.size w w'):OwnG w' lo hi a n V:=
 ⟨h.1,fun hn=>by obtain ⟨g,cs,h1,h2,h3,h4,h5⟩:=h.2 hn;exact ⟨g,cs,h1,h2,h3,h4.keep hb h4.lt,h5⟩⟩
theorem OwnG.weaken {lo' hi':Nat} (h:OwnG w lo hi a n V) (k1:lo'≤lo) (k2:hi≤hi'):OwnG w lo' hi' a n V:=
 ⟨h.1,fun hn=>by obtain ⟨g,cs,h1,h2,h3,h4⟩:=h.2 hn;exact ⟨g,cs,h1,by omega,by omega,h4⟩⟩
theorem OwnG.touch {p:Nat→Prop} (h:OwnG w lo hi a n V) (ht:Touch p w w') (hp:∀g,lo≤g→g<hi→¬p g):OwnG w' lo hi a n V:=
 ⟨h.1,fun hn=>by obtain ⟨g,cs,h1,h2,h3,h4,h5⟩:=h.2 hn;exact ⟨g,cs,h1,h2,h3,ht.own h4 (hp g h2 h3),h5⟩⟩
theorem OwnG.farT {p:Addr} {t':TypeId} {os:Array Value} (h:OwnG w lo hi a n V) (ho:Own w p.block t' os) (h1:97≠t') (_h2:97≠t') (u:Value):OwnG (w.setCell p u) lo hi a n V:=
 ⟨h.1,fun hn=>by obtain ⟨g,cs,e1,e2,e3,e4,e5⟩:=h.2 hn;exact ⟨g,cs,e1,e2,e3,e4.far (own_neR e4 ho h1) u,e5⟩⟩
theorem OwnG.terms (h:OwnG w lo hi a n V) (hT:∀t∈V,IsTm t):Terms w a n V:=
 ⟨h.1,hT,fun hn=>by
  obtain ⟨g,cs,h1,h2,h3,h4,h5,h6⟩:=h.2 hn
  exact ⟨g,0,h1,h4.lt,fun j u hu=>by rw [Nat.zero_add,h4.cell j];exact h6 j u hu⟩⟩
theorem MarkedG.keep (h:MarkedG w a n K) (hb:Below w.heap.size w w'):MarkedG w' a n K:=by
 rcases h with h | ⟨g,cs,h1,h2,h3⟩
 · exact Or.inl h
 · exact Or.inr ⟨g,cs,h1,h2.keep hb h2.lt,h3⟩
theorem only_zero {w1:World} {g:Nat} {t:TypeId} {cs:Array Value} (hb:Below w.heap.size w w1) (ho:Only g w1 w') (h:Own w g t cs) (h':Own w' g t cs):Below w.heap.size w w':=by
 have h0:=ho.below 0 (Nat.zero_le _)
 refine ⟨h0.os.trans hb.os,h0.tape.trans hb.tape,h0.output.trans hb.output,by rw [ho.size];exact hb.size,fun k hk=>?_⟩
 by_cases e:k=g
 · subst e;exact (show w'.heap[k]? = _ from h').trans (show w.heap[k]? = _ from h).symm
 · exact (ho.other k e).trans (hb.block k hk)
theorem markG_c {g : Nat} {t : TypeId} {os : Array Value} (c : Nat) (h : OwnG w lo hi a n V) (hx : Own w g t os) (hn : n ≤ 1048576) (hK : 0 ≤ K) (hK2 : K ≤ 10000000) :
    Calls Try.prog 18 #[.agg #[.slice a n c],.int .i64 K] w fun e w'=>e=.returned (.int .i64 (K+(n * 9:Nat)))∧MarkedG w' a n K∧Touch (fun k=>lo≤k∧k<hi) w w':=by
 have hb:=bA1 w (.cells #[.slice a n c] 36)
 by_cases h0:n=0
 · subst h0;refine (markForm_c c hx (by omega) (fun h=>absurd h (by omega)) hn hK (by omega)).mono ?_;rintro e w' ⟨h1,h2,h3⟩;exact ⟨h1,Or.inl rfl,Touch.of_below (only_zero hb h3 hx (by rw [Nat.zero_mul,markA_zero] at h2;exact h2))⟩
 · obtain ⟨g',cs,h1,h2,h3,h4,h5,-⟩:=h.2 (by omega);refine (markForm_c c h4 h5 (fun _=>h1) hn hK (by omega)).mono ?_;rintro e w' ⟨k1,k2,k3⟩;exact ⟨k1,Or.inr ⟨g',cs,h1,k2,h5⟩,(Touch.of_below hb).trans ((Touch.of_only k3).mono (fun k hk=>by rw [hk];exact ⟨h2,h3⟩))⟩
theorem heldG_c {g : Nat} {t : TypeId} {os : Array Value} (c : Nat) (h : MarkedG w a n K) (hx : Own w g t os) (hn : n ≤ 1048576) (hK : 0 ≤ K) (hK2 : K ≤ 10000000) :
    Calls Try.prog 19 #[.agg #[.slice a n c],.int .i64 K] w fun e w'=>e=.returned (.int .i64 (K+(n * 9:Nat)))∧Below w.heap.size w w':=by
 rcases h with rfl | ⟨g',cs,h1,h2,h3⟩
 · exact heldForm_c (cs:=os) c (by rw [Nat.zero_mul,markA_zero];exact hx) (by omega) (fun h=>absurd h (by omega)) hn hK (by omega)
 · exact heldForm_c c h2 h3 (fun _=>h1) hn hK (by omega)
end
end Go.Proofs.Ytefjinnpofojnaa
