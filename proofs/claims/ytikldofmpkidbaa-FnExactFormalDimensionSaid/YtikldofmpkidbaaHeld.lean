
import Derived.Test.YtikldofmpkidbaaMonoB
import Derived.Deep.RegionHeld3
import Derived.Deep.DeepCutAuto
import Derived.Test.YtikldofmpkidbaaTerm
import Derived.Deep.CutRange
import Derived.Test.YtikldofmpkidbaaOpen
import Derived.WalkKit
namespace Go.Proofs.Ytikldofmpkidbaa
set_option maxRecDepth 100000
open Go.RowKit Go.Deep
theorem mono8 {m:List Int} (h:IsMono m):∃m0 m1 m2 m3 m4 m5 m6 m7,m=[m0,m1,m2,m3,m4,m5,m6,m7]:=by
 match m,h.1 with
 | [m0,m1,m2,m3,m4,m5,m6,m7],_=>exact ⟨_,_,_,_,_,_,_,_,rfl⟩
theorem Try.info_form:(Try.prog.info? 61).map (·.size)=some 1:=by kernel_rfl
theorem szTermS_c {w : World} (a : Option Addr) (n c : Nat) (L : Int) (hL : 0 ≤ L) (hL2 : L ≤ 1048576) (hn : (n : Int) ≤ 9223372036854775807) :
    Calls Try.prog 78 #[.slice a n c,.int .i64 L] w fun e w'=>e=.returned (.int .i64 (if (n:Int)≤L then L - n else -1))∧w=w':=by
 by_cases h:(n:Int)≤L
 · go_enter Try.func78,Try.ntmps78
   go_wp2
   go_ret
   exact ⟨rfl,rfl⟩
 · go_enter Try.func78,Try.ntmps78
   go_wp2
   go_ret
   exact ⟨rfl,rfl⟩
theorem szForm_c {w : World} (a : Option Addr) (n c : Nat) (L : Int) (hL : 0 ≤ L) (hL2 : L ≤ 1048576) (hn : (n : Int) ≤ 9223372036854775807) :
    Calls Try.prog 35 #[.agg #[.slice a n c],.int .i64 L] w fun e w'=>e=.returned (.int .i64 (if (n:Int)≤L then L - n else -1))∧Below w.heap.size w w':=by
 by_cases h:(n:Int)≤L
 · have hv:(if (n:Int)≤L then L - n else -1)=L - n:=(by rw [if_pos h]);go_enter Try.func35,Try.ntmps35
   go_wp2_with fail
   refine (szTermS_c a n c L hL hL2 hn).mono ?_;rintro e w' ⟨rfl,rfl⟩;rw [hv];go_wp2_with fail
   go_ret
   exact ⟨rfl,bA1 w _⟩
 · have hv:(if (n:Int)≤L then L - n else -1)=-1:=(by rw [if_neg h]);go_enter Try.func35,Try.ntmps35
   go_wp2_with fail
   refine (szTermS_c a n c L hL hL2 hn).mono ?_;rintro e w' ⟨rfl,rfl⟩;rw [hv];go_wp2_with fail
   go_ret
   exact ⟨rfl,bA1 w _⟩
theorem toForm_c {w : World} {a : Option Addr} {n : Nat} {ts : List Tm} (c : Nat) (h : Terms w a n ts) (hn : n ≤ 1048576) :
    Calls Try.prog 37 #[.agg #[.slice a n c]] w fun e w'=>∃g,e=.returned (.agg #[.slice (some ⟨g,0,none⟩) n n])∧w.heap.size≤g∧Own w' g 88 (rcells ts).toArray∧Below w.heap.size w w':=by
 go_enter Try.func37,Try.ntmps37
 go_wp2_with fail
 obtain ⟨o1,o2,o3,hb⟩:=own3' w 55 61 61 #[.slice a n c] #[.slice none 0 0] #[.slice none 0 0]
 refine (toTermS_c c (h.keep hb) hn).mono ?_
 generalize ((w.alloc (.cells #[.slice a n c] 55)).alloc (.cells #[.slice none 0 0] 61)).alloc (.cells #[.slice none 0 0] 61)=w0 at *
 rintro e w1 ⟨rfl,hO,hb1⟩
 have p2:=o2.keep hb1 o2.lt
 have p3:=o3.keep hb1 o3.lt
 have l3:=o3.lt
 have hbb:=bT' hb hb1 hb.size
 clear o1 o2 o3 hb hb1
 have c2:=p2.cell 0
 have c3:=p3.cell 0
 have f2:=p2.frozen 0
 have f3:=p3.frozen 0
 go_wp2_with fail
 have q2:=(p2.far (p:=⟨w.heap.size+1+1,0,none⟩) (by dsimp only;omega) (.slice (some ⟨w0.heap.size,0,none⟩) n n)).set 0 (.slice (some ⟨w0.heap.size,0,none⟩) n n)
 refine bodyPost_ret (results_cell_row rfl _ _ (w.heap.size+1) 61 #[.slice (some ⟨w0.heap.size,0,none⟩) n n] (0,0) _ rfl q2 Try.underlying61 rfl Try.info_form) rfl ⟨w0.heap.size,rfl,by omega,?_,?_⟩
 · exact (hO.far (p:=⟨w.heap.size+1+1,0,none⟩) (by dsimp only;omega) _).far (p:=⟨w.heap.size+1,0,none⟩) (by dsimp only;omega) _
 · exact (hbb.setCell (p:=⟨w.heap.size+1+1,0,none⟩) (by dsimp only;omega) _).setCell (p:=⟨w.heap.size+1,0,none⟩) (by dsimp only;omega) _
theorem eqMono8 {w : World} {m0 m1 m2 m3 m4 m5 m6 m7 : Int} (hm : IsMono [m0, m1, m2, m3, m4, m5, m6, m7]) :
    Calls Try.prog 127 #[.agg #[.int .u8 m0,.int .u8 m1,.int .u8 m2,.int .u8 m3,.int .u8 m4,.int .u8 m5,.int .u8 m6,.int .u8 m7],.agg #[.int .u8 m0,.int .u8 m1,.int .u8 m2,.int .u8 m3,.int .u8 m4,.int .u8 m5,.int .u8 m6,.int .u8 m7]] w fun e w'=>e=.returned (.bool true)∧Below w.heap.size w w':=by
 have:=eqMonomial_c (w:=w) hm hm
 simp only [decide_true] at this
 exact this
theorem eqTerm9 {w : World} {m0 m1 m2 m3 m4 m5 m6 m7 f : Int} (hm : IsMono [m0, m1, m2, m3, m4, m5, m6, m7]) :
    Calls Try.prog 112 #[.agg #[.int .u8 m0,.int .u8 m1,.int .u8 m2,.int .u8 m3,.int .u8 m4,.int .u8 m5,.int .u8 m6,.int .u8 m7,.int .i64 f],.agg #[.int .u8 m0,.int .u8 m1,.int .u8 m2,.int .u8 m3,.int .u8 m4,.int .u8 m5,.int .u8 m6,.int .u8 m7,.int .i64 f]] w fun e w'=>e=.returned (.bool true)∧Below w.heap.size w w':=by
 go_enter Try.func112,Try.ntmps112
 go_wp2_with fail
 have o1:=(Own.new w 88 #[.int .u8 m0,.int .u8 m1,.int .u8 m2,.int .u8 m3,.int .u8 m4,.int .u8 m5,.int .u8 m6,.int .u8 m7,.int .i64 f]).alloc (.cells #[.int .u8 m0,.int .u8 m1,.int .u8 m2,.int .u8 m3,.int .u8 m4,.int .u8 m5,.int .u8 m6,.int .u8 m7,.int .i64 f] 88)
 have o2:=Own.new (w.alloc (.cells #[.int .u8 m0,.int .u8 m1,.int .u8 m2,.int .u8 m3,.int .u8 m4,.int .u8 m5,.int .u8 m6,.int .u8 m7,.int .i64 f] 88)) 88 #[.int .u8 m0,.int .u8 m1,.int .u8 m2,.int .u8 m3,.int .u8 m4,.int .u8 m5,.int .u8 m6,.int .u8 m7,.int .i64 f]
 have hb0:=bTn (bA1 w (.cells #[.int .u8 m0,.int .u8 m1,.int .u8 m2,.int .u8 m3,.int .u8 m4,.int .u8 m5,.int .u8 m6,.int .u8 m7,.int .i64 f] 88)) (bA1 _ (.cells #[.int .u8 m0,.int .u8 m1,.int .u8 m2,.int .u8 m3,.int .u8 m4,.int .u8 m5,.int .u8 m6,.int .u8 m7,.int .i64 f] 88))
 rw [sAl] at o2
 generalize (w.alloc (.cells #[.int .u8 m0,.int .u8 m1,.int .u8 m2,.int .u8 m3,.int .u8 m4,.int .u8 m5,.int .u8 m6,.int .u8 m7,.int .i64 f] 88)).alloc (.cells #[.int .u8 m0,.int .u8 m1,.int .u8 m2,.int .u8 m3,.int .u8 m4,.int .u8 m5,.int .u8 m6,.int .u8 m7,.int .i64 f] 88)=w0 at *
 refine (eqMono8 hm).mono ?_
 rintro e w1 ⟨rfl,hb1⟩
 have c1:=(o1.keep hb1 o1.lt).cell 8
 have c2:=(o2.keep hb1 o2.lt).cell 8
 go_wp2_with fail
 go_ret
 exact ⟨rfl,bT' hb0 hb1 (Nat.le_of_lt (by have:=o1.lt;omega))⟩
theorem nine {w:World} {b o:Nat} {m0 m1 m2 m3 m4 m5 m6 m7 f:Int} (h:w.rangeAt b o (tcells ⟨[m0,m1,m2,m3,m4,m5,m6,m7],f⟩)):w.cell? ⟨b,o,none⟩=some (.int .u8 m0)∧w.cell? ⟨b,o+1,none⟩=some (.int .u8 m1)∧w.cell? ⟨b,o+2,none⟩=some (.int .u8 m2)∧w.cell? ⟨b,o+3,none⟩=some (.int .u8 m3)∧w.cell? ⟨b,o+4,none⟩=some (.int .u8 m4)∧w.cell? ⟨b,o+5,none⟩=some (.int .u8 m5)∧w.cell? ⟨b,o+6,none⟩=some (.int .u8 m6)∧w.cell? ⟨b,o+7,none⟩=some (.int .u8 m7)∧w.cell? ⟨b,o+8,none⟩=some (.int .i64 f):=
 ⟨h 0 _ rfl,h 1 _ rfl,h 2 _ rfl,h 3 _ rfl,h 4 _ rfl,h 5 _ rfl,h 6 _ rfl,h 7 _ rfl,h 8 _ rfl⟩
theorem nine18 {w:World} {b o b' o':Nat} {m0 m1 m2 m3 m4 m5 m6 m7 f:Int} (h:w.rangeAt b o (tcells ⟨[m0,m1,m2,m3,m4,m5,m6,m7],f⟩)) (h':w.rangeAt b' o' (tcells ⟨[m0,m1,m2,m3,m4,m5,m6,m7],f⟩)):w.cell? ⟨b,o,none⟩=some (.int .u8 m0)∧w.cell? ⟨b,o+1,none⟩=some (.int .u8 m1)∧w.cell? ⟨b,o+2,none⟩=some (.int .u8 m2)∧w.cell? ⟨b,o+3,none⟩=some (.int .u8 m3)∧w.cell? ⟨b,o+4,none⟩=some (.int .u8 m4)∧w.cell? ⟨b,o+5,none⟩=some (.int .u8 m5)∧w.cell? ⟨b,o+6,none⟩=some (.int .u8 m6)∧w.cell? ⟨b,o+7,none⟩=some (.int .u8 m7)∧w.cell? ⟨b,o+8,none⟩=some (.int .i64 f)∧w.cell? ⟨b',o',none⟩=some (.int .u8 m0)∧w.cell? ⟨b',o'+1,none⟩=some (.int .u8 m1)∧w.cell? ⟨b',o'+2,none⟩=some (.int .u8 m2)∧w.cell? ⟨b',o'+3,none⟩=some (.int .u8 m3)∧w.cell? ⟨b',o'+4,none⟩=some (.int .u8 m4)∧w.cell? ⟨b',o'+5,none⟩=some (.int .u8 m5)∧w.cell? ⟨b',o'+6,none⟩=some (.int .u8 m6)∧w.cell? ⟨b',o'+7,none⟩=some (.int .u8 m7)∧w.cell? ⟨b',o'+8,none⟩=some (.int .i64 f):=
 ⟨h 0 _ rfl,h 1 _ rfl,h 2 _ rfl,h 3 _ rfl,h 4 _ rfl,h 5 _ rfl,h 6 _ rfl,h 7 _ rfl,h 8 _ rfl,h' 0 _ rfl,h' 1 _ rfl,h' 2 _ rfl,h' 3 _ rfl,h' 4 _ rfl,h' 5 _ rfl,h' 6 _ rfl,h' 7 _ rfl,h' 8 _ rfl⟩
theorem eqTermS_c {w : World} {a a' : Option Addr} {n : Nat} {ts : List Tm} (c c' : Nat) (h : Terms w a n ts) (h' : Terms w a' n ts) (hn : n ≤ 1048576) :
    Calls Try.prog 83 #[.slice a n c,.slice a' n c'] w fun e w'=>e=.returned (.bool true)∧Below w.heap.size w w':=by
 go_enter Try.func83,Try.ntmps83
 go_wp2
 go_loopw [5] (fun i wr=>∃k:Nat,k≤n∧i=.int .i64 k∧Below w.heap.size w wr) (fun i _=>n - (intOf i).toNat)
 case atStart=>exact ⟨0,Nat.zero_le _,rfl,Below.refl _ _⟩
 case round=>
  obtain ⟨k,hk,rfl,hb⟩:=hrel;by_cases hlt:k<n
  · obtain ⟨b,off,t,rfl,hbl,hr,ht,hx⟩:=(h.keep hb).at_ hlt;obtain ⟨b',off',t',rfl,hbl',hr',ht',hx'⟩:=(h'.keep hb).at_ hlt
    obtain rfl:t=t':=by
     have:=hx.out.symm.trans hx'.out
     injection this
    clear ht' hx hx';obtain ⟨m,f⟩:=t;have hm:IsMono m:=ht.1;obtain ⟨m0,m1,m2,m3,m4,m5,m6,m7,rfl⟩:=mono8 hm;go_upto_region 6 with fail
    go_cut [26] from 11 to 26 (fun v wr=>v=.bool false∧Below w.heap.size w wr)
    case first=>
     go_region_held3 (fun w'=>w'.cell? ⟨b,off+k * 9,none⟩=some (.int .u8 m0)∧w'.cell? ⟨b,off+k * 9+1,none⟩=some (.int .u8 m1)∧w'.cell? ⟨b,off+k * 9+2,none⟩=some (.int .u8 m2)∧w'.cell? ⟨b,off+k * 9+3,none⟩=some (.int .u8 m3)∧w'.cell? ⟨b,off+k * 9+4,none⟩=some (.int .u8 m4)∧w'.cell? ⟨b,off+k * 9+5,none⟩=some (.int .u8 m5)∧w'.cell? ⟨b,off+k * 9+6,none⟩=some (.int .u8 m6)∧w'.cell? ⟨b,off+k * 9+7,none⟩=some (.int .u8 m7)∧w'.cell? ⟨b,off+k * 9+8,none⟩=some (.int .i64 f)∧w'.cell? ⟨b',off'+k * 9,none⟩=some (.int .u8 m0)∧w'.cell? ⟨b',off'+k * 9+1,none⟩=some (.int .u8 m1)∧w'.cell? ⟨b',off'+k * 9+2,none⟩=some (.int .u8 m2)∧w'.cell? ⟨b',off'+k * 9+3,none⟩=some (.int .u8 m3)∧w'.cell? ⟨b',off'+k * 9+4,none⟩=some (.int .u8 m4)∧w'.cell? ⟨b',off'+k * 9+5,none⟩=some (.int .u8 m5)∧w'.cell? ⟨b',off'+k * 9+6,none⟩=some (.int .u8 m6)∧w'.cell? ⟨b',off'+k * 9+7,none⟩=some (.int .u8 m7)∧w'.cell? ⟨b',off'+k * 9+8,none⟩=some (.int .i64 f)) (exact nine18 hr hr')
      (first | (go_at_call 112;refine (eqTerm9 hm).mono ?_;rintro e w2 ⟨rfl,hb2⟩;have hr:=rgK hr (hb2.block b hbl);have hr':=rgK hr' (hb2.block b' hbl')))
     all_goals go_wp2_with fail
     all_goals go_meet
     all_goals exact ⟨rfl,bT' hb.drew hb2 hb.size⟩
    case rest=>
     obtain ⟨rfl,hb2⟩:=hcut;go_wp2_with fail
     go_roundw
     case rel=>exact ⟨k+1,by omega,by go_num,hb2⟩
     case measure=>simp [intOf] <;> omega
  · go_wp2
    go_ret
    exact ⟨rfl,hb⟩
theorem eqForm_c {w : World} {a a' : Option Addr} {n : Nat} {ts : List Tm} (c c' : Nat) (h : Terms w a n ts) (h' : Terms w a' n ts) (hn : n ≤ 1048576) :
    Calls Try.prog 39 #[.agg #[.slice a n c],.agg #[.slice a' n c']] w fun e w'=>e=.returned (.bool true)∧Below w.heap.size w w':=by
 go_enter Try.func39,Try.ntmps39
 go_wp2_with fail
 have hb0:=bTn (bA1 w (.cells #[.slice a n c] 61)) (bA1 _ (.cells #[.slice a' n c'] 61))
 refine (eqTermS_c c c' (h.keep hb0) (h'.keep hb0) hn).mono ?_
 rintro e w1 ⟨rfl,hb1⟩
 go_wp2_with fail
 go_ret
 exact ⟨rfl,bT' hb0 hb1 hb0.size⟩
open Go.RowKit Go.ChangeShapes Go.WideShapes Go.Deep
def Frms (w:World) (a:Option Addr) (n:Nat) (fss:List (List Tm)):Prop:=
 fss.length=n∧(0<n→∃b off,a=some ⟨b,off,none⟩∧b<w.heap.size∧∀i ts,fss[i]? = some ts→∃ai ni ci,w.cell? ⟨b,off+i,none⟩=some (.slice ai ni ci)∧Terms w ai ni ts∧(ni:Int)≤9223372036854775807)
theorem Frms.len {w:World} {a:Option Addr} {n:Nat} {fss:List (List Tm)} (h:Frms w a n fss):fss.length=n:=h.1
theorem Frms.keep {w w':World} {a:Option Addr} {n:Nat} {fss:List (List Tm)} (h:Frms w a n fss) (hb:Below w.heap.size w w'):Frms w' a n fss:=
 ⟨h.1,fun hn=>by
  obtain ⟨b,off,ha,hlt,hc⟩:=h.2 hn;refine ⟨b,off,ha,Nat.lt_of_lt_of_le hlt hb.size,fun i ts hi=>?_⟩;obtain ⟨ai,ni,ci,h1,h2,h3⟩:=hc i ts hi
  exact ⟨ai,ni,ci,(World.cell?_of_block (a:=⟨b,off+i,none⟩) (hb.block b hlt)).trans h1,h2.keep hb,h3⟩⟩
theorem Frms.at_ {w : World} {a : Option Addr} {n : Nat} {fss : List (List Tm)} (h : Frms w a n fss) {i : Nat} (hi : i < n) :
    ∃b off ts ai ni ci,a=some ⟨b,off,none⟩∧b<w.heap.size∧w.cell? ⟨b,off+i,none⟩=some (.slice ai ni ci)∧Terms w ai ni ts∧(ni:Int)≤9223372036854775807∧Hid (fss[i]? = some ts):=by
 obtain ⟨b,off,ha,hlt,hc⟩:=h.2 (by omega)
 have hl:=h.1
 have hx:fss[i]? = some fss[i]:=List.getElem?_eq_getElem (by omega)
 obtain ⟨ai,ni,ci,h1,h2,h3⟩:=hc i _ hx
 exact ⟨b,off,_,ai,ni,ci,ha,hlt,h1,h2,h3,hx⟩
section
variable {H:Type} {enc:TypeId × Value→H} {w:World} {spare:Nat→Bool} {held:Bool}
theorem ints_of_trod {t:TypeId} {fuel:Nat} {cs:List Value} {x:DataW H × List MemPlace} (ht:Try.prog.underlying t=some (.slice 2)) (hf:DataW.trod enc Try.prog w 0 spare held fuel t cs=some x):∃a n c zs,cs=[.slice a n c]∧Ints w a n zs:=by
 rcases open_ints ht Try.underlying2 (by kernel_rfl) hf with ⟨hcs,_⟩ | ⟨x,l,c',zs,hcs,_,hl,hm,hz,_,hcell,hwz⟩
 · exact ⟨_,_,_,[],hcs,rfl,fun h=>absurd h (by omega)⟩
 · have hle:l≤zs.length:=(by rw [hz];split <;> omega);refine ⟨_,_,_,zs.take l,hcs,by simp;omega,fun hn=>?_⟩;obtain ⟨b,off,spot⟩:=x;have h0:=hcell 0 (by omega);have hs:spot=none:=(by simpa [Addr.add] using World.cell?_spot h0);subst hs;refine ⟨b,off,rfl,?_,fun i hi=>?_⟩
   · have:=World.block_lt_of_cell? w _ h0;simpa [Addr.add] using this
   · have:=hcell i (by omega);rw [Addr.add_mid] at this;rw [this];simp [List.getD,hi]
theorem terms_of_trod' {t : TypeId} {fuel : Nat} {cs : List Value} {x : DataW H × List MemPlace} (ht : Try.prog.underlying t = some (.slice 134)) (h : DataW.trod enc Try.prog w 0 spare held fuel t cs = some x) :
    ∃a n c ts,cs=[.slice a n c]∧Terms w a n ts∧(n:Int)≤9223372036854775807:=by
 obtain ⟨a,n,c,ts,rfl,hT⟩:=terms_of_trod ht h
 refine ⟨a,n,c,ts,rfl,hT,?_⟩
 rcases open_slice ht h with ⟨hcs,_⟩ | ⟨x,l,c',m,k,D,Pl,hcs,_,hl,hm,hmm,_,hx⟩
 · simp at hcs;omega
 · simp at hcs
   have:(maxLen:Int)≤9223372036854775807:=(by decide);omega
theorem form_of_trod {t u : TypeId} {fuel : Nat} {cs : List Value} {x : DataW H × List MemPlace} {fd : Field} (ht : Try.prog.underlying t = some (.struct #[fd])) (hfd : fd.type = u) (hof : fd.offset = 0) (hC : Try.prog.cellsOf t = 1) (hCu : Try.prog.cellsOf u = 1)
    (hu:Try.prog.underlying u=some (.slice 134)) (h:DataW.trod enc Try.prog w 0 spare held fuel t cs=some x):∃a n c ts,cs=[.slice a n c]∧Terms w a n ts∧(n:Int)≤9223372036854775807:=by
 obtain ⟨xs,k,_,_,hlen,hxl,hx⟩:=DataW.trod_struct ht h
 have h0:=hx 0 fd rfl
 rw [hfd,hof,hCu,List.drop_zero,List.getElem?_eq_getElem (by rw [hxl];simp)] at h0
 rw [hC] at hlen
 rw [List.take_of_length_le (by omega)] at h0
 exact terms_of_trod' hu h0
theorem forms_of_trod {t : TypeId} {fuel : Nat} {cs : List Value} {x : DataW H × List MemPlace} (ht : Try.prog.underlying t = some (.slice 55)) (h : DataW.trod enc Try.prog w 0 spare held fuel t cs = some x) :
    ∃a n c fss,cs=[.slice a n c]∧Frms w a n fss∧(n:Int)≤9223372036854775807:=by
 have hC:Try.prog.cellsOf 55=1:=by kernel_rfl
 rcases open_slice ht h with ⟨hcs,_⟩ | ⟨x,l,c,m,k,D,Pl,hcs,_,hl,hm,hmm,_,hx⟩
 · exact ⟨_,_,_,[],hcs,⟨rfl,fun h=>absurd h (by omega)⟩,by omega⟩
 · rw [hC] at hx;have hle:l≤m:=(by rw [hmm];split <;> omega);have hml:(maxLen:Int)≤9223372036854775807:=by decide
   obtain ⟨f,hf⟩:=choose_lt (α:=List Tm) (n:=l) (p:=fun i ts=>∃ai ni ci,w.cells? 0 (x.add (i * 1)) 1=some [.slice ai ni ci]∧Terms w ai ni ts∧(ni:Int)≤9223372036854775807) (fun i hi=>by
    obtain ⟨cs',h1,h2⟩:=hx i (by omega);obtain ⟨ai,ni,ci,ts,rfl,hT,hb⟩:=form_of_trod Try.underlying55 rfl rfl (by kernel_rfl) (by kernel_rfl) Try.underlying53 h2
    exact ⟨ts,ai,ni,ci,h1,hT,hb⟩)
   refine ⟨_,_,_,(List.range l).map f,hcs,⟨by simp,fun hn=>?_⟩,by omega⟩;obtain ⟨b,off,spot⟩:=x;obtain ⟨a0,n0,c0,hc0,_,_⟩:=hf 0 hn;obtain ⟨_,hcl,hat⟩:=World.cells?_some hc0;have h0:=hat 0 (by omega)
   have hs:spot=none:=by
    have:=World.cell?_spot (by simpa using h0);simpa [Addr.add] using this
   subst hs;refine ⟨b,off,rfl,?_,fun i ts hi=>?_⟩
   · have:=World.block_lt_of_cell? w _ (by simpa using h0);simpa [Addr.add] using this
   · have hil : i < l := by
       have:=(List.getElem?_eq_some_iff.1 hi).1;simpa using this
     have hfi:f i=ts:=(by simpa [hil] using hi);obtain ⟨ai,ni,ci,hci,hT,hb⟩:=hf i hil;obtain ⟨_,_,hat'⟩:=World.cells?_some hci;have h9:=hat' 0 (by omega);rw [Addr.add_mid,Addr.add_mid,Nat.mul_one,Nat.add_zero] at h9;exact ⟨ai,ni,ci,by simpa using h9,by rw [←hfi];exact hT,hb⟩
theorem ints_of_trod' {t : TypeId} {fuel : Nat} {cs : List Value} {x : DataW H × List MemPlace} (ht : Try.prog.underlying t = some (.slice 2)) (h : DataW.trod enc Try.prog w 0 spare held fuel t cs = some x) :
    ∃a n c zs,cs=[.slice a n c]∧Ints w a n zs∧(n:Int)≤9223372036854775807:=by
 obtain ⟨a,n,c,zs,rfl,hI⟩:=ints_of_trod ht h
 refine ⟨a,n,c,zs,rfl,hI,?_⟩
 rcases open_slice ht h with ⟨hcs,_⟩ | ⟨x,l,c',m,k,D,Pl,hcs,_,hl,hm,hmm,_,hx⟩
 · simp at hcs;omega
 · simp at hcs
   have:(maxLen:Int)≤9223372036854775807:=(by decide);omega
theorem algebra_open {t u v : TypeId} {r : Reach} {b0 : Nat} {x : Value} {d : DataW H} {p : List MemPlace} {fd fe : Field} (ht : Try.prog.underlying t = some (.struct #[fd, fe])) (hfd : fd.type = u) (hof : fd.offset = 0) (hfe : fe.type = v) (hoe : fe.offset = 1)
    (hC:Try.prog.cellsOf t=2) (hCu:Try.prog.cellsOf u=1) (hCv:Try.prog.cellsOf v=1) (hu:Try.prog.underlying u=some (.slice 2)) (hv0:Try.prog.underlying v=some (.slice 55))
    (hv:Value.okWide Try.prog w r b0 t x) (h:DataW.Trod enc Try.prog w 0 spare held t x d p):∃da dn dc a n c zs fss,x=.agg #[.slice da dn dc,.slice a n c]∧Ints w da dn zs∧(dn:Int)≤9223372036854775807∧Frms w a n fss∧(n:Int)≤9223372036854775807:=by
 obtain ⟨cs,rfl,hsz⟩:=okWide_struct ht hv
 obtain ⟨fuel,hf⟩:=h
 obtain ⟨xs,k,_,_,hlen,hxl,hx⟩:=DataW.trod_struct ht hf
 have h0:=hx 0 fd rfl
 have h1:=hx 1 fe rfl
 rw [hfd,hof,hCu,List.drop_zero,List.getElem?_eq_getElem (by rw [hxl];simp)] at h0
 rw [hfe,hoe,hCv,List.getElem?_eq_getElem (by rw [hxl];simp)] at h1
 rw [hC] at hlen hsz
 simp only [Value.cells] at h0 h1 hlen
 obtain ⟨da,dn,dc,zs,e0,hI,hb0⟩:=ints_of_trod' hu h0
 obtain ⟨a,n,c,fss,e1,hF,hb⟩:=forms_of_trod hv0 h1
 refine ⟨da,dn,dc,a,n,c,zs,fss,?_,hI,hb0,hF,hb⟩
 obtain ⟨l⟩:=cs
 match l,hlen with
 | [c0, c1], _ =>
   simp at e0 e1
   rw [e0,e1]
end
end Go.Proofs.Ytikldofmpkidbaa
namespace Go
section
variable {P:Program} {ops:Array Oper} {Q:Exit→Act→World→Prop} {md:Region.Mode} {S:World→Prop}
theorem pA {l:List Value} {i:Nat} {a:Value}:l.toArray.setIfInBounds i a=(l.set i a).toArray:=by simp
theorem pB {a b:Value} {l:List Value}:(a::l).set 0 b=b::l:=rfl
theorem pC {a b:Value} {l:List Value} {n:Nat}:(a::l).set (n+1) b=a::l.set n b:=rfl
theorem hdAt {i:Nat} {oi:Oper} (h:(ops.toList.drop i).head? = some oi):ops[i]? = some oi:=by
 rw [List.head?_drop] at h
 simpa using h
theorem hdTake {i : Nat} {oi : Oper} {v : Value} {fuel : Nat} {listed : Array Bool} {a : Act} {w : World} (hi : (ops.toList.drop i).head? = some oi)
    (hs:Region.noSelect ops=true) (hf:Region.free md ops listed i=true) (hr:(Region.ready md ops listed).contains i=true)
    (hQ:∀c a w,Q (.panic c) (a.put oi.dst v) w→Q (.panic c) a w) (hw:Region.wanted oi (yielded ops a.tmps)=true) (hy:∀w,S w→(execOp a.eval oi).run P w=.ok (.value v) w) (hS:S w)
    (h:wpAnyH P md ops Q S fuel (listed.setIfInBounds i true) (a.put oi.dst v) w):wpAnyH P md ops Q S (fuel+1) listed a w:=
 wpAnyH_take (hdAt hi) hs hf hr hQ (Or.inl ⟨hw,hy⟩) hS h
theorem hdSkip {i : Nat} {oi : Oper} {fuel : Nat} {listed : Array Bool} {a : Act} {w : World} (hi : (ops.toList.drop i).head? = some oi)
    (hs:Region.noSelect ops=true) (hf:Region.free md ops listed i=true) (hr:(Region.ready md ops listed).contains i=true)
    (hQ:∀c a w,Q (.panic c) (a.put oi.dst undef) w→Q (.panic c) a w) (hw:Region.wanted oi (yielded ops a.tmps)=false) (hS:S w)
    (h:wpAnyH P md ops Q S fuel (listed.setIfInBounds i true) (a.put oi.dst undef) w):wpAnyH P md ops Q S (fuel+1) listed a w:=
 wpAnyH_take (hdAt hi) hs hf hr hQ (Or.inr ⟨hw,rfl⟩) hS h
theorem hdCall {i : Nat} {o : Oper} {fuel : Nat} {listed : Array Bool} {a : Act} {w : World} (hr : Region.ready md ops listed = [i]) (ho : (ops.toList.drop i).head? = some o)
    (h:∀K':Act→World→Prop,Shut (∀a w,S w→(S w→wpAnyH P md ops Q S fuel (listed.setIfInBounds i true) a w)→K' a w)→if Region.wanted o (yielded ops a.tmps)=true then Oper.wp P o a w K' Q else K' (a.put o.dst undef) w) :
    wpAnyH P md ops Q S (fuel+1) listed a w:=
 wpAnyH_ready hr (List.cons_ne_nil _ _) (AllReadyH.cons (hdAt ho) h AllReadyH.nil)
theorem hdT (i : Nat) {oi : Oper} {v : Value} {fuel : Nat} {listed : Array Bool} {a b : Act} {w : World}
    (h:wpAnyH P md ops Q S fuel (listed.setIfInBounds i true) b w)
    (hi:(ops.toList.drop i).head? = some oi:=by exact rfl)
    (hs:Region.noSelect ops=true:=by kernel_rfl) (hf:Region.free md ops listed i=true:=by kernel_rfl) (hr:(Region.ready md ops listed).contains i=true:=by kernel_rfl)
    (hQ:∀c a w,Q (.panic c) (a.put oi.dst v) w→Q (.panic c) a w:=by exact fun _ _ _ h=>h) (hw:Region.wanted oi (yielded ops a.tmps)=true:=by rfl) (hy:∀w,S w→(execOp a.eval oi).run P w=.ok (.value v) w:=by intro w hSw;(try dsimp only at hSw);go_simp;(try with_reducible rfl)) (hS:S w:=by assumption) (hb:a.put oi.dst v=b:=by simp only [Act.put,pA,pB,pC];(try with_reducible rfl))
    : wpAnyH P md ops Q S (fuel+1) listed a w:=
 hdTake hi hs hf hr hQ hw hy hS (hb ▸ h)
theorem hdU (i : Nat) {oi : Oper} {fuel : Nat} {listed : Array Bool} {a b : Act} {w : World}
    (h:wpAnyH P md ops Q S fuel (listed.setIfInBounds i true) b w)
    (hi:(ops.toList.drop i).head? = some oi:=by exact rfl)
    (hs:Region.noSelect ops=true:=by kernel_rfl) (hf:Region.free md ops listed i=true:=by kernel_rfl) (hr:(Region.ready md ops listed).contains i=true:=by kernel_rfl)
    (hQ:∀c a w,Q (.panic c) (a.put oi.dst undef) w→Q (.panic c) a w:=by exact fun _ _ _ h=>h) (hw:Region.wanted oi (yielded ops a.tmps)=false:=by rfl) (hS:S w:=by assumption) (hb:a.put oi.dst undef=b:=by simp only [Act.put,pA,pB,pC];(try with_reducible rfl))
    : wpAnyH P md ops Q S (fuel+1) listed a w:=
 hdSkip hi hs hf hr hQ hw hS (hb ▸ h)
theorem hdC (i : Nat) {o : Oper} {fuel : Nat} {listed : Array Bool} {a : Act} {w : World}
    (h:∀K':Act→World→Prop,Shut (∀a w,S w→(S w→wpAnyH P md ops Q S fuel (listed.setIfInBounds i true) a w)→K' a w)→if Region.wanted o (yielded ops a.tmps)=true then Oper.wp P o a w K' Q else K' (a.put o.dst undef) w)
    (hr:Region.ready md ops listed=[i]:=by kernel_rfl) (ho:(ops.toList.drop i).head? = some o:=by exact rfl):wpAnyH P md ops Q S (fuel+1) listed a w:=
 hdCall hr ho h
end
end Go
