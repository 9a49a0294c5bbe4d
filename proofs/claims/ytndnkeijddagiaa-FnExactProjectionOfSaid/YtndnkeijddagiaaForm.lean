
import Derived.Test.YtndnkeijddagiaaTerm
import Derived.Test.YtndnkeijddagiaaLawMono
import Derived.Deep.CutRange
namespace Go.Proofs.Ytndnkeijddagiaa
set_option maxRecDepth 100000
open Go.RowKit Go.Deep
theorem Try.info_form:(Try.prog.info? 47).map (·.size)=some 1:=by kernel_rfl
theorem szTermS_c {w : World} (a : Option Addr) (n c : Nat) (L : Int) (hL : 0 ≤ L) (hL2 : L ≤ 1048576) (hn : (n : Int) ≤ 9223372036854775807) :
    Calls Try.prog 68 #[.slice a n c,.int .i64 L] w fun e w'=>e=.returned (.int .i64 (if (n:Int)≤L then L - n else -1))∧w=w':=by
 by_cases h:(n:Int)≤L
 · go_enter Try.func68,Try.ntmps68
   go_wp2
   go_ret
   exact ⟨rfl,rfl⟩
 · go_enter Try.func68,Try.ntmps68
   go_wp2
   go_ret
   exact ⟨rfl,rfl⟩
theorem szForm_c {w : World} (a : Option Addr) (n c : Nat) (L : Int) (hL : 0 ≤ L) (hL2 : L ≤ 1048576) (hn : (n : Int) ≤ 9223372036854775807) :
    Calls Try.prog 27 #[.agg #[.slice a n c],.int .i64 L] w fun e w'=>e=.returned (.int .i64 (if (n:Int)≤L then L - n else -1))∧Below w.heap.size w w':=by
 by_cases h:(n:Int)≤L
 · have hv:(if (n:Int)≤L then L - n else -1)=L - n:=(by rw [if_pos h]);go_enter Try.func27,Try.ntmps27
   go_wp2_with fail
   refine (szTermS_c a n c L hL hL2 hn).mono ?_;rintro e w' ⟨rfl,rfl⟩;rw [hv];go_wp2_with fail
   go_ret
   exact ⟨rfl,bA1 w _⟩
 · have hv:(if (n:Int)≤L then L - n else -1)=-1:=(by rw [if_neg h]);go_enter Try.func27,Try.ntmps27
   go_wp2_with fail
   refine (szTermS_c a n c L hL hL2 hn).mono ?_;rintro e w' ⟨rfl,rfl⟩;rw [hv];go_wp2_with fail
   go_ret
   exact ⟨rfl,bA1 w _⟩
theorem toForm_c {w : World} {a : Option Addr} {n : Nat} {ts : List Tm} (c : Nat) (h : Terms w a n ts) (hn : n ≤ 1048576) :
    Calls Try.prog 29 #[.agg #[.slice a n c]] w fun e w'=>∃g,e=.returned (.agg #[.slice (some ⟨g,0,none⟩) n n])∧w.heap.size≤g∧Own w' g 76 (rcells ts).toArray∧Below w.heap.size w w':=by
 go_enter Try.func29,Try.ntmps29
 go_wp2_with fail
 obtain ⟨o1,o2,o3,hb⟩:=own3' w 42 47 47 #[.slice a n c] #[.slice none 0 0] #[.slice none 0 0]
 refine (toTermS_c c (h.keep hb) hn).mono ?_
 generalize ((w.alloc (.cells #[.slice a n c] 42)).alloc (.cells #[.slice none 0 0] 47)).alloc (.cells #[.slice none 0 0] 47)=w0 at *
 rintro e w1 ⟨rfl,hO,hb1⟩
 have p2:=o2.keep hb1 o2.lt
 have p3:=o3.keep hb1 o3.lt
 have l3:=o3.lt
 have hbb:=bT' hb hb1 hb.size
 clear o1 o2 o3 hb hb1
 have c2:=p2.cell 0
 have c3:=p3.cell 0
 have f2:=p2.frozen 0
 have f3:=p3.frozen 0
 go_wp2_with fail
 have q2:=(p2.far (p:=⟨w.heap.size+1+1,0,none⟩) (by dsimp only;omega) (.slice (some ⟨w0.heap.size,0,none⟩) n n)).set 0 (.slice (some ⟨w0.heap.size,0,none⟩) n n)
 refine bodyPost_ret (results_cell_row rfl _ _ (w.heap.size+1) 47 #[.slice (some ⟨w0.heap.size,0,none⟩) n n] (0,0) _ rfl q2 Try.underlying47 rfl Try.info_form) rfl ⟨w0.heap.size,rfl,by omega,?_,?_⟩
 · exact (hO.far (p:=⟨w.heap.size+1+1,0,none⟩) (by dsimp only;omega) _).far (p:=⟨w.heap.size+1,0,none⟩) (by dsimp only;omega) _
 · exact (hbb.setCell (p:=⟨w.heap.size+1+1,0,none⟩) (by dsimp only;omega) _).setCell (p:=⟨w.heap.size+1,0,none⟩) (by dsimp only;omega) _
theorem eqMono8 {w : World} {m0 m1 m2 m3 m4 m5 m6 m7 : Int} (hm : IsMono [m0, m1, m2, m3, m4, m5, m6, m7]) :
    Calls Try.prog 134 #[.agg #[.int .u8 m0,.int .u8 m1,.int .u8 m2,.int .u8 m3,.int .u8 m4,.int .u8 m5,.int .u8 m6,.int .u8 m7],.agg #[.int .u8 m0,.int .u8 m1,.int .u8 m2,.int .u8 m3,.int .u8 m4,.int .u8 m5,.int .u8 m6,.int .u8 m7]] w fun e w'=>e=.returned (.bool true)∧Below w.heap.size w w':=by
 have:=eqMonomial_c (w:=w) hm hm
 simp only [decide_true] at this
 exact this
theorem eqTerm9 {w : World} {m0 m1 m2 m3 m4 m5 m6 m7 f : Int} (hm : IsMono [m0, m1, m2, m3, m4, m5, m6, m7]) :
    Calls Try.prog 116 #[.agg #[.int .u8 m0,.int .u8 m1,.int .u8 m2,.int .u8 m3,.int .u8 m4,.int .u8 m5,.int .u8 m6,.int .u8 m7,.int .i64 f],.agg #[.int .u8 m0,.int .u8 m1,.int .u8 m2,.int .u8 m3,.int .u8 m4,.int .u8 m5,.int .u8 m6,.int .u8 m7,.int .i64 f]] w fun e w'=>e=.returned (.bool true)∧Below w.heap.size w w':=by
 go_enter Try.func116,Try.ntmps116
 go_wp2_with fail
 have o1:=(Own.new w 76 #[.int .u8 m0,.int .u8 m1,.int .u8 m2,.int .u8 m3,.int .u8 m4,.int .u8 m5,.int .u8 m6,.int .u8 m7,.int .i64 f]).alloc (.cells #[.int .u8 m0,.int .u8 m1,.int .u8 m2,.int .u8 m3,.int .u8 m4,.int .u8 m5,.int .u8 m6,.int .u8 m7,.int .i64 f] 76)
 have o2:=Own.new (w.alloc (.cells #[.int .u8 m0,.int .u8 m1,.int .u8 m2,.int .u8 m3,.int .u8 m4,.int .u8 m5,.int .u8 m6,.int .u8 m7,.int .i64 f] 76)) 76 #[.int .u8 m0,.int .u8 m1,.int .u8 m2,.int .u8 m3,.int .u8 m4,.int .u8 m5,.int .u8 m6,.int .u8 m7,.int .i64 f]
 have hb0:=bTn (bA1 w (.cells #[.int .u8 m0,.int .u8 m1,.int .u8 m2,.int .u8 m3,.int .u8 m4,.int .u8 m5,.int .u8 m6,.int .u8 m7,.int .i64 f] 76)) (bA1 _ (.cells #[.int .u8 m0,.int .u8 m1,.int .u8 m2,.int .u8 m3,.int .u8 m4,.int .u8 m5,.int .u8 m6,.int .u8 m7,.int .i64 f] 76))
 rw [sAl] at o2
 generalize (w.alloc (.cells #[.int .u8 m0,.int .u8 m1,.int .u8 m2,.int .u8 m3,.int .u8 m4,.int .u8 m5,.int .u8 m6,.int .u8 m7,.int .i64 f] 76)).alloc (.cells #[.int .u8 m0,.int .u8 m1,.int .u8 m2,.int .u8 m3,.int .u8 m4,.int .u8 m5,.int .u8 m6,.int .u8 m7,.int .i64 f] 76)=w0 at *
 refine (eqMono8 hm).mono ?_
 rintro e w1 ⟨rfl,hb1⟩
 have c1:=(o1.keep hb1 o1.lt).cell 8
 have c2:=(o2.keep hb1 o2.lt).cell 8
 go_wp2_with fail
 go_ret
 exact ⟨rfl,bT' hb0 hb1 (Nat.le_of_lt (by have:=o1.lt;omega))⟩
theorem nine {w:World} {b o:Nat} {m0 m1 m2 m3 m4 m5 m6 m7 f:Int} (h:w.rangeAt b o (tcells ⟨[m0,m1,m2,m3,m4,m5,m6,m7],f⟩)):w.cell? ⟨b,o,none⟩=some (.int .u8 m0)∧w.cell? ⟨b,o+1,none⟩=some (.int .u8 m1)∧w.cell? ⟨b,o+2,none⟩=some (.int .u8 m2)∧w.cell? ⟨b,o+3,none⟩=some (.int .u8 m3)∧w.cell? ⟨b,o+4,none⟩=some (.int .u8 m4)∧w.cell? ⟨b,o+5,none⟩=some (.int .u8 m5)∧w.cell? ⟨b,o+6,none⟩=some (.int .u8 m6)∧w.cell? ⟨b,o+7,none⟩=some (.int .u8 m7)∧w.cell? ⟨b,o+8,none⟩=some (.int .i64 f):=
 ⟨h 0 _ rfl,h 1 _ rfl,h 2 _ rfl,h 3 _ rfl,h 4 _ rfl,h 5 _ rfl,h 6 _ rfl,h 7 _ rfl,h 8 _ rfl⟩
theorem nine18 {w:World} {b o b' o':Nat} {m0 m1 m2 m3 m4 m5 m6 m7 f:Int} (h:w.rangeAt b o (tcells ⟨[m0,m1,m2,m3,m4,m5,m6,m7],f⟩)) (h':w.rangeAt b' o' (tcells ⟨[m0,m1,m2,m3,m4,m5,m6,m7],f⟩)):w.cell? ⟨b,o,none⟩=some (.int .u8 m0)∧w.cell? ⟨b,o+1,none⟩=some (.int .u8 m1)∧w.cell? ⟨b,o+2,none⟩=some (.int .u8 m2)∧w.cell? ⟨b,o+3,none⟩=some (.int .u8 m3)∧w.cell? ⟨b,o+4,none⟩=some (.int .u8 m4)∧w.cell? ⟨b,o+5,none⟩=some (.int .u8 m5)∧w.cell? ⟨b,o+6,none⟩=some (.int .u8 m6)∧w.cell? ⟨b,o+7,none⟩=some (.int .u8 m7)∧w.cell? ⟨b,o+8,none⟩=some (.int .i64 f)∧w.cell? ⟨b',o',none⟩=some (.int .u8 m0)∧w.cell? ⟨b',o'+1,none⟩=some (.int .u8 m1)∧w.cell? ⟨b',o'+2,none⟩=some (.int .u8 m2)∧w.cell? ⟨b',o'+3,none⟩=some (.int .u8 m3)∧w.cell? ⟨b',o'+4,none⟩=some (.int .u8 m4)∧w.cell? ⟨b',o'+5,none⟩=some (.int .u8 m5)∧w.cell? ⟨b',o'+6,none⟩=some (.int .u8 m6)∧w.cell? ⟨b',o'+7,none⟩=some (.int .u8 m7)∧w.cell? ⟨b',o'+8,none⟩=some (.int .i64 f):=
 ⟨h 0 _ rfl,h 1 _ rfl,h 2 _ rfl,h 3 _ rfl,h 4 _ rfl,h 5 _ rfl,h 6 _ rfl,h 7 _ rfl,h 8 _ rfl,h' 0 _ rfl,h' 1 _ rfl,h' 2 _ rfl,h' 3 _ rfl,h' 4 _ rfl,h' 5 _ rfl,h' 6 _ rfl,h' 7 _ rfl,h' 8 _ rfl⟩
theorem eqTermS_c {w : World} {a a' : Option Addr} {n : Nat} {ts : List Tm} (c c' : Nat) (h : Terms w a n ts) (h' : Terms w a' n ts) (hn : n ≤ 1048576) :
    Calls Try.prog 81 #[.slice a n c,.slice a' n c'] w fun e w'=>e=.returned (.bool true)∧Below w.heap.size w w':=by
 go_enter Try.func81,Try.ntmps81
 go_wp2
 go_loopw [5] (fun i wr=>∃k:Nat,k≤n∧i=.int .i64 k∧Below w.heap.size w wr) (fun i _=>n - (intOf i).toNat)
 case atStart=>exact ⟨0,Nat.zero_le _,rfl,Below.refl _ _⟩
 case round=>
  obtain ⟨k,hk,rfl,hb⟩:=hrel;by_cases hlt:k<n
  · obtain ⟨b,off,t,rfl,hbl,hr,ht,hx⟩:=(h.keep hb).at_ hlt;obtain ⟨b',off',t',rfl,hbl',hr',ht',hx'⟩:=(h'.keep hb).at_ hlt
    obtain rfl:t=t':=by
     have:=hx.out.symm.trans hx'.out
     injection this
    clear ht' hx hx';obtain ⟨m,f⟩:=t;have hm:IsMono m:=ht.1;obtain ⟨m0,m1,m2,m3,m4,m5,m6,m7,rfl⟩:=mono8 hm;go_upto_region 6 with fail
    go_cut [26] from 11 to 26 (fun v wr=>v=.bool false∧Below w.heap.size w wr)
    case first=>
     go_region_held3 (fun w'=>w'.cell? ⟨b,off+k * 9,none⟩=some (.int .u8 m0)∧w'.cell? ⟨b,off+k * 9+1,none⟩=some (.int .u8 m1)∧w'.cell? ⟨b,off+k * 9+2,none⟩=some (.int .u8 m2)∧w'.cell? ⟨b,off+k * 9+3,none⟩=some (.int .u8 m3)∧w'.cell? ⟨b,off+k * 9+4,none⟩=some (.int .u8 m4)∧w'.cell? ⟨b,off+k * 9+5,none⟩=some (.int .u8 m5)∧w'.cell? ⟨b,off+k * 9+6,none⟩=some (.int .u8 m6)∧w'.cell? ⟨b,off+k * 9+7,none⟩=some (.int .u8 m7)∧w'.cell? ⟨b,off+k * 9+8,none⟩=some (.int .i64 f)∧w'.cell? ⟨b',off'+k * 9,none⟩=some (.int .u8 m0)∧w'.cell? ⟨b',off'+k * 9+1,none⟩=some (.int .u8 m1)∧w'.cell? ⟨b',off'+k * 9+2,none⟩=some (.int .u8 m2)∧w'.cell? ⟨b',off'+k * 9+3,none⟩=some (.int .u8 m3)∧w'.cell? ⟨b',off'+k * 9+4,none⟩=some (.int .u8 m4)∧w'.cell? ⟨b',off'+k * 9+5,none⟩=some (.int .u8 m5)∧w'.cell? ⟨b',off'+k * 9+6,none⟩=some (.int .u8 m6)∧w'.cell? ⟨b',off'+k * 9+7,none⟩=some (.int .u8 m7)∧w'.cell? ⟨b',off'+k * 9+8,none⟩=some (.int .i64 f)) (exact nine18 hr hr')
      (first | (go_at_call 116;refine (eqTerm9 hm).mono ?_;rintro e w2 ⟨rfl,hb2⟩;have hr:=rgK hr (hb2.block b hbl);have hr':=rgK hr' (hb2.block b' hbl')))
     all_goals go_wp2_with fail
     all_goals go_meet
     all_goals exact ⟨rfl,bT' hb.drew hb2 hb.size⟩
    case rest=>
     obtain ⟨rfl,hb2⟩:=hcut;go_wp2_with fail
     go_roundw
     case rel=>exact ⟨k+1,by omega,by go_num,hb2⟩
     case measure=>simp [intOf] <;> omega
  · go_wp2
    go_ret
    exact ⟨rfl,hb⟩
theorem eqForm_c {w : World} {a a' : Option Addr} {n : Nat} {ts : List Tm} (c c' : Nat) (h : Terms w a n ts) (h' : Terms w a' n ts) (hn : n ≤ 1048576) :
    Calls Try.prog 31 #[.agg #[.slice a n c],.agg #[.slice a' n c']] w fun e w'=>e=.returned (.bool true)∧Below w.heap.size w w':=by
 go_enter Try.func31,Try.ntmps31
 go_wp2_with fail
 have hb0:=bTn (bA1 w (.cells #[.slice a n c] 47)) (bA1 _ (.cells #[.slice a' n c'] 47))
 refine (eqTermS_c c c' (h.keep hb0) (h'.keep hb0) hn).mono ?_
 rintro e w1 ⟨rfl,hb1⟩
 go_wp2_with fail
 go_ret
 exact ⟨rfl,bT' hb0 hb1 hb0.size⟩
end Go.Proofs.Ytndnkeijddagiaa
