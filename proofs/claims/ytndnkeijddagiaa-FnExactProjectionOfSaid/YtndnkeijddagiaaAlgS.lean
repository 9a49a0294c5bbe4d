
import Derived.Test.YtndnkeijddagiaaAlg
import Derived.Test.YtndnkeijddagiaaResult
namespace Go.Proofs.Ytndnkeijddagiaa
set_option maxRecDepth 100000
open Go.RowKit Go.Deep
def szFs:Int→List (List Tm)→Int
 | L,[]=>L
 | L,ts::r=>if (ts.length:Int)≤L then szFs (L - ts.length) r else -1
def szFn (L:Int) (n:Nat) (fss:List (List Tm)):Int:=if (n:Int)≤L then szFs (L - n) fss else -1
def szA (L:Int) (dn n:Nat) (fss:List (List Tm)):Int:=if (dn:Int)≤L then szFn (L - dn) n fss else -1
theorem szFs_drop {q:Int} {fss:List (List Tm)} {k:Nat} {ts:List Tm} (h:fss[k]? = some ts):szFs q (fss.drop k)=if (ts.length:Int)≤q then szFs (q - ts.length) (fss.drop (k+1)) else -1:=by
 obtain ⟨hk,rfl⟩:=List.getElem?_eq_some_iff.1 h
 rw [List.drop_eq_getElem_cons hk,szFs]
theorem szFs_spec:∀(l:List (List Tm)) (q:Int),0≤q→szFs q l=-1∨(0≤szFs q l∧szFs q l≤q∧∀ts∈l,(ts.length:Int)≤q)
 | [],q,h=>Or.inr ⟨h,Int.le_refl _,by simp⟩
 | ts :: r, q, h => by
   rw [szFs];split
   · rename_i h1
     rcases szFs_spec r (q - ts.length) (by omega) with h2 | ⟨h2,h3,h4⟩
     · exact Or.inl h2
     · refine Or.inr ⟨h2,by omega,fun u hu=>?_⟩
       rcases List.mem_cons.1 hu with rfl | hu
       · exact h1
       · have:=h4 u hu;omega
   · exact Or.inl rfl
theorem szA_spec {L:Int} {dn n:Nat} {fss:List (List Tm)}:szA L dn n fss=-1∨(0≤szA L dn n fss∧szA L dn n fss≤L∧(dn:Int)≤L∧(n:Int)≤L∧∀ts∈fss,(ts.length:Int)≤L):=by
 unfold szA szFn
 split
 · split
   · rcases szFs_spec fss (L - dn - n) (by omega) with h2 | ⟨h2,h3,h4⟩
     · exact Or.inl h2
     · exact Or.inr ⟨h2,by omega,by omega,by omega,fun u hu=>by have:=h4 u hu;omega⟩
   · exact Or.inl rfl
 · exact Or.inl rfl
theorem szInt64S_c {w : World} (a : Option Addr) (n c : Nat) (L : Int) (hL : 0 ≤ L) (hL2 : L ≤ 1048576) (hn : (n : Int) ≤ 9223372036854775807) :
    Calls Try.prog 51 #[.slice a n c,.int .i64 L] w fun e w'=>e=.returned (.int .i64 (if (n:Int)≤L then L - n else -1))∧w=w':=by
 by_cases h:(n:Int)≤L
 · go_enter Try.func51,Try.ntmps51
   go_wp2
   go_ret
   exact ⟨rfl,rfl⟩
 · go_enter Try.func51,Try.ntmps51
   go_wp2
   go_ret
   exact ⟨rfl,rfl⟩
theorem szFormS_c {w : World} {a : Option Addr} {n : Nat} {fss : List (List Tm)} (c : Nat) (L : Int) (hL : 0 ≤ L) (hL2 : L ≤ 1048576) (h : Frms w a n fss) (hn : (n : Int) ≤ 9223372036854775807) :
    Calls Try.prog 52 #[.slice a n c,.int .i64 L] w fun e w'=>e=.returned (.int .i64 (szFn L n fss))∧Below w.heap.size w w':=by
 by_cases h1:(n:Int)≤L
 · obtain ⟨R,hR⟩:∃R,szFs (L - n) fss=R:=⟨_,rfl⟩;have hv:szFn L n fss=R:=(by rw [szFn,if_pos h1,hR]);rw [hv];have HR:=Lib.hid hR;have HL:=Lib.hid h.len;clear hR hv;go_enter Try.func52,Try.ntmps52
   go_wp2_with fail
   go_loopw [1,5] (fun l i wr=>∃(k:Nat) (q:Int),k≤n∧0≤q∧q≤1048576∧i=.int .i64 k∧l=.int .i64 q∧Below w.heap.size w wr∧Hid (szFs q (fss.drop k)=R)) (fun _ i _=>n - (intOf i).toNat)
   case atStart=>exact ⟨0,L - n,Nat.zero_le _,by omega,by omega,rfl,rfl,Below.refl _ _,by rw [List.drop_zero];exact HR.out⟩
   case round=>
    obtain ⟨k,q,hk,hq0,hq1,rfl,rfl,hb,H⟩:=hrel;by_cases hlt:k<n
    · obtain ⟨b,off,ts,ai,ni,ci,rfl,hbl,hc,hT,hni,hx⟩:=(h.keep hb).at_ hlt;have HD:=Lib.hid (szFs_drop (q:=q) hx.out);have HT:=Lib.hid hT.len;by_cases hq:(ni:Int)≤q
      · have hv:(if (ni:Int)≤q then q - ni else -1)=q - ni:=(by rw [if_pos hq]);go_wp2_with fail
        refine (szForm_c ai ni ci q hq0 hq1 hni).mono ?_;rintro e w1 ⟨rfl,hb1⟩;rw [hv];go_wp2_with fail
        go_roundw
        case rel=>exact ⟨k+1,q - ni,by omega,by omega,by omega,by go_num,rfl,bT' hb hb1 hb.size,by have:=H.out;rw [HD.out,HT.out,if_pos hq] at this;exact this⟩
        case measure=>simp [intOf] <;> omega
      · have hv:(if (ni:Int)≤q then q - ni else -1)=-1:=(by rw [if_neg hq]);go_wp2_with fail
        refine (szForm_c ai ni ci q hq0 hq1 hni).mono ?_;rintro e w1 ⟨rfl,hb1⟩;rw [hv];go_wp2_with fail
        go_ret
        exact ⟨ret_i (by have:=H.out;rw [HD.out,HT.out,if_neg (by omega)] at this;exact this),bT' hb hb1 hb.size⟩
    · have he:k=n:=(by omega);subst he;go_wp2_with fail
      go_ret
      exact ⟨ret_i (by have:=H.out;rw [List.drop_of_length_le (Nat.le_of_eq HL.out)] at this;exact this),hb⟩
 · have hv:szFn L n fss=-1:=(by rw [szFn,if_neg h1]);rw [hv];clear hv;go_enter Try.func52,Try.ntmps52
   go_wp2_with fail
   go_ret
   exact ⟨rfl,Below.refl _ _⟩
theorem szAlgebra_c {w : World} {da : Option Addr} {dn : Nat} {a : Option Addr} {n : Nat} {fss : List (List Tm)} (dc c : Nat) (L : Int) (hL : 0 ≤ L) (hL2 : L ≤ 1048576) (hdn : (dn : Int) ≤ 9223372036854775807) (h : Frms w a n fss) (hn : (n : Int) ≤ 9223372036854775807) :
    Calls Try.prog 14 #[.agg #[.slice da dn dc,.slice a n c],.int .i64 L] w fun e w'=>e=.returned (.int .i64 (szA L dn n fss))∧Below w.heap.size w w':=by
 have hb0:=bA1 w (.cells #[.slice da dn dc,.slice a n c] 25)
 have hA0:=Own.new w 25 #[.slice da dn dc,.slice a n c]
 have c0:=hA0.cell 0
 have c1:=hA0.cell 1
 by_cases h1:(dn:Int)≤L
 · have hv:(if (dn:Int)≤L then L - dn else -1)=L - dn:=(by rw [if_pos h1]);have HR:=Lib.hid (show szA L dn n fss=szFn (L - dn) n fss by rw [szA,if_pos h1])
   rcases (show szFn (L - dn) n fss = -1 ∨ (0 ≤ szFn (L - dn) n fss ∧ szFn (L - dn) n fss ≤ L) by
       unfold szFn;split
       · rcases szFs_spec fss (L - dn - n) (by omega) with h2 | ⟨h2,h3,h4⟩
         · exact Or.inl h2
         · exact Or.inr ⟨h2,by omega⟩
       · exact Or.inl rfl) with h2 | ⟨h2,h3⟩
   all_goals
    generalize hq:szFn (L - dn) n fss=q at *;have HQ:=Lib.hid hq;clear hq
    try subst h2
    go_enter Try.func14,Try.ntmps14
    go_upto_region 1 with fail
    generalize w.alloc (.cells #[.slice da dn dc,.slice a n c] 25)=w0 at *;go_wp2_with fail
    refine (szInt64S_c da dn dc L hL hL2 hdn).mono ?_;rintro e w1 ⟨rfl,rfl⟩;rw [hv];go_wp2_with fail
    refine (szFormS_c c (L - dn) (by omega) (by omega) (h.keep hb0) hn).mono ?_;rintro e w1 ⟨rfl,hb1⟩;rw [HQ.out];go_wp2_with fail
    go_ret
    exact ⟨ret_i HR.out.symm,bT' hb0 hb1 hb0.size⟩
 · have hv:(if (dn:Int)≤L then L - dn else -1)=-1:=(by rw [if_neg h1]);have HR:=Lib.hid (show szA L dn n fss=-1 by rw [szA,if_neg h1]);go_enter Try.func14,Try.ntmps14
   go_upto_region 1 with fail
   generalize w.alloc (.cells #[.slice da dn dc,.slice a n c] 25)=w0 at *;go_wp2_with fail
   refine (szInt64S_c da dn dc L hL hL2 hdn).mono ?_;rintro e w1 ⟨rfl,rfl⟩;rw [hv];go_wp2_with fail
   go_ret
   exact ⟨ret_i HR.out.symm,hb0⟩
theorem Try.info_form3:(Try.prog.info? 47).map (fun i=>(i.zero,i.size,i.bytes))=some (some (.agg #[.slice none 0 0]),1,24):=by kernel_rfl
theorem Try.info_alg:(Try.prog.info? 29).map (·.size)=some 2:=by kernel_rfl
theorem madeCells_one (v:Value) (n:Nat):madeCells #[v] (n * 1)=Array.replicate n v:=by
 apply Array.ext_getElem?
 intro i
 by_cases hi:i<n
 · simp [madeCells,hi,Nat.mod_one]
 · rw [Array.getElem?_eq_none (by simp [madeCells];omega),Array.getElem?_eq_none (by simp;omega)]
theorem make_forms (n : Nat) (hn : n ≤ 1048576) (w : World) :
    (Instr.makeSlice 27 (.int .i64 (n:Int)) (.int .i64 (n:Int))).run Try.prog w=.ok (.slice (some ⟨w.heap.size,0,none⟩) n n) (w.alloc (.cells (Array.replicate n (Value.slice none 0 0)) 47)):=by
 obtain ⟨i,hi,hzz⟩:=Option.map_eq_some_iff.1 Try.info_form3
 simp only [Prod.mk.injEq] at hzz
 obtain ⟨hz,hs,hb⟩:=hzz
 have hr:=run_make (P:=Try.prog) w 27 47 i _ Try.underlying27 hi hz .i64 .i64 n n (by omega) (Int.le_refl _) (by rw [hb];omega) (by omega)
 simp only [Int.toNat_natCast,hs,Value.cells,madeCells_one] at hr
 exact hr
def slCells (fss:List (List Tm)) (gs:List Nat):List Value:=List.zipWith (fun ts g=>Value.slice (some ⟨g,0,none⟩) ts.length ts.length) fss gs
theorem slCells_len {fss:List (List Tm)} {gs:List Nat} (h:gs.length=fss.length):(slCells fss gs).length=fss.length:=by simp [slCells,h]
theorem slCells_snoc {fss:List (List Tm)} {gs:List Nat} {k g:Nat} {ts:List Tm} (h:gs.length=k) (hx:fss[k]? = some ts):slCells (fss.take (k+1)) (gs++[g])=slCells (fss.take k) gs++[.slice (some ⟨g,0,none⟩) ts.length ts.length]:=by
 obtain ⟨hk,rfl⟩:=List.getElem?_eq_some_iff.1 hx
 rw [slCells,List.take_succ_eq_append_getElem hk,List.zipWith_append (by rw [List.length_take];omega)]
 rfl
theorem slCells_get {fss:List (List Tm)} {gs:List Nat} {i g:Nat} {ts:List Tm} (hx:fss[i]? = some ts) (hg:gs[i]? = some g):(slCells fss gs)[i]? = some (.slice (some ⟨g,0,none⟩) ts.length ts.length):=by
 rw [slCells,List.getElem?_zipWith,hx,hg]
structure FrmsBlk (w:World) (g:Nat) (fss:List (List Tm)) (gs:List Nat):Prop where
 len:gs.length=fss.length
 own:Own w g 47 (slCells fss gs).toArray
 each:∀(i gi:Nat) (ts:List Tm),gs[i]? = some gi→fss[i]? = some ts→Own w gi 76 (rcells ts).toArray
 up:(g::gs).Pairwise (· < ·)
theorem FrmsBlk.lt {w:World} {g:Nat} {fss:List (List Tm)} {gs:List Nat} (h:FrmsBlk w g fss gs):∀x∈gs,g<x∧x<w.heap.size:=fun x hx=>by
 refine ⟨(List.pairwise_cons.1 h.up).1 x hx,?_⟩
 obtain ⟨i,hi,rfl⟩:=List.mem_iff_getElem.1 hx
 have:=h.len
 exact (h.each i _ _ (List.getElem?_eq_getElem hi) (List.getElem?_eq_getElem (show i<fss.length by omega))).lt
theorem FrmsBlk.keep {w w':World} {g:Nat} {fss:List (List Tm)} {gs:List Nat} (h:FrmsBlk w g fss gs) (hb:Below w.heap.size w w'):FrmsBlk w' g fss gs:=
 ⟨h.len,h.own.keep hb h.own.lt,fun i gi ts h1 h2=>(h.each i gi ts h1 h2).keep hb (h.each i gi ts h1 h2).lt,h.up⟩
theorem FrmsBlk.far {w:World} {g:Nat} {fss:List (List Tm)} {gs:List Nat} (h:FrmsBlk w g fss gs) {p:Addr} (hp:p.block<g) (u:Value):FrmsBlk (w.setCell p u) g fss gs:=
 ⟨h.len,h.own.far (by omega) u,fun i gi ts h1 h2=>(h.each i gi ts h1 h2).far (by have:=(List.pairwise_cons.1 h.up).1 gi (List.mem_of_getElem? h1);omega) u,h.up⟩
theorem FrmsBlk.frms {w:World} {g n:Nat} {fss:List (List Tm)} {gs:List Nat} (h:FrmsBlk w g fss gs) (hT:∀ts∈fss,∀t∈ts,IsTm t) (hL:∀ts∈fss,(ts.length:Int)≤1048576) (hn:fss.length=n):Frms w (some ⟨g,0,none⟩) n fss:=by
 refine ⟨hn,fun _=>⟨g,0,rfl,h.own.lt,fun i ts hi=>?_⟩⟩
 have hl:i<gs.length:=by rw [h.len];exact (List.getElem?_eq_some_iff.1 hi).1
 have hg:gs[i]? = some gs[i]:=List.getElem?_eq_getElem hl
 have hm:=List.mem_of_getElem? hi
 refine ⟨some ⟨gs[i],0,none⟩,ts.length,ts.length,?_,Terms.of_own (h.each i _ ts hg hi) (hT ts hm) rfl,by have:=hL ts hm;omega⟩
 rw [Nat.zero_add,h.own.cell i,List.getElem?_toArray]
 exact slCells_get hi hg
set_option maxHeartbeats 1000000 in
theorem toFormS_c {w : World} {a : Option Addr} {n : Nat} {fss : List (List Tm)} (c : Nat) (h : Frms w a n fss) (hn : n ≤ 1048576) (hL : ∀ ts ∈ fss, (ts.length : Int) ≤ 1048576) :
    Calls Try.prog 56 #[.slice a n c] w fun e w'=>∃gs,e=.returned (.slice (some ⟨w.heap.size,0,none⟩) n n)∧FrmsBlk w' w.heap.size fss gs∧Below w.heap.size w w':=by
 have HL:=Lib.hid h.len
 have HLL:=Lib.hid hL
 clear hL
 have hmk:=make_forms n hn
 go_enter Try.func56,Try.ntmps56
 go_wp2_with fail
 have o0:=Own.new w 47 (Array.replicate n (Value.slice none 0 0))
 have hb0:=bA1 w (.cells (Array.replicate n (Value.slice none 0 0)) 47)
 clear hmk
 generalize w.alloc (.cells (Array.replicate n (Value.slice none 0 0)) 47)=w0 at *
 generalize hG:w.heap.size=G at *
 have HG:=Lib.hid hG
 clear hG
 go_loopw [4] (fun i wr=>∃(k:Nat) (gs:List Nat),k≤n∧i=.int .i64 k∧Below G w wr∧Own wr G 47 (slCells (fss.take k) gs++List.replicate (n - k) (Value.slice none 0 0)).toArray∧Hid (gs.length=k∧(∀(i gi:Nat) (ts:List Tm),gs[i]? = some gi→fss[i]? = some ts→Own wr gi 76 (rcells ts).toArray)∧(G::gs).Pairwise (· < ·))) (fun i _=>n - (intOf i).toNat)
 case atStart=>exact ⟨0,[],Nat.zero_le _,rfl,hb0,by simpa [slCells] using o0,rfl,by simp,by simp⟩
 case round=>
  clear o0 hb0;obtain ⟨k,gs,hk,rfl,hb,hO,H⟩:=hrel;by_cases hlt:k<n
  · have hbw:Below w.heap.size w wr:=(by rw [HG.out];exact hb);obtain ⟨b,off,ts,ai,ni,ci,rfl,hbl,hc,hT,hni,hx⟩:=(h.keep hbw).at_ hlt;have hni2:ni≤1048576:=(by have:=HLL.out ts (List.mem_of_getElem? hx.out);have:=hT.len;omega);have HTL:=Lib.hid hT.len;go_wp2_with fail
    refine (toForm_c ci hT hni2).mono ?_;rintro e w1 ⟨g,rfl,hg1,hg2,hb1⟩;have hO1:=hO.keep hb1 hO.lt;have hb2:=bT' hb hb1 (Nat.le_of_lt hO.lt);have hGg:G<g:=Nat.lt_of_lt_of_le hO.lt hg1
    have hpl:(slCells (fss.take k) gs).length=k:=by
     have h1:=H.out.1;have:=HL.out;rw [slCells_len (by rw [List.length_take];omega),List.length_take];omega
    have HPL:=Lib.hid hpl;have hfz:=hO1.frozen k;obtain ⟨ov,hcv⟩:=hO1.has (i:=k) (by simp [hpl];omega);clear hO hb hpl;go_wp2_with fail
    go_roundw
    case rel=>
     have hpl:=HPL.out;refine ⟨k+1,gs++[g],by omega,by go_num,hb2.setCell (p:=⟨G,k,none⟩) (by dsimp only;omega) _,?_,?_,?_,?_⟩
     · have:=hO1.set k (.slice (some ⟨g,0,none⟩) ni ni);rw [slCells_snoc H.out.1 hx.out,HTL.out];refine Eq.mp (congrArg (Own _ G _) ?_) this;apply Array.ext_getElem?
       intro j;rw [Array.getElem?_setIfInBounds];simp only [List.getElem?_toArray,List.size_toArray,List.length_append,HPL.out,List.length_replicate];rw [show n - k=(n - (k+1))+1 by omega,List.replicate_succ,List.append_assoc];by_cases h1:k=j
       · subst h1;rw [if_pos rfl,if_pos (by omega),List.getElem?_append_right (by omega),HPL.out,Nat.sub_self];rfl
       · rw [if_neg h1];by_cases h2:j<k
         · rw [List.getElem?_append_left (by omega),List.getElem?_append_left (by omega)]
         · rw [List.getElem?_append_right (by omega),List.getElem?_append_right (by omega),HPL.out];obtain ⟨d,hd⟩:∃d,j - k=d+1:=⟨j - k - 1,by omega⟩;rw [hd];rfl
     · rw [List.length_append,H.out.1];rfl
     · intro i gi us h1 h2;by_cases hi:i<k
       · rw [List.getElem?_append_left (by rw [H.out.1];exact hi)] at h1;have ho:=H.out.2.1 i gi us h1 h2;exact (ho.keep hb1 ho.lt).far (p:=⟨G,k,none⟩) (by dsimp only;have:=(List.pairwise_cons.1 H.out.2.2).1 gi (List.mem_of_getElem? h1);omega) _
       · rw [List.getElem?_append_right (by rw [H.out.1];omega),H.out.1] at h1;obtain ⟨d,hd⟩:∃d,i - k=d:=⟨_,rfl⟩;rw [hd] at h1
         cases d with
         | succ d=>simp at h1
         | zero =>
           obtain rfl:i=k:=(by omega);have e1:g=gi:=(by simpa using h1);have e2:ts=us:=(by have:=hx.out;rw [h2] at this;injection this with this;exact this.symm);subst e1 e2;exact hg2.far (p:=⟨G,i,none⟩) (by dsimp only;omega) _
     · rw [←List.cons_append];refine List.pairwise_append.2 ⟨H.out.2.2,List.pairwise_singleton _ _,fun x hx1 y hy=>?_⟩;obtain rfl:y=g:=by simpa using hy
       rcases List.mem_cons.1 hx1 with rfl | hx1
       · exact hGg
       · obtain ⟨i,hi,rfl⟩:=List.mem_iff_getElem.1 hx1;have h1:=H.out.1;have h2:=HL.out;have:=(H.out.2.1 i _ _ (List.getElem?_eq_getElem hi) (List.getElem?_eq_getElem (show i<fss.length by omega))).lt;omega
    case measure=>simp [intOf] <;> omega
  · have he:k=n:=(by omega);subst he;go_wp2_with fail
    go_ret
    rw [HG.out];refine ⟨gs,rfl,⟨?_,?_,H.out.2.1,H.out.2.2⟩,hb⟩
    · rw [H.out.1,HL.out]
    · have:=hO
      rwa [Nat.sub_self,List.take_of_length_le (Nat.le_of_eq HL.out),show List.replicate 0 (Value.slice none 0 0)=[] from rfl,List.append_nil] at this
theorem toAlgebra_c {w : World} {da : Option Addr} {dn : Nat} {zs : List Int} {a : Option Addr} {n : Nat} {fss : List (List Tm)} (dc c : Nat) (hd : Ints w da dn zs) (hdn : dn ≤ 1048576) (h : Frms w a n fss) (hn : n ≤ 1048576) (hL : ∀ ts ∈ fss, (ts.length : Int) ≤ 1048576) :
    Calls Try.prog 16 #[.agg #[.slice da dn dc,.slice a n c]] w fun e w'=>∃gd g gs,e=.returned (.agg #[.slice (some ⟨gd,0,none⟩) dn dn,.slice (some ⟨g,0,none⟩) n n])∧w.heap.size≤gd∧gd<g∧IntBlk w' gd zs∧FrmsBlk w' g fss gs∧Below w.heap.size w w':=by
 have HLL:=Lib.hid hL
 clear hL
 obtain ⟨o1,o2,o3,hb⟩:=own3' w 25 29 29 #[.slice da dn dc,.slice a n c] #[.slice none 0 0,.slice none 0 0] #[.slice none 0 0,.slice none 0 0]
 go_enter Try.func16,Try.ntmps16
 have c0:=o1.cell 0
 go_upto_region 2 with fail
 generalize ((w.alloc (.cells #[.slice da dn dc,.slice a n c] 25)).alloc (.cells #[.slice none 0 0,.slice none 0 0] 29)).alloc (.cells #[.slice none 0 0,.slice none 0 0] 29)=w0 at *
 generalize hg2:w.heap.size+1+1=g2 at *
 generalize hg1:w.heap.size+1=g1 at *
 generalize hg0:w.heap.size=g0 at *
 have hbw:Below w.heap.size w w0:=by rw [hg0];exact hb
 have HG:=Lib.hid hg0
 have e1:=hg1
 have e2:=hg2
 clear hg0 hg1 hg2
 go_wp2_with fail
 refine (toInt64S_b dc (hd.keep hbw) hdn).mono ?_
 rintro e w1 ⟨gd,rfl,hgd,hi,hb1⟩
 have p1:=o1.keep hb1 o1.lt
 have p2:=o2.keep hb1 o2.lt
 have p3:=o3.keep hb1 o3.lt
 have l3:=o3.lt
 have hb2:=bT' hb hb1 (by omega)
 clear o1 o2 o3 hb hb1 hbw c0
 have c2:=p3.cell 0
 have f2:=p3.frozen 0
 go_upto_region 3 with fail
 have q1:=p1.far (p:=⟨g2,0,none⟩) (by dsimp only;omega) (.slice (some ⟨gd,0,none⟩) dn dn)
 have q2:=p2.far (p:=⟨g2,0,none⟩) (by dsimp only;omega) (.slice (some ⟨gd,0,none⟩) dn dn)
 have q3:=p3.set 0 (.slice (some ⟨gd,0,none⟩) dn dn)
 have qi:IntBlk _ gd zs:=Own.far hi (p:=⟨g2,0,none⟩) (by dsimp only;omega) (.slice (some ⟨gd,0,none⟩) dn dn)
 have hb3:=hb2.setCell (p:=⟨g2,0,none⟩) (by dsimp only;omega) (.slice (some ⟨gd,0,none⟩) dn dn)
 generalize w1.setCell ⟨g2,0,none⟩ (.slice (some ⟨gd,0,none⟩) dn dn)=w2 at *
 have hbw:Below w.heap.size w w2:=by rw [HG.out];exact hb3
 clear p1 p2 p3 hi hb2 c2 f2
 have c1:=q1.cell 1
 have hg12:g2<w2.heap.size:=q3.lt
 have hgd2:=IntBlk.lt qi
 go_wp2_with fail
 refine (toFormS_c c (h.keep hbw) hn HLL.out).mono ?_
 rintro e w3 ⟨gs,rfl,hF,hb4⟩
 have r2:=q2.keep hb4 q2.lt
 have r3:=q3.keep hb4 q3.lt
 have ri:=qi.keep hb4 hgd2
 have hb5:=bT' hb3 hb4 (by omega)
 clear q1 q2 q3 qi hb3 hb4 c1 hbw
 have c3:=r3.cell 0
 have c4:=r3.cell 1
 have f3:=r3.frozen 1
 have k2:=r2.cell 0
 have k3:=r2.cell 1
 have m2:=r2.frozen 0
 have m3:=r2.frozen 1
 go_wp2_with fail
 have hG2:=hgd2
 have s2:=(((r2.far (p:=⟨g2,1,none⟩) (by dsimp only;omega) (.slice (some ⟨w2.heap.size,0,none⟩) n n)).set 0 (.slice (some ⟨gd,0,none⟩) dn dn)).set 1 (.slice (some ⟨w2.heap.size,0,none⟩) n n))
 refine bodyPost_ret (results_cell_row rfl _ _ g1 29 #[.slice (some ⟨gd,0,none⟩) dn dn,.slice (some ⟨w2.heap.size,0,none⟩) n n] (0,0) _ rfl s2 Try.underlying29 rfl Try.info_alg) rfl ⟨gd,w2.heap.size,gs,rfl,by rw [HG.out];omega,hgd2,?_,?_,?_⟩
 · exact Own.far (Own.far (Own.far ri (p:=⟨g2,1,none⟩) (by dsimp only;omega) _) (p:=⟨g1,0,none⟩) (by dsimp only;omega) _) (p:=⟨g1,1,none⟩) (by dsimp only;omega) _
 · exact ((hF.far (p:=⟨g2,1,none⟩) (by dsimp only;omega) _).far (p:=⟨g1,0,none⟩) (by dsimp only;omega) _).far (p:=⟨g1,1,none⟩) (by dsimp only;omega) _
 · rw [HG.out];exact ((hb5.setCell (p:=⟨g2,1,none⟩) (by dsimp only;omega) _).setCell (p:=⟨g1,0,none⟩) (by dsimp only;omega) _).setCell (p:=⟨g1,1,none⟩) (by dsimp only;omega) _
set_option maxHeartbeats 1000000 in
theorem eqFormS_c {w : World} {a a' : Option Addr} {n : Nat} {fss : List (List Tm)} (c c' : Nat) (h : Frms w a n fss) (h' : Frms w a' n fss) (hn : n ≤ 1048576) (hL : ∀ ts ∈ fss, (ts.length : Int) ≤ 1048576) :
    Calls Try.prog 37 #[.slice a n c,.slice a' n c'] w fun e w'=>e=.returned (.bool true)∧Below w.heap.size w w':=by
 have HLL:=Lib.hid hL
 clear hL
 go_enter Try.func37,Try.ntmps37
 go_wp2_with fail
 go_loopw [5] (fun i wr=>∃k:Nat,k≤n∧i=.int .i64 k∧Below w.heap.size w wr) (fun i _=>n - (intOf i).toNat)
 case atStart=>exact ⟨0,Nat.zero_le _,rfl,Below.refl _ _⟩
 case round=>
  obtain ⟨k,hk,rfl,hb⟩:=hrel;by_cases hlt:k<n
  · obtain ⟨b,off,ts,ai,ni,ci,rfl,hbl,hc,hT,hni,hx⟩:=(h.keep hb).at_ hlt;obtain ⟨b',off',ts',ai',ni',ci',rfl,hbl',hc',hT',hni',hx'⟩:=(h'.keep hb).at_ hlt
    obtain rfl:ts=ts':=by
     have:=hx.out.symm.trans hx'.out
     injection this
    obtain rfl:ni=ni':=hT.len.symm.trans hT'.len;have hni2:ni≤1048576:=(by have:=HLL.out ts (List.mem_of_getElem? hx.out);have:=hT.len;omega);clear hx hx' hni hni';have hi0:(0:Int)≤(k:Int):=(by omega);have hin:(k:Int)<(n:Int):=(by omega);go_upto_region 6 with fail
    replace hc:wr.drew.cell? ⟨b,off+k,none⟩=some (.slice ai ni ci):=hc;replace hc':wr.drew.cell? ⟨b',off'+k,none⟩=some (.slice ai' ni ci'):=hc';replace hT:=hT.keep ((Below.refl _ _).drew:Below wr.heap.size wr wr.drew);replace hT':=hT'.keep ((Below.refl _ _).drew:Below wr.heap.size wr wr.drew);replace hb:Below w.heap.size w wr.drew:=hb.drew;replace hbl:b<wr.drew.heap.size:=hbl;replace hbl':b'<wr.drew.heap.size:=hbl'
    go_region_held3 (fun w'=>w'.cell? ⟨b,off+k,none⟩=some (.slice ai ni ci)∧w'.cell? ⟨b',off'+k,none⟩=some (.slice ai' ni ci')) (exact ⟨hc,hc'⟩)
     (first | (go_at_call 31;refine (eqForm_c ci ci' hT hT' hni2).mono ?_;rintro e wv ⟨rfl,hbv⟩;have hb2:=bT' hb hbv hb.size;have hc2:=(World.cell?_of_block (a:=⟨b,off+k,none⟩) (hbv.block b hbl)).trans hc;have hc3:=(World.cell?_of_block (a:=⟨b',off'+k,none⟩) (hbv.block b' hbl')).trans hc';clear hc hc';have hc:=hc2;have hc':=hc3))
    go_wp2_with fail
    go_roundw
    case rel=>exact ⟨k+1,by omega,by go_num,hb2⟩
    case measure=>simp [intOf] <;> omega
  · go_wp2_with fail
    go_ret
    exact ⟨rfl,hb⟩
theorem eqAlgebra_c {w : World} {da da' : Option Addr} {dn : Nat} {zs : List Int} {a a' : Option Addr} {n : Nat} {fss : List (List Tm)} (dc dc' c c' : Nat) (hd : Ints w da dn zs) (hd' : Ints w da' dn zs) (hdn : dn ≤ 1048576) (h : Frms w a n fss) (h' : Frms w a' n fss) (hn : n ≤ 1048576) (hL : ∀ ts ∈ fss, (ts.length : Int) ≤ 1048576) :
    Calls Try.prog 18 #[.agg #[.slice da dn dc,.slice a n c],.agg #[.slice da' dn dc',.slice a' n c']] w fun e w'=>e=.returned (.bool true)∧Below w.heap.size w w':=by
 have HLL:=Lib.hid hL
 clear hL
 have hA:=(Own.new w 29 #[.slice da dn dc,.slice a n c]).alloc (.cells #[.slice da' dn dc',.slice a' n c'] 29)
 have hB:=Own.new (w.alloc (.cells #[.slice da dn dc,.slice a n c] 29)) 29 #[.slice da' dn dc',.slice a' n c']
 rw [sAl] at hB
 have hb:=bTn (bA1 w (.cells #[.slice da dn dc,.slice a n c] 29)) (bA1 _ (.cells #[.slice da' dn dc',.slice a' n c'] 29))
 have a0:=hA.cell 0
 have b0:=hB.cell 0
 go_enter Try.func18,Try.ntmps18
 go_upto_region 1 with fail
 generalize (w.alloc (.cells #[.slice da dn dc,.slice a n c] 29)).alloc (.cells #[.slice da' dn dc',.slice a' n c'] 29)=w0 at *
 go_wp2_with fail
 refine (eqInt64S_c dc dc' (hd.keep hb) (hd'.keep hb) hdn hdn).mono ?_
 rintro e w1 ⟨rfl,q,rfl⟩
 have a1:=hA.cell 1
 have b1:=hB.cell 1
 have hb1:=below_drewN hb q
 go_wp2_with fail
 refine (eqFormS_c c c' (h.keep hb1) (h'.keep hb1) hn HLL.out).mono ?_
 rintro e w2 ⟨rfl,hb2⟩
 go_wp2_with fail
 go_ret
 exact ⟨rfl,bT' hb1 hb2 hb1.size⟩
structure Touch (p:Nat→Prop) (w w':World):Prop where
 below:Below 0 w w'
 other:∀k,k<w.heap.size→¬p k→w'.heap[k]? = w.heap[k]?
section
variable {p q:Nat→Prop} {w w' a b c:World}
theorem Touch.of_only {g:Nat} (h:Only g w w'):Touch (fun k=>k=g) w w':=⟨h.below 0 (Nat.zero_le _),fun k _ hk=>h.other k hk⟩
theorem Touch.of_below (h:Below w.heap.size w w'):Touch p w w':=⟨h.mono (Nat.zero_le _),fun k hk _=>h.block k hk⟩
theorem Touch.refl (p:Nat→Prop) (w:World):Touch p w w:=⟨Below.refl _ _,fun _ _ _=>rfl⟩
theorem Touch.mono (h:Touch p w w') (hp:∀k,p k→q k):Touch q w w':=⟨h.below,fun k hk hq=>h.other k hk (fun hh=>hq (hp k hh))⟩
theorem Touch.trans (h:Touch p a b) (k:Touch p b c):Touch p a c:=⟨h.below.trans k.below,fun i hi hp=>(k.other i (Nat.lt_of_lt_of_le hi h.below.size) hp).trans (h.other i hi hp)⟩
theorem Touch.bel {B:Nat} (h:Touch p w w') (hB:∀k,p k→B≤k) (hs:B≤w.heap.size):Below B w w':=
 ⟨h.below.os,h.below.tape,h.below.output,h.below.size,fun k hk=>h.other k (by omega) (fun hp=>by have:=hB k hp;omega)⟩
theorem Touch.own {g:Nat} {t:TypeId} {cs:Array Value} (h:Touch p w w') (o:Own w g t cs) (hg:¬p g):Own w' g t cs:=(h.other g o.lt hg).trans o
theorem Touch.frms {g:Nat} {fss:List (List Tm)} {gs:List Nat} (h:Touch p w w') (o:FrmsBlk w g fss gs) (hg:¬p g) (hgs:∀x∈gs,¬p x):FrmsBlk w' g fss gs:=
 ⟨o.len,h.own o.own hg,fun i gi ts h1 h2=>h.own (o.each i gi ts h1 h2) (hgs gi (List.mem_of_getElem? h1)),o.up⟩
end
def sumLen (fss:List (List Tm)):Nat:=(fss.map List.length).sum
theorem sumLen_take {fss:List (List Tm)} {k:Nat} {ts:List Tm} (h:fss[k]? = some ts):sumLen (fss.take (k+1))=sumLen (fss.take k)+ts.length:=by
 obtain ⟨hk,rfl⟩:=List.getElem?_eq_some_iff.1 h
 rw [sumLen,List.take_succ_eq_append_getElem hk,List.map_append,List.sum_append]
 simp [sumLen]
theorem sumLen_le (fss:List (List Tm)) (k:Nat):sumLen (fss.take k)≤sumLen fss:=by
 have h:sumLen fss=sumLen (fss.take k)+sumLen (fss.drop k):=by
  rw [sumLen,sumLen,sumLen,←List.sum_append,←List.map_append,List.take_append_drop]
 omega
theorem szFs_sum:∀(l:List (List Tm)) (q:Int),0≤q→szFs q l=-1∨(sumLen l:Int)+szFs q l=q
 | [],q,_=>Or.inr (by simp [sumLen,szFs])
 | ts :: r, q, h => by
   rw [szFs];split
   · rename_i h1
     rcases szFs_sum r (q - ts.length) (by omega) with h2 | h2
     · exact Or.inl h2
     · refine Or.inr ?_;have:sumLen (ts::r)=ts.length+sumLen r:=(by simp [sumLen]);rw [this];omega
   · exact Or.inl rfl
theorem szA_sum {L:Int} {dn n:Nat} {fss:List (List Tm)} (h:¬szA L dn n fss=-1):(sumLen fss:Int)+szA L dn n fss+dn+n=L:=by
 unfold szA szFn at h ⊢
 split
 · rename_i h1;rw [if_pos h1] at h;split
   · rename_i h2;rw [if_pos h2] at h
     rcases szFs_sum fss (L - dn - n) (by omega) with h3 | h3
     · exact absurd h3 h
     · omega
   · rename_i h2;rw [if_neg h2] at h;exact absurd rfl h
 · rename_i h1;rw [if_neg h1] at h;exact absurd rfl h
set_option maxHeartbeats 1000000 in
theorem markFormS_c {w : World} {g n : Nat} {fss : List (List Tm)} {gs : List Nat} {K : Int} (c : Nat) (h : FrmsBlk w g fss gs) (hT : ∀ ts ∈ fss, ∀ t ∈ ts, IsTm t) (hl : fss.length = n) (hn : n ≤ 1048576) (hs : sumLen fss ≤ 1048576) (hK : 0 ≤ K) (hK2 : K ≤ 50000000) :
    Calls Try.prog 38 #[.slice (some ⟨g,0,none⟩) n c,.int .i64 K] w fun e w'=>e=.returned (.int .i64 (K+(sumLen fss * 9:Nat)))∧Touch (fun k=>k∈gs) w w':=by
 have HL:=Lib.hid hl
 have HT:=Lib.hid hT
 have HG:=Lib.hid h
 have HS:=Lib.hid hs
 have hO:=h.own
 have hE:=h.each
 clear hl hT hs
 go_enter Try.func38,Try.ntmps38
 go_wp2_with fail
 go_loopw [5,1] (fun i v wr=>∃k:Nat,k≤n∧i=.int .i64 k∧v=.int .i64 (K+(sumLen (fss.take k) * 9:Nat))∧Touch (fun k=>k∈gs) w wr∧Own wr g 47 (slCells fss gs).toArray∧Hid (∀(j gj:Nat) (ts:List Tm),k≤j→gs[j]? = some gj→fss[j]? = some ts→Own wr gj 76 (rcells ts).toArray)) (fun i _ _=>n - (intOf i).toNat)
 case atStart=>exact ⟨0,Nat.zero_le _,rfl,by simp [sumLen],Touch.refl _ _,hO,fun j gj ts _ h1 h2=>hE j gj ts h1 h2⟩
 case round=>
  clear hO hE;obtain ⟨k,hk,rfl,rfl,hTo,hO,HE⟩:=hrel;by_cases hlt:k<n
  · have hkf:k<fss.length:=(by have:=HL.out;omega);have hkg:k<gs.length:=(by have:=HG.out.len;omega);obtain ⟨ts,hx0⟩:∃ts,fss[k]? = some ts:=⟨_,List.getElem?_eq_getElem hkf⟩;obtain ⟨gk,hg0⟩:∃gk,gs[k]? = some gk:=⟨_,List.getElem?_eq_getElem hkg⟩;have hx:=Lib.hid hx0;have hg:=Lib.hid hg0
    have hc:wr.cell? ⟨g,k,none⟩=some (.slice (some ⟨gk,0,none⟩) ts.length ts.length):=by
     rw [hO.cell k,List.getElem?_toArray];exact slCells_get hx0 hg0
    have hOk:=HE.out k gk ts (Nat.le_refl _) hg0 hx0;have hst:=sumLen_take hx0;have hsl:=sumLen_le fss (k+1);have hsb:=HS.out;have hlk:ts.length≤1048576:=by omega
    have hrl:ts.length * 9≤(rcells ts).toArray.size:=by
     rw [List.size_toArray,rcells_length (HT.out ts (List.mem_of_getElem? hx0))];exact Nat.le_refl _
    obtain ⟨sk,hsk⟩:∃sk,sumLen (fss.take k)=sk:=⟨_,rfl⟩
    have HST:Hid (sumLen (fss.take (k+1))=sk+ts.length):=by
     rw [hsk] at hst;exact Lib.hid hst
    have hskb:sk+ts.length≤1048576:=(by have:=HST.out;omega);obtain ⟨nk,hnk⟩:∃nk,ts.length=nk:=⟨_,rfl⟩;rw [hnk] at hc hlk hrl hskb;have HNK:=Lib.hid hnk
    have hne:∀(j gj:Nat),k+1≤j→gs[j]? = some gj→gj≠gk:=by
     intro j gj hj hgj;obtain ⟨hjl,e1⟩:=List.getElem?_eq_some_iff.1 hgj;obtain ⟨hkl,e2⟩:=List.getElem?_eq_some_iff.1 hg0;have:=List.pairwise_iff_getElem.1 (List.pairwise_cons.1 HG.out.up).2 k j hkl hjl (by omega);rw [e1,e2] at this;exact Nat.ne_of_gt this
    have HNE:=Lib.hid hne;have hgg:g<gk:=(List.pairwise_cons.1 HG.out.up).1 gk (List.mem_of_getElem? hg0);rw [hsk];clear hst hsl hsb hsk hnk hne hx0 hg0;have hk0:(0:Int)≤(k:Int):=(by omega);have hkn:(k:Int)<(n:Int):=(by omega);go_wp2_with fail
    refine (markTermS_c nk hOk hrl (fun _=>rfl) hlk (by omega) (by omega)).mono ?_;rintro e w1 ⟨rfl,hM,hOn⟩;go_wp2_with fail
    go_roundw
    case rel=>
     refine ⟨k+1,by omega,by go_num,?_,hTo.trans ((Touch.of_only hOn).mono (fun j hj=>by rw [hj];exact List.mem_of_getElem? hg.out)),hOn.own hO (by omega),?_⟩
     · rw [HST.out,HNK.out];congr 1
       omega
     · refine Lib.hid (fun j gj us hj h1 h2=>?_);exact hOn.own (HE.out j gj us (by omega) h1 h2) (HNE.out j gj hj h1)
    case measure=>simp [intOf] <;> omega
  · have he:k=n:=(by omega);subst he;go_wp2_with fail
    go_ret
    exact ⟨by rw [List.take_of_length_le (Nat.le_of_eq HL.out)];rfl,hTo⟩
theorem markAlgebra_c {w : World} {gd g dn n : Nat} {zs : List Int} {fss : List (List Tm)} {gs : List Nat} {K : Int} (dc c : Nat) (hd : IntBlk w gd zs) (hz : zs.length = dn) (hdn : dn ≤ 1048576) (hdg : gd < g) (h : FrmsBlk w g fss gs) (hT : ∀ ts ∈ fss, ∀ t ∈ ts, IsTm t) (hl : fss.length = n) (hn : n ≤ 1048576) (hs : sumLen fss ≤ 1048576) (hK : 0 ≤ K) (hK2 : K ≤ 10000000) :
    Calls Try.prog 19 #[.agg #[.slice (some ⟨gd,0,none⟩) dn dc,.slice (some ⟨g,0,none⟩) n c],.int .i64 K] w fun e w'=>e=.returned (.int .i64 (K+(dn:Nat)+(sumLen fss * 9:Nat)))∧Touch (fun k=>k=gd∨k∈gs) w w':=by
 have HZ:=Lib.hid hz
 have HL:=Lib.hid hl
 have HT:=Lib.hid hT
 have HS:=Lib.hid hs
 have hsz:dn≤((zs.map (Value.int .i64)).toArray).size:=by simp;omega
 clear hz hl hT hs
 have hb:=bA1 w (.cells #[.slice (some ⟨gd,0,none⟩) dn dc,.slice (some ⟨g,0,none⟩) n c] 29)
 have hA:=Own.new w 29 #[.slice (some ⟨gd,0,none⟩) dn dc,.slice (some ⟨g,0,none⟩) n c]
 have hlt:=IntBlk.lt hd
 have hd1:Own _ gd 2 ((zs.map (Value.int .i64)).toArray):=IntBlk.keep hd hb hlt
 have h1:=h.keep hb
 have hgn:gd≠w.heap.size:=by omega
 have c0:=hA.cell 0
 go_enter Try.func19,Try.ntmps19
 go_upto_region 1 with fail
 generalize w.alloc (.cells #[.slice (some ⟨gd,0,none⟩) dn dc,.slice (some ⟨g,0,none⟩) n c] 29)=w0 at *
 clear hlt
 go_wp2_with fail
 refine (markInt64S_c dc hd1 hsz (fun _=>rfl) hdn hK (by omega)).mono ?_
 rintro e w1 ⟨rfl,hM,hOn⟩
 have hA1:=hOn.own hA (fun e=>hgn e.symm)
 have hT1:=Touch.of_only hOn
 have h2:=hT1.frms h1 (by omega) (fun x hx e=>by have:=(h1.lt x hx).1;omega)
 have c1:=hA1.cell 1
 clear c0 hgn
 go_wp2_with fail
 refine (markFormS_c c h2 HT.out HL.out hn HS.out (by omega) (by omega)).mono ?_
 rintro e w2 ⟨rfl,hT2⟩
 go_wp2_with fail
 go_ret
 exact ⟨rfl,(Touch.of_below hb).trans ((hT1.mono (fun k hk=>Or.inl hk)).trans (hT2.mono (fun k hk=>Or.inr hk)))⟩
theorem heldInt64S_c {w : World} {g n : Nat} {t : TypeId} {cs : Array Value} {a : Option Addr} {K : Int} (c : Nat) (h : Own w g t (markA (mkI K) cs n)) (hs : n ≤ cs.size) (ha : 0 < n → a = some ⟨g, 0, none⟩) (hn : n ≤ 1048576) (hK : 0 ≤ K) (hK2 : K ≤ 100000000) :
    Calls Try.prog 48 #[.slice a n c,.int .i64 K] w fun e w'=>e=.returned (.int .i64 (K+n))∧Below w.heap.size w w':=by
 go_enter Try.func48,Try.ntmps48
 go_wp2
 go_loopw [5,1] (fun i v wr=>∃k q:Nat,k≤n∧i=.int .i64 k∧v=.int .i64 (K+k)∧wr=w.drewN q) (fun i _ _=>n - (intOf i).toNat)
 case atStart=>exact ⟨0,0,Nat.zero_le _,rfl,by simp,rfl⟩
 case round=>
  obtain ⟨k,q,hk,rfl,rfl,rfl⟩:=hrel;by_cases hlt:k<n
  · obtain rfl:=ha (by omega);have c0:=h.cell k;rw [markA_get (by omega),if_pos (by omega),mkI] at c0;have s1:IntKind.i64.wrap (K+(k:Int)+1)=K+(k:Int)+1:=IntWalk.i64_in _ (by omega);generalize hx:K+(k:Int)=x at *
    go_wp2
    go_roundw
    case rel=>exact ⟨k+1,q,by omega,by go_num,by rw [←hx];congr 1;omega,rfl⟩
    case measure=>simp [intOf] <;> omega
  · have he:k=n:=(by omega);subst he
    go_wp2
    go_ret
    exact ⟨rfl,below_drewN (Below.refl _ _) q⟩
theorem rk_range {kd kg gX:Nat} {ks:List Nat} (h1:kd<kg) (h2:kg<gX) (h3:∀x∈ks,kg<x∧x<gX):∀k,(k=kd∨k∈ks)→kd≤k∧k<gX:=by
 intro k hk
 rcases hk with h | h
 · omega
 · have:=h3 k h;omega
end Go.Proofs.Ytndnkeijddagiaa
