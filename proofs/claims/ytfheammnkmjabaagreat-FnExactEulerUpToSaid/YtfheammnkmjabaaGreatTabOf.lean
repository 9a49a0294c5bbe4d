
import Derived.Test.YtfheammnkmjabaaGreatAlgS
import Derived.Test.YtfheammnkmjabaaGreatSingle
import Derived.Test.YtfheammnkmjabaaGreatIsAlgS
import Derived.Deep.RegionWith
import Derived.Test.YtfheammnkmjabaaGreatAlgR
import Derived.Deep.DeepAppendWide
import Derived.Test.YtfheammnkmjabaaGreatRows3
namespace Go.Proofs.YtfheammnkmjabaaGreat
open Go.RowKit Go.Deep
def Tab (w:World) (a:Option Addr) (n:Nat) (T:List (List Int)):Prop:=
 T.length=n∧(0<n→∃b off,a=some ⟨b,off,none⟩∧b<w.heap.size∧∀i r,T[i]? = some r→∃ai ci,w.cell? ⟨b,off+i,none⟩=some (.slice ai r.length ci)∧Ints w ai r.length r)
theorem Tab.keep {w w':World} {a:Option Addr} {n:Nat} {T:List (List Int)} (h:Tab w a n T) (hb:Below w.heap.size w w'):Tab w' a n T:=
 ⟨h.1,fun hn=>by
  obtain ⟨b,off,ha,hlt,hc⟩:=h.2 hn;refine ⟨b,off,ha,Nat.lt_of_lt_of_le hlt hb.size,fun i r hi=>?_⟩;obtain ⟨ai,ci,h1,h2⟩:=hc i r hi
  exact ⟨ai,ci,(hb.cell (p:=⟨b,off+i,none⟩) hlt).trans h1,h2.keep hb⟩⟩
theorem Tab.at_ {w : World} {a : Option Addr} {n : Nat} {T : List (List Int)} (h : Tab w a n T) {k : Nat} (hk : k < n) :
    ∃b off r ai mi ci,a=some ⟨b,off,none⟩∧b<w.heap.size∧w.cell? ⟨b,off+k,none⟩=some (.slice ai mi ci)∧Ints w ai mi r∧Hid (T[k]? = some r):=by
 obtain ⟨b,off,ha,hlt,hc⟩:=h.2 (by omega)
 have hk2:k<T.length:=by have:=h.1;omega
 have hx:T[k]? = some T[k]:=List.getElem?_eq_getElem hk2
 obtain ⟨ai,ci,h1,h2⟩:=hc k _ hx
 exact ⟨b,off,_,ai,_,ci,ha,hlt,h1,h2,hx⟩
structure Rw where
 a:Option Addr
 m:Nat
 c:Nat
 g:Nat
 cs:Array Value
structure Tbl (w:World) (g n:Nat) (R:List Rw):Prop where
 len:R.length=n
 own:∃os:Array Value,Own w g 22 os∧∀(i:Nat) r,R[i]? = some r→os[i]? = some (Value.slice r.a r.m r.c)
 each:∀(i:Nat) r,R[i]? = some r→0<r.m→r.a=some ⟨r.g,0,none⟩∧Own w r.g 2 r.cs∧r.m≤r.cs.size
 apart:∀(i j:Nat) r s,i<j→R[i]? = some r→R[j]? = some s→0<r.m→0<s.m→r.g≠s.g
theorem Tbl.keep {w w':World} {g n:Nat} {R:List Rw} (h:Tbl w g n R) (hb:Below w.heap.size w w'):Tbl w' g n R:=
 ⟨h.len,by obtain ⟨os,h1,h2⟩:=h.own;exact ⟨os,h1.keep hb h1.lt,h2⟩,fun i r h1 h2=>by obtain ⟨h3,h4,h5⟩:=h.each i r h1 h2;exact ⟨h3,h4.keep hb h4.lt,h5⟩,h.apart⟩
def totR (R:List Rw):Nat:=(R.map Rw.m).sum
def mkR (K:Int) (r:Rw):Rw:={ r with cs:=markA (mkI K) r.cs r.m }
def markT (K:Int) (R:List Rw):Nat→List Rw
 | 0=>R
 | k + 1 => match R[k]? with
   | some r=>(markT K R k).set k (mkR (K+totR (R.take k)) r)
   | none=>markT K R k
theorem Tbl.row {w:World} {g n:Nat} {R:List Rw} (h:Tbl w g n R) {k:Nat} {r:Rw} (hr:R[k]? = some r):w.cell? ⟨g,k,none⟩=some (.slice r.a r.m r.c):=by
 obtain ⟨os,h1,h2⟩:=h.own
 rw [h1.cell k]
 exact h2 k r hr
def OwnT (w:World) (lo hi:Nat) (a:Option Addr) (n:Nat) (V:List (List Int)):Prop:=
 V.length=n∧(0<n→∃g R,a=some ⟨g,0,none⟩∧lo≤g∧g<hi∧Tbl w g n R∧(∀r∈R,0<r.m→lo≤r.g∧r.g<hi)∧R.map Rw.m=V.map List.length∧∀(i:Nat) r row,R[i]? = some r→V[i]? = some row→Ints w r.a r.m row)
section
variable {w w':World} {lo hi n:Nat} {a:Option Addr} {V:List (List Int)}
theorem OwnT.none_:OwnT w lo hi none 0 []:=⟨rfl,fun h=>absurd h (by omega)⟩
theorem OwnT.keep (h:OwnT w lo hi a n V) (hb:Below w.heap.size w w'):OwnT w' lo hi a n V:=
 ⟨h.1,fun hn=>by
  obtain ⟨g,R,h1,h2,h3,h4,h5,h6,h7⟩:=h.2 hn
  exact ⟨g,R,h1,h2,h3,h4.keep hb,h5,h6,fun i r row hr hv=>(h7 i r row hr hv).keep hb⟩⟩
theorem OwnT.weaken {lo' hi':Nat} (h:OwnT w lo hi a n V) (k1:lo'≤lo) (k2:hi≤hi'):OwnT w lo' hi' a n V:=
 ⟨h.1,fun hn=>by
  obtain ⟨g,R,h1,h2,h3,h4,h5,h6⟩:=h.2 hn
  exact ⟨g,R,h1,by omega,by omega,h4,fun r hr hm=>by have:=h5 r hr hm;omega,h6⟩⟩
theorem OwnT.tab (h:OwnT w lo hi a n V):Tab w a n V:=
 ⟨h.1,fun hn=>by
  obtain ⟨g,R,rfl,h2,h3,h4,h5,h6,h7⟩:=h.2 hn;obtain ⟨os,ho,-⟩:=h4.own;refine ⟨g,0,rfl,ho.lt,fun i row hi=>?_⟩;have hl:R.length=V.length:=(by rw [h4.len,h.1]);have hiv:=(List.getElem?_eq_some_iff.1 hi).1;have hr:R[i]? = some (R[i]'(by omega)):=List.getElem?_eq_getElem (by omega)
  have hm:(R[i]'(by omega)).m=row.length:=by
   have e:=congrArg (fun l=>l[i]?) h6;simp only [List.getElem?_map,hr,hi,Option.map_some] at e
   injection e
  refine ⟨_,(R[i]'(by omega)).c,?_,hm ▸ h7 i _ row hr hi⟩
  rw [Nat.zero_add,h4.row hr,hm]⟩
end
def MarkedT (w:World) (a:Option Addr) (n:Nat) (K:Int) (tot:Nat):Prop:=
 (n=0∧tot=0)∨∃g R,a=some ⟨g,0,none⟩∧Tbl w g n (markT K R n)∧R.length=n∧(∀(i:Nat) r,R[i]? = some r→r.m≤r.cs.size)∧(∀r∈R,r.m≤1048576)∧totR R=tot
theorem MarkedT.keep {w w':World} {a:Option Addr} {n:Nat} {K:Int} {tot:Nat} (h:MarkedT w a n K tot) (hb:Below w.heap.size w w'):MarkedT w' a n K tot:=by
 rcases h with h | ⟨g,R,h1,h2,h3⟩
 · exact Or.inl h
 · exact Or.inr ⟨g,R,h1,h2.keep hb,h3⟩
def oneFrom (m:List Int):Nat→Nat→Nat
 | 0,k=>k
 | d+1,k=>if m.getD k 0=1 then k else oneFrom m d (k+1)
def oneAt (m:List Int):Nat:=oneFrom m 8 0
def linTo (m:Nat) (fs:List Tm):Nat→List Int
 | 0=>List.replicate m 0
 | k + 1 => match fs[k]? with
   | some t=>if wlen t.m=1 then (linTo m fs k).set (oneAt t.m) t.f else linTo m fs k
   | none=>linTo m fs k
def linRow (m:Nat) (fs:List Tm):List Int:=linTo m fs fs.length
theorem Tryz.info_ints:(Tryz.prog.info? 22).map (fun i=>(i.zero,i.size,i.bytes))=some (some (.slice none 0 0),1,24):=by kernel_rfl
theorem pair_snoc {gs:List Nat} {b g:Nat} (h:(b::gs).Pairwise (· < ·)) (hb:b<g) (hg:∀x∈gs,x<g):(b::(gs++[g])).Pairwise (· < ·):=by
 rw [←List.cons_append]
 refine List.pairwise_append.2 ⟨h,List.pairwise_singleton _ _,fun x hx y hy=>?_⟩
 obtain rfl:y=g:=by simpa using hy
 rcases List.mem_cons.1 hx with rfl | hx
 · exact hb
 · exact hg x hx
def Rows (w:World) (gO dn:Nat) (ims:List (List Tm)) (k:Nat) (gs:List Nat):Prop:=
 gs.length=k∧(∀(i g:Nat) ts,gs[i]? = some g→ims[i]? = some ts→Own w g 2 (((linRow dn ts).map (Value.int .i64)).toArray))∧(gO::gs).Pairwise (· < ·)∧∀x∈gs,x<w.heap.size
theorem Rows.keep {w w':World} {gO dn k:Nat} {ims:List (List Tm)} {gs:List Nat} (h:Rows w gO dn ims k gs) (hb:Below w.heap.size w w'):Rows w' gO dn ims k gs:=
 ⟨h.1,fun i g ts h1 h2=>(h.2.1 i g ts h1 h2).keep hb (h.2.1 i g ts h1 h2).lt,h.2.2.1,fun x hx=>Nat.lt_of_lt_of_le (h.2.2.2 x hx) hb.size⟩
theorem Rows.snoc {w : World} {gO dn k g : Nat} {ims : List (List Tm)} {gs : List Nat} {ts : List Tm} {v : Value} (h : Rows w gO dn ims k gs) (hx : ims[k]? = some ts) (hlt : ∀ x ∈ gs, x < g) (hO : gO < g)
    (hg:Own w g 2 (((linRow dn ts).map (Value.int .i64)).toArray)):Rows (w.setCell ⟨gO,k,none⟩ v) gO dn ims (k+1) (gs++[g]):=by
 have hup:=h.2.2.1
 refine ⟨by rw [List.length_append,h.1];rfl,fun i g' ts' h1 h2=>?_,pair_snoc hup hO hlt,fun x hx=>?_⟩
 · by_cases hi:i<k
   · rw [List.getElem?_append_left (by rw [h.1];exact hi)] at h1;have h3:=(List.pairwise_cons.1 hup).1 g' (List.mem_of_getElem? h1);exact (h.2.1 i g' ts' h1 h2).far (by dsimp only;omega) _
   · have hik : i = k := by
       have:=(List.getElem?_eq_some_iff.1 h1).1;rw [List.length_append,h.1] at this;simp at this
       omega
     subst hik;rw [List.getElem?_append_right (by rw [h.1];omega),h.1,Nat.sub_self] at h1
     injection h1 with h1
     subst h1;rw [hx] at h2
     injection h2 with h2
     subst h2;exact hg.far (by dsimp only;omega) _
 · rcases List.mem_append.1 hx with hx | hx
   · have:=h.2.2.2 x hx;simpa using this
   · obtain rfl:x=g:=(by simpa using hx);have:=hg.lt;simpa using this
theorem Tryz.info_intsA:∃i z,Tryz.prog.info? 22=some i∧i.zero=some z∧i.size=1∧i.bytes=24∧z.cells.size=1:=by
 obtain ⟨i,hi,hzz⟩:=Option.map_eq_some_iff.1 Tryz.info_ints
 simp only [Prod.mk.injEq] at hzz
 obtain ⟨hz,hs,hb⟩:=hzz
 exact ⟨i,_,hi,hz,hs,hb,rfl⟩
theorem empty_rowG (w:World) (t:TypeId) {B:Nat} (hB:B≤w.heap.size):(w.alloc (.cells #[] t)).ownsRow B t 1 (.slice (some ⟨w.heap.size,0,none⟩) 0 0) 0 []:=
 ⟨rfl,Or.inr ⟨w.heap.size,0,#[],rfl,hB,heap_alloc_new w _,Nat.le_refl _,by simp [maxLen],rfl,rfl⟩⟩
def rowSl (m:Nat) (gs:List Nat):List Value:=gs.map (fun g=>Value.slice (some ⟨g,0,none⟩) m m)
def RowsB (w:World) (lo dn:Nat) (ims:List (List Tm)) (k:Nat) (gs:List Nat):Prop:=
 gs.length=k∧(∀(i g:Nat) ts,gs[i]? = some g→ims[i]? = some ts→Own w g 2 (((linRow dn ts).map (Value.int .i64)).toArray))∧gs.Pairwise (· < ·)∧∀x∈gs,lo≤x∧x<w.heap.size
theorem RowsB.keep {w w':World} {lo dn k:Nat} {ims:List (List Tm)} {gs:List Nat} (h:RowsB w lo dn ims k gs) (hb:Below w.heap.size w w'):RowsB w' lo dn ims k gs:=
 ⟨h.1,fun i g ts h1 h2=>(h.2.1 i g ts h1 h2).keep hb (h.2.1 i g ts h1 h2).lt,h.2.2.1,fun x hx=>⟨(h.2.2.2 x hx).1,Nat.lt_of_lt_of_le (h.2.2.2 x hx).2 hb.size⟩⟩
theorem RowsB.grown {w w':World} {lo dn k B m n:Nat} {ims:List (List Tm)} {gs:List Nat} {v:Value} {xs:List Value} (h:RowsB w lo dn ims k gs) (ho:w.ownsRow B 22 m v n xs) (hg:w.grownBy w' v.ownBlock):RowsB w' lo dn ims k gs:=
 ⟨h.1,fun i g ts h1 h2=>(h.2.1 i g ts h1 h2).grown hg (own_ne_row (h.2.1 i g ts h1 h2) ho (by decide)),h.2.2.1,fun x hx=>⟨(h.2.2.2 x hx).1,Nat.lt_of_lt_of_le (h.2.2.2 x hx).2 hg.size⟩⟩
theorem RowsB.snoc {w : World} {lo dn k g : Nat} {ims : List (List Tm)} {gs : List Nat} {ts : List Tm} (h : RowsB w lo dn ims k gs) (hx : ims[k]? = some ts) (hlt : ∀ x ∈ gs, x < g) (hlo : lo ≤ g)
    (hg:Own w g 2 (((linRow dn ts).map (Value.int .i64)).toArray)):RowsB w lo dn ims (k+1) (gs++[g]):=by
 refine ⟨by rw [List.length_append,h.1];rfl,fun i g' ts' h1 h2=>?_,?_,fun x hx=>?_⟩
 · by_cases hi:i<k
   · rw [List.getElem?_append_left (by rw [h.1];exact hi)] at h1;exact h.2.1 i g' ts' h1 h2
   · have hik : i = k := by
       have:=(List.getElem?_eq_some_iff.1 h1).1;rw [List.length_append,h.1] at this;simp at this
       omega
     subst hik;rw [List.getElem?_append_right (by rw [h.1];omega),h.1,Nat.sub_self] at h1
     injection h1 with h1
     subst h1;rw [hx] at h2
     injection h2 with h2
     subst h2;exact hg
 · refine List.pairwise_append.2 ⟨h.2.2.1,List.pairwise_singleton _ _,fun x hx y hy=>?_⟩;obtain rfl:y=g:=(by simpa using hy);exact hlt x hx
 · rcases List.mem_append.1 hx with hx | hx
   · exact h.2.2.2 x hx
   · obtain rfl:x=g:=(by simpa using hx);exact ⟨hlo,hg.lt⟩
theorem ownT_row {w : World} {lo m n : Nat} {gs : List Nat} {V : List (List Int)} {v : Value} (hV : V.length = n) (hgs : gs.length = n) (hm : ∀ row ∈ V, row.length = m) (ho : w.ownsRow lo 22 1 v n (rowSl m gs))
    (hr:∀(i g:Nat) row,gs[i]? = some g→V[i]? = some row→Own w g 2 ((row.map (Value.int .i64)).toArray)) (hlg:∀g∈gs,lo≤g) (hup:gs.Pairwise (· < ·)):∃a c,v=.slice a n c∧OwnT w lo w.heap.size a n V:=by
 rcases ho.2 with ⟨hv,h0⟩ | ⟨gO,cap,cur,hv,hb,hg,hn,hmx,hs,ht⟩
 · subst h0;have hV0:V=[]:=List.eq_nil_of_length_eq_zero hV;subst hV0;exact ⟨none,0,hv,OwnT.none_⟩
 refine ⟨some ⟨gO,0,none⟩,cap,hv,hV,fun _=>⟨gO,(List.zipWith (fun g row=>(⟨some ⟨g,0,none⟩,m,m,g,((row.map (Value.int .i64)).toArray)⟩:Rw)) gs V),rfl,hb,(show Own w gO 22 cur from hg).lt,⟨by simp [hgs,hV],⟨cur,hg,?_⟩,?_,?_⟩,?_,?_,?_⟩⟩
 · intro i r hr0;rw [List.getElem?_zipWith] at hr0
   cases hg:gs[i]? with
   | none=>rw [hg] at hr0;simp at hr0
   | some g =>
     cases hv:V[i]? with
     | none=>rw [hg,hv] at hr0;simp at hr0
     | some row =>
       rw [hg,hv] at hr0
       injection hr0 with hr0
       subst hr0;have h1:(rowSl m gs)[i]? = some (Value.slice (some ⟨g,0,none⟩) m m):=(by rw [rowSl,List.getElem?_map,hg];rfl);have hi:=(List.getElem?_eq_some_iff.1 hg).1;rw [←ht,Nat.mul_one,List.getElem?_take,if_pos (by omega),Array.getElem?_toList] at h1;exact h1
 · intro i r hr0 hp;rw [List.getElem?_zipWith] at hr0
   cases hg:gs[i]? with
   | none=>rw [hg] at hr0;simp at hr0
   | some g =>
     cases hv:V[i]? with
     | none=>rw [hg,hv] at hr0;simp at hr0
     | some row =>
       rw [hg,hv] at hr0
       injection hr0 with hr0
       subst hr0;exact ⟨rfl,hr i g row hg hv,by have:=hm row (List.mem_of_getElem? hv);simp;omega⟩
 · intro i j r s hij hr0 hs0 _ _;rw [List.getElem?_zipWith] at hr0 hs0
   cases hg:gs[i]? with
   | none=>rw [hg] at hr0;simp at hr0
   | some g =>
     cases hv:V[i]? with
     | none=>rw [hg,hv] at hr0;simp at hr0
     | some row =>
       cases hg':gs[j]? with
       | none=>rw [hg'] at hs0;simp at hs0
       | some g' =>
         cases hv':V[j]? with
         | none=>rw [hg',hv'] at hs0;simp at hs0
         | some row' =>
           rw [hg,hv] at hr0;rw [hg',hv'] at hs0
           injection hr0 with hr0
           injection hs0 with hs0
           subst hr0;subst hs0;obtain ⟨h1,h2⟩:=List.getElem?_eq_some_iff.1 hg;obtain ⟨h3,h4⟩:=List.getElem?_eq_some_iff.1 hg';have:=List.pairwise_iff_getElem.1 hup i j h1 h3 hij;rw [h2,h4] at this;exact Nat.ne_of_lt this
 · intro r hr0 _;obtain ⟨i,hi,hri⟩:=List.mem_iff_getElem.1 hr0;have hr1:=List.getElem?_eq_getElem hi;rw [hri,List.getElem?_zipWith] at hr1
   cases hg:gs[i]? with
   | none=>rw [hg] at hr1;simp at hr1
   | some g =>
     cases hv:V[i]? with
     | none=>rw [hg,hv] at hr1;simp at hr1
     | some row =>
       rw [hg,hv] at hr1
       injection hr1 with hr1
       subst hr1;exact ⟨hlg g (List.mem_of_getElem? hg),(hr i g row hg hv).lt⟩
 · apply List.ext_getElem?
   intro i;rw [List.getElem?_map,List.getElem?_zipWith,List.getElem?_map]
   cases hv:V[i]? with
   | none=>cases gs[i]? <;> rfl
   | some row =>
     have hi:=(List.getElem?_eq_some_iff.1 hv).1;rw [List.getElem?_eq_getElem (show i<gs.length by omega)];simp [hm row (List.mem_of_getElem? hv)]
 · intro i r row hr0 hv;rw [List.getElem?_zipWith,hv] at hr0
   cases hg:gs[i]? with
   | none=>rw [hg] at hr0;simp at hr0
   | some g =>
     rw [hg] at hr0
     injection hr0 with hr0
     subst hr0;exact IntBlk.ints' (hr i g row hg hv) (hm row (List.mem_of_getElem? hv))
def RowsV (w:World) (gO:Nat) (V:List (List Int)) (k:Nat) (gs:List Nat):Prop:=
 gs.length=k∧(∀(i g:Nat) row,gs[i]? = some g→V[i]? = some row→Own w g 2 (ofI row))∧(gO::gs).Pairwise (· < ·)∧∀x∈gs,x<w.heap.size
theorem RowsV.keep {w w':World} {gO k:Nat} {V:List (List Int)} {gs:List Nat} (h:RowsV w gO V k gs) (hb:Below w.heap.size w w'):RowsV w' gO V k gs:=
 ⟨h.1,fun i g row h1 h2=>(h.2.1 i g row h1 h2).keep hb (h.2.1 i g row h1 h2).lt,h.2.2.1,fun x hx=>Nat.lt_of_lt_of_le (h.2.2.2 x hx) hb.size⟩
theorem RowsV.snoc {w : World} {gO k g : Nat} {V : List (List Int)} {gs : List Nat} {row : List Int} {v : Value} (h : RowsV w gO V k gs) (hx : V[k]? = some row) (hlt : ∀ x ∈ gs, x < g) (hO : gO < g)
    (hg:Own w g 2 (ofI row)):RowsV (w.setCell ⟨gO,k,none⟩ v) gO V (k+1) (gs++[g]):=by
 have hup:=h.2.2.1
 refine ⟨by rw [List.length_append,h.1];rfl,fun i g' ts' h1 h2=>?_,pair_snoc hup hO hlt,fun x hx=>?_⟩
 · by_cases hi:i<k
   · rw [List.getElem?_append_left (by rw [h.1];exact hi)] at h1;have h3:=(List.pairwise_cons.1 hup).1 g' (List.mem_of_getElem? h1);exact (h.2.1 i g' ts' h1 h2).far (by dsimp only;omega) _
   · have hik : i = k := by
       have:=(List.getElem?_eq_some_iff.1 h1).1;rw [List.length_append,h.1] at this;simp at this
       omega
     subst hik;rw [List.getElem?_append_right (by rw [h.1];omega),h.1,Nat.sub_self] at h1
     injection h1 with h1
     subst h1;rw [hx] at h2
     injection h2 with h2
     subst h2;exact hg.far (by dsimp only;omega) _
 · rcases List.mem_append.1 hx with hx | hx
   · have:=h.2.2.2 x hx;simpa using this
   · obtain rfl:x=g:=(by simpa using hx);have:=hg.lt;simpa using this
end Go.Proofs.YtfheammnkmjabaaGreat
