
import Derived.Test.YtifcfoijcodjbaaGreatSingle
import Derived.Test.YtifcfoijcodjbaaGreatTbl
import Derived.Deep.RegionWith
import Derived.Test.YtifcfoijcodjbaaGreatAlgR
import Derived.Deep.DeepAppendWide
import Derived.Test.YtifcfoijcodjbaaGreatRows3
namespace Go.Proofs.YtifcfoijcodjbaaGreat
set_option maxRecDepth 100000
open Go.RowKit Go.Deep
def oneFrom (m:List Int):Nat→Nat→Nat
 | 0,k=>k
 | d+1,k=>if m.getD k 0=1 then k else oneFrom m d (k+1)
def oneAt (m:List Int):Nat:=oneFrom m 8 0
def linTo (m:Nat) (fs:List Tm):Nat→List Int
 | 0=>List.replicate m 0
 | k + 1 => match fs[k]? with
   | some t=>if wlen t.m=1 then (linTo m fs k).set (oneAt t.m) t.f else linTo m fs k
   | none=>linTo m fs k
def linRow (m:Nat) (fs:List Tm):List Int:=linTo m fs fs.length
theorem Tryz.info_ints:(Tryz.prog.info? 22).map (fun i=>(i.zero,i.size,i.bytes))=some (some (.slice none 0 0),1,24):=by kernel_rfl
theorem pair_snoc {gs:List Nat} {b g:Nat} (h:(b::gs).Pairwise (· < ·)) (hb:b<g) (hg:∀x∈gs,x<g):(b::(gs++[g])).Pairwise (· < ·):=by
 rw [←List.cons_append]
 refine List.pairwise_append.2 ⟨h,List.pairwise_singleton _ _,fun x hx y hy=>?_⟩
 obtain rfl:y=g:=by simpa using hy
 rcases List.mem_cons.1 hx with rfl | hx
 · exact hb
 · exact hg x hx
def Rows (w:World) (gO dn:Nat) (ims:List (List Tm)) (k:Nat) (gs:List Nat):Prop:=
 gs.length=k∧(∀(i g:Nat) ts,gs[i]? = some g→ims[i]? = some ts→Own w g 2 (((linRow dn ts).map (Value.int .i64)).toArray))∧(gO::gs).Pairwise (· < ·)∧∀x∈gs,x<w.heap.size
theorem Rows.keep {w w':World} {gO dn k:Nat} {ims:List (List Tm)} {gs:List Nat} (h:Rows w gO dn ims k gs) (hb:Below w.heap.size w w'):Rows w' gO dn ims k gs:=
 ⟨h.1,fun i g ts h1 h2=>(h.2.1 i g ts h1 h2).keep hb (h.2.1 i g ts h1 h2).lt,h.2.2.1,fun x hx=>Nat.lt_of_lt_of_le (h.2.2.2 x hx) hb.size⟩
theorem Rows.snoc {w : World} {gO dn k g : Nat} {ims : List (List Tm)} {gs : List Nat} {ts : List Tm} {v : Value} (h : Rows w gO dn ims k gs) (hx : ims[k]? = some ts) (hlt : ∀ x ∈ gs, x < g) (hO : gO < g)
    (hg:Own w g 2 (((linRow dn ts).map (Value.int .i64)).toArray)):Rows (w.setCell ⟨gO,k,none⟩ v) gO dn ims (k+1) (gs++[g]):=by
 have hup:=h.2.2.1
 refine ⟨by rw [List.length_append,h.1];rfl,fun i g' ts' h1 h2=>?_,pair_snoc hup hO hlt,fun x hx=>?_⟩
 · by_cases hi:i<k
   · rw [List.getElem?_append_left (by rw [h.1];exact hi)] at h1;have h3:=(List.pairwise_cons.1 hup).1 g' (List.mem_of_getElem? h1);exact (h.2.1 i g' ts' h1 h2).far (by dsimp only;omega) _
   · have hik : i = k := by
       have:=(List.getElem?_eq_some_iff.1 h1).1;rw [List.length_append,h.1] at this;simp at this
       omega
     subst hik;rw [List.getElem?_append_right (by rw [h.1];omega),h.1,Nat.sub_self] at h1
     injection h1 with h1
     subst h1;rw [hx] at h2
     injection h2 with h2
     subst h2;exact hg.far (by dsimp only;omega) _
 · rcases List.mem_append.1 hx with hx | hx
   · have:=h.2.2.2 x hx;simpa using this
   · obtain rfl:x=g:=(by simpa using hx);have:=hg.lt;simpa using this
theorem Tryz.info_intsA:∃i z,Tryz.prog.info? 22=some i∧i.zero=some z∧i.size=1∧i.bytes=24∧z.cells.size=1:=by
 obtain ⟨i,hi,hzz⟩:=Option.map_eq_some_iff.1 Tryz.info_ints
 simp only [Prod.mk.injEq] at hzz
 obtain ⟨hz,hs,hb⟩:=hzz
 exact ⟨i,_,hi,hz,hs,hb,rfl⟩
theorem empty_rowG (w:World) (t:TypeId) {B:Nat} (hB:B≤w.heap.size):(w.alloc (.cells #[] t)).ownsRow B t 1 (.slice (some ⟨w.heap.size,0,none⟩) 0 0) 0 []:=
 ⟨rfl,Or.inr ⟨w.heap.size,0,#[],rfl,hB,heap_alloc_new w _,Nat.le_refl _,by simp [maxLen],rfl,rfl⟩⟩
def rowSl (m:Nat) (gs:List Nat):List Value:=gs.map (fun g=>Value.slice (some ⟨g,0,none⟩) m m)
def RowsB (w:World) (lo dn:Nat) (ims:List (List Tm)) (k:Nat) (gs:List Nat):Prop:=
 gs.length=k∧(∀(i g:Nat) ts,gs[i]? = some g→ims[i]? = some ts→Own w g 2 (((linRow dn ts).map (Value.int .i64)).toArray))∧gs.Pairwise (· < ·)∧∀x∈gs,lo≤x∧x<w.heap.size
theorem RowsB.keep {w w':World} {lo dn k:Nat} {ims:List (List Tm)} {gs:List Nat} (h:RowsB w lo dn ims k gs) (hb:Below w.heap.size w w'):RowsB w' lo dn ims k gs:=
 ⟨h.1,fun i g ts h1 h2=>(h.2.1 i g ts h1 h2).keep hb (h.2.1 i g ts h1 h2).lt,h.2.2.1,fun x hx=>⟨(h.2.2.2 x hx).1,Nat.lt_of_lt_of_le (h.2.2.2 x hx).2 hb.size⟩⟩
theorem RowsB.grown {w w':World} {lo dn k B m n:Nat} {ims:List (List Tm)} {gs:List Nat} {v:Value} {xs:List Value} (h:RowsB w lo dn ims k gs) (ho:w.ownsRow B 22 m v n xs) (hg:w.grownBy w' v.ownBlock):RowsB w' lo dn ims k gs:=
 ⟨h.1,fun i g ts h1 h2=>(h.2.1 i g ts h1 h2).grown hg (own_ne_row (h.2.1 i g ts h1 h2) ho (by decide)),h.2.2.1,fun x hx=>⟨(h.2.2.2 x hx).1,Nat.lt_of_lt_of_le (h.2.2.2 x hx).2 hg.size⟩⟩
theorem RowsB.snoc {w : World} {lo dn k g : Nat} {ims : List (List Tm)} {gs : List Nat} {ts : List Tm} (h : RowsB w lo dn ims k gs) (hx : ims[k]? = some ts) (hlt : ∀ x ∈ gs, x < g) (hlo : lo ≤ g)
    (hg:Own w g 2 (((linRow dn ts).map (Value.int .i64)).toArray)):RowsB w lo dn ims (k+1) (gs++[g]):=by
 refine ⟨by rw [List.length_append,h.1];rfl,fun i g' ts' h1 h2=>?_,?_,fun x hx=>?_⟩
 · by_cases hi:i<k
   · rw [List.getElem?_append_left (by rw [h.1];exact hi)] at h1;exact h.2.1 i g' ts' h1 h2
   · have hik : i = k := by
       have:=(List.getElem?_eq_some_iff.1 h1).1;rw [List.length_append,h.1] at this;simp at this
       omega
     subst hik;rw [List.getElem?_append_right (by rw [h.1];omega),h.1,Nat.sub_self] at h1
     injection h1 with h1
     subst h1;rw [hx] at h2
     injection h2 with h2
     subst h2;exact hg
 · refine List.pairwise_append.2 ⟨h.2.2.1,List.pairwise_singleton _ _,fun x hx y hy=>?_⟩;obtain rfl:y=g:=(by simpa using hy);exact hlt x hx
 · rcases List.mem_append.1 hx with hx | hx
   · exact h.2.2.2 x hx
   · obtain rfl:x=g:=(by simpa using hx);exact ⟨hlo,hg.lt⟩
theorem ownT_row {w : World} {lo m n : Nat} {gs : List Nat} {V : List (List Int)} {v : Value} (hV : V.length = n) (hgs : gs.length = n) (hm : ∀ row ∈ V, row.length = m) (ho : w.ownsRow lo 22 1 v n (rowSl m gs))
    (hr:∀(i g:Nat) row,gs[i]? = some g→V[i]? = some row→Own w g 2 ((row.map (Value.int .i64)).toArray)) (hlg:∀g∈gs,lo≤g) (hup:gs.Pairwise (· < ·)):∃a c,v=.slice a n c∧OwnT w lo w.heap.size a n V:=by
 rcases ho.2 with ⟨hv,h0⟩ | ⟨gO,cap,cur,hv,hb,hg,hn,hmx,hs,ht⟩
 · subst h0;have hV0:V=[]:=List.eq_nil_of_length_eq_zero hV;subst hV0;exact ⟨none,0,hv,OwnT.none_⟩
 refine ⟨some ⟨gO,0,none⟩,cap,hv,hV,fun _=>⟨gO,(List.zipWith (fun g row=>(⟨some ⟨g,0,none⟩,m,m,g,((row.map (Value.int .i64)).toArray)⟩:Rw)) gs V),rfl,hb,(show Own w gO 22 cur from hg).lt,⟨by simp [hgs,hV],⟨cur,hg,?_⟩,?_,?_⟩,?_,?_,?_⟩⟩
 · intro i r hr0;rw [List.getElem?_zipWith] at hr0
   cases hg:gs[i]? with
   | none=>rw [hg] at hr0;simp at hr0
   | some g =>
     cases hv:V[i]? with
     | none=>rw [hg,hv] at hr0;simp at hr0
     | some row =>
       rw [hg,hv] at hr0
       injection hr0 with hr0
       subst hr0;have h1:(rowSl m gs)[i]? = some (Value.slice (some ⟨g,0,none⟩) m m):=(by rw [rowSl,List.getElem?_map,hg];rfl);have hi:=(List.getElem?_eq_some_iff.1 hg).1;rw [←ht,Nat.mul_one,List.getElem?_take,if_pos (by omega),Array.getElem?_toList] at h1;exact h1
 · intro i r hr0 hp;rw [List.getElem?_zipWith] at hr0
   cases hg:gs[i]? with
   | none=>rw [hg] at hr0;simp at hr0
   | some g =>
     cases hv:V[i]? with
     | none=>rw [hg,hv] at hr0;simp at hr0
     | some row =>
       rw [hg,hv] at hr0
       injection hr0 with hr0
       subst hr0;exact ⟨rfl,hr i g row hg hv,by have:=hm row (List.mem_of_getElem? hv);simp;omega⟩
 · intro i j r s hij hr0 hs0 _ _;rw [List.getElem?_zipWith] at hr0 hs0
   cases hg:gs[i]? with
   | none=>rw [hg] at hr0;simp at hr0
   | some g =>
     cases hv:V[i]? with
     | none=>rw [hg,hv] at hr0;simp at hr0
     | some row =>
       cases hg':gs[j]? with
       | none=>rw [hg'] at hs0;simp at hs0
       | some g' =>
         cases hv':V[j]? with
         | none=>rw [hg',hv'] at hs0;simp at hs0
         | some row' =>
           rw [hg,hv] at hr0;rw [hg',hv'] at hs0
           injection hr0 with hr0
           injection hs0 with hs0
           subst hr0;subst hs0;obtain ⟨h1,h2⟩:=List.getElem?_eq_some_iff.1 hg;obtain ⟨h3,h4⟩:=List.getElem?_eq_some_iff.1 hg';have:=List.pairwise_iff_getElem.1 hup i j h1 h3 hij;rw [h2,h4] at this;exact Nat.ne_of_lt this
 · intro r hr0 _;obtain ⟨i,hi,hri⟩:=List.mem_iff_getElem.1 hr0;have hr1:=List.getElem?_eq_getElem hi;rw [hri,List.getElem?_zipWith] at hr1
   cases hg:gs[i]? with
   | none=>rw [hg] at hr1;simp at hr1
   | some g =>
     cases hv:V[i]? with
     | none=>rw [hg,hv] at hr1;simp at hr1
     | some row =>
       rw [hg,hv] at hr1
       injection hr1 with hr1
       subst hr1;exact ⟨hlg g (List.mem_of_getElem? hg),(hr i g row hg hv).lt⟩
 · apply List.ext_getElem?
   intro i;rw [List.getElem?_map,List.getElem?_zipWith,List.getElem?_map]
   cases hv:V[i]? with
   | none=>cases gs[i]? <;> rfl
   | some row =>
     have hi:=(List.getElem?_eq_some_iff.1 hv).1;rw [List.getElem?_eq_getElem (show i<gs.length by omega)];simp [hm row (List.mem_of_getElem? hv)]
 · intro i r row hr0 hv;rw [List.getElem?_zipWith,hv] at hr0
   cases hg:gs[i]? with
   | none=>rw [hg] at hr0;simp at hr0
   | some g =>
     rw [hg] at hr0
     injection hr0 with hr0
     subst hr0;exact IntBlk.ints' (hr i g row hg hv) (hm row (List.mem_of_getElem? hv))
def copyTo (R:List Int) (k:Nat):List Int:=R.take k++List.replicate (R.length - k) 0
theorem copyTo_len {R:List Int} {k:Nat} (hk:k≤R.length):(copyTo R k).length=R.length:=by
 rw [copyTo,List.length_append,List.length_take,List.length_replicate]
 omega
theorem copyTo_set {R:List Int} {k:Nat} {x:Int} (h:R[k]? = some x):(copyTo R k).set k x=copyTo R (k+1):=by
 have hl:=(List.getElem?_eq_some_iff.1 h).1
 have h1:(R.take k).length=k:=by rw [List.length_take];omega
 rw [copyTo,List.set_append_right _ _ (by omega),h1,Nat.sub_self,show R.length - k=(R.length - (k+1))+1 by omega,List.replicate_succ,List.set_cons_zero,copyTo,List.take_add_one,h,Option.toList_some,List.append_assoc]
 rfl
set_option maxHeartbeats 4000000 in
theorem integers_c {w : World} {g off W : Nat} {R : List Int} (c : Nat) (hW : R.length = W) (hn : W ≤ 1000) (hg : g < w.heap.size) (hc : ∀ i x, R[i]? = some x → w.cell? ⟨g, off + i, none⟩ = some (.int .i64 x)) :
    Calls Tryz.prog 63 #[.slice (some ⟨g,off,none⟩) W c] w fun e w'=>∃g',e=.returned (.slice (some ⟨g',0,none⟩) W W)∧w.heap.size≤g'∧Own w' g' 2 (ofI R)∧Below w.heap.size w w':=by
 have HW:=Lib.hid hW
 have HC:=Lib.hid hc
 have hmk:=run_make_row' (P:=Tryz.prog) 22 2 (.int .i64 0) 8 Tryz.underlying22 Tryz.info_int64 rfl .i64 .i64 W (by omega) (by omega)
 rw [show madeCells #[Value.int .i64 0] W=Array.replicate W (Value.int .i64 0) by (apply Array.ext';rw [toList_madeCells_one];simp)] at hmk
 have hmk1:=hmk w
 have hR0:Own (w.alloc (.cells (Array.replicate W (Value.int .i64 0)) 2)) w.heap.size 2 (ofI (copyTo R 0)):=by
  rw [copyTo,List.take_zero,Nat.sub_zero,hW,List.nil_append,←ofI_rep];exact Own.new _ _ _
 have hb:=bA1 w (.cells (Array.replicate W (Value.int .i64 0)) 2)
 clear hmk hc hW
 go_enter Tryz.func63,Tryz.ntmps63
 go_upto_region 2 with fail
 clear hmk1
 generalize hw1:w.alloc (.cells (Array.replicate W (Value.int .i64 0)) 2)=w1 at *
 have HGL:=Lib.hid hg
 clear hg hw1
 generalize hge:w.heap.size=gR at *
 have HGE:=Lib.hid hge
 clear hge
 go_upto_region 3 with fail
 go_loopw [11] (fun y wr=>∃k:Nat,k≤W∧y=.int .i64 k∧Below gR w wr∧Own wr gR 2 (ofI (copyTo R k))) (fun y _=>W - (intOf y).toNat)
 case atStart=>exact ⟨0,Nat.zero_le _,rfl,hb,hR0⟩
 case round=>
  clear hb hR0;obtain ⟨k,hk,rfl,hb,hR⟩:=hrel;by_cases hkn:k<W
  · have hki:(k:Int)<(W:Int):=(by omega);have hk0:(0:Int)≤(k:Int):=(by omega);obtain ⟨x,hx⟩:∃x,R[k]? = some x:=⟨_,List.getElem?_eq_getElem (by rw [HW.out];exact hkn)⟩;have hcx:=(World.cell?_of_block (a:=⟨g,off+k,none⟩) (hb.block g HGL.out)).trans (HC.out k x hx);have HST:=Lib.hid (copyTo_set hx);have hfz:=hR.frozen k;obtain ⟨ov,hcv⟩:=hR.has (i:=k) (by rw [ofI,List.size_toArray,List.length_map,copyTo_len (by rw [HW.out];exact hk),HW.out];exact hkn);clear hx;go_wp2_with fail
    go_roundw
    case rel=>
     refine ⟨k+1,by omega,by go_num,hb.setCell (p:=⟨gR,k,none⟩) (by dsimp only;omega) _,?_⟩;rw [←HST.out,←ofI_set];exact hR.set k _
    case measure=>simp [intOf] <;> omega
  · obtain rfl:k=W:=(by omega);go_wp2_with fail
    go_ret
    have he:copyTo R k=R:=(by rw [copyTo,←HW.out,List.take_length,Nat.sub_self,List.replicate_zero,List.append_nil]);rw [he] at hR;exact ⟨gR,rfl,by have:=HGE.out;omega,hR,by rw [HGE.out];exact hb⟩
def RowsV (w:World) (gO:Nat) (V:List (List Int)) (k:Nat) (gs:List Nat):Prop:=
 gs.length=k∧(∀(i g:Nat) row,gs[i]? = some g→V[i]? = some row→Own w g 2 (ofI row))∧(gO::gs).Pairwise (· < ·)∧∀x∈gs,x<w.heap.size
theorem RowsV.keep {w w':World} {gO k:Nat} {V:List (List Int)} {gs:List Nat} (h:RowsV w gO V k gs) (hb:Below w.heap.size w w'):RowsV w' gO V k gs:=
 ⟨h.1,fun i g row h1 h2=>(h.2.1 i g row h1 h2).keep hb (h.2.1 i g row h1 h2).lt,h.2.2.1,fun x hx=>Nat.lt_of_lt_of_le (h.2.2.2 x hx) hb.size⟩
theorem RowsV.snoc {w : World} {gO k g : Nat} {V : List (List Int)} {gs : List Nat} {row : List Int} {v : Value} (h : RowsV w gO V k gs) (hx : V[k]? = some row) (hlt : ∀ x ∈ gs, x < g) (hO : gO < g)
    (hg:Own w g 2 (ofI row)):RowsV (w.setCell ⟨gO,k,none⟩ v) gO V (k+1) (gs++[g]):=by
 have hup:=h.2.2.1
 refine ⟨by rw [List.length_append,h.1];rfl,fun i g' ts' h1 h2=>?_,pair_snoc hup hO hlt,fun x hx=>?_⟩
 · by_cases hi:i<k
   · rw [List.getElem?_append_left (by rw [h.1];exact hi)] at h1;have h3:=(List.pairwise_cons.1 hup).1 g' (List.mem_of_getElem? h1);exact (h.2.1 i g' ts' h1 h2).far (by dsimp only;omega) _
   · have hik : i = k := by
       have:=(List.getElem?_eq_some_iff.1 h1).1;rw [List.length_append,h.1] at this;simp at this
       omega
     subst hik;rw [List.getElem?_append_right (by rw [h.1];omega),h.1,Nat.sub_self] at h1
     injection h1 with h1
     subst h1;rw [hx] at h2
     injection h2 with h2
     subst h2;exact hg.far (by dsimp only;omega) _
 · rcases List.mem_append.1 hx with hx | hx
   · have:=h.2.2.2 x hx;simpa using this
   · obtain rfl:x=g:=(by simpa using hx);have:=hg.lt;simpa using this
end Go.Proofs.YtifcfoijcodjbaaGreat
