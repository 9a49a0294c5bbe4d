
import Derived.Test.YtikldofmpkidbaaWord
import Derived.Test.YtikldofmpkidbaaClosed
import Derived.Test.YtikldofmpkidbaaTbl
import Derived.Deep.RegionWith
import Derived.Test.YtikldofmpkidbaaKeep
import Derived.Deep.DeepAppendWide
namespace Go.Proofs.Ytikldofmpkidbaa
set_option maxRecDepth 100000
open Go.RowKit Go.Deep
def oneFrom (m:List Int):Nat→Nat→Nat
 | 0,k=>k
 | d+1,k=>if m.getD k 0=1 then k else oneFrom m d (k+1)
def oneAt (m:List Int):Nat:=oneFrom m 8 0
theorem wlTo_mono {m:List Int} (h:IsMono m) {j k:Nat} (hjk:j≤k):wlTo m j≤wlTo m k:=by
 induction k with
 | zero => have : j = 0 := by omega
           subst this;exact Int.le_refl _
 | succ k ih =>
   by_cases e:j=k+1
   · subst e;exact Int.le_refl _
   · have h1:=ih (by omega);have h2:=(getD_mono h k).1;rw [wlTo];omega
theorem one_uniq {m:List Int} (h:IsMono m) (h1:wlen m=1) {i:Nat} (hi:i<8) (hx:m.getD i 0=1):∀j,j<8→¬j=i→m.getD j 0=0:=by
 intro j hj hne
 have hj0:=(getD_mono h j).1
 rcases Nat.lt_or_gt_of_ne hne with hlt | hgt
 · have a1:=wlTo_mono h (show j+1≤i by omega);have a2:=wlTo_mono h (show i+1≤8 by omega);have a3:=(wlTo_bd h j).1;rw [wlen] at h1;rw [wlTo] at a1 a2;omega
 · have a1:=wlTo_mono h (show i+1≤j by omega);have a2:=wlTo_mono h (show j+1≤8 by omega);have a3:=(wlTo_bd h i).1;rw [wlen] at h1;rw [wlTo] at a1 a2;omega
theorem one_ex {m:List Int} (h:IsMono m) (h1:wlen m=1):∃i,i<8∧m.getD i 0=1:=by
 have key:∀k,k≤8→wlTo m k=1→∃i,i<k∧m.getD i 0=1:=by
  intro k
  induction k with
  | zero=>intro _ h;simp [wlTo] at h
  | succ k ih =>
    intro hk hs;rw [wlTo] at hs;have a1:=(wlTo_bd h k).1;have a2:=(getD_mono h k).1;by_cases e:m.getD k 0=1
    · exact ⟨k,by omega,e⟩
    · obtain ⟨i,hi,hx⟩:=ih (by omega) (by omega);exact ⟨i,by omega,hx⟩
 exact key 8 (Nat.le_refl _) h1
theorem oneFrom_eq {m:List Int} {i:Nat} (hx:m.getD i 0=1) (hz:∀j,j<i→¬m.getD j 0=1):∀d k,k≤i→i<k+d→oneFrom m d k=i
 | 0,k,h1,h2=>by omega
 | d + 1, k, h1, h2 => by
   rw [oneFrom];by_cases e:k=i
   · subst e;rw [if_pos hx]
   · rw [if_neg (hz k (by omega))];exact oneFrom_eq hx hz d (k+1) (by omega) (by omega)
theorem oneAt_spec {m:List Int} (h:IsMono m) (h1:wlen m=1):oneAt m<8∧m.getD (oneAt m) 0=1∧∀j,j<8→¬j=oneAt m→m.getD j 0=0:=by
 obtain ⟨i,hi,hx⟩:=one_ex h h1
 have hu:=one_uniq h h1 hi hx
 have he:oneAt m=i:=oneFrom_eq hx (fun j hj e=>by have:=hu j (by omega) (by omega);omega) 8 0 (by omega) (by omega)
 rw [he]
 exact ⟨hi,hx,hu⟩
def linTo (m:Nat) (fs:List Tm):Nat→List Int
 | 0=>List.replicate m 0
 | k + 1 => match fs[k]? with
   | some t=>if wlen t.m=1 then (linTo m fs k).set (oneAt t.m) t.f else linTo m fs k
   | none=>linTo m fs k
def linRow (m:Nat) (fs:List Tm):List Int:=linTo m fs fs.length
theorem linTo_len (m:Nat) (fs:List Tm):∀k,(linTo m fs k).length=m
 | 0=>by simp [linTo]
 | k + 1 => by
   rw [linTo];split
   · split
     · rw [List.length_set];exact linTo_len m fs k
     · exact linTo_len m fs k
   · exact linTo_len m fs k
theorem linTo_yes {m:Nat} {fs:List Tm} {k:Nat} {t:Tm} (h:fs[k]? = some t) (h1:wlen t.m=1):linTo m fs (k+1)=(linTo m fs k).set (oneAt t.m) t.f:=by
 rw [linTo,h]
 simp only [if_pos h1]
theorem linTo_no {m:Nat} {fs:List Tm} {k:Nat} {t:Tm} (h:fs[k]? = some t) (h1:¬wlen t.m=1):linTo m fs (k+1)=linTo m fs k:=by
 rw [linTo,h]
 simp only [if_neg h1]
theorem one_lt {zs m:List Int} {n:Nat} (hm:IsMono m) (ok:monoOk zs m=true) (hn:zs.length=n) (h1:wlen m=1):oneAt m<n:=by
 obtain ⟨h2,h3,-⟩:=oneAt_spec hm h1
 by_cases h:oneAt m<n
 · exact h
 · have hl:oneAt m<m.length:=(by rw [hm.1];exact h2);have h4:=monoOk_at ok h2 (List.getElem?_eq_getElem hl);rw [capAt,List.getElem?_eq_none (by omega)] at h4;rw [List.getD_eq_getElem?_getD,List.getElem?_eq_getElem hl] at h3;simp only [Option.getD_some] at h3;have h5:m[oneAt m]≤0:=h4;omega
theorem index1_c {w : World} {g : Nat} {cs : Array Value} {m : List Int} {t : TypeId} (c : Nat) (h : Own w g t cs) (hc : ∀ (i : Nat) (y : Int), m[i]? = some y → cs[i]? = some (Value.int .u8 y)) (hm : IsMono m) (h1 : wlen m = 1) :
    Calls Try.prog 114 #[.slice (some ⟨g,0,none⟩) 8 c,.int .u8 1] w fun e w'=>e=.returned (.int .i64 (oneAt m:Nat))∧Below w.heap.size w w':=by
 have HM:=Lib.hid hm
 have HC:=Lib.hid hc
 have HH:=Lib.hid h
 have HS:=Lib.hid (oneAt_spec hm h1)
 obtain ⟨i,hi⟩:∃i,oneAt m=i:=⟨_,rfl⟩
 rw [hi]
 have HI:=Lib.hid hi
 have hi8:i<8:=by have:=HS.out.1;rw [hi] at this;exact this
 clear hm hc h h1 hi
 go_enter Try.func114,Try.ntmps114
 go_wp2_with fail
 go_loopw [8] (fun y wr=>∃k:Nat,k≤i∧y=.int .i64 k∧Below w.heap.size w wr) (fun y _=>8 - (intOf y).toNat)
 case atStart=>exact ⟨0,Nat.zero_le _,rfl,Below.refl _ _⟩
 case round=>
  obtain ⟨k,hk,rfl,hb⟩:=hrel;have hk8:k<8:=(by omega);have hkl:k<m.length:=(by rw [HM.out.1];exact hk8);obtain ⟨y,hy⟩:∃y,m[k]? = some y:=⟨_,List.getElem?_eq_getElem hkl⟩;have hcell:wr.cell? ⟨g,k,none⟩=some (.int .u8 y):=(by rw [(HH.out.keep hb HH.out.lt).cell k];exact HC.out k y hy);have HY:=Lib.hid hy;clear hy;have hk0:(0:Int)≤(k:Int):=(by omega);have hkn:(k:Int)<8:=(by omega);by_cases he:k=i
  · have hy1 : y = 1 := by
      have:=HS.out.2.1;rw [HI.out,←he,List.getD_eq_getElem?_getD,HY.out] at this;exact this
    subst hy1;subst he;go_wp2_with fail
    go_ret
    exact ⟨rfl,hb⟩
  · have hy0 : y = 0 := by
      have:=HS.out.2.2 k hk8 (by rw [HI.out];exact he);rw [List.getD_eq_getElem?_getD,HY.out] at this;exact this
    subst hy0;go_wp2_with fail
    go_roundw
    case rel=>exact ⟨k+1,by omega,by go_num,hb⟩
    case measure=>simp [intOf] <;> omega
theorem ints_set {w:World} {g i:Nat} {v:Int} {zs:List Int} (h:Own w g 2 ((zs.map (Value.int .i64)).toArray)):Own (w.setCell ⟨g,i,none⟩ (.int .i64 v)) g 2 (((zs.set i v).map (Value.int .i64)).toArray):=by
 have:=h.set i (.int .i64 v)
 rwa [show ((zs.map (Value.int .i64)).toArray).setIfInBounds i (.int .i64 v)=(((zs.set i v).map (Value.int .i64)).toArray) by simp [List.map_set]] at this
set_option maxHeartbeats 2000000 in
theorem linearFactors_c {w : World} {a : Option Addr} {n m : Nat} {fs : List Tm} (c : Nat) (h : Terms w a n fs) (hn : n ≤ 1048576) (hm8 : m ≤ 8) (hone : ∀ t ∈ fs, wlen t.m = 1 → oneAt t.m < m) :
    Calls Try.prog 91 #[.agg #[.slice a n c],.int .i64 m] w fun e w'=>∃g,e=.returned (.slice (some ⟨g,0,none⟩) m m)∧w.heap.size≤g∧Own w' g 2 (((linRow m fs).map (Value.int .i64)).toArray)∧Below w.heap.size w w':=by
 have HL:=Lib.hid h.len
 have HH:=Lib.hid h
 have H1:=Lib.hid hone
 have hb0:=bA1 w (.cells #[.slice a n c] 61)
 have hF0:=Own.new w 61 #[.slice a n c]
 have hmk:=run_make_row' (P:=Try.prog) 22 2 (.int .i64 0) 8 Try.underlying22 Try.info_int64 rfl .i64 .i64 m (by omega) (by omega)
 rw [show madeCells #[Value.int .i64 0] m=Array.replicate m (Value.int .i64 0) by (apply Array.ext';rw [toList_madeCells_one];simp)] at hmk
 clear hone h
 go_enter Try.func91,Try.ntmps91
 go_upto_region 1 with fail
 generalize w.alloc (.cells #[.slice a n c] 61)=w0 at *
 have hmk1:=hmk w0
 clear hmk
 have hR:=Own.new w0 2 (Array.replicate m (Value.int .i64 0))
 have hba:=bA1 w0 (.cells (Array.replicate m (Value.int .i64 0)) 2)
 have hF1:=hF0.keep hba hF0.lt
 have hb1:=bT' hb0 hba hb0.size
 have hgR:w.heap.size<w0.heap.size:=hF0.lt
 have c0:=hF1.cell 0
 go_upto_region 3 with fail
 generalize w0.alloc (.cells (Array.replicate m (Value.int .i64 0)) 2)=w2 at *
 generalize w0.heap.size=gR at *
 clear c0 hmk1 hF0 hb0 hba hF1
 have hR0:Own w2 gR 2 (((linTo m fs 0).map (Value.int .i64)).toArray):=by
  rw [linTo,show ((List.replicate m (0:Int)).map (Value.int .i64)).toArray=Array.replicate m (Value.int .i64 0) by simp];exact hR
 clear hR
 go_loopw [13] (fun y wr=>∃k:Nat,k≤n∧y=.int .i64 k∧Below w.heap.size w wr∧Own wr gR 2 (((linTo m fs k).map (Value.int .i64)).toArray)) (fun y _=>n - (intOf y).toNat)
 case atStart=>exact ⟨0,Nat.zero_le _,rfl,hb1,hR0⟩
 case round=>
  clear hb1 hR0;obtain ⟨k,hk,rfl,hb,hR⟩:=hrel;by_cases hlt:k<n
  · obtain ⟨b,off,t,rfl,hbl,hro,ht,hx⟩:=(HH.out.keep hb).at_ hlt;have HO:=Lib.hid (H1.out t (List.mem_of_getElem? hx.out));have HYS:=Lib.hid (fun e=>linTo_yes (m:=m) hx.out e);have HNO:=Lib.hid (fun e=>linTo_no (m:=m) hx.out e);obtain ⟨mt,ft⟩:=t;have hmt:IsMono mt:=ht.1;have HM:=Lib.hid hmt;obtain ⟨p0,p1,p2,p3,p4,p5,p6,p7,rfl⟩:=mono8 hmt;obtain ⟨y0,y1,y2,y3,y4,y5,y6,y7,y8⟩:=nine hro;obtain ⟨x,hxe⟩:∃x,wlen [p0,p1,p2,p3,p4,p5,p6,p7]=x:=⟨_,rfl⟩;have HX:=Lib.hid hxe;clear hxe;have hT:=Own.new wr 88 #[.int .u8 p0,.int .u8 p1,.int .u8 p2,.int .u8 p3,.int .u8 p4,.int .u8 p5,.int .u8 p6,.int .u8 p7,.int .i64 ft];have hba:=bA1 wr (.cells #[.int .u8 p0,.int .u8 p1,.int .u8 p2,.int .u8 p3,.int .u8 p4,.int .u8 p5,.int .u8 p6,.int .u8 p7,.int .i64 ft] 88);have hb3:=bT' hb hba hb.size;have hR3:=hR.keep hba hR.lt;have hRT:gR<wr.heap.size:=hR.lt;have hk0:(0:Int)≤(k:Int):=(by omega);have hkn:(k:Int)<(n:Int):=(by omega);go_upto_region 5 with fail
    generalize wr.alloc (.cells #[.int .u8 p0,.int .u8 p1,.int .u8 p2,.int .u8 p3,.int .u8 p4,.int .u8 p5,.int .u8 p6,.int .u8 p7,.int .i64 ft] 88)=wt at *;generalize wr.heap.size=gT at *;clear hb hba hR y0 y1 y2 y3 y4 y5 y6 y7 y8 hro;obtain ⟨z0,z1,z2,z3,z4,z5,z6,z7,z8⟩:wt.cell? ⟨gT,0,none⟩=some (.int .u8 p0)∧wt.cell? ⟨gT,1,none⟩=some (.int .u8 p1)∧wt.cell? ⟨gT,2,none⟩=some (.int .u8 p2)∧wt.cell? ⟨gT,3,none⟩=some (.int .u8 p3)∧wt.cell? ⟨gT,4,none⟩=some (.int .u8 p4)∧wt.cell? ⟨gT,5,none⟩=some (.int .u8 p5)∧wt.cell? ⟨gT,6,none⟩=some (.int .u8 p6)∧wt.cell? ⟨gT,7,none⟩=some (.int .u8 p7)∧wt.cell? ⟨gT,8,none⟩=some (.int .i64 ft):=⟨hT.cell 0,hT.cell 1,hT.cell 2,hT.cell 3,hT.cell 4,hT.cell 5,hT.cell 6,hT.cell 7,hT.cell 8⟩;by_cases hx1:x=1
    · subst hx1;go_wp2_with fail
      refine (wordLength8 hmt HX.out).mono ?_;rintro e w5 ⟨rfl,hb5⟩;have hT5:=hT.keep hb5 hT.lt;have hR5:=hR3.keep hb5 hR3.lt;have hb6:=bT' hb3 hb5 hb3.size;clear hT hR3 hb3 hb5 z0 z1 z2 z3 z4 z5 z6 z7 z8;have hlt1:=HO.out HX.out
      have hpr:∀(i:Nat) (y:Int),([p0,p1,p2,p3,p4,p5,p6,p7]:List Int)[i]? = some y→(#[Value.int .u8 p0,.int .u8 p1,.int .u8 p2,.int .u8 p3,.int .u8 p4,.int .u8 p5,.int .u8 p6,.int .u8 p7,.int .i64 ft]:Array Value)[i]? = some (Value.int .u8 y):=by
       intro i y hy;have hi:=(List.getElem?_eq_some_iff.1 hy).1
       match i,hi,hy with
       | 0,_,hy=>injection hy with hy;subst hy;rfl
       | 1,_,hy=>injection hy with hy;subst hy;rfl
       | 2,_,hy=>injection hy with hy;subst hy;rfl
       | 3,_,hy=>injection hy with hy;subst hy;rfl
       | 4,_,hy=>injection hy with hy;subst hy;rfl
       | 5,_,hy=>injection hy with hy;subst hy;rfl
       | 6,_,hy=>injection hy with hy;subst hy;rfl
       | 7,_,hy=>injection hy with hy;subst hy;rfl
       | i+8,hi,_=>simp at hi;omega
      have HPR:=Lib.hid hpr;clear hpr;obtain ⟨q,hq⟩:∃q,oneAt [p0,p1,p2,p3,p4,p5,p6,p7]=q:=⟨_,rfl⟩;rw [hq] at hlt1;have HQ:=Lib.hid hq;clear hq;have hq0:(0:Int)≤(q:Int):=(by omega);have hqm:(q:Int)<(m:Int):=(by omega);have hls:(linTo m fs k).length=m:=linTo_len m fs k;have HLS:=Lib.hid hls;clear hls;go_upto_region 6 with fail
      replace hT5:Own w5.drew gT 88 #[.int .u8 p0,.int .u8 p1,.int .u8 p2,.int .u8 p3,.int .u8 p4,.int .u8 p5,.int .u8 p6,.int .u8 p7,.int .i64 ft]:=hT5;replace hR5:Own w5.drew gR 2 (((linTo m fs k).map (Value.int .i64)).toArray):=hR5;replace hb6:Below w.heap.size w w5.drew:=hb6.drew;have z8:=hT5.cell 8
      go_region_with (go_at_call 114;(with_reducible refine (index1_c 8 hT5 HPR.out HM.out HX.out).mono ?_);rintro e w7 ⟨rfl,hb7⟩;rw [HQ.out];have hR7:=hR5.keep hb7 hR5.lt;have hb8:=bT' hb6 hb7 hb6.size;have z9:=(hT5.keep hb7 hT5.lt).cell 8;have hfz:=hR7.frozen q;obtain ⟨ov,hcv⟩:=hR7.has (i:=q) (by have:=HLS.out;simp;omega);clear hT5 hR5 hb6 hb7 z8)
      all_goals go_wp2_with fail
      all_goals go_roundw
      case rel | rel=>
       refine ⟨k+1,by omega,by go_num,hb8.setCell (p:=⟨gR,q,none⟩) (by dsimp only;omega) _,?_⟩;have e:=HYS.out HX.out;rw [HQ.out] at e;rw [e];exact ints_set hR7
      case measure | measure=>simp [intOf] <;> omega
    · have hxb:(x==1)=false:=(by simpa using hx1);go_wp2_with fail
      refine (wordLength8 hmt HX.out).mono ?_;rintro e w5 ⟨rfl,hb5⟩;go_wp2_with fail
      go_roundw
      case rel=>exact ⟨k+1,by omega,by go_num,bT' hb3 hb5 hb3.size,by rw [HNO.out (by rw [HX.out];exact hx1)];exact hR3.keep hb5 hR3.lt⟩
      case measure=>simp [intOf] <;> omega
  · have he:k=n:=(by omega);subst he;go_wp2_with fail
    go_ret
    exact ⟨gR,rfl,by omega,by rw [linRow,HL.out];exact hR,hb⟩
def ltV (zs:List Int) (ims:List (List Tm)):List (List Int):=if isAlg zs ims=true then ims.map (linRow zs.length) else []
def ltE (zs:List Int) (ims:List (List Tm)):Int:=if isAlg zs ims=true then 0 else 1
theorem lt_no {zs:List Int} {ims:List (List Tm)} (h:isAlg zs ims=false):ltV zs ims=[]∧ltE zs ims=1:=by simp [ltV,ltE,h]
theorem lt_yes {zs:List Int} {ims:List (List Tm)} (h:isAlg zs ims=true):ltV zs ims=ims.map (linRow zs.length)∧ltE zs ims=0:=by simp [ltV,ltE,h]
theorem Try.info_ints:(Try.prog.info? 22).map (fun i=>(i.zero,i.size,i.bytes))=some (some (.slice none 0 0),1,24):=by kernel_rfl
theorem make_rows (n : Nat) (hn : n ≤ 1048576) (w : World) :
    (Instr.makeSlice 41 (.int .i64 (n:Int)) (.int .i64 (n:Int))).run Try.prog w=.ok (.slice (some ⟨w.heap.size,0,none⟩) n n) (w.alloc (.cells (Array.replicate n (Value.slice none 0 0)) 22)):=by
 have h:=run_make_row' (P:=Try.prog) 41 22 (.slice none 0 0) 24 Try.underlying41 Try.info_ints rfl .i64 .i64 n (by omega) (by omega) w
 rwa [show madeCells #[Value.slice none 0 0] n=Array.replicate n (Value.slice none 0 0) by (apply Array.ext';rw [toList_madeCells_one];simp)] at h
def rowCells (m n:Nat) (gs:List Nat):List Value:=gs.map (fun g=>Value.slice (some ⟨g,0,none⟩) m m)++List.replicate (n - gs.length) (Value.slice none 0 0)
theorem rowCells_step {m n k g:Nat} {gs:List Nat} (hk:gs.length=k) (hn:k<n):((rowCells m n gs).toArray).setIfInBounds k (.slice (some ⟨g,0,none⟩) m m)=(rowCells m n (gs++[g])).toArray:=by
 apply Array.ext'
 rw [Array.toList_setIfInBounds]
 simp only [rowCells,List.map_append,List.length_append,List.map_cons,List.map_nil,List.length_cons,List.length_nil]
 rw [List.set_append_right _ _ (by rw [List.length_map];omega),List.length_map,hk,Nat.sub_self,show n - k=(n - (k+1))+1 by omega,List.replicate_succ,List.set_cons_zero,List.append_assoc]
 rfl
theorem isAlg_len2 {zs:List Int} {ims:List (List Tm)} (h:isAlg zs ims=true):ims.length=zs.length:=by
 simp only [isAlg,Bool.and_eq_true,decide_eq_true_eq] at h
 obtain ⟨-,h2,-⟩:=h
 omega
theorem ownT_of {w : World} {lo gO m n : Nat} {gs : List Nat} {V : List (List Int)} (hV : V.length = n) (hgs : gs.length = n) (hm : ∀ row ∈ V, row.length = m) (ho : Own w gO 22 (rowCells m n gs).toArray) (hlo : lo ≤ gO)
    (hr:∀(i g:Nat) row,gs[i]? = some g→V[i]? = some row→Own w g 2 ((row.map (Value.int .i64)).toArray)) (hup:(gO::gs).Pairwise (· < ·)):OwnT w lo w.heap.size (some ⟨gO,0,none⟩) n V:=by
 refine ⟨hV,fun hn=>⟨gO,(List.zipWith (fun g row=>(⟨some ⟨g,0,none⟩,m,m,g,((row.map (Value.int .i64)).toArray)⟩:Rw)) gs V),rfl,hlo,ho.lt,⟨by simp [hgs,hV],⟨_,ho,?_⟩,?_,?_⟩,?_,?_,?_⟩⟩
 · intro i r hr0;rw [List.getElem?_zipWith] at hr0
   cases hg:gs[i]? with
   | none=>rw [hg] at hr0;simp at hr0
   | some g =>
     cases hv:V[i]? with
     | none=>rw [hg,hv] at hr0;simp at hr0
     | some row =>
       rw [hg,hv] at hr0
       injection hr0 with hr0
       subst hr0;rw [List.getElem?_toArray,rowCells,List.getElem?_append_left (by rw [List.length_map];exact (List.getElem?_eq_some_iff.1 hg).1),List.getElem?_map,hg];rfl
 · intro i r hr0 hp;rw [List.getElem?_zipWith] at hr0
   cases hg:gs[i]? with
   | none=>rw [hg] at hr0;simp at hr0
   | some g =>
     cases hv:V[i]? with
     | none=>rw [hg,hv] at hr0;simp at hr0
     | some row =>
       rw [hg,hv] at hr0
       injection hr0 with hr0
       subst hr0;exact ⟨rfl,hr i g row hg hv,by have:=hm row (List.mem_of_getElem? hv);simp;omega⟩
 · intro i j r s hij hr0 hs0 _ _;rw [List.getElem?_zipWith] at hr0 hs0
   cases hg:gs[i]? with
   | none=>rw [hg] at hr0;simp at hr0
   | some g =>
     cases hv:V[i]? with
     | none=>rw [hg,hv] at hr0;simp at hr0
     | some row =>
       cases hg':gs[j]? with
       | none=>rw [hg'] at hs0;simp at hs0
       | some g' =>
         cases hv':V[j]? with
         | none=>rw [hg',hv'] at hs0;simp at hs0
         | some row' =>
           rw [hg,hv] at hr0;rw [hg',hv'] at hs0
           injection hr0 with hr0
           injection hs0 with hs0
           subst hr0;subst hs0;obtain ⟨h1,h2⟩:=List.getElem?_eq_some_iff.1 hg;obtain ⟨h3,h4⟩:=List.getElem?_eq_some_iff.1 hg';have:=List.pairwise_iff_getElem.1 (List.pairwise_cons.1 hup).2 i j h1 h3 hij;rw [h2,h4] at this;exact Nat.ne_of_lt this
 · intro r hr0 _;obtain ⟨i,hi,hri⟩:=List.mem_iff_getElem.1 hr0;have hr1:=List.getElem?_eq_getElem hi;rw [hri,List.getElem?_zipWith] at hr1
   cases hg:gs[i]? with
   | none=>rw [hg] at hr1;simp at hr1
   | some g =>
     cases hv:V[i]? with
     | none=>rw [hg,hv] at hr1;simp at hr1
     | some row =>
       rw [hg,hv] at hr1
       injection hr1 with hr1
       subst hr1;have h1:=(List.pairwise_cons.1 hup).1 g (List.mem_of_getElem? hg);have h2:=(hr i g row hg hv).lt;exact ⟨by show lo≤g;omega,h2⟩
 · apply List.ext_getElem?
   intro i;rw [List.getElem?_map,List.getElem?_zipWith,List.getElem?_map]
   cases hv:V[i]? with
   | none=>cases gs[i]? <;> rfl
   | some row =>
     have hi:=(List.getElem?_eq_some_iff.1 hv).1;rw [List.getElem?_eq_getElem (show i<gs.length by omega)];simp [hm row (List.mem_of_getElem? hv)]
 · intro i r row hr0 hv;rw [List.getElem?_zipWith,hv] at hr0
   cases hg:gs[i]? with
   | none=>rw [hg] at hr0;simp at hr0
   | some g =>
     rw [hg] at hr0
     injection hr0 with hr0
     subst hr0;exact IntBlk.ints' (hr i g row hg hv) (hm row (List.mem_of_getElem? hv))
theorem pair_snoc {gs:List Nat} {b g:Nat} (h:(b::gs).Pairwise (· < ·)) (hb:b<g) (hg:∀x∈gs,x<g):(b::(gs++[g])).Pairwise (· < ·):=by
 rw [←List.cons_append]
 refine List.pairwise_append.2 ⟨h,List.pairwise_singleton _ _,fun x hx y hy=>?_⟩
 obtain rfl:y=g:=by simpa using hy
 rcases List.mem_cons.1 hx with rfl | hx
 · exact hb
 · exact hg x hx
def Rows (w:World) (gO dn:Nat) (ims:List (List Tm)) (k:Nat) (gs:List Nat):Prop:=
 gs.length=k∧(∀(i g:Nat) ts,gs[i]? = some g→ims[i]? = some ts→Own w g 2 (((linRow dn ts).map (Value.int .i64)).toArray))∧(gO::gs).Pairwise (· < ·)∧∀x∈gs,x<w.heap.size
theorem Rows.keep {w w':World} {gO dn k:Nat} {ims:List (List Tm)} {gs:List Nat} (h:Rows w gO dn ims k gs) (hb:Below w.heap.size w w'):Rows w' gO dn ims k gs:=
 ⟨h.1,fun i g ts h1 h2=>(h.2.1 i g ts h1 h2).keep hb (h.2.1 i g ts h1 h2).lt,h.2.2.1,fun x hx=>Nat.lt_of_lt_of_le (h.2.2.2 x hx) hb.size⟩
theorem Rows.snoc {w : World} {gO dn k g : Nat} {ims : List (List Tm)} {gs : List Nat} {ts : List Tm} {v : Value} (h : Rows w gO dn ims k gs) (hx : ims[k]? = some ts) (hlt : ∀ x ∈ gs, x < g) (hO : gO < g)
    (hg:Own w g 2 (((linRow dn ts).map (Value.int .i64)).toArray)):Rows (w.setCell ⟨gO,k,none⟩ v) gO dn ims (k+1) (gs++[g]):=by
 have hup:=h.2.2.1
 refine ⟨by rw [List.length_append,h.1];rfl,fun i g' ts' h1 h2=>?_,pair_snoc hup hO hlt,fun x hx=>?_⟩
 · by_cases hi:i<k
   · rw [List.getElem?_append_left (by rw [h.1];exact hi)] at h1;have h3:=(List.pairwise_cons.1 hup).1 g' (List.mem_of_getElem? h1);exact (h.2.1 i g' ts' h1 h2).far (by dsimp only;omega) _
   · have hik : i = k := by
       have:=(List.getElem?_eq_some_iff.1 h1).1;rw [List.length_append,h.1] at this;simp at this
       omega
     subst hik;rw [List.getElem?_append_right (by rw [h.1];omega),h.1,Nat.sub_self] at h1
     injection h1 with h1
     subst h1;rw [hx] at h2
     injection h2 with h2
     subst h2;exact hg.far (by dsimp only;omega) _
 · rcases List.mem_append.1 hx with hx | hx
   · have:=h.2.2.2 x hx;simpa using this
   · obtain rfl:x=g:=(by simpa using hx);have:=hg.lt;simpa using this
set_option maxHeartbeats 1000000 in
theorem LinearTable_c {w : World} {da : Option Addr} {dn : Nat} {zs : List Int} {a : Option Addr} {n : Nat} {ims : List (List Tm)} (dc c : Nat) (hd : Ints w da dn zs) (hdn : dn ≤ 1048576) (hF : Frms w a n ims) (hn : n ≤ 1048576) (hL : ∀ im ∈ ims, (im.length : Int) ≤ 1048576) :
    Calls Try.prog 50 #[.agg #[.slice da dn dc,.slice a n c]] w fun e w'=>∃ra rn rc,e=.returned (.tuple #[.slice ra rn rc,.int .i64 (ltE zs ims)])∧OwnT w' w.heap.size w'.heap.size ra rn (ltV zs ims)∧Below w.heap.size w w':=by
 have HLL:=Lib.hid hL
 have HLn:=Lib.hid hF.len
 have HFF:=Lib.hid hF
 have HT:=Lib.hid hF.tm
 have HDL:=Lib.hid hd.len
 clear hL
 have hA:=Own.new w 33 #[.slice da dn dc,.slice a n c]
 have hb:=bA1 w (.cells #[.slice da dn dc,.slice a n c] 33)
 have c0:=hA.cell 0
 have c1:=hA.cell 1
 cases hal:isAlg zs ims
 all_goals
  have HA:=Lib.hid hal;clear hal;go_enter Try.func50,Try.ntmps50
  go_upto_region 1 with fail
  generalize w.alloc (.cells #[.slice da dn dc,.slice a n c] 33)=w0 at *;go_wp2_with fail
  refine (IsAlgebra_c dc c (hd.keep hb) hdn (hF.keep hb) hn HLL.out).mono ?_;rintro e w1 ⟨rfl,hb1⟩;rw [HA.out];have hA1:=hA.keep hb1 hA.lt;have hb2:=bT' hb hb1 hb.size;clear hA hb hb1 c0 c1;have c1:=hA1.cell 1
 · go_wp2_with fail
   go_ret2
   exact ⟨none,0,0,by rw [(lt_no HA.out).2];rfl,by rw [(lt_no HA.out).1];exact OwnT.none_,hb2⟩
 · obtain rfl:dn=n:=(by have:=isAlg_len2 HA.out;have:=HLn.out;have:=HDL.out;omega);have h8:dn≤8:=(by have:=degsOk_len (isAlg_degs HA.out);have:=HDL.out;omega);have HOK:=Lib.hid (isAlg_ok HA.out HT.out);have hmk1:=make_rows dn hn w1;have hR:=Own.new w1 22 (Array.replicate dn (Value.slice none 0 0));have hba:=bA1 w1 (.cells (Array.replicate dn (Value.slice none 0 0)) 22);have hA2:=hA1.keep hba hA1.lt;have hb3:=bT' hb2 hba hb2.size;have hgR:w.heap.size<w1.heap.size:=hA1.lt;go_upto_region 4 with fail
   generalize w1.alloc (.cells (Array.replicate dn (Value.slice none 0 0)) 22)=w2 at *;generalize w1.heap.size=gO at *;clear c1 hmk1 hA1 hb2 hba;have c1:=hA2.cell 1;go_upto_region 5 with fail
   clear c1;have hR0:Own w2 gO 22 (rowCells dn dn []).toArray:=(by rw [show (rowCells dn dn []).toArray=Array.replicate dn (Value.slice none 0 0) by simp [rowCells]];exact hR);have HW0:Hid (Rows w2 gO dn ims 0 []):=Lib.hid ⟨rfl,by simp,by simp,by simp⟩;clear hR
   go_loopw [17] (fun y wr=>∃(k:Nat) (gs:List Nat),k≤dn∧y=.int .i64 k∧Below w.heap.size w wr∧Own wr w.heap.size 33 #[.slice da dn dc,.slice a dn c]∧Own wr gO 22 (rowCells dn dn gs).toArray∧Hid (Rows wr gO dn ims k gs)) (fun y _=>dn - (intOf y).toNat)
   case atStart=>exact ⟨0,[],Nat.zero_le _,rfl,hb3,hA2,hR0,HW0⟩
   case round=>
    clear hb3 hA2 hR0 HW0;obtain ⟨k,gs,hk,rfl,hb,hA,hR,HW⟩:=hrel;by_cases hin:k<dn
    · obtain ⟨b,off,ts,ai,ni,ci,rfl,hbl,hc0,hT0,hni,hx⟩:=HFF.out.at_ hin;have hc:=(World.cell?_of_block (a:=⟨b,off+k,none⟩) (hb.block b hbl)).trans hc0;have hTs:=hT0.keep hb;have hni2:ni≤1048576:=(by have:=HLL.out ts (List.mem_of_getElem? hx.out);have:=hT0.len;omega);have hmem:=List.mem_of_getElem? hx.out
      have hok:∀u∈ts,monoOk zs u.m=true:=by
       have h9:=(HOK.out.at_ k).2.2.1;rw [List.getD_eq_getElem?_getD,hx.out] at h9;exact h9
      have HONE:Hid (∀t∈ts,wlen t.m=1→oneAt t.m<dn):=Lib.hid (fun t ht h1=>one_lt (HT.out ts hmem t ht).1 (hok t ht) HDL.out h1);clear hmem hok;have hi0:(0:Int)≤(k:Int):=(by omega);have hini:(k:Int)<(dn:Int):=(by omega);have hE:=Own.new wr 61 #[.slice ai ni ci];have hba:=bA1 wr (.cells #[.slice ai ni ci] 61);have hb4:=bT' hb hba hb.size;have hA4:=hA.keep hba hA.lt;have hR4:=hR.keep hba hR.lt;have hTs4:=hTs.keep hba;have HW4:=Lib.hid (HW.out.keep hba);go_upto_region 7 with fail
      generalize wr.alloc (.cells #[.slice ai ni ci] 61)=w3 at *;generalize wr.heap.size=gE at *;clear hc hc0 hba hb hT0 hTs hA hR HW;have cE:=hE.cell 0;have cA:=hA4.cell 0;go_wp2_with fail
      clear cE hE cA;refine (linearFactors_c ci hTs4 hni2 h8 HONE.out).mono ?_;rintro e w4 ⟨g,rfl,hg,hG,hb5⟩;have hb6:=bT' hb4 hb5 hb4.size;have hA6:=hA4.keep hb5 hA4.lt;have hR6:=hR4.keep hb5 hR4.lt;have HLT:=Lib.hid (fun x hx=>Nat.lt_of_lt_of_le (HW4.out.2.2.2 x hx) hg);have hOg:gO<g:=Nat.lt_of_lt_of_le hR4.lt hg;have HW6:=Lib.hid (HW4.out.keep hb5);clear hb4 hA4 hR4 hb5 hTs4 HW4 hg;have hfz:=hR6.frozen k;obtain ⟨ov,hcv⟩:=hR6.has (i:=k) (by have:=HW6.out.1;simp [rowCells];omega);go_wp2_with fail
      go_roundw
      case rel=>
       have q1:Rows (w4.setCell ⟨gO,k,none⟩ (.slice (some ⟨g,0,none⟩) dn dn)) gO dn ims (k+1) (gs++[g]):=HW6.out.snoc hx.out HLT.out hOg hG;have q2:Below w.heap.size w (w4.setCell ⟨gO,k,none⟩ (.slice (some ⟨g,0,none⟩) dn dn)):=hb6.setCell (p:=⟨gO,k,none⟩) (by dsimp only;omega) _;have q3:=hA6.far (p:=⟨gO,k,none⟩) (by dsimp only;omega) (.slice (some ⟨g,0,none⟩) dn dn)
       have q4:Own (w4.setCell ⟨gO,k,none⟩ (.slice (some ⟨g,0,none⟩) dn dn)) gO 22 (rowCells dn dn (gs++[g])).toArray:=by
        have:=hR6.set k (.slice (some ⟨g,0,none⟩) dn dn)
        rwa [rowCells_step HW6.out.1 hin] at this
       have Q1:=Lib.hid q1;clear q1;refine ⟨k+1,gs++[g],by omega,by go_num,?_⟩;exact ⟨q2,q3,q4,Q1⟩
      case measure=>simp [intOf] <;> omega
    · have he:k=dn:=(by omega);subst he;go_wp2_with fail
      go_ret2
      refine ⟨some ⟨gO,0,none⟩,k,k,by rw [(lt_yes HA.out).2];rfl,?_,hb⟩;rw [(lt_yes HA.out).1,HDL.out];refine ownT_of (m:=k) (by rw [List.length_map];exact HLn.out) HW.out.1 ?_ hR (by omega) ?_ HW.out.2.2.1
      · intro row hrow;obtain ⟨ts,-,rfl⟩:=List.mem_map.1 hrow;exact linTo_len _ _ _
      · intro i g row h1 h2;rw [List.getElem?_map] at h2
        cases hts:ims[i]? with
        | none=>rw [hts] at h2;simp at h2
        | some ts =>
          rw [hts] at h2
          injection h2 with h2
          subst h2;exact HW.out.2.1 i g ts h1 hts
theorem Try.info_intsA:∃i z,Try.prog.info? 22=some i∧i.zero=some z∧i.size=1∧i.bytes=24∧z.cells.size=1:=by
 obtain ⟨i,hi,hzz⟩:=Option.map_eq_some_iff.1 Try.info_ints
 simp only [Prod.mk.injEq] at hzz
 obtain ⟨hz,hs,hb⟩:=hzz
 exact ⟨i,_,hi,hz,hs,hb,rfl⟩
theorem empty_rowG (w:World) (t:TypeId) {B:Nat} (hB:B≤w.heap.size):(w.alloc (.cells #[] t)).ownsRow B t 1 (.slice (some ⟨w.heap.size,0,none⟩) 0 0) 0 []:=
 ⟨rfl,Or.inr ⟨w.heap.size,0,#[],rfl,hB,heap_alloc_new w _,Nat.le_refl _,by simp [maxLen],rfl,rfl⟩⟩
theorem made_ints2 (n : Nat) (hn : n ≤ 1048576) (w : World) :
    (Instr.makeSlice 22 (.int .i64 (n:Int)) (.int .i64 (n:Int))).run Try.prog w=.ok (.slice (some ⟨w.heap.size,0,none⟩) n n) (w.alloc (.cells (Array.replicate n (Value.int .i64 0)) 2)):=by
 have h:=run_make_row' (P:=Try.prog) 22 2 (.int .i64 0) 8 Try.underlying22 Try.info_int64 rfl .i64 .i64 n (by omega) (by omega) w
 rwa [show madeCells #[Value.int .i64 0] n=Array.replicate n (Value.int .i64 0) by (apply Array.ext';rw [toList_madeCells_one];simp)] at h
theorem term_cell {p0 p1 p2 p3 p4 p5 p6 p7 f y:Int} {j:Nat} (hj:j<8) (h:([p0,p1,p2,p3,p4,p5,p6,p7]:List Int)[j]? = some y):(#[.int .u8 p0,.int .u8 p1,.int .u8 p2,.int .u8 p3,.int .u8 p4,.int .u8 p5,.int .u8 p6,.int .u8 p7,.int .i64 f]:Array Value)[j]? = some (.int .u8 y):=by
 match j,hj,h with
 | 0,_,h=>have e:p0=y:=(by simpa using h);subst e;rfl
 | 1,_,h=>have e:p1=y:=(by simpa using h);subst e;rfl
 | 2,_,h=>have e:p2=y:=(by simpa using h);subst e;rfl
 | 3,_,h=>have e:p3=y:=(by simpa using h);subst e;rfl
 | 4,_,h=>have e:p4=y:=(by simpa using h);subst e;rfl
 | 5,_,h=>have e:p5=y:=(by simpa using h);subst e;rfl
 | 6,_,h=>have e:p6=y:=(by simpa using h);subst e;rfl
 | 7,_,h=>have e:p7=y:=(by simpa using h);subst e;rfl
def linJ (row:List Int) (p:Nat) (f:Int) (j:Nat):List Int:=if p<j then row.set p f else row
theorem linJ_zero (row:List Int) (p:Nat) (f:Int):linJ row p f 0=row:=by rw [linJ,if_neg (by omega)]
theorem linJ_hit (row:List Int) (p:Nat) (f:Int):linJ row p f (p+1)=(linJ row p f p).set p f:=by rw [linJ,linJ,if_pos (by omega),if_neg (by omega)]
theorem linJ_miss {row:List Int} {p j:Nat} {f:Int} (h:¬j=p):linJ row p f (j+1)=linJ row p f j:=by
 rw [linJ,linJ]
 by_cases h1:p<j
 · rw [if_pos (by omega),if_pos h1]
 · rw [if_neg (by omega),if_neg h1]
theorem linJ_end {row:List Int} {p n:Nat} {f:Int} (h:p<n):linJ row p f n=row.set p f:=by rw [linJ,if_pos h]
theorem linJ_len (row:List Int) (p:Nat) (f:Int) (j:Nat):(linJ row p f j).length=row.length:=by
 rw [linJ];split
 · exact List.length_set
 · rfl
def rowSl (m:Nat) (gs:List Nat):List Value:=gs.map (fun g=>Value.slice (some ⟨g,0,none⟩) m m)
def RowsB (w:World) (lo dn:Nat) (ims:List (List Tm)) (k:Nat) (gs:List Nat):Prop:=
 gs.length=k∧(∀(i g:Nat) ts,gs[i]? = some g→ims[i]? = some ts→Own w g 2 (((linRow dn ts).map (Value.int .i64)).toArray))∧gs.Pairwise (· < ·)∧∀x∈gs,lo≤x∧x<w.heap.size
theorem RowsB.keep {w w':World} {lo dn k:Nat} {ims:List (List Tm)} {gs:List Nat} (h:RowsB w lo dn ims k gs) (hb:Below w.heap.size w w'):RowsB w' lo dn ims k gs:=
 ⟨h.1,fun i g ts h1 h2=>(h.2.1 i g ts h1 h2).keep hb (h.2.1 i g ts h1 h2).lt,h.2.2.1,fun x hx=>⟨(h.2.2.2 x hx).1,Nat.lt_of_lt_of_le (h.2.2.2 x hx).2 hb.size⟩⟩
theorem RowsB.grown {w w':World} {lo dn k B m n:Nat} {ims:List (List Tm)} {gs:List Nat} {v:Value} {xs:List Value} (h:RowsB w lo dn ims k gs) (ho:w.ownsRow B 22 m v n xs) (hg:w.grownBy w' v.ownBlock):RowsB w' lo dn ims k gs:=
 ⟨h.1,fun i g ts h1 h2=>(h.2.1 i g ts h1 h2).grown hg (own_ne_row (h.2.1 i g ts h1 h2) ho (by decide)),h.2.2.1,fun x hx=>⟨(h.2.2.2 x hx).1,Nat.lt_of_lt_of_le (h.2.2.2 x hx).2 hg.size⟩⟩
theorem RowsB.snoc {w : World} {lo dn k g : Nat} {ims : List (List Tm)} {gs : List Nat} {ts : List Tm} (h : RowsB w lo dn ims k gs) (hx : ims[k]? = some ts) (hlt : ∀ x ∈ gs, x < g) (hlo : lo ≤ g)
    (hg:Own w g 2 (((linRow dn ts).map (Value.int .i64)).toArray)):RowsB w lo dn ims (k+1) (gs++[g]):=by
 refine ⟨by rw [List.length_append,h.1];rfl,fun i g' ts' h1 h2=>?_,?_,fun x hx=>?_⟩
 · by_cases hi:i<k
   · rw [List.getElem?_append_left (by rw [h.1];exact hi)] at h1;exact h.2.1 i g' ts' h1 h2
   · have hik : i = k := by
       have:=(List.getElem?_eq_some_iff.1 h1).1;rw [List.length_append,h.1] at this;simp at this
       omega
     subst hik;rw [List.getElem?_append_right (by rw [h.1];omega),h.1,Nat.sub_self] at h1
     injection h1 with h1
     subst h1;rw [hx] at h2
     injection h2 with h2
     subst h2;exact hg
 · refine List.pairwise_append.2 ⟨h.2.2.1,List.pairwise_singleton _ _,fun x hx y hy=>?_⟩;obtain rfl:y=g:=(by simpa using hy);exact hlt x hx
 · rcases List.mem_append.1 hx with hx | hx
   · exact h.2.2.2 x hx
   · obtain rfl:x=g:=(by simpa using hx);exact ⟨hlo,hg.lt⟩
theorem ownT_row {w : World} {lo m n : Nat} {gs : List Nat} {V : List (List Int)} {v : Value} (hV : V.length = n) (hgs : gs.length = n) (hm : ∀ row ∈ V, row.length = m) (ho : w.ownsRow lo 22 1 v n (rowSl m gs))
    (hr:∀(i g:Nat) row,gs[i]? = some g→V[i]? = some row→Own w g 2 ((row.map (Value.int .i64)).toArray)) (hlg:∀g∈gs,lo≤g) (hup:gs.Pairwise (· < ·)):∃a c,v=.slice a n c∧OwnT w lo w.heap.size a n V:=by
 rcases ho.2 with ⟨hv,h0⟩ | ⟨gO,cap,cur,hv,hb,hg,hn,hmx,hs,ht⟩
 · subst h0;have hV0:V=[]:=List.eq_nil_of_length_eq_zero hV;subst hV0;exact ⟨none,0,hv,OwnT.none_⟩
 refine ⟨some ⟨gO,0,none⟩,cap,hv,hV,fun _=>⟨gO,(List.zipWith (fun g row=>(⟨some ⟨g,0,none⟩,m,m,g,((row.map (Value.int .i64)).toArray)⟩:Rw)) gs V),rfl,hb,(show Own w gO 22 cur from hg).lt,⟨by simp [hgs,hV],⟨cur,hg,?_⟩,?_,?_⟩,?_,?_,?_⟩⟩
 · intro i r hr0;rw [List.getElem?_zipWith] at hr0
   cases hg:gs[i]? with
   | none=>rw [hg] at hr0;simp at hr0
   | some g =>
     cases hv:V[i]? with
     | none=>rw [hg,hv] at hr0;simp at hr0
     | some row =>
       rw [hg,hv] at hr0
       injection hr0 with hr0
       subst hr0;have h1:(rowSl m gs)[i]? = some (Value.slice (some ⟨g,0,none⟩) m m):=(by rw [rowSl,List.getElem?_map,hg];rfl);have hi:=(List.getElem?_eq_some_iff.1 hg).1;rw [←ht,Nat.mul_one,List.getElem?_take,if_pos (by omega),Array.getElem?_toList] at h1;exact h1
 · intro i r hr0 hp;rw [List.getElem?_zipWith] at hr0
   cases hg:gs[i]? with
   | none=>rw [hg] at hr0;simp at hr0
   | some g =>
     cases hv:V[i]? with
     | none=>rw [hg,hv] at hr0;simp at hr0
     | some row =>
       rw [hg,hv] at hr0
       injection hr0 with hr0
       subst hr0;exact ⟨rfl,hr i g row hg hv,by have:=hm row (List.mem_of_getElem? hv);simp;omega⟩
 · intro i j r s hij hr0 hs0 _ _;rw [List.getElem?_zipWith] at hr0 hs0
   cases hg:gs[i]? with
   | none=>rw [hg] at hr0;simp at hr0
   | some g =>
     cases hv:V[i]? with
     | none=>rw [hg,hv] at hr0;simp at hr0
     | some row =>
       cases hg':gs[j]? with
       | none=>rw [hg'] at hs0;simp at hs0
       | some g' =>
         cases hv':V[j]? with
         | none=>rw [hg',hv'] at hs0;simp at hs0
         | some row' =>
           rw [hg,hv] at hr0;rw [hg',hv'] at hs0
           injection hr0 with hr0
           injection hs0 with hs0
           subst hr0;subst hs0;obtain ⟨h1,h2⟩:=List.getElem?_eq_some_iff.1 hg;obtain ⟨h3,h4⟩:=List.getElem?_eq_some_iff.1 hg';have:=List.pairwise_iff_getElem.1 hup i j h1 h3 hij;rw [h2,h4] at this;exact Nat.ne_of_lt this
 · intro r hr0 _;obtain ⟨i,hi,hri⟩:=List.mem_iff_getElem.1 hr0;have hr1:=List.getElem?_eq_getElem hi;rw [hri,List.getElem?_zipWith] at hr1
   cases hg:gs[i]? with
   | none=>rw [hg] at hr1;simp at hr1
   | some g =>
     cases hv:V[i]? with
     | none=>rw [hg,hv] at hr1;simp at hr1
     | some row =>
       rw [hg,hv] at hr1
       injection hr1 with hr1
       subst hr1;exact ⟨hlg g (List.mem_of_getElem? hg),(hr i g row hg hv).lt⟩
 · apply List.ext_getElem?
   intro i;rw [List.getElem?_map,List.getElem?_zipWith,List.getElem?_map]
   cases hv:V[i]? with
   | none=>cases gs[i]? <;> rfl
   | some row =>
     have hi:=(List.getElem?_eq_some_iff.1 hv).1;rw [List.getElem?_eq_getElem (show i<gs.length by omega)];simp [hm row (List.mem_of_getElem? hv)]
 · intro i r row hr0 hv;rw [List.getElem?_zipWith,hv] at hr0
   cases hg:gs[i]? with
   | none=>rw [hg] at hr0;simp at hr0
   | some g =>
     rw [hg] at hr0
     injection hr0 with hr0
     subst hr0;exact IntBlk.ints' (hr i g row hg hv) (hm row (List.mem_of_getElem? hv))
set_option maxHeartbeats 4000000 in
theorem l02Linear_c {w : World} {da : Option Addr} {dn : Nat} {a : Option Addr} {n : Nat} {ims : List (List Tm)} (dc c : Nat) (hd8 : dn ≤ 8) (hF : Frms w a n ims) (hn : n ≤ 1048576) (hL : ∀ im ∈ ims, (im.length : Int) ≤ 1048576) (hone : ∀ ts ∈ ims, ∀ t ∈ ts, wlen t.m = 1 → oneAt t.m < dn) :
    Calls Try.prog 90 #[.agg #[.slice da dn dc,.slice a n c]] w fun e w'=>∃ra rc,e=.returned (.slice ra n rc)∧OwnT w' w.heap.size w'.heap.size ra n (ims.map (linRow dn))∧Below w.heap.size w w':=by
 have HLL:=Lib.hid hL
 have HLn:=Lib.hid hF.len
 have HFF:=Lib.hid hF
 have H1:=Lib.hid hone
 obtain ⟨ti,tz,hti,htz,hts,htb,htzs⟩:=Try.info_intsA
 have HI:=Lib.hid hti
 have HZ:=Lib.hid htz
 have HS:=Lib.hid hts
 have HBt:=Lib.hid htb
 have HZs:=Lib.hid htzs
 clear hL hone hF hti htz hts htb htzs
 have hA:=Own.new w 33 #[.slice da dn dc,.slice a n c]
 have hb:=bA1 w (.cells #[.slice da dn dc,.slice a n c] 33)
 go_enter Try.func90,Try.ntmps90
 go_upto_region 1 with fail
 generalize w.alloc (.cells #[.slice da dn dc,.slice a n c] 33)=w0 at *
 have hl0:=hA.lt
 have hR0:=empty_rowG w0 22 (B:=w.heap.size+1) (by omega)
 have hba:=bA1 w0 (.cells #[] 22)
 have hA1:=hA.keep hba hA.lt
 have hb1:=bT' hb hba hb.size
 go_upto_region 2 with fail
 generalize w0.alloc (.cells #[] 22)=w1 at *
 generalize w0.heap.size=gO at *
 clear hA hb hba hl0
 have HW0:Hid (RowsB w1 (w.heap.size+1) dn ims 0 []):=Lib.hid ⟨rfl,by simp,by simp,by simp⟩
 go_upto_region 3 with fail
 go_loopw [3,4] (fun o y wr=>∃(k:Nat) (oa:Option Addr) (oc:Nat) (gs:List Nat),k≤n∧y=.int .i64 k∧o=.slice oa k oc∧Below w.heap.size w wr∧Own wr w.heap.size 33 #[.slice da dn dc,.slice a n c]∧wr.ownsRow (w.heap.size+1) 22 1 (.slice oa k oc) k (rowSl dn gs)∧Hid (RowsB wr (w.heap.size+1) dn ims k gs)) (fun _ y _=>n - (intOf y).toNat)
 case atStart=>exact ⟨0,_,_,[],Nat.zero_le _,rfl,rfl,hb1,hA1,hR0,HW0⟩
 case round=>
  clear hb1 hA1 hR0 HW0;obtain ⟨k,oa,oc,gs,hk,rfl,rfl,hb,hA,hR,HW⟩:=hrel;by_cases hin:k<n
  · obtain ⟨b,off,ts,ai,ni,ci,rfl,hbl,hc0,hT0,hni,hx⟩:=HFF.out.at_ hin;have hmem:=List.mem_of_getElem? hx.out;have hni2:ni≤1048576:=(by have:=HLL.out ts hmem;have:=hT0.len;omega);have HONE:=Lib.hid (H1.out ts hmem);have HTL:=Lib.hid hT0.len;clear hmem;have hk0:(0:Int)≤(k:Int):=(by omega);have hkn:(k:Int)<(n:Int):=(by omega);have hmk1:=made_ints2 dn (by omega) wr;have hG:=Own.new wr 2 (Array.replicate dn (Value.int .i64 0));have hba:=bA1 wr (.cells (Array.replicate dn (Value.int .i64 0)) 2);have cA0:=hA.cell 0;have cA1:=hA.cell 1;have hGl:w.heap.size<wr.heap.size:=hA.lt;have HR:=Lib.hid hR;go_upto_region 6 with fail
    generalize wr.alloc (.cells (Array.replicate dn (Value.int .i64 0)) 2)=w2 at *;generalize hgR:wr.heap.size=gR at *;have HGR:=Lib.hid hgR;clear hmk1 cA0 cA1 hR hgR;generalize wr=W1 at *
    have hG0:Own w2 gR 2 (((linTo dn ts 0).map (Value.int .i64)).toArray):=by
     rw [linTo,show ((List.replicate dn (0:Int)).map (Value.int .i64)).toArray=Array.replicate dn (Value.int .i64 0) by simp];exact hG
    clear hG;go_upto_region 7 with fail
    go_loopw [6] (fun y wr=>∃q:Nat,q≤ni∧y=.int .i64 q∧Below gR W1 wr∧Own wr gR 2 (((linTo dn ts q).map (Value.int .i64)).toArray)) (fun y _=>ni - (intOf y).toNat)
    case atStart=>exact ⟨0,Nat.zero_le _,rfl,hba,hG0⟩
    case round=>
     clear hG0 hba;obtain ⟨q,hq,rfl,hbx,hG⟩:=hrel;have hAx:=hA.keep hbx hGl;have hlx:gR<wr.heap.size:=hG.lt;have cA1:=hAx.cell 1;have hbxw:=hb.trans (hbx.mono (Nat.le_of_lt hGl));have hcr:=(World.cell?_of_block (a:=⟨b,off+k,none⟩) (hbxw.block b hbl)).trans hc0;have hTx:=hT0.keep hbxw;by_cases hqn:q<ni
     · obtain ⟨bt,ot,t,rfl,hbtl,hro,ht,hxt⟩:=hTx.at_ hqn;have HO:=Lib.hid (HONE.out t (List.mem_of_getElem? hxt.out));have HYS:=Lib.hid (fun e=>linTo_yes (m:=dn) hxt.out e);have HNO:=Lib.hid (fun e=>linTo_no (m:=dn) hxt.out e);obtain ⟨mt,ft⟩:=t;have hmt:IsMono mt:=ht.1;have HM:=Lib.hid hmt;obtain ⟨p0,p1,p2,p3,p4,p5,p6,p7,rfl⟩:=mono8 hmt;obtain ⟨y0,y1,y2,y3,y4,y5,y6,y7,y8⟩:=nine hro;obtain ⟨x,hxe⟩:∃x,wlen [p0,p1,p2,p3,p4,p5,p6,p7]=x:=⟨_,rfl⟩;have HX:=Lib.hid hxe;clear hxe;have hT:=Own.new wr 88 #[.int .u8 p0,.int .u8 p1,.int .u8 p2,.int .u8 p3,.int .u8 p4,.int .u8 p5,.int .u8 p6,.int .u8 p7,.int .i64 ft];have hba:=bA1 wr (.cells #[.int .u8 p0,.int .u8 p1,.int .u8 p2,.int .u8 p3,.int .u8 p4,.int .u8 p5,.int .u8 p6,.int .u8 p7,.int .i64 ft] 88);have hbx3:=bT' hbx hba (Nat.le_of_lt hlx);have hG3:=hG.keep hba hG.lt;have hA3:=hAx.keep hba hAx.lt;have hq0:(0:Int)≤(q:Int):=(by omega);have hqn2:(q:Int)<(ni:Int):=(by omega);go_upto_region 10 with fail
       generalize wr.alloc (.cells #[.int .u8 p0,.int .u8 p1,.int .u8 p2,.int .u8 p3,.int .u8 p4,.int .u8 p5,.int .u8 p6,.int .u8 p7,.int .i64 ft] 88)=wt at *;generalize hgT:wr.heap.size=gT at *;clear hbx hba hG y0 y1 y2 y3 y4 y5 y6 y7 y8 hro cA1 hAx hcr hTx hbxw hgT;have hTl:=hT.lt;go_upto_region 11 with fail
       by_cases hx1:x=1
       · subst hx1;have hp:=HO.out HX.out;have HSP:=Lib.hid (oneAt_spec HM.out HX.out);obtain ⟨p,hpe⟩:∃p,oneAt [p0,p1,p2,p3,p4,p5,p6,p7]=p:=⟨_,rfl⟩;rw [hpe] at hp;have HPE:=Lib.hid hpe;clear hpe;obtain ⟨row,hrw⟩:∃row,linTo dn ts q=row:=⟨_,rfl⟩;rw [hrw] at hG3;have HRW:=Lib.hid hrw;have HRL:=Lib.hid (show row.length=dn by rw [←hrw];exact linTo_len _ _ _);clear hrw
         go_loopw [8] (fun y wr=>∃j:Nat,j≤dn∧y=.int .i64 j∧Below gR W1 wr∧Own wr w.heap.size 33 #[.slice da dn dc,.slice (some ⟨b,off,none⟩) n c]∧Own wr gT 88 #[.int .u8 p0,.int .u8 p1,.int .u8 p2,.int .u8 p3,.int .u8 p4,.int .u8 p5,.int .u8 p6,.int .u8 p7,.int .i64 ft]∧Own wr gR 2 (((linJ row p ft j).map (Value.int .i64)).toArray)) (fun y _=>dn - (intOf y).toNat)
         case atStart=>exact ⟨0,Nat.zero_le _,rfl,hbx3,hA3,hT,by rw [linJ_zero];exact hG3⟩
         case round=>
          clear hbx3 hA3 hT hG3 hTl;obtain ⟨j,hj,rfl,hbz,hAz,hT,hG⟩:=hrel;have cA0:=hAz.cell 0;by_cases hjn:j<dn
          · have hj0:(0:Int)≤(j:Int):=(by omega);have hjd:(j:Int)<(dn:Int):=(by omega);have hj8:(j:Int)<8:=(by omega);obtain ⟨z0,z1,z2,z3,z4,z5,z6,z7,z8⟩:wr.cell? ⟨gT,0,none⟩=some (.int .u8 p0)∧wr.cell? ⟨gT,1,none⟩=some (.int .u8 p1)∧wr.cell? ⟨gT,2,none⟩=some (.int .u8 p2)∧wr.cell? ⟨gT,3,none⟩=some (.int .u8 p3)∧wr.cell? ⟨gT,4,none⟩=some (.int .u8 p4)∧wr.cell? ⟨gT,5,none⟩=some (.int .u8 p5)∧wr.cell? ⟨gT,6,none⟩=some (.int .u8 p6)∧wr.cell? ⟨gT,7,none⟩=some (.int .u8 p7)∧wr.cell? ⟨gT,8,none⟩=some (.int .i64 ft):=⟨hT.cell 0,hT.cell 1,hT.cell 2,hT.cell 3,hT.cell 4,hT.cell 5,hT.cell 6,hT.cell 7,hT.cell 8⟩;go_wp2_with fail
            refine (l02Word8 HM.out HX.out).mono ?_;rintro e w5 ⟨rfl,hb5⟩;have hT5:=hT.keep hb5 hT.lt;have hG5:=hG.keep hb5 hG.lt;have hA5:=hAz.keep hb5 hAz.lt;have hgTz:=hT.lt;have hgRz:=hG.lt;have hbz5:=bT' hbz hb5 (Nat.le_of_lt hG.lt);clear hT hG hAz hbz hb5 z0 z1 z2 z3 z4 z5 z6 z7 z8 cA0;obtain ⟨y,hy0,hy1,hy,HY⟩:=mono_at HM.out (show j<8 by omega)
            have hcy:w5.cell? ⟨gT,j,none⟩=some (.int .u8 y):=by
             rw [hT5.cell j];exact term_cell (by omega) HY.out
            have z8:=hT5.cell 8;by_cases hjp:j=p
            · have hyv : y = 1 := by
                have:=HSP.out.2.1;rw [HPE.out,←hjp,List.getD_eq_getElem?_getD,HY.out] at this;exact this
              subst hyv;subst hjp;have hfz:=hG5.frozen j;obtain ⟨ov,hcv⟩:=hG5.has (i:=j) (by have:=HRL.out;simp [linJ_len];omega);go_wp2_with fail
              go_roundw
              case rel=>
               refine ⟨j+1,by omega,by go_num,hbz5.setCell (p:=⟨gR,j,none⟩) (by dsimp only;omega) _,hA5.far (by dsimp only;omega) _,hT5.far (by dsimp only;omega) _,?_⟩;rw [linJ_hit];exact ints_set hG5
              case measure=>simp [intOf] <;> omega
            · have hyv : y = 0 := by
                have:=HSP.out.2.2 j (by omega) (by rw [HPE.out];exact hjp);rw [List.getD_eq_getElem?_getD,HY.out] at this;exact this
              subst hyv;go_wp2_with fail
              go_roundw
              case rel=>exact ⟨j+1,by omega,by go_num,hbz5,hA5,hT5,by rw [linJ_miss hjp];exact hG5⟩
              case measure=>simp [intOf] <;> omega
          · have he:j=dn:=(by omega);subst he;go_wp2_with fail
            go_roundw
            case rel=>exact ⟨q+1,by omega,by go_num,hbz,by rw [HYS.out HX.out,HPE.out,HRW.out,←linJ_end hp];exact hG⟩
            case measure=>simp [intOf] <;> omega
       · have hx1b:(x==1)=false:=by simpa using hx1
         go_loopw [8] (fun y wr=>y=.int .i64 0∧Below gR W1 wr∧Own wr w.heap.size 33 #[.slice da dn dc,.slice (some ⟨b,off,none⟩) n c]∧Own wr gT 88 #[.int .u8 p0,.int .u8 p1,.int .u8 p2,.int .u8 p3,.int .u8 p4,.int .u8 p5,.int .u8 p6,.int .u8 p7,.int .i64 ft]∧Own wr gR 2 (((linTo dn ts q).map (Value.int .i64)).toArray)) (fun y _=>0)
         case atStart=>exact ⟨rfl,hbx3,hA3,hT,hG3⟩
         case round=>
          clear hbx3 hA3 hT hG3 hTl;obtain ⟨rfl,hbx3,hA3,hT,hG3⟩:=hrel;have cA0:=hA3.cell 0;by_cases hjn:0<dn
          · have hjd:(0:Int)<(dn:Int):=(by omega);obtain ⟨z0,z1,z2,z3,z4,z5,z6,z7,z8⟩:wr.cell? ⟨gT,0,none⟩=some (.int .u8 p0)∧wr.cell? ⟨gT,1,none⟩=some (.int .u8 p1)∧wr.cell? ⟨gT,2,none⟩=some (.int .u8 p2)∧wr.cell? ⟨gT,3,none⟩=some (.int .u8 p3)∧wr.cell? ⟨gT,4,none⟩=some (.int .u8 p4)∧wr.cell? ⟨gT,5,none⟩=some (.int .u8 p5)∧wr.cell? ⟨gT,6,none⟩=some (.int .u8 p6)∧wr.cell? ⟨gT,7,none⟩=some (.int .u8 p7)∧wr.cell? ⟨gT,8,none⟩=some (.int .i64 ft):=⟨hT.cell 0,hT.cell 1,hT.cell 2,hT.cell 3,hT.cell 4,hT.cell 5,hT.cell 6,hT.cell 7,hT.cell 8⟩;go_wp2_with fail
            refine (l02Word8 HM.out HX.out).mono ?_;rintro e w5 ⟨rfl,hb5⟩;go_wp2_with fail
            go_roundw
            case rel=>exact ⟨q+1,by omega,by go_num,bT' hbx3 hb5 (Nat.le_of_lt hG3.lt),by rw [HNO.out (by rw [HX.out];exact hx1)];exact hG3.keep hb5 hG3.lt⟩
            case measure=>simp [intOf] <;> omega
          · have hjd:¬(0:Int)<(dn:Int):=(by omega);go_wp2_with fail
            go_roundw
            case rel=>exact ⟨q+1,by omega,by go_num,hbx3,by rw [HNO.out (by rw [HX.out];exact hx1)];exact hG3⟩
            case measure=>simp [intOf] <;> omega
     · have he:q=ni:=(by omega);subst he;have hk0:(0:Int)≤(k:Int):=(by omega);have hkn:(k:Int)<(n:Int):=(by omega);have hGL:Own wr gR 2 (((linRow dn ts).map (Value.int .i64)).toArray):=(by rw [linRow,HTL.out];exact hG);have hbr:Below W1.heap.size W1 wr:=(by rw [HGR.out];exact hbx);have hRx:wr.ownsRow (w.heap.size+1) 22 1 (.slice oa k oc) k (rowSl dn gs):=World.ownsRow.kept HR.out (row:=none) ⟨hbr.os,hbr.tape,hbr.output,hbr.size,fun j hj _=>hbr.block j hj⟩ (by cases oa <;> simp [Value.ownBlock]);have HLT:=Lib.hid (fun x hx=>(show x<gR by rw [←HGR.out];exact (HW.out.2.2.2 x hx).2));have HWx:=Lib.hid ((HW.out.keep hbr).snoc hx.out HLT.out (show w.heap.size+1≤gR by omega) hGL);have hlw:=hAx.lt;clear hbr hbx hA hG hGL HR hb
       have hnews:∀j u,([Value.slice (some ⟨gR,0,none⟩) dn dn]:List Value)[j]? = some u→(wr.alloc (.cells #[.slice (some ⟨gR,0,none⟩) dn dn] 22)).cell? ((⟨wr.heap.size,0,none⟩:Addr).add j)=some u:=fun j u hu=>by
        rw [Addr.add_mid];exact (Own.new wr 22 #[.slice (some ⟨gR,0,none⟩) dn dn]).range j u hu
       have hone:∀u∈([Value.slice (some ⟨gR,0,none⟩) dn dn]:List Value),u.oneCell'=true:=(by simp [Value.oneCell']);have HN:=Lib.hid hnews;have HO:=Lib.hid hone;have hba:=bA1 wr (.cells #[.slice (some ⟨gR,0,none⟩) dn dn] 22);have HR2:=Lib.hid (hRx.alloc (.cells #[.slice (some ⟨gR,0,none⟩) dn dn] 22));have hA3:=hAx.keep hba hAx.lt;have hb3:=bT' hbxw hba hbxw.size;have HW3:=Lib.hid (HWx.out.keep hba);clear hnews hone hRx HWx hba;go_upto_region 15 with fail
       go_wp2_with (refine wpList_append_own_wide _ rfl (.tmp 64) (.tmp 66) 41 rfl (w.heap.size+1) 22 ti tz 1 24 Try.underlying41 HI.out HZ.out HS.out HBt.out HZs.out (by omega) (.slice oa k oc) k (rowSl dn gs) rfl HR2.out ⟨wr.heap.size,0,none⟩ 1 1 [Value.slice (some ⟨gR,0,none⟩) dn dn] rfl rfl HN.out HO.out (by simp only [maxLen];omega) (by omega) (by rw [sAl];omega) (fun v' w' h2 h3 h4=>?_))
       have hA4:=hA3.grown h3 (fun e=>by have:=(HR2.out.lt _ e.symm).1;omega);have hb4:=grown_below hb3 h3 (fun j e=>by have:=(HR2.out.lt j e).1;omega) hb3.size;have HW4:=Lib.hid (HW3.out.grown HR2.out h3);obtain ⟨va,vc,rfl⟩:=row_slice h2
       have hR4:w'.ownsRow (w.heap.size+1) 22 1 (.slice va (k+1) vc) (k+1) (rowSl dn (gs++[gR])):=by
        rw [rowSl,List.map_append];exact h2
       clear h2 h3 h4 hA3 hb3 HR2 HW3 HN HO hbxw hAx
       go_roundw
       case rel=>exact ⟨k+1,va,vc,gs++[gR],by omega,by go_num,rfl,hb4,hA4,hR4,HW4⟩
       case measure=>simp [intOf] <;> omega
  · have he:k=n:=(by omega);subst he;have cA1:=hA.cell 1;have HR:=Lib.hid hR;clear hR;go_wp2_with fail
    go_ret
    obtain ⟨ra,rc,hrr,hO⟩:=ownT_row (V:=ims.map (linRow dn)) (by rw [List.length_map];exact HLn.out) HW.out.1 (by
     intro row hrow;obtain ⟨ts,-,rfl⟩:=List.mem_map.1 hrow;exact linTo_len _ _ _) HR.out (by
     intro i g row h1 h2;rw [List.getElem?_map] at h2
     cases hts:ims[i]? with
     | none=>rw [hts] at h2;simp at h2
     | some ts =>
       rw [hts] at h2
       injection h2 with h2
       subst h2
       exact HW.out.2.1 i g ts h1 hts) (fun g hg=>(HW.out.2.2.2 g hg).1) HW.out.2.2.1
    simp only [Value.slice.injEq] at hrr;obtain ⟨rfl,-,rfl⟩:=hrr;exact ⟨oa,oc,rfl,hO.weaken (by omega) (Nat.le_refl _),hb⟩
set_option maxHeartbeats 1000000 in
theorem LinearTable_s {w : World} {da : Option Addr} {dn : Nat} {zs : List Int} {a : Option Addr} {n : Nat} {ims : List (List Tm)} (dc c : Nat) (hd : Ints w da dn zs) (hdn : dn ≤ 1048576) (hF : Frms w a n ims) (hn : n ≤ 1048576) (hL : ∀ im ∈ ims, (im.length : Int) ≤ 1048576) :
    Calls Try.prog 49 #[.agg #[.slice da dn dc,.slice a n c]] w fun e w'=>∃ra rn rc,e=.returned (.tuple #[.slice ra rn rc,.int .i64 (ltE zs ims)])∧OwnT w' w.heap.size w'.heap.size ra rn (ltV zs ims)∧Below w.heap.size w w':=by
 have HLL:=Lib.hid hL
 have HLn:=Lib.hid hF.len
 have HFF:=Lib.hid hF
 have HT:=Lib.hid hF.tm
 have HDL:=Lib.hid hd.len
 clear hL
 have hA:=Own.new w 33 #[.slice da dn dc,.slice a n c]
 have hb:=bA1 w (.cells #[.slice da dn dc,.slice a n c] 33)
 have c0:=hA.cell 0
 have c1:=hA.cell 1
 cases hal:isAlg zs ims
 all_goals
  have HA:=Lib.hid hal;clear hal;go_enter Try.func49,Try.ntmps49
  go_upto_region 1 with fail
  generalize w.alloc (.cells #[.slice da dn dc,.slice a n c] 33)=w0 at *;go_wp2_with fail
  refine (l02Is_c dc c (hd.keep hb) hdn (hF.keep hb) hn HLL.out).mono ?_;rintro e w1 ⟨rfl,hb1⟩;rw [HA.out];have hA1:=hA.keep hb1 hA.lt;have hb2:=bT' hb hb1 hb.size;clear hA hb hb1 c0 c1;have c0:=hA1.cell 0;have c1:=hA1.cell 1
 · go_wp2_with fail
   go_ret2
   exact ⟨none,0,0,by rw [(lt_no HA.out).2];rfl,by rw [(lt_no HA.out).1];exact OwnT.none_,hb2⟩
 · obtain rfl:dn=n:=(by have:=isAlg_len2 HA.out;have:=HLn.out;have:=HDL.out;omega);have h8:dn≤8:=(by have:=degsOk_len (isAlg_degs HA.out);have:=HDL.out;omega);have HOK:=Lib.hid (isAlg_ok HA.out HT.out)
   have HONE:Hid (∀ts∈ims,∀t∈ts,wlen t.m=1→oneAt t.m<dn):=Lib.hid (fun ts hts t ht h1=>by
    obtain ⟨k,hk,hkx⟩:=List.mem_iff_getElem.1 hts;have h9:=(HOK.out.at_ k).2.2.1;rw [List.getD_eq_getElem?_getD,List.getElem?_eq_getElem hk,hkx] at h9
    exact one_lt (HT.out ts hts t ht).1 (h9 t ht) HDL.out h1)
   go_wp2_with fail
   refine (l02Linear_c dc c h8 (HFF.out.keep hb2) hn HLL.out HONE.out).mono ?_;rintro e w2 ⟨ra,rc,rfl,hO,hb3⟩;have hb4:=bT' hb2 hb3 hb2.size;have hO2:=hO.weaken (lo':=w.heap.size) hb2.size (Nat.le_refl _);clear hO hb2 hb3 hA1 c0 c1;go_wp2_with fail
   go_ret2
   exact ⟨ra,dn,rc,by rw [(lt_yes HA.out).2];rfl,by rw [(lt_yes HA.out).1,HDL.out];exact hO2,hb4⟩
end Go.Proofs.Ytikldofmpkidbaa
