
import Derived.Test.YtikldofmpkidbaaIsFormB
import Derived.Test.YtikldofmpkidbaaClosed
namespace Go.Proofs.Ytikldofmpkidbaa
set_option maxRecDepth 100000
open Go.RowKit Go.Deep
def rowR (r m:List Int) (x:Int):Nat→Option Int
 | 0=>some x
 | k + 1 => match rowR r m x k with
   | none=>none
   | some g=>if m.getD k 0=0 then some g else if r.getD k 0=0 then none else some (max g (r.getD k 0))
def monAt (fs:List Tm) (k:Nat):List Int:=match fs[k]? with | some t=>t.m | none=>[]
theorem monAt_of {fs:List Tm} {k:Nat} {t:Tm} (h:fs[k]? = some t):monAt fs k=t.m:=by simp only [monAt,h]
def scanR (r:List Int) (fs:List Tm):Nat→Option Int
 | 0=>some 0
 | k+1=>match scanR r fs k with | none=>none | some g=>rowR r (monAt fs k) g 8
def rankF (r:List Int) (fs:List Tm):Int:=match scanR r fs fs.length with | some g=>g+1 | none=>0
theorem rowR_skip {r m:List Int} {x g:Int} {k:Nat} (h:rowR r m x k=some g) {y:Int} (hy:m[k]? = some y) (h0:y=0):rowR r m x (k+1)=some g:=by
 have:m.getD k 0=0:=by rw [List.getD_eq_getElem?_getD,hy];exact h0
 rw [rowR,h]
 simp only [if_pos this]
theorem rowR_none {r m:List Int} {x g:Int} {k:Nat} (h:rowR r m x k=some g) {y:Int} (hy:m[k]? = some y) (h0:¬y=0) {z:Int} (hz:r[k]? = some z) (h1:z=0):rowR r m x (k+1)=none:=by
 have e:¬m.getD k 0=0:=by rw [List.getD_eq_getElem?_getD,hy];exact h0
 have e1:r.getD k 0=0:=by rw [List.getD_eq_getElem?_getD,hz];exact h1
 rw [rowR,h]
 simp only [if_neg e,if_pos e1]
theorem rowR_some {r m:List Int} {x g:Int} {k:Nat} (h:rowR r m x k=some g) {y:Int} (hy:m[k]? = some y) (h0:¬y=0) {z:Int} (hz:r[k]? = some z) (h1:¬z=0):rowR r m x (k+1)=some (max g z):=by
 have e:¬m.getD k 0=0:=by rw [List.getD_eq_getElem?_getD,hy];exact h0
 have e2:r.getD k 0=z:=by rw [List.getD_eq_getElem?_getD,hz];rfl
 rw [rowR,h]
 simp only [if_neg e,e2,if_neg h1]
theorem rowR_dead {r m:List Int} {x:Int} {k:Nat} (h:rowR r m x k=none):∀d,rowR r m x (k+d)=none
 | 0=>h
 | d+1=>by rw [←Nat.add_assoc,rowR,rowR_dead h d]
theorem rowR_past {r m:List Int} {x g:Int} {k:Nat} (h:rowR r m x k=some g) (hz:∀j,k≤j→m.getD j 0=0):∀d,rowR r m x (k+d)=some g
 | 0=>h
 | d + 1 => by
   rw [←Nat.add_assoc,rowR,rowR_past h hz d];simp only [if_pos (hz (k+d) (by omega))]
theorem scanR_step {r:List Int} {fs:List Tm} {k:Nat} {t:Tm} {x g:Int} (h:scanR r fs k=some x) (ht:fs[k]? = some t) (hr:rowR r t.m x 8=some g):scanR r fs (k+1)=some g:=by
 rw [scanR,h]
 simp only [monAt_of ht,hr]
theorem scanR_stop {r:List Int} {fs:List Tm} {k:Nat} {t:Tm} {x:Int} (h:scanR r fs k=some x) (ht:fs[k]? = some t) (hr:rowR r t.m x 8=none):scanR r fs (k+1)=none:=by
 rw [scanR,h]
 simp only [monAt_of ht,hr]
theorem scanR_dead {r:List Int} {fs:List Tm} {k:Nat} (h:scanR r fs k=none):∀d,scanR r fs (k+d)=none
 | 0=>h
 | d+1=>by rw [←Nat.add_assoc,scanR,scanR_dead h d]
theorem rankF_no {r:List Int} {fs:List Tm} {k j:Nat} {t:Tm} {x:Int} (h:scanR r fs k=some x) (ht:fs[k]? = some t) (hj:j≤8) (hr:rowR r t.m x j=none):rankF r fs=0:=by
 have hk:=(List.getElem?_eq_some_iff.1 ht).1
 have h8:rowR r t.m x 8=none:=by
  have:=rowR_dead hr (8 - j)
  rwa [show j+(8 - j)=8 by omega] at this
 have:=scanR_dead (scanR_stop h ht h8) (fs.length - (k+1))
 rw [show k+1+(fs.length - (k+1))=fs.length by omega] at this
 rw [rankF,this]
theorem rankF_yes {r:List Int} {fs:List Tm} {x:Int} (h:scanR r fs fs.length=some x):rankF r fs=x+1:=by rw [rankF,h]
theorem rowR_bd {r m:List Int} {B:Int} (hB:∀j,0≤r.getD j 0∧r.getD j 0≤B) {x:Int} (hx:0≤x∧x≤B):∀(k:Nat) (g:Int),rowR r m x k=some g→0≤g∧g≤B
 | 0,g,h=>by rw [rowR] at h;injection h with h;omega
 | k + 1, g, h => by
   rw [rowR] at h
   cases h1:rowR r m x k with
   | none=>rw [h1] at h;cases h
   | some y =>
     rw [h1] at h;have ih:=rowR_bd hB hx k y h1;have hk:=hB k;dsimp only at h;split at h
     · injection h with h;omega
     · split at h
       · cases h
       · injection h with h;omega
theorem scanR_bd {r:List Int} {fs:List Tm} {B:Int} (hB:∀j,0≤r.getD j 0∧r.getD j 0≤B):∀(k:Nat) (g:Int),scanR r fs k=some g→0≤g∧g≤B
 | 0, g, h => by
   rw [scanR] at h
   injection h with h
   have:=hB 0;omega
 | k + 1, g, h => by
   rw [scanR] at h
   cases h1:scanR r fs k with
   | none=>rw [h1] at h;cases h
   | some y=>rw [h1] at h;exact rowR_bd hB (scanR_bd hB k y h1) 8 g h
theorem rankF_bd {r:List Int} {fs:List Tm} {B:Int} (hB:∀j,0≤r.getD j 0∧r.getD j 0≤B):0≤rankF r fs∧rankF r fs≤B+1:=by
 have:=hB 0
 unfold rankF
 split
 · rename_i g h;have:=scanR_bd hB fs.length g h;omega
 · omega
theorem rowR_more {r s m:List Int} (h:∀j,¬r.getD j 0=0→s.getD j 0=r.getD j 0) {x:Int}:∀(k:Nat) (g:Int),rowR r m x k=some g→rowR s m x k=some g
 | 0,g,h1=>h1
 | k + 1, g, h1 => by
   rw [rowR] at h1 ⊢
   cases h2:rowR r m x k with
   | none=>rw [h2] at h1;cases h1
   | some y =>
     rw [h2] at h1;rw [rowR_more h k y h2];dsimp only at h1 ⊢;split at h1
     · rename_i h3;rw [if_pos h3];exact h1
     · rename_i h3;split at h1
       · cases h1
       · rename_i h4;rw [if_neg h3,h k h4,if_neg h4];exact h1
theorem scanR_more {r s:List Int} {fs:List Tm} (h:∀j,¬r.getD j 0=0→s.getD j 0=r.getD j 0):∀(k:Nat) (g:Int),scanR r fs k=some g→scanR s fs k=some g
 | 0,g,h1=>h1
 | k + 1, g, h1 => by
   rw [scanR] at h1 ⊢
   cases h2:scanR r fs k with
   | none=>rw [h2] at h1;cases h1
   | some y =>
     rw [h2] at h1;rw [scanR_more h k y h2];exact rowR_more h 8 g h1
theorem rankF_more {r s:List Int} {fs:List Tm} (h:∀j,¬r.getD j 0=0→s.getD j 0=r.getD j 0) (h0:¬rankF r fs=0):rankF s fs=rankF r fs:=by
 unfold rankF at h0 ⊢
 cases h1:scanR r fs fs.length with
 | none=>rw [h1] at h0;exact absurd rfl h0
 | some g=>rw [scanR_more h _ g h1]
def roundR (ims:List (List Tm)) (r:List Int):Nat→List Int
 | 0=>r
 | i+1=>(roundR ims r i).set i (rankF (roundR ims r i) (ims.getD i []))
def ranksTo (ims:List (List Tm)):Nat→List Int
 | 0=>List.replicate ims.length 0
 | p+1=>roundR ims (ranksTo ims p) ims.length
def ranksL (ims:List (List Tm)):List Int:=ranksTo ims ims.length
def Fixed (ims:List (List Tm)) (r:List Int):Prop:=r.length=ims.length∧∀i,¬r.getD i 0=0→rankF r (ims.getD i [])=r.getD i 0
theorem getD_set {r:List Int} {i j:Nat} {v:Int} (hi:i<r.length):(r.set i v).getD j 0=if j=i then v else r.getD j 0:=by
 rw [List.getD_eq_getElem?_getD,List.getElem?_set,List.getD_eq_getElem?_getD]
 by_cases h:j=i
 · subst h;simp [hi]
 · rw [if_neg (fun e=>h e.symm),if_neg h]
theorem Fixed.same {ims:List (List Tm)} {r:List Int} (h:Fixed ims r) {i:Nat} (hi:i<ims.length) (h0:¬r.getD i 0=0):r.set i (rankF r (ims.getD i []))=r:=by
 have hl:i<r.length:=by rw [h.1];exact hi
 rw [h.2 i h0,List.getD_eq_getElem?_getD,List.getElem?_eq_getElem hl]
 exact List.set_getElem_self hl
theorem Fixed.step {ims:List (List Tm)} {r:List Int} (h:Fixed ims r) {i:Nat} (hi:i<ims.length):Fixed ims (r.set i (rankF r (ims.getD i []))):=by
 by_cases h0:r.getD i 0=0
 · have hl:i<r.length:=by rw [h.1];exact hi
   have hm:∀j,¬r.getD j 0=0→(r.set i (rankF r (ims.getD i []))).getD j 0=r.getD j 0:=by
    intro j hj;rw [getD_set hl,if_neg (fun e=>hj (by rw [e];exact h0))]
   refine ⟨by rw [List.length_set];exact h.1,fun j hj=>?_⟩;rw [getD_set hl] at hj ⊢;by_cases e:j=i
   · subst e;rw [if_pos rfl] at hj ⊢;exact rankF_more hm hj
   · rw [if_neg e] at hj ⊢;rw [rankF_more hm (by rw [h.2 j hj];exact hj),h.2 j hj]
 · rw [h.same hi h0];exact h
theorem Fixed.round {ims:List (List Tm)} {r:List Int} (h:Fixed ims r):∀i,i≤ims.length→Fixed ims (roundR ims r i)
 | 0,_=>h
 | i+1,hi=>(h.round i (by omega)).step (by omega)
theorem fixed_to (ims:List (List Tm)):∀p,Fixed ims (ranksTo ims p)
 | 0=>⟨by simp [ranksTo],fun i h=>absurd (by rw [ranksTo,List.getD_eq_getElem?_getD,List.getElem?_replicate];split <;> rfl) h⟩
 | p+1=>(fixed_to ims p).round ims.length (Nat.le_refl _)
theorem roundR_bd {ims:List (List Tm)} {r:List Int} {B:Int} (hl:r.length=ims.length) (hB:∀j,0≤r.getD j 0∧r.getD j 0≤B):∀i:Nat,i≤ims.length→∀j,0≤(roundR ims r i).getD j 0∧(roundR ims r i).getD j 0≤B+i
 | 0,_,j=>by have:=hB j;rw [roundR];omega
 | i + 1, hi, j => by
   have ih:=roundR_bd hl hB i (by omega)
   have hli:i<(roundR ims r i).length:=by
    have:∀k,(roundR ims r k).length=r.length:=fun k=>by
     induction k with
     | zero=>rfl
     | succ k ih=>rw [roundR,List.length_set,ih]
    rw [this];omega
   rw [roundR,getD_set hli];split
   · have:=rankF_bd (fs:=ims.getD i []) ih;omega
   · have:=ih j;omega
theorem ranksTo_bd {ims:List (List Tm)}:∀(p j:Nat),0≤(ranksTo ims p).getD j 0∧(ranksTo ims p).getD j 0≤(p * ims.length:Nat)
 | 0, j => by
   rw [ranksTo,List.getD_eq_getElem?_getD,List.getElem?_replicate];split <;> simp
 | p + 1, j => by
   have:=roundR_bd (fixed_to ims p).1 (ranksTo_bd p) ims.length (Nat.le_refl _) j;rw [ranksTo,Nat.succ_mul];omega
set_option maxHeartbeats 2000000 in
theorem rankFrom_c {w : World} {ra : Option Addr} {rn : Nat} {rs : List Int} {a : Option Addr} {n : Nat} {fs : List Tm} (rc c : Nat) (hr : Ints w ra rn rs) (hB : ∀ j, 0 ≤ rs.getD j 0 ∧ rs.getD j 0 ≤ 1000) (h : Terms w a n fs) (hn : n ≤ 1048576) (hz : ∀ t ∈ fs, ∀ j, rn ≤ j → t.m.getD j 0 = 0) :
    Calls Try.prog 88 #[.slice ra rn rc,.agg #[.slice a n c]] w fun e w'=>e=.returned (.int .i64 (rankF rs fs))∧Below w.heap.size w w':=by
 have HL:=Lib.hid h.len
 have HB:=Lib.hid hB
 have HZ:=Lib.hid hz
 have HH:=Lib.hid h
 have HR:=Lib.hid hr
 have hb0:=bA1 w (.cells #[.slice a n c] 61)
 have hF0:=Own.new w 61 #[.slice a n c]
 have c0:=hF0.cell 0
 clear hB hz
 go_enter Try.func88,Try.ntmps88
 go_upto_region 3 with fail
 generalize w.alloc (.cells #[.slice a n c] 61)=w0 at *
 clear c0 hF0
 go_loopw [5,13] (fun g i wr=>∃(k:Nat) (x:Int),k≤n∧i=.int .i64 k∧g=.int .i64 x∧Below w.heap.size w wr∧Hid (scanR rs fs k=some x)) (fun _ i _=>n - (intOf i).toNat)
 case atStart=>exact ⟨0,0,Nat.zero_le _,rfl,rfl,hb0,rfl⟩
 case round=>
  clear hb0;obtain ⟨k,x,hk,rfl,rfl,hb,H⟩:=hrel;have hxb:=scanR_bd HB.out k x H.out;have hx0:=hxb.1;have hx1:=hxb.2;clear hxb;by_cases hlt:k<n
  · obtain ⟨b,off,t,rfl,hbl,hro,ht,hx⟩:=(HH.out.keep hb).at_ hlt;have HZT:=Lib.hid (HZ.out t (List.mem_of_getElem? hx.out));obtain ⟨mt,ft⟩:=t;have hmt:IsMono mt:=ht.1;have HM:=Lib.hid hmt;obtain ⟨p0,p1,p2,p3,p4,p5,p6,p7,rfl⟩:=mono8 hmt;obtain ⟨y0,y1,y2,y3,y4,y5,y6,y7,y8⟩:=nine hro;have hba:=bA1 wr (.cells #[.int .u8 p0,.int .u8 p1,.int .u8 p2,.int .u8 p3,.int .u8 p4,.int .u8 p5,.int .u8 p6,.int .u8 p7,.int .i64 ft] 88);have hb3:=bT' hb hba hb.size;have hk0:(0:Int)≤(k:Int):=(by omega);have hkn:(k:Int)<(n:Int):=(by omega);go_upto_region 6 with fail
    generalize wr.alloc (.cells #[.int .u8 p0,.int .u8 p1,.int .u8 p2,.int .u8 p3,.int .u8 p4,.int .u8 p5,.int .u8 p6,.int .u8 p7,.int .i64 ft] 88)=wt at *
    go_loopw [5,19] (fun g i wx=>∃(j:Nat) (y:Int),j≤8∧i=.int .i64 j∧g=.int .i64 y∧Below w.heap.size w wx∧Hid (rowR rs [p0,p1,p2,p3,p4,p5,p6,p7] x j=some y)) (fun _ i _=>8 - (intOf i).toNat)
    case atStart=>exact ⟨0,x,Nat.zero_le _,rfl,rfl,hb3,rfl⟩
    case round=>
     clear hb3;obtain ⟨j,g,hj,rfl,rfl,hb,H2⟩:=hrel;have hgb:=rowR_bd HB.out ⟨hx0,hx1⟩ j g H2.out;have hg0:=hgb.1;have hg1:=hgb.2;clear hgb;by_cases hlt2:j<8
     · obtain ⟨y,hy0,hy1,hy,HY⟩:=mono_at HM.out hlt2;have hix:=run_index_one (P:=Try.prog) Try.underlying86 Try.info_u8 hlt2 (cs:=#[.int .u8 p0,.int .u8 p1,.int .u8 p2,.int .u8 p3,.int .u8 p4,.int .u8 p5,.int .u8 p6,.int .u8 p7]) (v:=.int .u8 y) (by simpa [mcells] using hy) Try.isAgg_u8;by_cases h0:y=0
       · subst h0;go_wp2_with fail
         go_roundw
         case rel=>exact ⟨j+1,g,by omega,by go_num,rfl,hb,rowR_skip H2.out HY.out rfl⟩
         case measure=>simp [intOf] <;> omega
       · have h0b:(y==0)=false:=by simpa using h0
         have hjr:j<rn:=by
          by_cases hh:j<rn
          · exact hh
          · have:=HZT.out j (by omega);rw [List.getD_eq_getElem?_getD,HY.out] at this;exact absurd this h0
         have hj0:(0:Int)≤(j:Int):=(by omega);have hjn:(j:Int)<(rn:Int):=(by omega);obtain ⟨rb,ro,z,rfl,hrbl,hrc,HZZ⟩:=(HR.out.keep hb).at_ hjr;by_cases hz0:z=0
         · subst hz0;go_wp2_with fail
           go_ret
           exact ⟨ret_i (rankF_no H.out hx.out (by omega) (rowR_none H2.out HY.out h0 HZZ.out rfl)).symm,hb⟩
         · have hz0b:(z==0)=false:=(by simpa using hz0);go_wp2_with fail
           go_roundw
           case rel=>exact ⟨j+1,max g z,by omega,by go_num,(by congr 1 <;> (split <;> omega)),hb,rowR_some H2.out HY.out h0 HZZ.out hz0⟩
           case measure=>simp [intOf] <;> omega
     · have he:j=8:=(by omega);subst he;go_wp2_with fail
       go_roundw
       case rel=>exact ⟨k+1,g,by omega,by go_num,rfl,hb,scanR_step H.out hx.out H2.out⟩
       case measure=>simp [intOf] <;> omega
  · have he:k=n:=(by omega);subst he;go_wp2_with fail
    go_ret
    exact ⟨ret_i (rankF_yes (by rw [HL.out];exact H.out)).symm,hb⟩
set_option maxHeartbeats 2000000 in
theorem l02Rank_c {w : World} {ra : Option Addr} {rn : Nat} {rs : List Int} {a : Option Addr} {n : Nat} {fs : List Tm} (rc c : Nat) (hr : Ints w ra rn rs) (hrn : rn ≤ 8) (hB : ∀ j, 0 ≤ rs.getD j 0 ∧ rs.getD j 0 ≤ 1000) (h : Terms w a n fs) (hn : n ≤ 1048576) (hz : ∀ t ∈ fs, ∀ j, rn ≤ j → t.m.getD j 0 = 0) :
    Calls Try.prog 87 #[.agg #[.slice a n c],.slice ra rn rc] w fun e w'=>e=.returned (.int .i64 (rankF rs fs))∧Below w.heap.size w w':=by
 have HL:=Lib.hid h.len
 have HB:=Lib.hid hB
 have HZ:=Lib.hid hz
 have HH:=Lib.hid h
 have HR:=Lib.hid hr
 have hb0:=bA1 w (.cells #[.slice a n c] 61)
 have hF0:=Own.new w 61 #[.slice a n c]
 clear hB hz
 go_enter Try.func87,Try.ntmps87
 go_upto_region 3 with fail
 generalize w.alloc (.cells #[.slice a n c] 61)=w0 at *
 go_loopw [5,6] (fun g i wr=>∃(k:Nat) (x:Int),k≤n∧i=.int .i64 k∧g=.int .i64 (x+1)∧Below w.heap.size w wr∧Own wr w.heap.size 61 #[.slice a n c]∧Hid (scanR rs fs k=some x)) (fun _ i _=>n - (intOf i).toNat)
 case atStart=>exact ⟨0,0,Nat.zero_le _,rfl,rfl,hb0,hF0,rfl⟩
 case round=>
  clear hb0 hF0;obtain ⟨k,x,hk,rfl,rfl,hb,hF,H⟩:=hrel;have c0:=hF.cell 0;have hxb:=scanR_bd HB.out k x H.out;have hx0:=hxb.1;have hx1:=hxb.2;clear hxb;by_cases hlt:k<n
  · obtain ⟨b,off,t,rfl,hbl,hro,ht,hx⟩:=(HH.out.keep hb).at_ hlt;have HZT:=Lib.hid (HZ.out t (List.mem_of_getElem? hx.out));have HM:=Lib.hid ht.1;have hk0:(0:Int)≤(k:Int):=(by omega);have hkn:(k:Int)<(n:Int):=(by omega);go_upto_region 6 with fail
    go_loopw [5,7] (fun g i wx=>∃(j:Nat) (y:Int),j≤rn∧i=.int .i64 j∧g=.int .i64 (y+1)∧wx=wr∧Hid (rowR rs t.m x j=some y)) (fun _ i _=>rn - (intOf i).toNat)
    case atStart=>exact ⟨0,x,Nat.zero_le _,rfl,rfl,rfl,rfl⟩
    case round=>
     obtain ⟨j,g,hj,rfl,rfl,rfl,H2⟩:=hrel;have hgb:=rowR_bd HB.out ⟨hx0,hx1⟩ j g H2.out;have hg0:=hgb.1;have hg1:=hgb.2;clear hgb;by_cases hlt2:j<rn
     · have hj8:j<8:=(by omega);obtain ⟨y,hy0,hy1,hy,HY⟩:=mono_at HM.out hj8;have hj0:(0:Int)≤(j:Int):=(by omega);have hjn:(j:Int)<(rn:Int):=(by omega);obtain ⟨rb,ro,z,rfl,hrbl,hrc,HZZ⟩:=(HR.out.keep hb).at_ hlt2;have hzb:=HB.out j;rw [List.getD_eq_getElem?_getD,HZZ.out] at hzb;have hz1:0≤z:=hzb.1;have hz2:z≤1000:=hzb.2;clear hzb
       have hcy:wr.cell? ⟨b,off+k * 9+j,none⟩=some (.int .u8 y):=by
        have hh:=hro j (.int .u8 y) (by rw [tcells,List.getElem?_append_left (by simp [mcells];have:=HM.out.1;omega)];exact hy);exact hh
       by_cases h0:y=0
       · subst h0;go_wp2_with fail
         go_roundw
         case rel=>exact ⟨j+1,g,by omega,by go_num,rfl,trivial,rowR_skip H2.out HY.out rfl⟩
         case measure=>simp [intOf] <;> omega
       · have h0b:(y==0)=false:=(by simpa using h0);by_cases hz0:z=0
         · subst hz0;go_wp2_with fail
           go_ret
           exact ⟨ret_i (rankF_no H.out hx.out (by omega) (rowR_none H2.out HY.out h0 HZZ.out rfl)).symm,hb⟩
         · have hz0b:(z==0)=false:=(by simpa using hz0);go_wp2_with fail
           go_roundw
           case rel=>exact ⟨j+1,max g z,by omega,by go_num,(by congr 1 <;> (first | omega | (split <;> omega))),trivial,rowR_some H2.out HY.out h0 HZZ.out hz0⟩
           case measure=>simp [intOf] <;> omega
     · have he:j=rn:=(by omega);subst he;have h8:=rowR_past H2.out HZT.out (8 - j);rw [show j+(8 - j)=8 by omega] at h8;have H8:=Lib.hid h8;clear h8;go_wp2_with fail
       go_roundw
       case rel=>exact ⟨k+1,g,by omega,by go_num,rfl,hb,hF,scanR_step H.out hx.out H8.out⟩
       case measure=>simp [intOf] <;> omega
  · have he:k=n:=(by omega);subst he;go_wp2_with fail
    go_ret
    exact ⟨ret_i (rankF_yes (by rw [HL.out];exact H.out)).symm,hb⟩
def nz (x:Int):Bool:=x != 0
def full (r:List Int):Bool:=r.all nz
def OwnI (w:World) (lo hi:Nat) (a:Option Addr) (n:Nat) (V:List Int):Prop:=V.length=n∧(0<n→∃g,a=some ⟨g,0,none⟩∧lo≤g∧g<hi∧Own w g 2 ((V.map (Value.int .i64)).toArray))
section
variable {w w':World} {lo hi n:Nat} {a:Option Addr} {V:List Int}
theorem OwnI.none_:OwnI w lo hi none 0 []:=⟨rfl,fun h=>absurd h (by omega)⟩
theorem OwnI.keep (h:OwnI w lo hi a n V) (hb:Below w.heap.size w w'):OwnI w' lo hi a n V:=
 ⟨h.1,fun hn=>by obtain ⟨g,h1,h2,h3,h4⟩:=h.2 hn;exact ⟨g,h1,h2,h3,h4.keep hb h4.lt⟩⟩
theorem OwnI.ints (h:OwnI w lo hi a n V):Ints w a n V:=
 ⟨h.1,fun hn=>by
  obtain ⟨g,rfl,h2,h3,h4⟩:=h.2 hn
  exact (IntBlk.ints' (n:=n) h4 h.1).2 hn⟩
theorem OwnI.weaken {lo' hi':Nat} (h:OwnI w lo hi a n V) (h1:lo'≤lo) (h2:hi≤hi'):OwnI w lo' hi' a n V:=
 ⟨h.1,fun hn=>by obtain ⟨g,e,h3,h4,h5⟩:=h.2 hn;exact ⟨g,e,by omega,by omega,h5⟩⟩
theorem OwnI.block {gx : Nat} {tx : TypeId} {csx : Array Value} (h : OwnI w lo hi a n V) (hx : Own w gx tx csx) :
    ∃g t cs,Own w g t cs∧n≤cs.size∧(0<n→a=some ⟨g,0,none⟩)∧(g=gx∨(lo≤g∧g<hi)):=by
 by_cases hn:0<n
 · obtain ⟨g,e,h1,h2,h3⟩:=h.2 hn;exact ⟨g,_,_,h3,by have:=h.1;simp;omega,fun _=>e,Or.inr ⟨h1,h2⟩⟩
 · exact ⟨gx,tx,csx,hx,by omega,fun hh=>absurd hh hn,Or.inl rfl⟩
end
def rkV (zs:List Int) (ims:List (List Tm)):List Int:=if (isAlg zs ims && full (ranksL ims))=true then ranksL ims else []
def rkE (zs:List Int) (ims:List (List Tm)):Int:=if isAlg zs ims=true then (if full (ranksL ims)=true then 0 else 5) else 1
theorem rk_no {zs:List Int} {ims:List (List Tm)} (h:isAlg zs ims=false):rkV zs ims=[]∧rkE zs ims=1:=by simp [rkV,rkE,h]
theorem rk_miss {zs:List Int} {ims:List (List Tm)} (h:isAlg zs ims=true) (h1:full (ranksL ims)=false):rkV zs ims=[]∧rkE zs ims=5:=by simp [rkV,rkE,h,h1]
theorem rk_yes {zs:List Int} {ims:List (List Tm)} (h:isAlg zs ims=true) (h1:full (ranksL ims)=true):rkV zs ims=ranksL ims∧rkE zs ims=0:=by simp [rkV,rkE,h,h1]
theorem made_ints (n:Nat):madeCells #[Value.int .i64 0] n=Array.replicate n (Value.int .i64 0):=by
 apply Array.ext'
 rw [toList_madeCells_one]
 simp
theorem zero_ints (n:Nat):Array.replicate n (Value.int .i64 0)=((List.replicate n (0:Int)).map (Value.int .i64)).toArray:=by simp
theorem IntBlk.set {w:World} {g i:Nat} {v:Int} {zs:List Int} (h:Own w g 2 ((zs.map (Value.int .i64)).toArray)):Own (w.setCell ⟨g,i,none⟩ (.int .i64 v)) g 2 (((zs.set i v).map (Value.int .i64)).toArray):=by
 have:=h.set i (.int .i64 v)
 rwa [show ((zs.map (Value.int .i64)).toArray).setIfInBounds i (.int .i64 v)=(((zs.set i v).map (Value.int .i64)).toArray) by simp [List.map_set]] at this
theorem index0_c {w : World} {a : Option Addr} {n : Nat} {rs : List Int} (c : Nat) (h : Ints w a n rs) (hn : n ≤ 1048576) :
    Calls Try.prog 113 #[.slice a n c,.int .i64 0] w fun e w'=>∃i:Int,e=.returned (.int .i64 i)∧decide (0≤i)=!full rs∧Below w.heap.size w w':=by
 have HL:=Lib.hid h.len
 have HH:=Lib.hid h
 go_enter Try.func113,Try.ntmps113
 go_wp2_with fail
 go_loopw [8] (fun y wr=>∃k:Nat,k≤n∧y=.int .i64 k∧Below w.heap.size w wr∧Hid ((rs.take k).all nz=true)) (fun y _=>n - (intOf y).toNat)
 case atStart=>exact ⟨0,Nat.zero_le _,rfl,Below.refl _ _,rfl⟩
 case round=>
  obtain ⟨k,hk,rfl,hb,H⟩:=hrel;by_cases hlt:k<n
  · obtain ⟨b,off,z,rfl,hbl,hc,hx⟩:=(HH.out.keep hb).at_ hlt;have hk0:(0:Int)≤(k:Int):=(by omega);have hkn:(k:Int)<(n:Int):=(by omega);by_cases hz:z=0
    · subst hz;go_wp2_with fail
      go_ret
      refine ⟨_,rfl,?_,hb⟩;have:full rs=false:=all_no hx.out rfl;rw [this];simp
    · have hz1:(0==z)=false:=(by simp;omega);have hz2:¬0=z:=(by omega);go_wp2_with fail
      go_roundw
      case rel=>exact ⟨k+1,by omega,by go_num,hb,take_all hx.out H.out (by simp [nz,hz])⟩
      case measure=>simp [intOf] <;> omega
  · have he:k=n:=(by omega);subst he;go_wp2_with fail
    go_ret
    refine ⟨_,rfl,?_,hb⟩;have:full rs=true:=(by have:=H.out;rwa [List.take_of_length_le (by have:=HL.out;omega)] at this);rw [this];rfl
theorem contains0_c {w : World} {a : Option Addr} {n : Nat} {rs : List Int} (c : Nat) (h : Ints w a n rs) (hn : n ≤ 1048576) :
    Calls Try.prog 89 #[.slice a n c,.int .i64 0] w fun e w'=>e=.returned (.bool (!full rs))∧Below w.heap.size w w':=by
 go_enter Try.func89,Try.ntmps89
 go_wp2_with fail
 refine (index0_c c h hn).mono ?_
 rintro e w1 ⟨i,rfl,hi,hb⟩
 cases hf:full rs
 · rw [hf] at hi;have hi0:(0:Int)≤i:=(by simpa using hi);go_wp2_with fail
   go_ret
   exact ⟨ret_b (by rw [hf];rfl),hb⟩
 · rw [hf] at hi;have hi0:¬(0:Int)≤i:=(by simpa using hi);go_wp2_with fail
   go_ret
   exact ⟨ret_b (by rw [hf];rfl),hb⟩
theorem mono_out {zs m:List Int} {n j:Nat} (hm:IsMono m) (ok:monoOk zs m=true) (hn:zs.length=n) (hj:n≤j):m.getD j 0=0:=by
 by_cases h8:j<8
 · have hl:j<m.length:=(by rw [hm.1];exact h8);have h1:=monoOk_at ok h8 (List.getElem?_eq_getElem hl);rw [capAt,List.getElem?_eq_none (by omega)] at h1;have:=getD_mono hm j;rw [List.getD_eq_getElem?_getD,List.getElem?_eq_getElem hl] at this ⊢;simp only [Option.getD_some] at this ⊢;have h2:m[j]≤0:=h1;omega
 · rw [List.getD_eq_getElem?_getD,List.getElem?_eq_none (by rw [hm.1];omega)];rfl
theorem isAlg_len {zs:List Int} {ims:List (List Tm)} (h:isAlg zs ims=true):ims.length=zs.length:=by
 simp only [isAlg,Bool.and_eq_true,decide_eq_true_eq] at h
 obtain ⟨-,h2,-⟩:=h
 omega
theorem rank_bd {ims:List (List Tm)} {p i n:Nat} (hn:ims.length=n) (h8:n≤8) (hp:p<n) (hi:i≤n) (j:Nat):0≤(roundR ims (ranksTo ims p) i).getD j 0∧(roundR ims (ranksTo ims p) i).getD j 0≤1000:=by
 have h:=roundR_bd (fixed_to ims p).1 (ranksTo_bd p) i (by omega) j
 rw [hn] at h
 have h1:p * n≤7 * 8:=Nat.mul_le_mul (by omega) h8
 omega
theorem rank_len {ims:List (List Tm)} {p i n:Nat} (hn:ims.length=n) (hi:i≤n):(roundR ims (ranksTo ims p) i).length=n:=by
 rw [((fixed_to ims p).round i (by omega)).1,hn]
theorem roundR_at {ims:List (List Tm)} {r:List Int} {i:Nat} {ts:List Tm} (h:ims[i]? = some ts):roundR ims r (i+1)=(roundR ims r i).set i (rankF (roundR ims r i) ts):=by
 rw [roundR,List.getD_eq_getElem?_getD,h]
 rfl
theorem roundR_same {ims:List (List Tm)} {p i n:Nat} (hn:ims.length=n) (hi:i<n) {z:Int} (hz:(roundR ims (ranksTo ims p) i)[i]? = some z) (h0:¬z=0):roundR ims (ranksTo ims p) (i+1)=roundR ims (ranksTo ims p) i:=by
 rw [roundR]
 exact ((fixed_to ims p).round i (by omega)).same (by omega) (by rw [List.getD_eq_getElem?_getD,hz];exact h0)
theorem ranksTo_next {ims:List (List Tm)} {p n:Nat} (hn:ims.length=n):roundR ims (ranksTo ims p) n=ranksTo ims (p+1):=by rw [ranksTo,hn]
set_option maxHeartbeats 4000000 in
theorem RanksOf_c {w : World} {da : Option Addr} {dn : Nat} {zs : List Int} {a : Option Addr} {n : Nat} {ims : List (List Tm)} (dc c : Nat) (hd : Ints w da dn zs) (hdn : dn ≤ 1048576) (hF : Frms w a n ims) (hn : n ≤ 1048576) (hL : ∀ im ∈ ims, (im.length : Int) ≤ 1048576) :
    Calls Try.prog 45 #[.agg #[.slice da dn dc,.slice a n c]] w fun e w'=>∃ra rn rc,e=.returned (.tuple #[.slice ra rn rc,.int .i64 (rkE zs ims)])∧OwnI w' w.heap.size w'.heap.size ra rn (rkV zs ims)∧Below w.heap.size w w':=by
 have HLL:=Lib.hid hL
 have HLn:=Lib.hid hF.len
 have HFF:=Lib.hid hF
 have HT:=Lib.hid hF.tm
 have HDL:=Lib.hid hd.len
 clear hL
 have hA:=Own.new w 33 #[.slice da dn dc,.slice a n c]
 have hb:=bA1 w (.cells #[.slice da dn dc,.slice a n c] 33)
 have c0:=hA.cell 0
 have c1:=hA.cell 1
 cases hal:isAlg zs ims
 all_goals
  have HA:=Lib.hid hal;clear hal;go_enter Try.func45,Try.ntmps45
  go_upto_region 1 with fail
  generalize w.alloc (.cells #[.slice da dn dc,.slice a n c] 33)=w0 at *;go_wp2_with fail
  refine (IsAlgebra_c dc c (hd.keep hb) hdn (hF.keep hb) hn HLL.out).mono ?_;rintro e w1 ⟨rfl,hb1⟩;rw [HA.out];have hA1:=hA.keep hb1 hA.lt;have hb2:=bT' hb hb1 hb.size;clear hA hb hb1 c0 c1;have c1:=hA1.cell 1
 · go_wp2_with fail
   go_ret2
   exact ⟨none,0,0,by rw [(rk_no HA.out).2];rfl,by rw [(rk_no HA.out).1];exact OwnI.none_,hb2⟩
 · have h8:n≤8:=(by have:=degsOk_len (isAlg_degs HA.out);have:=isAlg_len HA.out;have:=HLn.out;omega);have HOK:=Lib.hid (isAlg_ok HA.out HT.out);have hmk:=run_make_row' (P:=Try.prog) 22 2 (.int .i64 0) 8 Try.underlying22 Try.info_int64 rfl .i64 .i64 n (by omega) (by omega);rw [made_ints n] at hmk;have hmk1:=hmk w1;clear hmk;have hR:=Own.new w1 2 (Array.replicate n (Value.int .i64 0));have hba:=bA1 w1 (.cells (Array.replicate n (Value.int .i64 0)) 2);have hA2:=hA1.keep hba hA1.lt;have hb3:=bT' hb2 hba hb2.size;have hgR:w.heap.size<w1.heap.size:=hA1.lt;go_upto_region 5 with fail
   generalize w1.alloc (.cells (Array.replicate n (Value.int .i64 0)) 2)=w2 at *;generalize w1.heap.size=gR at *;clear c1 hmk1 hA1 hb2 hba;have hR0:Own w2 gR 2 (((ranksTo ims 0).map (Value.int .i64)).toArray):=(by rw [ranksTo,HLn.out,←zero_ints];exact hR);clear hR
   go_loopw [16] (fun y wr=>∃p:Nat,p≤n∧y=.int .i64 p∧Below w.heap.size w wr∧Own wr w.heap.size 33 #[.slice da dn dc,.slice a n c]∧Own wr gR 2 (((ranksTo ims p).map (Value.int .i64)).toArray)) (fun y _=>n - (intOf y).toNat)
   case atStart=>exact ⟨0,Nat.zero_le _,rfl,hb3,hA2,hR0⟩
   case round=>
    clear hb3 hA2 hR0;obtain ⟨p,hp,rfl,hb,hA,hR⟩:=hrel;by_cases hpn:p<n
    · have c1:=hA.cell 1;go_upto_region 7 with fail
      clear c1
      go_loopw [21] (fun y wx=>∃i:Nat,i≤n∧y=.int .i64 i∧Below w.heap.size w wx∧Own wx w.heap.size 33 #[.slice da dn dc,.slice a n c]∧Own wx gR 2 (((roundR ims (ranksTo ims p) i).map (Value.int .i64)).toArray)) (fun y _=>n - (intOf y).toNat)
      case atStart=>exact ⟨0,Nat.zero_le _,rfl,hb,hA,hR⟩
      case round=>
       clear hb hA hR;obtain ⟨i,hi,rfl,hb,hA,hR⟩:=hrel;by_cases hin:i<n
       · obtain ⟨b,off,ts,ai,ni,ci,rfl,hbl,hc0,hT0,hni,hx⟩:=HFF.out.at_ hin;have hc:=(World.cell?_of_block (a:=⟨b,off+i,none⟩) (hb.block b hbl)).trans hc0;have hTs:=hT0.keep hb;have hni2:ni≤1048576:=(by have:=HLL.out ts (List.mem_of_getElem? hx.out);have:=hT0.len;omega);have HZ:=Lib.hid (fun t ht j (hj:n≤j)=>mono_out (HT.out ts (List.mem_of_getElem? hx.out) t ht).1 (by have:=(HOK.out.at_ i).2.2.1;rw [List.getD_eq_getElem?_getD,hx.out] at this;exact this t ht) (show zs.length=n by rw [←isAlg_len HA.out,HLn.out]) hj);have HB:=Lib.hid (rank_bd HLn.out h8 hpn hi);have HRL:=Lib.hid (rank_len (p:=p) HLn.out hi);have HNX:=Lib.hid (roundR_at (r:=ranksTo ims p) hx.out);have hi0:(0:Int)≤(i:Int):=(by omega);have hini:(i:Int)<(n:Int):=(by omega);have hE:=Own.new wr 61 #[.slice ai ni ci];have hba:=bA1 wr (.cells #[.slice ai ni ci] 61);have hb4:=bT' hb hba hb.size;have hA4:=hA.keep hba hA.lt;have hR4:=hR.keep hba hR.lt;have hTs4:=hTs.keep hba;obtain ⟨rs,hrs⟩:∃rs,roundR ims (ranksTo ims p) i=rs:=⟨_,rfl⟩;rw [hrs] at hR4;have HRS:=Lib.hid hrs;clear hrs;go_upto_region 9 with fail
         generalize wr.alloc (.cells #[.slice ai ni ci] 61)=w3 at *;generalize wr.heap.size=gE at *;clear hc hc0 hba hb hT0 hTs hA hR;have cE:=hE.cell 0;go_wp2_with fail
         clear cE hE;refine (rankFrom_c n ci (IntBlk.ints' (n:=n) hR4 (by rw [←HRS.out];exact HRL.out)) (by rw [←HRS.out];exact HB.out) hTs4 hni2 HZ.out).mono ?_;rintro e w4 ⟨rfl,hb5⟩;have hb6:=bT' hb4 hb5 hb4.size;have hA6:=hA4.keep hb5 hA4.lt;have hR6:=hR4.keep hb5 hR4.lt;clear hb4 hA4 hR4 hb5 hTs4;have hfz:=hR6.frozen i;obtain ⟨ov,hcv⟩:=hR6.has (i:=i) (by have:=HRL.out;rw [HRS.out] at this;simp;omega);go_wp2_with fail
         go_roundw
         case rel=>
          refine ⟨i+1,by omega,by go_num,hb6.setCell (p:=⟨gR,i,none⟩) (by dsimp only;omega) _,hA6.far (by dsimp only;omega) _,?_⟩;rw [HNX.out,HRS.out];exact IntBlk.set hR6
         case measure=>simp [intOf] <;> omega
       · have he:i=n:=(by omega);subst he;have HNE:=Lib.hid (ranksTo_next (p:=p) HLn.out);go_wp2_with fail
         go_roundw
         case rel=>exact ⟨p+1,by omega,by go_num,hb,hA,by rw [←HNE.out];exact hR⟩
         case measure=>simp [intOf] <;> omega
    · have he:p=n:=(by omega);subst he;have hRL:Own wr gR 2 (((ranksL ims).map (Value.int .i64)).toArray):=(by rw [ranksL,HLn.out];exact hR);have hlen:(ranksL ims).length=p:=(by rw [ranksL,(fixed_to ims _).1,HLn.out]);have HLE:=Lib.hid hlen;clear hlen hR;go_wp2_with fail
      refine (contains0_c p (IntBlk.ints' hRL HLE.out) hn).mono ?_;rintro e w5 ⟨rfl,hb5⟩;have hb6:=bT' hb hb5 hb.size;have hR6:=hRL.keep hb5 hRL.lt;cases hfu:full (ranksL ims)
      all_goals
       have HFU:=Lib.hid hfu;clear hfu;go_wp2_with fail
       go_ret2
      · exact ⟨none,0,0,by rw [(rk_miss HA.out HFU.out).2];rfl,by rw [(rk_miss HA.out HFU.out).1];exact OwnI.none_,hb6⟩
      · exact ⟨some ⟨gR,0,none⟩,p,p,by rw [(rk_yes HA.out HFU.out).2];rfl,by rw [(rk_yes HA.out HFU.out).1];exact ⟨HLE.out,fun _=>⟨gR,rfl,by omega,hR6.lt,hR6⟩⟩,hb6⟩
set_option maxHeartbeats 4000000 in
theorem RanksOf_s {w : World} {da : Option Addr} {dn : Nat} {zs : List Int} {a : Option Addr} {n : Nat} {ims : List (List Tm)} (dc c : Nat) (hd : Ints w da dn zs) (hdn : dn ≤ 1048576) (hF : Frms w a n ims) (hn : n ≤ 1048576) (hL : ∀ im ∈ ims, (im.length : Int) ≤ 1048576) :
    Calls Try.prog 44 #[.agg #[.slice da dn dc,.slice a n c]] w fun e w'=>∃ra rn rc,e=.returned (.tuple #[.slice ra rn rc,.int .i64 (rkE zs ims)])∧OwnI w' w.heap.size w'.heap.size ra rn (rkV zs ims)∧Below w.heap.size w w':=by
 have HLL:=Lib.hid hL
 have HLn:=Lib.hid hF.len
 have HFF:=Lib.hid hF
 have HT:=Lib.hid hF.tm
 have HDL:=Lib.hid hd.len
 clear hL
 have hA:=Own.new w 33 #[.slice da dn dc,.slice a n c]
 have hb:=bA1 w (.cells #[.slice da dn dc,.slice a n c] 33)
 have c0:=hA.cell 0
 have c1:=hA.cell 1
 cases hal:isAlg zs ims
 all_goals
  have HA:=Lib.hid hal;clear hal;go_enter Try.func44,Try.ntmps44
  go_upto_region 1 with fail
  generalize w.alloc (.cells #[.slice da dn dc,.slice a n c] 33)=w0 at *;go_wp2_with fail
  refine (l02Is_c dc c (hd.keep hb) hdn (hF.keep hb) hn HLL.out).mono ?_;rintro e w1 ⟨rfl,hb1⟩;rw [HA.out];have hA1:=hA.keep hb1 hA.lt;have hb2:=bT' hb hb1 hb.size;clear hA hb hb1 c0 c1;have c0:=hA1.cell 0
 · go_wp2_with fail
   go_ret2
   exact ⟨none,0,0,by rw [(rk_no HA.out).2];rfl,by rw [(rk_no HA.out).1];exact OwnI.none_,hb2⟩
 · obtain rfl:dn=n:=(by have:=isAlg_len HA.out;have:=HLn.out;have:=HDL.out;omega);have h8:dn≤8:=(by have:=degsOk_len (isAlg_degs HA.out);have:=isAlg_len HA.out;have:=HLn.out;omega);have HOK:=Lib.hid (isAlg_ok HA.out HT.out);have hmk:=run_make_row' (P:=Try.prog) 22 2 (.int .i64 0) 8 Try.underlying22 Try.info_int64 rfl .i64 .i64 dn (by omega) (by omega);rw [made_ints dn] at hmk;have hmk1:=hmk w1;clear hmk;have hR:=Own.new w1 2 (Array.replicate dn (Value.int .i64 0));have hba:=bA1 w1 (.cells (Array.replicate dn (Value.int .i64 0)) 2);have hA2:=hA1.keep hba hA1.lt;have hb3:=bT' hb2 hba hb2.size;have hgR:w.heap.size<w1.heap.size:=hA1.lt;go_upto_region 5 with fail
   generalize w1.alloc (.cells (Array.replicate dn (Value.int .i64 0)) 2)=w2 at *;generalize w1.heap.size=gR at *;clear c0 hmk1 hA1 hb2 hba;have hR0:Own w2 gR 2 (((ranksTo ims 0).map (Value.int .i64)).toArray):=(by rw [ranksTo,HLn.out,←zero_ints];exact hR);clear hR
   go_loopw [5] (fun y wr=>∃p:Nat,p≤dn∧y=.int .i64 p∧Below w.heap.size w wr∧Own wr w.heap.size 33 #[.slice da dn dc,.slice a dn c]∧Own wr gR 2 (((ranksTo ims p).map (Value.int .i64)).toArray)) (fun y _=>dn - (intOf y).toNat)
   case atStart=>exact ⟨0,Nat.zero_le _,rfl,hb3,hA2,hR0⟩
   case round=>
    clear hb3 hA2 hR0;obtain ⟨p,hp,rfl,hb,hA,hR⟩:=hrel;by_cases hpn:p<dn
    · go_upto_region 8 with fail
      go_loopw [6] (fun y wx=>∃i:Nat,i≤dn∧y=.int .i64 i∧Below w.heap.size w wx∧Own wx w.heap.size 33 #[.slice da dn dc,.slice a dn c]∧Own wx gR 2 (((roundR ims (ranksTo ims p) i).map (Value.int .i64)).toArray)) (fun y _=>dn - (intOf y).toNat)
      case atStart=>exact ⟨0,Nat.zero_le _,rfl,hb,hA,hR⟩
      case round=>
       clear hb hA hR;obtain ⟨i,hi,rfl,hb,hA,hR⟩:=hrel;by_cases hin:i<dn
       · obtain ⟨b,off,ts,ai,ni,ci,rfl,hbl,hc0,hT0,hni,hx⟩:=HFF.out.at_ hin;have hc:=(World.cell?_of_block (a:=⟨b,off+i,none⟩) (hb.block b hbl)).trans hc0;have hTs:=hT0.keep hb;have hni2:ni≤1048576:=(by have:=HLL.out ts (List.mem_of_getElem? hx.out);have:=hT0.len;omega);have HZ:=Lib.hid (fun t ht j (hj:dn≤j)=>mono_out (HT.out ts (List.mem_of_getElem? hx.out) t ht).1 (by have:=(HOK.out.at_ i).2.2.1;rw [List.getD_eq_getElem?_getD,hx.out] at this;exact this t ht) (show zs.length=dn by rw [←isAlg_len HA.out,HLn.out]) hj);have HB:=Lib.hid (rank_bd HLn.out h8 hpn hi);have HRL:=Lib.hid (rank_len (p:=p) HLn.out hi);have HNX:=Lib.hid (roundR_at (r:=ranksTo ims p) hx.out);have hi0:(0:Int)≤(i:Int):=(by omega);have hini:(i:Int)<(dn:Int):=(by omega);have HSM:=Lib.hid (fun (z:Int) (h1:(roundR ims (ranksTo ims p) i)[i]? = some z) (h2:¬z=0)=>roundR_same (p:=p) HLn.out hin h1 h2);obtain ⟨rs,hrs⟩:∃rs,roundR ims (ranksTo ims p) i=rs:=⟨_,rfl⟩;rw [hrs] at hR;have HRS:=Lib.hid hrs;have hrl:rs.length=dn:=(by rw [←hrs];exact HRL.out);have HRL2:=Lib.hid hrl;clear hrs hrl hc0 hT0;obtain ⟨z,hz⟩:∃z,rs[i]? = some z:=⟨_,List.getElem?_eq_getElem (by have:=HRL2.out;omega)⟩;have HZV:=Lib.hid hz;have hcr:wr.cell? ⟨gR,i,none⟩=some (.int .i64 z):=(by rw [hR.cell i];simp [hz]);clear hz;by_cases hz0:z=0
         · subst hz0;have c1:=hA.cell 1;go_wp2_with fail
           clear c1;refine (l02Rank_c dn ci (IntBlk.ints' (n:=dn) hR HRL2.out) h8 (by rw [←HRS.out];exact HB.out) hTs hni2 HZ.out).mono ?_;rintro e w4 ⟨rfl,hb5⟩;have hb6:=bT' hb hb5 hb.size;have hA6:=hA.keep hb5 hA.lt;have hR6:=hR.keep hb5 hR.lt;clear hb hA hR hb5 hTs hcr;have hfz:=hR6.frozen i;obtain ⟨ov,hcv⟩:=hR6.has (i:=i) (by have:=HRL2.out;simp;omega);go_wp2_with fail
           go_roundw
           case rel=>
            refine ⟨i+1,by omega,by go_num,hb6.setCell (p:=⟨gR,i,none⟩) (by dsimp only;omega) _,hA6.far (by dsimp only;omega) _,?_⟩;rw [HNX.out,HRS.out];exact IntBlk.set hR6
           case measure=>simp [intOf] <;> omega
         · have hz0b:(z==0)=false:=(by simpa using hz0);go_wp2_with fail
           go_roundw
           case rel=>exact ⟨i+1,by omega,by go_num,hb,hA,by rw [HSM.out z (by rw [HRS.out];exact HZV.out) hz0,HRS.out];exact hR⟩
           case measure=>simp [intOf] <;> omega
       · have he:i=dn:=(by omega);subst he;have HNE:=Lib.hid (ranksTo_next (p:=p) HLn.out);go_wp2_with fail
         go_roundw
         case rel=>exact ⟨p+1,by omega,by go_num,hb,hA,by rw [←HNE.out];exact hR⟩
         case measure=>simp [intOf] <;> omega
    · have he:p=dn:=(by omega);subst he;have hRL:Own wr gR 2 (((ranksL ims).map (Value.int .i64)).toArray):=(by rw [ranksL,HLn.out];exact hR);have hlen:(ranksL ims).length=p:=(by rw [ranksL,(fixed_to ims _).1,HLn.out]);have HLE:=Lib.hid hlen;clear hlen hR hA;go_upto_region 13 with fail
      go_loopw [7] (fun y wx=>∃k:Nat,k≤p∧y=.int .i64 k∧wx=wr∧Hid (((ranksL ims).take k).all nz=true)) (fun y _=>p - (intOf y).toNat)
      case atStart=>exact ⟨0,Nat.zero_le _,rfl,rfl,rfl⟩
      case round=>
       obtain ⟨k,hk,rfl,rfl,H⟩:=hrel;by_cases hkp:k<p
       · obtain ⟨z,hz⟩:∃z,(ranksL ims)[k]? = some z:=⟨_,List.getElem?_eq_getElem (by have:=HLE.out;omega)⟩;have HZV:=Lib.hid hz;have hcr:wr.cell? ⟨gR,k,none⟩=some (.int .i64 z):=(by rw [hRL.cell k];simp [hz]);have hk0:(0:Int)≤(k:Int):=(by omega);have hkn:(k:Int)<(p:Int):=(by omega);clear hz;by_cases hz0:z=0
         · subst hz0;have HFU:Hid (full (ranksL ims)=false):=Lib.hid (all_no HZV.out rfl);go_wp2_with fail
           go_ret2
           exact ⟨none,0,0,by rw [(rk_miss HA.out HFU.out).2];rfl,by rw [(rk_miss HA.out HFU.out).1];exact OwnI.none_,hb⟩
         · have hz0b:(z==0)=false:=(by simpa using hz0);go_wp2_with fail
           go_roundw
           case rel=>exact ⟨k+1,by omega,by go_num,trivial,take_all HZV.out H.out (by simp [nz,hz0])⟩
           case measure=>simp [intOf] <;> omega
       · have he:k=p:=(by omega);subst he;have HFU:Hid (full (ranksL ims)=true):=Lib.hid (by have:=H.out;rwa [List.take_of_length_le (by have:=HLE.out;omega)] at this);go_wp2_with fail
         go_ret2
         exact ⟨some ⟨gR,0,none⟩,k,k,by rw [(rk_yes HA.out HFU.out).2];rfl,by rw [(rk_yes HA.out HFU.out).1];exact ⟨HLE.out,fun _=>⟨gR,rfl,by omega,hRL.lt,hRL⟩⟩,hb⟩
end Go.Proofs.Ytikldofmpkidbaa
