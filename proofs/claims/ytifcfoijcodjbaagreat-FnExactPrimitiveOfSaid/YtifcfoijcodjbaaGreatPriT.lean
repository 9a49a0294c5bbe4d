
import Derived.Test.YtifcfoijcodjbaaGreatPriS
import Derived.Test.YtifcfoijcodjbaaGreatLawForm
import Derived.Test.YtifcfoijcodjbaaGreatLawPri
namespace Go.Proofs.YtifcfoijcodjbaaGreat
set_option maxRecDepth 100000
open Go.RowKit Go.Deep
set_option maxHeartbeats 4000000 in
theorem PrimitiveOf_s {w : World} {da : Option Addr} {dn : Nat} {zs : List Int} {a : Option Addr} {n : Nat} {ims : List (List Tm)} {a2 : Option Addr} {n2 : Nat} {fs : List Tm} (dc c c2 : Nat) (hd : Ints w da dn zs) (hdn : dn ≤ 1048576) (hF : Frms w a n ims) (hn : n ≤ 1048576) (hL : ∀ im ∈ ims, (im.length : Int) ≤ 1048576) (h : Terms w a2 n2 fs) (hn2 : n2 ≤ 1048576) :
    Calls Tryz.prog 25 #[.agg #[.slice da dn dc,.slice a n c],.agg #[.slice a2 n2 c2]] w fun e w'=>∃v,e=.returned (.tuple #[.agg #[v],.int .i64 (poC zs ims fs)])∧OwnR w' w.heap.size v (pmV zs ims fs)∧Below w.heap.size w w':=by
 have HLL:=Lib.hid hL
 have HD:=Lib.hid hd
 have HF:=Lib.hid hF
 have HH:=Lib.hid h
 have HTM:=Lib.hid h.2.1
 have HT:=Lib.hid hF.tm
 have hO:=((Own.new w 35 #[.slice da dn dc,.slice a n c]).alloc (.cells #[.slice a2 n2 c2] 39)).alloc (.cells #[.slice none 0 0] 39)
 have hG:=(Own.new (w.alloc (.cells #[.slice da dn dc,.slice a n c] 35)) 39 #[.slice a2 n2 c2]).alloc (.cells #[.slice none 0 0] 39)
 have hX:=Own.new ((w.alloc (.cells #[.slice da dn dc,.slice a n c] 35)).alloc (.cells #[.slice a2 n2 c2] 39)) 39 #[.slice none 0 0]
 simp only [sAl] at hG hX
 have hb:=bTn (bTn (bA1 w (.cells #[.slice da dn dc,.slice a n c] 35)) (bA1 _ (.cells #[.slice a2 n2 c2] 39))) (bA1 _ (.cells #[.slice none 0 0] 39))
 have c0:=hO.cell 0
 have c1:=hO.cell 1
 have cg:=hG.cell 0
 clear hL hd hF h
 go_enter Tryz.func25,Tryz.ntmps25
 go_upto_region 1 with fail
 generalize ((w.alloc (.cells #[.slice da dn dc,.slice a n c] 35)).alloc (.cells #[.slice a2 n2 c2] 39)).alloc (.cells #[.slice none 0 0] 39)=w0 at *
 obtain ⟨gX,hgX⟩:∃gX,w.heap.size+1+1=gX:=⟨_,rfl⟩
 rw [hgX] at hX
 try rw [hgX]
 have hgx1:w.heap.size≤gX:=by omega
 clear hgX
 go_wp2_with fail
 refine (l03Homogeneous_c false dc c c2 (HD.out.keep hb) hdn (HF.out.keep hb) hn HLL.out (HH.out.keep hb) hn2).mono ?_
 rintro e w1 ⟨rfl,hbX⟩
 have hs:=hb.size
 replace hO:=hO.keep hbX hO.lt
 replace hG:=hG.keep hbX hG.lt
 replace hX:=hX.keep hbX hX.lt
 replace hb:=bT' hb hbX hs
 replace hs:=hb.size
 clear hbX c0 c1 cg
 by_cases hc0:hoC false zs ims fs=0
 rotate_left
 · have hcb:(hoC false zs ims fs != 0)=true:=(by simpa using hc0);rw [hoN_no hc0];have HP:=Lib.hid (poC_no hc0);obtain ⟨q,hq⟩:∃q,hoC false zs ims fs=q:=⟨_,rfl⟩;rw [hq] at hcb hc0 ⊢;have HQ:=Lib.hid hq;clear hq;have cR:=hX.cell 0;have fR:=hX.frozen 0;go_wp2_with fail
   have q4:=hX.set 0 (.slice none 0 0);refine bodyPost_ret (results_row2 rfl _ _ gX 39 #[.slice none 0 0] (0,0) _ rfl q4 Tryz.underlying39 rfl Tryz.info_form) rfl ⟨.slice none 0 0,by rw [HP.out.1,HQ.out];rfl,?_,hb.setCell (p:=⟨gX,0,none⟩) (by dsimp only;omega) _⟩;rw [HP.out.2];exact World.ownsRow_nil _ _ _ _
 rw [hoN_yes hc0]
 obtain ⟨v,hv⟩:∃v,headW zs fs=v:=⟨_,rfl⟩
 obtain ⟨hA,hf,hcase⟩:=ho_facts hc0 HTM.out
 have hz:=isAlg_dg hA
 have HAO:=isAlg_ok hA HT.out
 have HC0:=Lib.hid hc0
 rw [hc0,hv]
 rcases hcase with ⟨h1,h2,h3⟩ | ⟨m,h2,h3,h4,h5,h6,h7⟩
 · obtain rfl:v=-1:=(by omega);have HPZ:Hid (pzB zs ims fs=true):=Lib.hid (by rw [pzB,hv,decide_eq_true (by omega),Bool.or_true]);have HP:=Lib.hid (poC_0 hc0 HPZ.out);have HE:Hid (pmR zs ims fs (headW zs fs).toNat=[]):=Lib.hid (by rw [hv];rfl);have cR:=hX.cell 0;have fR:=hX.frozen 0;clear h1 h2 h3 hv hA hf hz HAO hc0;go_wp2_with fail
   have q4:=hX.set 0 (.slice none 0 0);refine bodyPost_ret (results_row2 rfl _ _ gX 39 #[.slice none 0 0] (0,0) _ rfl q4 Tryz.underlying39 rfl Tryz.info_form) rfl ⟨.slice none 0 0,by rw [HP.out.1];rfl,?_,hb.setCell (p:=⟨gX,0,none⟩) (by dsimp only;omega) _⟩;rw [HP.out.2,HE.out];exact World.ownsRow_nil _ _ _ _
 · obtain rfl:v=(m:Int):=(by omega);have HVE:Hid ((headW zs fs).toNat=m):=Lib.hid (by rw [hv,Int.toNat_natCast]);have HPZ:Hid (pzB zs ims fs=zeroR (byR (rowT (side zs m) fs) (bdR zs ims m))):=Lib.hid (by rw [pzB,hv,decide_eq_false (by omega),Bool.or_false,Int.toNat_natCast]);have hm0:¬(m:Int)<0:=by omega
   have hne:¬fs=[]:=by
    intro e;have:headW zs fs=-1:=(by rw [e];rfl);omega
   by_cases hmz:m=0
   · have HP := Lib.hid (poC_4 hc0 (HPZ.out.trans (by
       rw [bdR,if_pos hmz]
       exact zeroR_low (isForm_f hf) h7 hne)))
     subst hmz;have cR:=hX.cell 0;have fR:=hX.frozen 0;clear h2 h3 h4 h5 h6 h7 hv hA hf hz HAO hc0 hne;go_wp2_with fail
     have q4:=hX.set 0 (.slice none 0 0);refine bodyPost_ret (results_row2 rfl _ _ gX 39 #[.slice none 0 0] (0,0) _ rfl q4 Tryz.underlying39 rfl Tryz.info_form) rfl ⟨.slice none 0 0,by rw [HP.out.1];rfl,?_,hb.setCell (p:=⟨gX,0,none⟩) (by dsimp only;omega) _⟩;rw [HP.out.2];exact World.ownsRow_nil _ _ _ _
   · have hmb : ((m : Int) == 0) = false := by
       simp
       omega
     obtain ⟨q,hq⟩:∃q,q+1=m:=⟨m - 1,by omega⟩;have c0:=hO.cell 0;have c1:=hO.cell 1;have cg:=hG.cell 0;have h6':cnt zs q≤120:=(by have:=h6 hmz;rwa [show m - 1=q by omega] at this);have HHf:=Lib.hid hf;have HHA:=Lib.hid hA;have HHZ:=Lib.hid hz;have HHO:=Lib.hid HAO;have H3:=Lib.hid h3;have H4:=Lib.hid h4;have H6:=Lib.hid h6';have H7:=Lib.hid h7;have HQ:=Lib.hid hq;have HNE:=Lib.hid hne;have HMZ:=Lib.hid hmz;clear hf hA hz HAO h2 h3 h4 h5 h6 h6' h7 hv hq hne hc0 hmz;go_wp2_with fail
     refine (l03Primitive_c (m:=m) (q:=q) dc c c2 (HD.out.keep hb) (HF.out.keep hb) (HH.out.keep hb) hn2 HHO.out HHA.out HHf.out HHZ.out HQ.out H3.out H4.out H6.out H7.out HNE.out).mono ?_;rintro e w2 ⟨v,rfl,hOR,hbX⟩;obtain ⟨va,vn,vc,rfl⟩:=hOR.isSlice;have hgl1:=hX.lt;replace hX:=hX.keep hbX hX.lt;replace hb:=bT' hb hbX hs;have HGX:=Lib.hid hgl1;have HSW:=Lib.hid hs;clear hbX c0 c1 cg hO hG;have hba:=bA1 w2 (.cells #[.slice va vn vc] 39);replace hX:=hX.keep hba hX.lt;have hOR3:=hOR.keep hba;have hQ:=Own.new w2 39 #[.slice va vn vc];replace hb:=bT' hb hba hb.size;clear hba hOR hs hgl1
     cases hzb:zeroR (byR (rowT (side zs m) fs) (bdR zs ims m)) with
     | false =>
       have HP:=Lib.hid (poC_4 HC0.out (HPZ.out.trans hzb));have cR:=hX.cell 0;have fR:=hX.frozen 0;have HOR:=Lib.hid hOR3;clear hzb hOR3;go_wp2_with fail
       have q4:=hX.set 0 (.slice none 0 0);refine bodyPost_ret (results_row2 rfl _ _ gX 39 #[.slice none 0 0] (0,0) _ rfl q4 Tryz.underlying39 rfl Tryz.info_form) rfl ⟨.slice none 0 0,by rw [HP.out.1];rfl,?_,hb.setCell (p:=⟨gX,0,none⟩) (by dsimp only;omega) _⟩;rw [HP.out.2];exact World.ownsRow_nil _ _ _ _
     | true =>
       have HP:=Lib.hid (poC_0 HC0.out (HPZ.out.trans hzb))
       have HOR:Hid (OwnR (w2.alloc (.cells #[.slice va vn vc] 39)) w1.heap.size (.slice va vn vc) (pmR zs ims fs m)):=Lib.hid (by
        have:=hOR3
        rwa [pmB,if_pos hzb] at this)
       have cR:=hX.cell 0;have fR:=hX.frozen 0;have cQ:=hQ.cell 0;clear hzb hOR3;go_wp2_with fail
       have q4:=hX.set 0 (.slice va vn vc);refine bodyPost_ret (results_row2 rfl _ _ gX 39 #[.slice va vn vc] (0,0) _ rfl q4 Tryz.underlying39 rfl Tryz.info_form) rfl ⟨.slice va vn vc,by rw [HP.out.1];rfl,?_,hb.setCell (p:=⟨gX,0,none⟩) (by dsimp only;omega) _⟩;rw [HP.out.2,HVE.out];exact (HOR.out.set (p:=⟨gX,0,none⟩) (by dsimp only;exact HGX.out) _).weaken HSW.out
theorem side_mono {zs:List Int} (hz:degsOk zs=true) (n:Nat):∀m∈side zs n,IsMono m:=fun m hm=>mons_mono (degsOk_len hz) m hm
theorem pmV_ok {zs:List Int} {ims:List (List Tm)} {ts:List Tm} (hi:∀im∈ims,∀t∈im,IsTm t) (ht:∀t∈ts,IsTm t):(∀t∈pmV zs ims ts,IsTm t)∧(pmV zs ims ts).length≤120:=by
 rw [pmV]
 split
 · rename_i h0
   have hc0:hoC false zs ims ts=0:=by
    by_cases h:hoC false zs ims ts=0
    · exact h
    · rw [(poC_no h).1] at h0;exact absurd h0 h
   obtain ⟨hA,hf,hcase⟩:=ho_facts hc0 ht;have hz:=isAlg_dg hA;have HA:=isAlg_ok hA hi;obtain ⟨m,hm⟩:∃m,(headW zs ts).toNat=m:=⟨_,rfl⟩
   have hl:nbR zs m≤120:=by
    rcases hcase with ⟨-,h2,-⟩ | ⟨k,h2,-,-,-,h6,-⟩
    · have:m=0:=(by omega);rw [this];exact Nat.zero_le _
    · have:m=k:=(by omega);rw [this];exact nbR_lt h6
   rw [hm];refine ⟨fmR_tm (fun x hx=>?_) (sumTo_ok (priR_ok (lgR_red HA hz m).ok) _ (Nat.le_refl _)).bd,?_⟩
   · rw [loS] at hx;split at hx
     · simp at hx
     · exact side_mono hz _ x hx
   · have:=fmR_len (loS zs m) (sumTo (nbR zs m) (facR (rowT (side zs m) ts) (bdR zs ims m)) (priR (cnt zs m) (lgR zs ims m)) (priR (cnt zs m) (lgR zs ims m)).length);rw [loS_len] at this;exact Nat.le_trans this hl
 · simp
theorem primitiveOf_walk (da : Option Addr) (dn dc : Nat) (zs : List Int) (a : Option Addr) (n c : Nat) (fss : List (List Tm)) (a2 : Option Addr) (n2 c2 : Nat) (fs : List Tm) (w : World) (hd : Ints w da dn zs) (hdm : (dn : Int) ≤ 9223372036854775807) (hF : Frms w a n fss) (hnm : (n : Int) ≤ 9223372036854775807) (h2 : Terms w a2 n2 fs) (hm2 : (n2 : Int) ≤ 9223372036854775807) :
    Calls Tryz.prog 4 #[.agg #[.slice da dn dc,.slice a n c],.agg #[.slice a2 n2 c2]] w fun e w'=>e=.returned (.bool true)∧Below w.heap.size w w':=
 lawPri_walk da dn dc zs a n c fss a2 n2 c2 fs w hd hdm hF hnm h2 hm2 (pmV zs fss fs) (poC zs fss fs) _ (pmV_ok hF.tm h2.2.1).1 rfl (Nat.le_trans (pmV_ok hF.tm h2.2.1).2 (by decide))
  (fun _ _ dc' _ c' _ q h1 h2 h3 h4 h5 h6 h7=>PrimitiveOf_s dc' c' q h5 h1 h6 h2 h3 h7 h4) (fun _ _ dc' _ c' _ q h1 h2 h3 h4 h5 h6 h7=>PrimitiveOf_c dc' c' q h5 h1 h6 h2 h3 h7 h4)
end Go.Proofs.YtifcfoijcodjbaaGreat
