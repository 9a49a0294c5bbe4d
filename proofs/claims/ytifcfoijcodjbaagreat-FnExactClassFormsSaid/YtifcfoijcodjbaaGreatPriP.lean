
import Derived.Test.YtifcfoijcodjbaaGreatAskC
import Derived.Test.YtifcfoijcodjbaaGreatTabOf
import Derived.Test.YtifcfoijcodjbaaGreatMatP
import Derived.Test.YtifcfoijcodjbaaGreatElimC
import Derived.Test.YtifcfoijcodjbaaGreatHeld
namespace Go.Proofs.YtifcfoijcodjbaaGreat
set_option maxRecDepth 100000
open Go.RowKit Go.Deep
section
variable {cl:Bool} {zs:List Int} {ims:List (List Tm)} {ts:List Tm}
theorem ho_facts (h:hoC cl zs ims ts=0) (hT:∀t∈ts,IsTm t):isAlg zs ims=true∧isForm zs ts=true∧((ts=[]∧headW zs ts=-1∧cnt zs 0≤120)∨∃m:Nat,headW zs ts=m∧m≤20∧cnt zs m≤120∧cnt zs (m+1)≤120∧(¬m=0→cnt zs (m - 1)≤120)∧∀t∈ts,t.m∈side zs m):=by
 unfold hoC at h
 split at h
 · omega
 · rename_i h1;split at h
   · omega
   · rename_i h2;split at h
     · omega
     · rename_i h3;split at h
       · omega
       · rename_i h4;simp only [Bool.not_eq_false,Bool.and_eq_true] at h1 h2;have hz:=isAlg_dg h1.1;have hlo:=headW_lo hz hT
         have hg:gmx zs (low1 (headW zs ts)) ((headW zs ts+1).toNat - low1 (headW zs ts))≤120:=by
          by_cases hh:120<gmx zs (low1 (headW zs ts)) ((headW zs ts+1).toNat - low1 (headW zs ts))
          · exact absurd (by rw [many];exact decide_eq_true hh) h4
          · omega
         refine ⟨h1.1,h1.2,?_⟩
         cases hts:ts with
         | nil =>
           subst hts;have hh:headW zs []=-1:=rfl;rw [hh] at hg;have:=gmx_le.1 hg 0 (by omega);exact Or.inl ⟨rfl,hh,by unfold low1 at this;simpa using Int.ofNat_le.1 this⟩
         | cons t0 tl =>
           rw [←hts];refine Or.inr ?_;have h0:ts[0]? = some t0:=(by rw [hts];rfl);have hw0:=headW_of (zs:=zs) h0;have hn0:=wt_nn hz (hT t0 (List.mem_of_getElem? h0)).1;obtain ⟨m,hm⟩:∃m:Nat,headW zs ts=m:=⟨(headW zs ts).toNat,by omega⟩;have hq:=gmx_le.1 hg;rw [hm] at hq;have hl:low1 (m:Int)=m - 1:=(by unfold low1;omega);rw [hl,show ((m:Int)+1).toNat=m+1 by omega] at hq;have q1:=hq (m - (m - 1)) (by omega);have q2:=hq (m+1 - (m - 1)) (by omega);rw [show m - 1+(m - (m - 1))=m by omega] at q1;rw [show m - 1+(m+1 - (m - 1))=m+1 by omega] at q2;refine ⟨m,hm,by omega,Int.ofNat_le.1 q1,Int.ofNat_le.1 q2,fun hm0=>?_,fun t ht=>?_⟩
           · have q3:=hq 0 (by omega);rw [Nat.add_zero] at q3;exact Int.ofNat_le.1 q3
           · obtain ⟨i,hi,hti⟩:=List.mem_iff_getElem.1 ht;have hi2:ts[i]? = some t:=(by rw [List.getElem?_eq_getElem hi,hti]);have hall:=List.all_eq_true.1 h2.1 i (List.mem_range.2 hi);rw [sameW_of hi2] at hall;have hwt:wt zs t.m=m:=(by rw [←hm];simpa using hall);exact ext_mem (degsOk_len hz) (degs_pos hz) (hT t ht).1 (isForm_fit h1.2 t ht) hwt
end
theorem rowT_ok {V:List (List Int)} {ts:List Tm} (hs:∀t∈ts,1≤t.f∧t.f≤10006):RowOk V.length (rowT V ts):=⟨rowT_len V ts,fun x hx=>by
 obtain ⟨m,-,rfl⟩:=List.mem_map.1 hx
 exact coef_bd (fun t ht=>by have:=hs t ht;omega)⟩
def BasV (w:World) (lo hi:Nat) (e:Value) (W:Nat) (R:List (List Int)):Prop:=
 ∃a c fa fc,e=.agg #[.slice a R.length c,.slice fa R.length fc]∧∀(i:Nat) r,R[i]? = some r→∃g p off cap gf,a=some ⟨g,0,none⟩∧fa=some ⟨gf,0,none⟩∧lo≤g∧g<hi∧lo≤p∧p<hi∧lo≤gf∧gf<hi∧w.cell? ⟨g,i,none⟩=some (.slice (some ⟨p,off,none⟩) W cap)∧RdAt w p off r∧w.cell? ⟨gf,i,none⟩=some (.int .i64 (fstN r:Nat))
section
variable {w w':World} {lo hi W:Nat} {e:Value} {R:List (List Int)}
theorem BasV.touch {q:Nat→Prop} (h:BasV w lo hi e W R) (ht:Touch q w w') (hq:∀k,lo≤k→k<hi→¬q k) (hh:hi≤w.heap.size):BasV w' lo hi e W R:=by
 obtain ⟨a,c,fa,fc,rfl,h1⟩:=h
 refine ⟨a,c,fa,fc,rfl,fun i r hr=>?_⟩
 obtain ⟨g,p,off,cap,gf,e1,e2,g1,g2,p1,p2,f1,f2,c1,c2,c3⟩:=h1 i r hr
 exact ⟨g,p,off,cap,gf,e1,e2,g1,g2,p1,p2,f1,f2,(World.cell?_of_block (a:=⟨g,i,none⟩) (ht.other g (by omega) (hq g g1 g2))).trans c1,c2.block (ht.other p (by omega) (hq p p1 p2)),(World.cell?_of_block (a:=⟨gf,i,none⟩) (ht.other gf (by omega) (hq gf f1 f2))).trans c3⟩
theorem BasV.keep (h:BasV w lo hi e W R) (hb:Below w.heap.size w w') (hh:hi≤w.heap.size):BasV w' lo hi e W R:=
 h.touch (Touch.of_below (p:=fun _=>False) hb) (fun _ _ _ h=>h) hh
theorem BasV.weaken {lo' hi':Nat} (h:BasV w lo hi e W R) (h1:lo'≤lo) (h2:hi≤hi'):BasV w lo' hi' e W R:=by
 obtain ⟨a,c,fa,fc,rfl,h3⟩:=h
 refine ⟨a,c,fa,fc,rfl,fun i r hr=>?_⟩
 obtain ⟨g,p,off,cap,gf,e1,e2,g1,g2,p1,p2,f1,f2,c1,c2,c3⟩:=h3 i r hr
 exact ⟨g,p,off,cap,gf,e1,e2,by omega,by omega,by omega,by omega,by omega,by omega,c1,c2,c3⟩
theorem BasV.nil (w:World) (lo hi W:Nat):BasV w lo hi (.agg #[.slice none 0 0,.slice none 0 0]) W []:=⟨none,0,none,0,rfl,by simp⟩
theorem BasV.of {vb vf:Value} (h:RwsV w lo vb W R) (hf:∃B n,lo≤B∧w.ownsRow B 3 1 vf n (R.map (fun r=>Value.int .i64 (fstN r:Nat)))):BasV w lo w.heap.size (.agg #[vb,vf]) W R:=by
 obtain ⟨a,c,rfl,h1⟩:=h
 obtain ⟨B,n,hB,h2⟩:=hf
 have hn:n=R.length:=by have:=h2.1;rw [List.length_map] at this;omega
 subst hn
 obtain ⟨fa,fc,rfl⟩:=row_slice h2
 refine ⟨a,c,fa,fc,rfl,fun i r hr=>?_⟩
 obtain ⟨g,p,off,cap,e1,e2,e3,e4,e5,e6,e7⟩:=h1 i r hr
 obtain ⟨gf,f1,f2,f3⟩:=row_cellA (i:=i) h2 (by rw [List.getElem?_map,hr];rfl)
 have f4:=(h2.lt gf (by rw [f1];rfl)).1
 exact ⟨g,p,off,cap,gf,e1,f1,e2,e3,e5,e6,by omega,f2,e4,e7,f3⟩
theorem SplitV.two {N:Nat} {L:List (List Int)} (h:SplitV w lo e W N L):∃vc vcf vb vbf vp,e=.agg #[vc,vcf,vb,vbf,vp]∧BasV w lo w.heap.size (.agg #[vc,vcf]) N (cloR W L)∧BasV w lo w.heap.size (.agg #[vb,vbf]) W (bndR W L)∧RwsV w lo vp N (priR W L):=by
 obtain ⟨vc,vcf,vb,vbf,vp,rfl,h1,h2,h3,h4,h5⟩:=h
 exact ⟨vc,vcf,vb,vbf,vp,rfl,BasV.of h1 h5,BasV.of h2 h4,h3⟩
end
set_option maxHeartbeats 4000000 in
theorem reduce_c {w : World} {lo hi W p : Nat} {e : Value} {R : List (List Int)} {r : List Int} (rc : Nat) (hB : BasV w lo hi e W R) (hh : hi ≤ w.heap.size) (hR : RedI W R) (hr : RowOk W r) (hp : RowAt w p r) (hpn : ¬ (lo ≤ p ∧ p < hi)) (hW : W ≤ 1000) (hRn : R.length ≤ 1000) :
    Calls Tryz.prog 120 #[e,.slice (some ⟨p,0,none⟩) W rc] w fun e w'=>∃g,e=.returned (.slice (some ⟨g,0,none⟩) R.length R.length)∧w.heap.size≤g∧Own w' g 173 (ofI (facR r R))∧RowAt w' p (byR r R)∧Touch (fun k=>k=p) w w':=by
 obtain ⟨a,c,fa,fc,rfl,hE⟩:=hB
 have HE:=Lib.hid hE
 have HRR:=Lib.hid hR
 have HRO:=Lib.hid hr
 have HH:=Lib.hid hh
 have HPN:=Lib.hid hpn
 have hpl:=hp.lt
 obtain ⟨N,hN⟩:∃N,R.length=N:=⟨_,rfl⟩
 rw [hN] at hRn ⊢
 have HN:=Lib.hid hN
 have hbx:=Own.new w 86 #[.slice a N c,.slice fa N fc]
 have hb1:=bA1 w (.cells #[.slice a N c,.slice fa N fc] 86)
 have hmk1:=make_num3 N (by omega) (w.alloc (.cells #[.slice a N c,.slice fa N fc] 86))
 rw [sAl] at hmk1
 have hF:=Own.new (w.alloc (.cells #[.slice a N c,.slice fa N fc] 86)) 173 (Array.replicate N (Value.int .i64 0))
 rw [sAl] at hF
 have hba:=bA1 (w.alloc (.cells #[.slice a N c,.slice fa N fc] 86)) (.cells (Array.replicate N (Value.int .i64 0)) 173)
 have hb3:=bT' hb1 hba hb1.size
 have hbx2:=hbx.keep hba hbx.lt
 have hp2:=hp.keep hb3 hpl
 have ht0:Touch (fun k=>k=p) w ((w.alloc (.cells #[.slice a N c,.slice fa N fc] 86)).alloc (.cells (Array.replicate N (Value.int .i64 0)) 173)):=Touch.of_below hb3
 have cx:=hbx.cell 0
 clear hE hR hr hh hpn hN hba hb1 hb3 hp
 go_enter Tryz.func120,Tryz.ntmps120
 go_upto_region 2 with fail
 clear hmk1 cx hbx
 generalize (w.alloc (.cells #[.slice a N c,.slice fa N fc] 86)).alloc (.cells (Array.replicate N (Value.int .i64 0)) 173)=w2 at *
 obtain ⟨gF,hgF⟩:∃gF,w.heap.size+1=gF:=⟨_,rfl⟩
 rw [hgF] at hF
 have hl1:w.heap.size<gF:=by omega
 try rw [hgF]
 clear hgF
 have hF0:Own w2 gF 173 (ofI (copyTo (facR r R) 0)):=by
  rw [copyTo,List.take_zero,Nat.sub_zero,facR_len,HN.out,List.nil_append,←ofI_rep];exact hF
 have hR0:RowAt w2 p (byR r (R.take 0)):=by rw [List.take_zero];exact hp2
 have cx:=hbx2.cell 0
 clear hF hp2
 go_upto_region 3 with fail
 clear cx
 go_loopw [15] (fun y wr=>∃k:Nat,k≤N∧y=.int .i64 k∧Touch (fun k=>k=p) w wr∧Own wr w.heap.size 86 #[.slice a N c,.slice fa N fc]∧Own wr gF 173 (ofI (copyTo (facR r R) k))∧RowAt wr p (byR r (R.take k))) (fun y _=>N - (intOf y).toNat)
 case atStart=>exact ⟨0,Nat.zero_le _,rfl,ht0,hbx2,hF0,hR0⟩
 case round=>
  clear ht0 hbx2 hF0 hR0;obtain ⟨k,hk,rfl,ht,hbx,hF,hP⟩:=hrel;by_cases hin:k<N
  · have hk0:(0:Int)≤(k:Int):=(by omega);have hkn:(k:Int)<(N:Int):=(by omega);obtain ⟨s,hs⟩:∃s,R[k]? = some s:=⟨_,List.getElem?_eq_getElem (by rw [HN.out];exact hin)⟩;have hsm:=List.mem_of_getElem? hs;obtain ⟨g,q,off,cap,gf,rfl,rfl,g1,g2,q1,q2,f1,f2,c1,c2,c3⟩:=HE.out k s hs;have hhh:=HH.out;have hne:=HPN.out;have c1':=(World.cell?_of_block (a:=⟨g,k,none⟩) (ht.other g (by omega) (fun e=>hne (by omega)))).trans c1;have c3':=(World.cell?_of_block (a:=⟨gf,k,none⟩) (ht.other gf (by omega) (fun e=>hne (by omega)))).trans c3;have hfs:=HRR.out.fst s hsm;have hcur:RowOk W (byR r (R.take k)):=byR_ok HRO.out (fun t ht=>HRR.out.ok t (List.mem_of_mem_take ht));obtain ⟨f,hf⟩:∃f,(byR r (R.take k)).getD (fstN s) 0=f:=⟨_,rfl⟩;have HFE:=Lib.hid hf;have hfb:=hcur.at_ (fstN s);rw [hf] at hfb;have hcf:=hP.cell (getD_get hcur.len hfs);rw [hf] at hcf;obtain ⟨j,hj⟩:∃j,fstN s=j:=⟨_,rfl⟩;rw [hj] at hcf c3' hfs HFE;have HJ:=Lib.hid hj;have hj0:(0:Int)≤(j:Int):=(by omega);have hjw:(j:Int)<(W:Int):=by omega
    have HFA:Hid ((facR r R)[k]? = some f):=Lib.hid (by
     rw [facR,List.getElem?_map,hs,Option.map_some,←byR_fac HRR.out HRO.out hs,hj,HFE.out])
    have HST:=Lib.hid (copyTo_set HFA.out);obtain ⟨ov,hcv⟩:=hF.has (i:=k) (by rw [ofI,List.size_toArray,List.length_map,copyTo_len (by rw [facR_len,HN.out];omega),facR_len,HN.out];exact hin);have hfz:=hF.frozen k;have cx0:=hbx.cell 0;have cx1:=hbx.cell 1;have HS:=Lib.hid (HRR.out.ok s hsm);have HCU:=Lib.hid hcur;have HSN:=Lib.hid (take_sn hs);have hpg:¬p=gF:=(by have:=hpl;omega);have HRD:Hid (∀w',Touch (fun k=>k=p) w w'→RdAt w' q off s):=Lib.hid (fun w' h=>c2.block (h.other q (by omega) (fun e=>hne (by omega))));clear hs hsm hf hcur hj c1 c2 c3 hne hhh;go_upto_region 6 with fail
    clear c1' c3' hcf cx0 cx1 hcv hfz;have hF5:=hF.set k (.int .i64 f);rw [ofI_set,HST.out] at hF5;have hbx5:=hbx.far (p:=⟨gF,k,none⟩) (by dsimp only;omega) (.int .i64 f);have hP5:=hP.far (p:=⟨gF,k,none⟩) (by dsimp only;exact hpg) (.int .i64 f);have ht5:=ht.setNew (b:=gF) (by omega) k (.int .i64 f);clear hF hbx hP ht;generalize wr.setCell ⟨gF,k,none⟩ (.int .i64 f)=w5 at *
    have cF:w5.cell? ⟨gF,k,none⟩=some (.int .i64 f):=by
     rw [hF5.cell k,ofI_get];rw [copyTo,List.getElem?_append_left (by rw [List.length_take,facR_len,HN.out];omega),List.getElem?_take,if_pos (by omega)];exact HFA.out
    go_wp2_with fail
    refine (opposite3_c f _ hfb).mono ?_;rintro e w6 ⟨rfl,rfl⟩;clear cF;have hnf:0≤num (-f)∧num (-f)≤10006:=(by unfold num;omega);go_wp2_with fail
    refine (addA_c (off:=off) rc cap (num (-f)) HCU.out.len HS.out.len hW hP5 HCU.out.bd HS.out.bd hnf (fun w' h=>HRD.out w' (ht5.trans h))).mono ?_;rintro e w7 ⟨rfl,hP7,ht7⟩;have ht8:=ht5.trans ht7;have hF7:=ht7.own hF5 (fun e=>hpg e.symm);have hbx7:=ht7.own hbx5 (by omega);clear ht5 ht7 hF5 hbx5 hP5;go_wp2_with fail
    go_roundw
    case rel=>
     refine ⟨k+1,by omega,by go_num,ht8,hbx7,hF7,?_⟩;have hst:=byR_step (r:=r) (L:=R.take k) HCU.out HS.out;rw [HJ.out,HFE.out] at hst;rw [HSN.out,hst];exact hP7
    case measure=>simp [intOf] <;> omega
  · have he:k=N:=(by omega);subst he;go_wp2_with fail
    go_ret
    refine ⟨gF,rfl,by omega,?_,?_,ht⟩
    · rw [copyTo,facR_len,HN.out,Nat.sub_self,List.replicate_zero,List.append_nil,List.take_of_length_le (by rw [facR_len,HN.out];exact Nat.le_refl _)] at hF;exact hF
    · rwa [List.take_of_length_le (by rw [HN.out];exact Nat.le_refl _)] at hP
set_option maxHeartbeats 1000000 in
theorem rowC_c {w : World} {ca fa : Option Addr} {n fn : Nat} {V : List (List Int)} {ts : List Tm} (cc fc : Nat) (hM : Mos w ca n V) (ho : Ord V) (hn : n ≤ 1000) (hT : Terms w fa fn ts) (hfn : fn ≤ 1048576) (hs : Srt ts) (hmem : ∀ t ∈ ts, t.m ∈ V) :
    Calls Tryz.prog 62 #[.slice ca n cc,.agg #[.slice fa fn fc]] w fun e w'=>∃g,e=.returned (.slice (some ⟨g,0,none⟩) n n)∧w.heap.size≤g∧Own w' g 173 (ofI (rowT V ts))∧Below w.heap.size w w':=by
 have HM:=Lib.hid hM
 have HO:=Lib.hid ho
 have HT:=Lib.hid hT
 have HS:=Lib.hid hs
 have HME:=Lib.hid hmem
 have HVL:=Lib.hid hM.1
 have hG:=Own.new w 39 #[.slice fa fn fc]
 have hb1:=bA1 w (.cells #[.slice fa fn fc] 39)
 have hmk:=make_num3 n (by omega) (w.alloc (.cells #[.slice fa fn fc] 39))
 rw [sAl] at hmk
 have hR:=Own.new (w.alloc (.cells #[.slice fa fn fc] 39)) 173 (Array.replicate n (Value.int .i64 0))
 rw [sAl] at hR
 have hba:=bA1 (w.alloc (.cells #[.slice fa fn fc] 39)) (.cells (Array.replicate n (Value.int .i64 0)) 173)
 have hb2:=bT' hb1 hba hb1.size
 have hG2:=hG.keep hba hG.lt
 clear hM ho hT hs hmem hb1 hba hG
 go_enter Tryz.func62,Tryz.ntmps62
 go_upto_region 2 with fail
 clear hmk
 generalize (w.alloc (.cells #[.slice fa fn fc] 39)).alloc (.cells (Array.replicate n (Value.int .i64 0)) 173)=w2 at *
 obtain ⟨g,hg⟩:∃g,w.heap.size+1=g:=⟨_,rfl⟩
 rw [hg] at hR
 try rw [hg]
 have hgw:w.heap.size≤g:=by omega
 clear hg
 have hR0:Own w2 g 173 (ofI ([]++rowT V []++[])):=by
  rw [rowT_nil,HVL.out,List.nil_append,List.append_nil,←ofI_rep];exact hR
 have cg:=hG2.cell 0
 clear hR
 go_wp2_with fail
 refine (write_c (A:=[]) (B:=[]) (off:=0) cc n fc (fun w' h=>HM.out.keep (hb2.trans (h.bel3 hgw hb2.size))) HO.out (by omega) (fun w' h=>HT.out.keep (hb2.trans (h.bel3 hgw hb2.size))) hfn HS.out HME.out hR0 rfl).mono ?_
 rintro e w3 ⟨rfl,hR3,ht3⟩
 have hb3:=hb2.trans (ht3.bel3 hgw hb2.size)
 rw [List.nil_append,List.append_nil] at hR3
 clear hb2 ht3 hR0 hG2 cg
 go_wp2_with fail
 go_ret
 exact ⟨g,rfl,hgw,hR3,hb3⟩
def zeroR (R:List Int):Bool:=!decide (fstN R<R.length)
theorem zeroR_no {R:List Int} {k:Nat} (h:∀c,c<k→R.getD c 0=0) (h2:¬R.getD k 0=0) (hk:k<R.length):zeroR R=false:=by
 rw [zeroR,fstN_eq h h2]
 simpa using hk
theorem zeroR_yes {R:List Int} (h:∀c,c<R.length→R.getD c 0=0):zeroR R=true:=by
 rw [zeroR]
 by_cases e:fstN R<R.length
 · exact absurd (h _ e) (fstN_at e)
 · simpa using e
set_option maxHeartbeats 1000000 in
theorem isZeroR_c {w : World} {p off W : Nat} {R : List Int} (c : Nat) (hW : R.length = W) (hn : W ≤ 1000) (hR : RdAt w p off R) :
    Calls Tryz.prog 129 #[.slice (some ⟨p,off,none⟩) W c] w fun e w'=>e=.returned (.bool (zeroR R))∧w=w':=by
 have HW:=Lib.hid hW
 have HR:=Lib.hid hR
 clear hW hR
 go_enter Tryz.func129,Tryz.ntmps129
 go_upto_region 2 with fail
 go_loopw [7] (fun y wr=>∃k:Nat,k≤W∧y=.int .i64 k∧w=wr∧Hid (∀c,c<k→R.getD c 0=0)) (fun y _=>W - (intOf y).toNat)
 case atStart=>exact ⟨0,Nat.zero_le _,rfl,rfl,Lib.hid (fun c hc=>absurd hc (by omega))⟩
 case round=>
  obtain ⟨k,hk,rfl,rfl,HZ⟩:=hrel;by_cases hkn:k<W
  · have hki:(k:Int)<(W:Int):=(by omega);have hk0:(0:Int)≤(k:Int):=(by omega);obtain ⟨x,hx⟩:∃x,R[k]? = some x:=⟨_,List.getElem?_eq_getElem (by rw [HW.out];exact hkn)⟩;have hc:=HR.out k x hx;have HX:=Lib.hid (show R.getD k 0=x by rw [List.getD_eq_getElem?_getD,hx];rfl);clear hx;by_cases hx0:x=0
    · subst hx0;go_wp2_with fail
      go_roundw
      case rel=>exact ⟨k+1,by omega,by go_num,trivial,Lib.hid (fun c hc=>by
       by_cases e:c=k
       · rw [e];exact HX.out
       · exact HZ.out c (by omega))⟩
      case measure=>simp [intOf] <;> omega
    · have hxb:(x != 0)=true:=(by simpa using hx0);have HF:=Lib.hid (zeroR_no HZ.out (by rw [HX.out];exact hx0) (by rw [HW.out];exact hkn));go_wp2_with fail
      go_ret
      exact ⟨ret_b (by rw [HF.out]),rfl⟩
  · have he:k=W:=(by omega);subst he;have HF:=Lib.hid (zeroR_yes (R:=R) (fun c hc=>HZ.out c (by rw [HW.out] at hc;exact hc)));go_wp2_with fail
    go_ret
    exact ⟨ret_b (by rw [HF.out]),rfl⟩
def RwB (w:World) (lo hi:Nat) (v:Value) (W:Nat) (R:List (List Int)):Prop:=
 ∃a c,v=.slice a R.length c∧∀(i:Nat) r,R[i]? = some r→∃g p off cap,a=some ⟨g,0,none⟩∧lo≤g∧g<hi∧w.cell? ⟨g,i,none⟩=some (.slice (some ⟨p,off,none⟩) W cap)∧lo≤p∧p<hi∧RdAt w p off r
theorem RwB.of {w:World} {lo W:Nat} {v:Value} {R:List (List Int)} (h:RwsV w lo v W R):RwB w lo w.heap.size v W R:=h
theorem RwB.touch {w w':World} {lo hi W:Nat} {v:Value} {R:List (List Int)} {q:Nat→Prop} (h:RwB w lo hi v W R) (ht:Touch q w w') (hq:∀k,lo≤k→k<hi→¬q k) (hh:hi≤w.heap.size):RwB w' lo hi v W R:=by
 obtain ⟨a,c,hv,h1⟩:=h
 refine ⟨a,c,hv,fun i r hr=>?_⟩
 obtain ⟨g,p,off,cap,e1,e2,e3,e4,e5,e6,e7⟩:=h1 i r hr
 exact ⟨g,p,off,cap,e1,e2,e3,(World.cell?_of_block (a:=⟨g,i,none⟩) (ht.other g (by omega) (hq g e2 e3))).trans e4,e5,e6,e7.block (ht.other p (by omega) (hq p e5 e6))⟩
theorem RwB.keep {w w':World} {lo hi W:Nat} {v:Value} {R:List (List Int)} (h:RwB w lo hi v W R) (hb:Below w.heap.size w w') (hh:hi≤w.heap.size):RwB w' lo hi v W R:=
 h.touch (Touch.of_below (p:=fun _=>False) hb) (fun _ _ _ h=>h) hh
def sumTo (N:Nat) (F:List Int) (P:List (List Int)):Nat→List Int
 | 0=>List.replicate N 0
 | k+1=>addR (sumTo N F P k) (F.getD k 0) (P.getD k [])
theorem sumTo_zero {N:Nat} {F:List Int} {P:List (List Int)}:sumTo N F P 0=List.replicate N 0:=rfl
theorem sumTo_step {N k:Nat} {F:List Int} {P:List (List Int)} {x:Int} {r:List Int} (hx:F[k]? = some x) (hr:P[k]? = some r):sumTo N F P (k+1)=addR (sumTo N F P k) x r:=by
 rw [sumTo,List.getD_eq_getElem?_getD,List.getD_eq_getElem?_getD,hx,hr]
 rfl
theorem sumTo_ok {N:Nat} {F:List Int} {P:List (List Int)} (hP:∀r∈P,RowOk N r):∀k,k≤P.length→RowOk N (sumTo N F P k)
 | 0,_=>⟨List.length_replicate,fun x hx=>by rw [List.eq_of_mem_replicate hx];omega⟩
 | k + 1, hk => by
   have ih:=sumTo_ok (F:=F) hP k (by omega);have hr:P[k]? = some (P[k]'(by omega)):=List.getElem?_eq_getElem (by omega);have hrk:=hP _ (List.getElem_mem (show k<P.length by omega));rw [sumTo,List.getD_eq_getElem?_getD (l:=P),hr];refine ⟨by rw [addR,List.length_zipWith,ih.len,Option.getD_some,hrk.len,Nat.min_self],fun x hx=>?_⟩;obtain ⟨i,hi,rfl⟩:=List.mem_iff_getElem.1 hx;simp only [addR,List.getElem_zipWith];unfold num;omega
theorem priR_len (W:Nat) (L:List (List Int)):(priR W L).length=(bndR W L).length:=by rw [priR,bndR,List.length_map,List.length_map]
theorem priR_ok {W N:Nat} {L:List (List Int)} (h:∀r∈L,RowOk (W+N) r):∀r∈priR W L,RowOk N r:=fun r hr=>by
 obtain ⟨s,hs,rfl⟩:=List.mem_map.1 hr
 exact (h s (List.mem_filter.1 hs).1).drop
def loS (zs:List Int) (m:Nat):List (List Int):=if m=0 then [] else side zs (m - 1)
theorem loS_len (zs:List Int) (m:Nat):(loS zs m).length=nbR zs m:=by
 rw [loS,nbR]
 split
 · rfl
 · exact side_len ..
def pzB (zs:List Int) (ims:List (List Tm)) (ts:List Tm):Bool:=zeroR (byR (rowT (side zs (headW zs ts).toNat) ts) (bdR zs ims (headW zs ts).toNat)) || decide (headW zs ts<0)
def pmR (zs:List Int) (ims:List (List Tm)) (ts:List Tm) (m:Nat):List Tm:=fmR (loS zs m) (sumTo (nbR zs m) (facR (rowT (side zs m) ts) (bdR zs ims m)) (priR (cnt zs m) (lgR zs ims m)) (priR (cnt zs m) (lgR zs ims m)).length)
def poC (zs:List Int) (ims:List (List Tm)) (ts:List Tm):Int:=if hoC false zs ims ts=0 then (if pzB zs ims ts=true then 0 else 4) else hoC false zs ims ts
def pmV (zs:List Int) (ims:List (List Tm)) (ts:List Tm):List Tm:=if poC zs ims ts=0 then pmR zs ims ts (headW zs ts).toNat else []
section
variable {zs:List Int} {ims:List (List Tm)} {ts:List Tm}
theorem poC_no (h:¬hoC false zs ims ts=0):poC zs ims ts=hoC false zs ims ts∧pmV zs ims ts=[]:=by
 have e:poC zs ims ts=hoC false zs ims ts:=by rw [poC,if_neg h]
 exact ⟨e,by rw [pmV,if_neg (by rw [e];exact h)]⟩
theorem poC_4 (h:hoC false zs ims ts=0) (hp:pzB zs ims ts=false):poC zs ims ts=4∧pmV zs ims ts=[]:=by
 have e:poC zs ims ts=4:=by rw [poC,if_pos h,if_neg (by simp [hp])]
 exact ⟨e,by rw [pmV,if_neg (by rw [e];omega)]⟩
theorem poC_0 (h:hoC false zs ims ts=0) (hp:pzB zs ims ts=true):poC zs ims ts=0∧pmV zs ims ts=pmR zs ims ts (headW zs ts).toNat:=by
 have e:poC zs ims ts=0:=by rw [poC,if_pos h,if_pos hp]
 exact ⟨e,by rw [pmV,if_pos e]⟩
theorem hoC_ne4 {cl:Bool}:¬hoC cl zs ims ts=4:=by
 unfold hoC
 repeat' split
 all_goals omega
end
theorem sumTo_app {N:Nat} {F:List Int} {P:List (List Int)} {x:Int} {r:List Int}:∀k,k≤F.length→k≤P.length→sumTo N (F++[x]) (P++[r]) k=sumTo N F P k
 | 0,_,_=>rfl
 | k + 1, h1, h2 => by
   have e1:(F++[x]).getD k 0=F.getD k 0:=(by rw [List.getD_eq_getElem?_getD,List.getD_eq_getElem?_getD,List.getElem?_append_left (by omega)]);have e2:(P++[r]).getD k []=P.getD k []:=(by rw [List.getD_eq_getElem?_getD,List.getD_eq_getElem?_getD,List.getElem?_append_left (by omega)]);rw [sumTo,sumTo,sumTo_app k (by omega) (by omega),e1,e2]
theorem sumTo_last {N k:Nat} {F:List Int} {P:List (List Int)} {x:Int} {r:List Int} (hF:F.length=k) (hP:P.length=k):sumTo N (F++[x]) (P++[r]) (k+1)=addR (sumTo N F P k) x r:=by
 have e1:(F++[x])[k]? = some x:=by rw [List.getElem?_append_right (by omega),hF,Nat.sub_self];rfl
 have e2:(P++[r])[k]? = some r:=by rw [List.getElem?_append_right (by omega),hP,Nat.sub_self];rfl
 rw [sumTo_step e1 e2,sumTo_app k (by omega) (by omega)]
theorem addR_app {X Y A B:List Int} {f:Int} (h:X.length=A.length):addR (X++Y) f (A++B)=addR X f A++addR Y f B:=by
 rw [addR,List.zipWith_append h]
 rfl
theorem neg_step {N:Nat} {S p:List Int} {c:Int}:addR (lessR (List.replicate N 0) S 1) (num (-c)) p=lessR (List.replicate N 0) (addR S c p) 1:=by
 apply List.ext_getElem
 · simp [addR,lessR]
 · intro i h1 h2;simp only [addR,lessR,List.getElem_zipWith,List.getElem_replicate];obtain ⟨s,hs⟩:∃s,S[i]'(by simp [lessR,addR] at h2;omega)=s:=⟨_,rfl⟩;obtain ⟨q,hq⟩:∃q,p[i]'(by simp [lessR,addR] at h2;omega)=q:=⟨_,rfl⟩;rw [hs,hq,num_add',num_add_mul,Int.mul_neg];unfold num;omega
theorem neg_neg {N:Nat} {S:List Int} (h:RowOk N S):lessR (List.replicate N 0) (lessR (List.replicate N 0) S 1) 1=S:=by
 apply List.ext_getElem
 · simp [lessR,h.len]
 · intro i h1 h2;simp only [lessR,List.getElem_zipWith,List.getElem_replicate];have:=h.bd _ (List.getElem_mem h2);unfold num;omega
theorem byR_same:∀{C:List (List Int)} {r:List Int},(∀s∈C,r.getD (fstN s) 0=0)→byR r C=r
 | [],_,_=>rfl
 | s :: C, r, h => by
   rw [byR,if_pos (h s (by simp))];exact byR_same (fun t ht=>h t (by simp [ht]))
def sumL (N W:Nat) (r:List Int) (A:List (List Int)):List Int:=sumTo N (facR r (bndR W A)) (priR W A) (bndR W A).length
section
variable {W N:Nat} {L:List (List Int)} {r:List Int}
theorem sumL_ok (hL:RedI (W+N) L):RowOk N (sumL N W r L):=by
 rw [sumL]
 exact sumTo_ok (priR_ok hL.ok) _ (by rw [priR_len];exact Nat.le_refl _)
theorem bndR_yes {A:List (List Int)} {s:List Int} (h:fstN s<W):bndR W (A++[s])=bndR W A++[s.take W]∧priR W (A++[s])=priR W A++[s.drop W]:=by
 constructor
 · simp [bndR,h]
 · simp [priR,h]
theorem bndR_no {A:List (List Int)} {s:List Int} (h:¬fstN s<W):bndR W (A++[s])=bndR W A∧priR W (A++[s])=priR W A:=by
 constructor
 · simp [bndR,h]
 · simp [priR,h]
theorem rep_ok (N:Nat):RowOk N (List.replicate N (0:Int)):=⟨List.length_replicate,fun x hx=>by rw [List.eq_of_mem_replicate hx];omega⟩
theorem byR_long (hL:RedI (W+N) L) (hr:RowOk W r):∀k,k≤L.length→byR (r++List.replicate N 0) (L.take k)=byR r (bndR W (L.take k))++lessR (List.replicate N 0) (sumL N W r (L.take k)) 1
 | 0, _ => by
   rw [List.take_zero];show r++List.replicate N 0=r++lessR (List.replicate N 0) (List.replicate N 0) 1
   congr 1
   apply List.ext_getElem
   · simp [lessR]
   · intro i h1 h2;simp only [lessR,List.getElem_zipWith,List.getElem_replicate];rfl
 | k + 1, hk => by
   have ih:=byR_long hL hr k (by omega);have hs:L[k]? = some (L[k]'(by omega)):=List.getElem?_eq_getElem (by omega);obtain ⟨s,hse⟩:∃s,L[k]'(by omega)=s:=⟨_,rfl⟩;rw [hse] at hs;have hsm:=List.mem_of_getElem? hs;have hso:=hL.ok s hsm;have hR0:RowOk (W+N) (r++List.replicate N 0):=hr.app (rep_ok N);have hfac:=byR_fac hL hR0 hs;have hAo:∀t∈L.take k,RowOk (W+N) t:=fun t ht=>hL.ok t (List.mem_of_mem_take ht)
   have hBo:∀t∈bndR W (L.take k),RowOk W t:=fun t ht=>by
    obtain ⟨x,hx,-,rfl⟩:=bndR_mem.1 ht;exact (hAo x hx).take
   have hcur:=byR_ok hR0 hAo;have hcb:=byR_ok hr hBo;rw [take_sn hs];by_cases hf:fstN s<W
   · have e0:(r++List.replicate N 0).getD (fstN s) 0=r.getD (fstN s) 0:=(by rw [List.getD_eq_getElem?_getD,List.getD_eq_getElem?_getD,List.getElem?_append_left (by rw [hr.len];exact hf)]);have hft:fstN (s.take W)=fstN s:=fstN_take (hL.inside hsm) hf
     have e1:(byR r (bndR W (L.take k))).getD (fstN s) 0=r.getD (fstN s) 0:=by
      rw [←e0,←hfac,ih,List.getD_eq_getElem?_getD,List.getD_eq_getElem?_getD,List.getElem?_append_left (by rw [hcb.len];exact hf)]
     have hst:=byR_step (s:=s) hcur hso;rw [hfac,e0,ih] at hst;have hsb:=byR_step (s:=s.take W) hcb hso.take;rw [hft,e1] at hsb;rw [hst,(bndR_yes hf).1,hsb];have hsp:s=s.take W++s.drop W:=(List.take_append_drop W s).symm;rw [show addR (byR r (bndR W (L.take k))++lessR (List.replicate N 0) (sumL N W r (L.take k)) 1) (num (-(r.getD (fstN s) 0))) s=addR (byR r (bndR W (L.take k))++lessR (List.replicate N 0) (sumL N W r (L.take k)) 1) (num (-(r.getD (fstN s) 0))) (s.take W++s.drop W) by rw [←hsp]];rw [addR_app (by rw [hcb.len,hso.take.len]),neg_step];congr 2
     have ef:facR r (bndR W (L.take k)++[s.take W])=facR r (bndR W (L.take k))++[r.getD (fstN s) 0]:=by
      rw [facR,facR,List.map_append,List.map_cons,List.map_nil,hft]
     rw [sumL,sumL,(bndR_yes hf).1,(bndR_yes hf).2,List.length_append,ef];exact (sumTo_last (facR_len _ _) (priR_len _ _)).symm
   · have e0 : (r ++ List.replicate N 0).getD (fstN s) 0 = 0 := by
       rw [List.getD_eq_getElem?_getD,List.getElem?_append_right (by rw [hr.len];omega),List.getElem?_replicate];split <;> rfl
     rw [byR_snoc,if_pos (hfac.trans e0),ih,sumL,sumL,(bndR_no hf).1,(bndR_no hf).2]
theorem byR_all (hL:RedI (W+N) L) (hr:RowOk W r):byR (r++List.replicate N 0) L=byR r (bndR W L)++lessR (List.replicate N 0) (sumL N W r L) 1:=by
 have:=byR_long hL hr L.length (Nat.le_refl _)
 rwa [List.take_length] at this
theorem bnd_len (hL:RedI (W+N) L) (hr:RowOk W r):(byR r (bndR W L)).length=W:=(byR_ok hr (bndR_red hL).ok).len
theorem front_eq (hL:RedI (W+N) L) (hr:RowOk W r):(byR (r++List.replicate N 0) L).take W=byR r (bndR W L):=by
 rw [byR_all hL hr,List.take_append_of_le_length (by rw [bnd_len hL hr];exact Nat.le_refl _),List.take_of_length_le (by rw [bnd_len hL hr];exact Nat.le_refl _)]
theorem back_eq (hL:RedI (W+N) L) (hr:RowOk W r):(byR (r++List.replicate N 0) L).drop W=lessR (List.replicate N 0) (sumL N W r L) 1:=by
 rw [byR_all hL hr,List.drop_append_of_le_length (by rw [bnd_len hL hr];exact Nat.le_refl _),List.drop_of_length_le (by rw [bnd_len hL hr];exact Nat.le_refl _),List.nil_append]
theorem addR_off {R O:List Int} {f:Int} {q:Nat} (h1:R.getD q 0=0) (h2:O.getD q 0=0):(addR R f O).getD q 0=0:=by
 rw [List.getD_eq_getElem?_getD] at h1 h2 ⊢
 rw [addR,List.getElem?_zipWith]
 cases hR:R[q]? with
 | none=>rfl
 | some x =>
   cases hO:O[q]? with
   | none=>rfl
   | some y =>
     rw [hR] at h1;rw [hO] at h2;simp only [Option.getD_some] at h1 h2;subst h1;subst h2;show num (0+0 * f)=0
     rw [Int.zero_mul];rfl
theorem sumTo_off {F:List Int} {P:List (List Int)} {q:Nat} (h:∀p∈P,p.getD q 0=0):∀k,(sumTo N F P k).getD q 0=0
 | 0 => by
   rw [sumTo,List.getD_eq_getElem?_getD,List.getElem?_replicate];split <;> rfl
 | k + 1 => by
   rw [sumTo];refine addR_off (sumTo_off h k) ?_;rw [List.getD_eq_getElem?_getD (l:=P)]
   cases hP:P[k]? with
   | none=>rfl
   | some p=>exact h p (List.mem_of_getElem? hP)
theorem own_eq (hL:RedI (W+N) L) (hr:RowOk W r):byR (lessR (List.replicate N 0) ((byR (r++List.replicate N 0) L).drop W) 1) (cloR W L)=sumL N W r L:=by
 rw [back_eq hL hr,neg_neg (sumL_ok hL)]
 refine byR_same (fun c hc=>?_)
 obtain ⟨s,hs,h1,rfl⟩:=cloR_mem.1 hc
 rw [sumL]
 refine sumTo_off (fun p hp=>?_) _
 obtain ⟨t,ht,rfl⟩:=List.mem_map.1 hp
 rw [List.mem_filter] at ht
 have h2:fstN t<W:=by simpa using ht.2
 rw [fstN_drop (hL.inside hs) h1,drop_getD,show W+(fstN s - W)=fstN s by omega]
 exact hL.off ht.1 hs (by omega)
end
theorem zeroR_low {V:List (List Int)} {ts:List Tm} (hs:∀t∈ts,1≤t.f∧t.f≤10006) (hmem:∀t∈ts,t.m∈V) (h0:¬ts=[]):zeroR (rowT V ts)=false:=by
 obtain ⟨t,ht⟩:=List.exists_mem_of_ne_nil ts h0
 obtain ⟨i,hi,hti⟩:=List.mem_iff_getElem.1 (hmem t ht)
 obtain ⟨u,hu,-,hc⟩:=coef_mem ht
 have hg:(rowT V ts).getD i 0=u.f:=by
  rw [←hc,rowT,List.getD_eq_getElem?_getD,List.getElem?_map,List.getElem?_eq_getElem hi,hti];rfl
 have hne:¬(rowT V ts).getD i 0=0:=by have:=hs u hu;omega
 have hf:fstN (rowT V ts)≤i:=by
  by_cases h:fstN (rowT V ts)≤i
  · exact h
  · exact absurd (fstN_low (Nat.lt_of_not_le h)) hne
 rw [zeroR,decide_eq_true (by rw [rowT_len];omega)]
 rfl
end Go.Proofs.YtifcfoijcodjbaaGreat
