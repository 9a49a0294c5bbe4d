
import Derived.Test.YtifcfoijcodjbaaGreatRref
namespace Go.Proofs.YtifcfoijcodjbaaGreat
set_option maxRecDepth 100000
open Go.RowKit Go.Deep
def swpL {α:Type} (l:List α) (d i:Nat) (a b:α):List α:=(l.set d b).set i a
def swN (d i k:Nat):Nat:=if k=i then d else if k=d then i else k
theorem swpL_get {α:Type} {l:List α} {d i:Nat} {a b:α} (ha:l[d]? = some a) (hb:l[i]? = some b) (k:Nat):(swpL l d i a b)[k]? = l[swN d i k]? := by
 have hd:=(List.getElem?_eq_some_iff.1 ha).1
 have hi:=(List.getElem?_eq_some_iff.1 hb).1
 rw [swpL,swN]
 by_cases e:k=i
 · rw [e,List.getElem?_set_self (by rw [List.length_set];exact hi),if_pos rfl,ha]
 · rw [List.getElem?_set_ne (fun h=>e h.symm),if_neg e];by_cases e2:k=d
   · rw [e2,List.getElem?_set_self hd,if_pos rfl,hb]
   · rw [List.getElem?_set_ne (fun h=>e2 h.symm),if_neg e2]
theorem swpL_len {α:Type} {l:List α} {d i:Nat} {a b:α}:(swpL l d i a b).length=l.length:=by rw [swpL,List.length_set,List.length_set]
theorem swpL_mem {α:Type} {l:List α} {d i:Nat} {a b:α} (ha:l[d]? = some a) (hb:l[i]? = some b) {x:α} (hx:x∈swpL l d i a b):x∈l:=by
 obtain ⟨k,hk,rfl⟩:=List.mem_iff_getElem.1 hx
 have:=swpL_get ha hb k
 rw [List.getElem?_eq_getElem hk] at this
 exact List.mem_of_getElem? this.symm
theorem swN_inj {d i k j:Nat} (h:swN d i k=swN d i j):k=j:=by
 unfold swN at h
 split at h <;> split at h <;> (try split at h) <;> (try split at h) <;> omega
theorem swN_at (d i:Nat):swN d i d=i:=by
 unfold swN
 by_cases e:d=i
 · rw [if_pos e,e]
 · rw [if_neg e,if_pos rfl]
theorem Rws.swap {w:World} {ps:List (Nat × Nat)} {R:List (List Int)} (h:Rws w ps R) {d i:Nat} {pd pi:Nat × Nat} {rd ri:List Int} (h1:ps[d]? = some pd) (h2:ps[i]? = some pi) (h3:R[d]? = some rd) (h4:R[i]? = some ri):Rws w (swpL ps d i pd pi) (swpL R d i rd ri):=
 ⟨by rw [swpL_len,swpL_len];exact h.len,fun a b p q ha hb e=>by
  rw [swpL_get h1 h2] at ha hb
  exact swN_inj (h.nd _ _ p q ha hb e),fun a p r ha hr=>by
  rw [swpL_get h1 h2] at ha;rw [swpL_get h3 h4] at hr
  exact h.at_ _ p r ha hr⟩
theorem swpL_slp {W:Nat} {ps:List (Nat × Nat)} {d i:Nat} {pd pi:Nat × Nat}:((slp W ps).toArray.setIfInBounds d (ptrW W pi)).setIfInBounds i (ptrW W pd)=(slp W (swpL ps d i pd pi)).toArray:=by
 simp [slp,swpL,List.map_set]
theorem rw_swap {R:List (List Int)} {d i q:Nat} {rd ri:List Int} (h3:R[d]? = some rd) (h4:R[i]? = some ri):rw_ (swpL R d i rd ri) q=rw_ R (swN d i q):=by
 rw [rw_,rw_,List.getD_eq_getElem?_getD,List.getD_eq_getElem?_getD,swpL_get h3 h4]
theorem GJ.swappedA {V : List Vec} {W n c i d : Nat} {R R' : List (List Int)} {F : List Nat} {rd ri : List Int} (h : GJ V W R F c) (hd : F.length = d) (hn : R.length = n) (hi : d ≤ i) (hin : i < n) (h3 : R[d]? = some rd) (h4 : R[i]? = some ri) (hne : ¬ (rw_ R i).getD c 0 = 0) (hl : R'.length = n)
    (hq:∀q,q<n→rw_ R' q=if q=d then (rw_ (swpL R d i rd ri) d).map (fun x=>num (x * invOf ((rw_ (swpL R d i rd ri) d).getD c 0))) else clr ((rw_ (swpL R d i rd ri) d).map (fun x=>num (x * invOf ((rw_ (swpL R d i rd ri) d).getD c 0)))) c (rw_ (swpL R d i rd ri) q)) :
    GJ V W R' (F++[c]) (c+1):=by
 subst hd
 have hdn:F.length<n:=by omega
 have hs:=swN_at F.length i
 have hi0:rw_ (swpL R F.length i rd ri) F.length=rw_ R i:=by rw [rw_swap h3 h4,hs]
 have hfst:fstN (rw_ R i)=c:=fstN_eq (fun q hq2=>h.rest i hi (by omega) q hq2) hne
 have hsn:=scale_norm (h.ok _ (rw_mem (show i<R.length by omega))) hfst
 rw [hi0,hsn] at hq
 refine GJ.step h hi (by omega) hne (by rw [hl,hn]) ?_ (fun j hj hjd=>?_)
 · rw [hq F.length hdn,if_pos rfl]
 · rw [hq j (by omega),if_neg hjd,rw_swap h3 h4,swN];congr 1
   by_cases e:j=i
   · rw [if_pos e,if_pos e]
   · rw [if_neg e,if_neg e,if_neg hjd]
theorem InP.sub {ps ps1:List (Nat × Nat)} {k:Nat} (h:InP ps1 k) (hs:∀p∈ps1,p∈ps):InP ps k:=by
 obtain ⟨p,hp,rfl⟩:=h
 exact ⟨p,hs p hp,rfl⟩
abbrev PB (ps:List (Nat × Nat)) (gr k:Nat):Prop:=InP ps k∨k=gr
set_option maxHeartbeats 8000000 in
theorem basisOfA_c {w : World} {gr W n : Nat} {ps : List (Nat × Nat)} {R : List (List Int)} (hM : Rws w ps R) (hpn : ps.length = n) (hok : ∀ r ∈ R, RowOk W r) (hn : n ≤ 1000) (hn0 : 0 < n) (hW : W ≤ 1000) (hgr : ¬ InP ps gr) (hR : Own w gr 82 (slp W ps).toArray) (gc : Nat) (hgc : n ≤ gc) :
    Calls Tryz.prog 135 #[.slice (some ⟨gr,0,none⟩) n gc] w fun e w'=>∃(d:Nat) (ps1:List (Nat × Nat)) (R1:List (List Int)) (F:List Nat) (fa:Option Addr) (fc:Nat),e=.returned (.agg #[.slice (some ⟨gr,0,none⟩) d gc,.slice fa d fc])∧Rws w' ps1 R1∧Own w' gr 82 (slp W ps1).toArray∧w'.ownsRow (w.heap.size+2) 3 1 (.slice fa d fc) d (F.map (fun f:Nat=>Value.int .i64 (f:Int)))∧Hid ((∀p∈ps1,p∈ps)∧ps1.length=n∧(∀r∈R1,RowOk W r)∧F.length=d∧d≤n∧R1.take d=redR R∧(redR R).map fstN=F)∧Touch (PB ps gr) w w':=by
 obtain ⟨ti,tz,hti,htz,hts,htb,htzs⟩:=Tryz.info_intB
 have HI:=Lib.hid hti
 have HZ:=Lib.hid htz
 have HS:=Lib.hid hts
 have HBt:=Lib.hid htb
 have HZs:=Lib.hid htzs
 clear hti htz hts htb htzs
 have HGL:=Lib.hid (fun k (hk:InP ps k)=>hM.lt hk)
 have HGR:=Lib.hid (fun k (hk:InP ps k) (e:k=gr)=>hgr (by rw [←e];exact hk))
 have hgrl:=hR.lt
 have hQ:=(Own.new w 86 #[.slice none 0 0,.slice none 0 0]).alloc (.cells #[.slice none 0 0,.slice none 0 0] 86)
 have hB:=Own.new (w.alloc (.cells #[.slice none 0 0,.slice none 0 0] 86)) 86 #[.slice none 0 0,.slice none 0 0]
 rw [sAl] at hB
 have hba:=bTn (bA1 w (.cells #[.slice none 0 0,.slice none 0 0] 86)) (bA1 _ (.cells #[.slice none 0 0,.slice none 0 0] 86))
 have ht:Touch (PB ps gr) w ((w.alloc (.cells #[.slice none 0 0,.slice none 0 0] 86)).alloc (.cells #[.slice none 0 0,.slice none 0 0] 86)):=Touch.of_below hba
 have hRn:R.length=n:=by rw [←hM.len];exact hpn
 replace hM:=hM.keep hba HGL.out
 replace hR:=hR.keep hba hgrl
 have hnb:((n:Int)==0)=false:=by simp;omega
 have HG0:Hid ((∀p∈ps,p∈ps)∧ps.length=n∧GJ (R.map vec) W R [] 0):=Lib.hid ⟨fun _ h=>h,hpn,GJ.start hok⟩
 have HOK0:=Lib.hid hok
 obtain ⟨p0,hp0⟩:∃p,ps[0]? = some p:=⟨_,List.getElem?_eq_getElem (by omega)⟩
 have hc0:=hR.cell 0
 rw [slp_get hp0] at hc0
 clear hba hpn hok hRn hp0 hgr
 have hn0i:(0:Int)<(n:Int):=by omega
 go_enter Tryz.func135,Tryz.ntmps135
 go_wp2_with fail
 go_step3
 go_upto_region 2 with fail
 have hs2:((w.alloc (.cells #[.slice none 0 0,.slice none 0 0] 86)).alloc (.cells #[.slice none 0 0,.slice none 0 0] 86)).heap.size=w.heap.size+2:=by rw [sAl,sAl]
 generalize (w.alloc (.cells #[.slice none 0 0,.slice none 0 0] 86)).alloc (.cells #[.slice none 0 0,.slice none 0 0] 86)=w0 at *
 have hsz:w.heap.size+2≤w0.heap.size:=by omega
 clear hs2
 go_wp2_with fail
 go_step3
 go_upto_region 5 with fail
 clear hc0
 go_loopw [15] (fun y wr=>∃(c d:Nat) (ps1:List (Nat × Nat)) (R1:List (List Int)) (F:List Nat) (fa:Option Addr) (fc:Nat),c≤W∧y=.int .i64 c∧Touch (PB ps gr) w wr∧Rws wr ps1 R1∧Own wr gr 82 (slp W ps1).toArray∧Own wr w.heap.size 86 #[.slice none 0 0,.slice none 0 0]∧Own wr (w.heap.size+1) 86 #[.slice none 0 0,.slice fa d fc]∧wr.ownsRow (w.heap.size+2) 3 1 (.slice fa d fc) d (F.map (fun f:Nat=>Value.int .i64 (f:Int)))∧w.heap.size+2≤wr.heap.size∧Hid (F.length=d)∧Hid ((∀p∈ps1,p∈ps)∧ps1.length=n∧GJ (R.map vec) W R1 F c)) (fun y _=>W - (intOf y).toNat)
 case atStart=>exact ⟨0,0,ps,R,[],none,0,Nat.zero_le _,rfl,ht,hM,hR,hQ,hB,World.ownsRow_nil _ _ _ _,hsz,Lib.hid rfl,HG0⟩
 case round=>
  clear ht hM hR hQ hB hsz HG0;obtain ⟨c,d,ps1,R1,F,fa,fc,hc,rfl,ht,hM,hR,hQ,hB,hF,hsz,HFL,HG⟩:=hrel;have hc0:(0:Int)≤(c:Int):=(by omega);have hR1n:R1.length=n:=(by rw [←hM.len];exact HG.out.2.1);have HRN:=Lib.hid hR1n;have hdn:d≤n:=(by have:=HG.out.2.2.le;rw [HFL.out,hR1n] at this;exact this);have HL1:=Lib.hid (fun k (hk:InP ps1 k)=>HGL.out k (hk.sub HG.out.1));have HR1:=Lib.hid (fun k (hk:InP ps1 k)=>HGR.out k (hk.sub HG.out.1));have HFR:=Lib.hid hF;clear hF hR1n;by_cases hcW:c<W
  · have hci:(c:Int)<(W:Int):=(by omega);have b1:=hB.cell 1;go_upto_region 9 with fail
    clear b1
    go_loopw [6] (fun y wq=>∃i:Nat,d≤i∧i≤n∧y=.int .i64 i∧wq=wr∧Hid (∀q,d≤q→q<i→(rw_ R1 q).getD c 0=0)) (fun y _=>n - (intOf y).toNat)
    case atStart=>exact ⟨d,Nat.le_refl _,hdn,rfl,rfl,Lib.hid (fun q h1 h2=>absurd h1 (by omega))⟩
    case round=>
     obtain ⟨i,hi1,hi2,rfl,rfl,HZ0⟩:=hrel;have hi0:(0:Int)≤(i:Int):=(by omega);by_cases hin:i<n
     · have hii:(i:Int)<(n:Int):=(by omega);obtain ⟨pi,hpi⟩:∃p,ps1[i]? = some p:=⟨_,List.getElem?_eq_getElem (by have:=HG.out.2.1;omega)⟩;obtain ⟨gi,ki⟩:=pi;have hri:=rw_get (R:=R1) (j:=i) (by have:=HRN.out;omega);have hci2:=hR.cell i;rw [slp_get hpi] at hci2;have hRok:=HG.out.2.2.ok _ (List.mem_of_getElem? hri);obtain ⟨S,hS⟩:∃S,rw_ R1 i=S:=⟨_,rfl⟩;rw [hS] at hRok hri;obtain ⟨x,hx⟩:∃x,S.getD c 0=x:=⟨_,rfl⟩;have hx0':=getD_get hRok.len hcW;rw [hx] at hx0';have hcx:=(hM.at_ i _ _ hpi hri).cell hx0';have HX:Hid ((rw_ R1 i).getD c 0=x):=Lib.hid (by rw [hS];exact hx);have HPI:=Lib.hid hpi;have HRI:=Lib.hid hri;clear hS hx hRok hx0' hpi hri;by_cases hx0:x=0
       · subst hx0;go_wp2_with fail
         go_roundw
         case rel=>
          refine ⟨i+1,by omega,by omega,by go_num,by trivial,Lib.hid (fun q h1 h2=>?_)⟩;by_cases e:q=i
          · rw [e];exact HX.out
          · exact HZ0.out q h1 (by omega)
         case measure=>simp [intOf] <;> omega
       · have hxb:(x != 0)=true:=(by simpa using hx0);have hdn2:d<n:=(by omega);have hdi:(d:Int)<(n:Int):=(by omega);have hd0:(0:Int)≤(d:Int):=(by omega);obtain ⟨pd,hpd⟩:∃p,ps1[d]? = some p:=⟨_,List.getElem?_eq_getElem (by have:=HG.out.2.1;omega)⟩;obtain ⟨gd,kd⟩:=pd;have hrd:=rw_get (R:=R1) (j:=d) (by have:=HRN.out;omega);have hcd:=hR.cell d;rw [slp_get hpd] at hcd;have HPD:=Lib.hid hpd;have HRD:=Lib.hid hrd;clear hpd hrd;go_upto_region 12 with fail
         replace hM:=hM.drew;replace hR:Own wr.drew gr 82 (slp W ps1).toArray:=hR;replace hQ:Own wr.drew w.heap.size 86 #[.slice none 0 0,.slice none 0 0]:=hQ;replace hB:Own wr.drew (w.heap.size+1) 86 #[.slice none 0 0,.slice fa d fc]:=hB;replace hsz:w.heap.size+2≤wr.drew.heap.size:=hsz;replace hci2:wr.drew.cell? ⟨gr,i,none⟩=some (.slice (some ⟨gi,0,none⟩) W ki):=hci2;replace hcd:wr.drew.cell? ⟨gr,d,none⟩=some (.slice (some ⟨gd,0,none⟩) W kd):=hcd;have htd:Touch (PB ps gr) wr wr.drew:=Touch.of_below ((Below.refl _ _).drew);have hFR:=row_touch HFR.out htd (fun q hq h=>h.elim (fun h=>by have:=HGL.out q h;omega) (fun h=>by omega));have HFR:=Lib.hid hFR;replace ht:Touch (PB ps gr) w wr.drew:=ht.trans htd;clear hcx htd hFR;refine wp_region_held_drew (S:=(fun w'=>0≤w'.heap.size)) (by kernel_rfl) ?_ (fun _=>?_)
         · ((try dsimp only);(exact Nat.zero_le _))
         generalize wr.drew=W0d at *;refine hdT 0 ?_;refine hdT 1 ?_;refine hdT 2 ?_;refine hdT 3 ?_;refine hdT 4 ?_;refine hdT 5 ?_;refine hdT 6 ?_;refine hdT 8 ?_;refine hdT 9 ?_;refine hdT 10 ?_;refine wpAnyH_ready (rs:=[7,11]) (by kernel_rfl) (by simp) ?_;refine AllReadyH.cons (hdAt (i:=7) rfl) (fun K hK=>?_) (AllReadyH.cons (hdAt (i:=11) rfl) (fun K hK=>?_) AllReadyH.nil)
         · skip
           (go_simp;try go_wp2_with fail)
           refine hK.out _ _ ?_ (fun _=>?_)
           · ((try dsimp only);(exact Nat.zero_le _))
           clear hK K
           (try simp only [Act.put,pA,pB,pC])
           refine hdC 11 (fun K hK=>?_)
           (go_simp;try go_wp2_with fail)
           refine hK.out _ _ ?_ (fun _=>?_)
           · ((try dsimp only);(exact Nat.zero_le _))
           clear hK K
           (try simp only [Act.put,pA,pB,pC])
           refine hdT 12 ?_;refine hdC 13 (fun K hK=>?_);obtain ⟨ov,hcS⟩:=hR.has (i:=d) (by have:=HG.out.2.1;simp [slp];omega);have hfS:=hR.frozen d
           (go_simp;go_wp2_with fail)
           clear hcS hfS;have hTo:Touch (fun k=>k=gr) W0d (W0d.setCell ⟨gr,d,none⟩ (.slice (some ⟨gi,0,none⟩) W ki)):=Touch.of_only ((Only.refl gr W0d).set d (.slice (some ⟨gi,0,none⟩) W ki));replace hM:=hM.touch hTo HR1.out;replace hQ:=hTo.own hQ (by omega);replace hB:=hTo.own hB (by omega);have hFR:=row_touch HFR.out hTo (fun q hq=>by omega);have HFR:=Lib.hid hFR;replace ht:=ht.trans (hTo.mono (fun k hk=>Or.inr hk));replace hsz:=Nat.le_trans hsz hTo.below.size;replace hR:=hR.set d (.slice (some ⟨gi,0,none⟩) W ki);clear hTo hFR;generalize W0d.setCell ⟨gr,d,none⟩ (.slice (some ⟨gi,0,none⟩) W ki)=W1 at *;refine hK.out _ _ ?_ (fun _=>?_)
           · ((try dsimp only);(exact Nat.zero_le _))
           clear hK K
           (try simp only [Act.put,pA,pB,pC])
           refine hdT 14 ?_;refine hdC 15 (fun K hK=>?_);obtain ⟨ov,hcS⟩:=hR.has (i:=i) (by have:=HG.out.2.1;simp [slp];omega);have hfS:=hR.frozen i
           (go_simp;go_wp2_with fail)
           clear hcS hfS;have hTo:Touch (fun k=>k=gr) W1 (W1.setCell ⟨gr,i,none⟩ (.slice (some ⟨gd,0,none⟩) W kd)):=Touch.of_only ((Only.refl gr W1).set i (.slice (some ⟨gd,0,none⟩) W kd));replace hM:=hM.touch hTo HR1.out;replace hQ:=hTo.own hQ (by omega);replace hB:=hTo.own hB (by omega);have hFR:=row_touch HFR.out hTo (fun q hq=>by omega);have HFR:=Lib.hid hFR;replace ht:=ht.trans (hTo.mono (fun k hk=>Or.inr hk));replace hsz:=Nat.le_trans hsz hTo.below.size;replace hR:=hR.set i (.slice (some ⟨gd,0,none⟩) W kd);clear hTo hFR;generalize W1.setCell ⟨gr,i,none⟩ (.slice (some ⟨gd,0,none⟩) W kd)=W2 at *;refine hK.out _ _ ?_ (fun _=>?_)
           · ((try dsimp only);(exact Nat.zero_le _))
           clear hK K
           (try simp only [Act.put,pA,pB,pC])
           refine wpAnyH_done (by kernel_rfl) ?_ _;have hSW:((slp W ps1).toArray.setIfInBounds d (.slice (some ⟨gi,0,none⟩) W ki)).setIfInBounds i (.slice (some ⟨gd,0,none⟩) W kd)=(slp W (swpL ps1 d i (gd,kd) (gi,ki))).toArray:=swpL_slp (pd:=(gd,kd)) (pi:=(gi,ki));rw [hSW] at hR;replace hM:=hM.swap HPD.out HPI.out HRD.out HRI.out
           have HIN2:=Lib.hid (fun k (hk:InP (swpL ps1 d i (gd,kd) (gi,ki)) k)=>show InP ps1 k from by
            obtain ⟨p,hp,rfl⟩:=hk
            exact ⟨p,swpL_mem HPD.out HPI.out hp,rfl⟩)
           have HIN3:Hid (∀p∈swpL ps1 d i (gd,kd) (gi,ki),p∈ps1):=Lib.hid (fun p hp=>swpL_mem HPD.out HPI.out hp);have HLL2:Hid ((swpL ps1 d i (gd,kd) (gi,ki)).length=n):=Lib.hid (by rw [swpL_len];exact HG.out.2.1);have HOK2:Hid (∀r∈swpL R1 d i (rw_ R1 d) (rw_ R1 i),RowOk W r):=Lib.hid (fun r hr=>HG.out.2.2.ok r (swpL_mem HRD.out (by rw [HRI.out];congr 1;have:=rw_at HRI.out;exact this.symm) hr));have HSI:Hid (S=rw_ R1 i):=Lib.hid (rw_at HRI.out).symm;rw [HSI.out] at hM
           have HNE2:Hid (¬(rw_ (swpL R1 d i (rw_ R1 d) (rw_ R1 i)) d).getD c 0=0):=Lib.hid (by
            rw [rw_swap HRD.out (by rw [HRI.out,HSI.out]),swN_at d i,HX.out]
            exact hx0)
           clear hci2 hcd hSW;generalize hps2:swpL ps1 d i (gd,kd) (gi,ki)=ps2 at *;obtain ⟨R2,hR2⟩:∃R2,swpL R1 d i (rw_ R1 d) (rw_ R1 i)=R2:=⟨_,rfl⟩;rw [hR2] at hM HOK2 HNE2;have HR2:=Lib.hid hR2;clear hps2 hR2;have hgr2:¬InP ps2 gr:=fun h=>HR1.out gr (HIN2.out gr h) rfl;go_wp2_with fail
           refine (clearColumnA_c gc hM HLL2.out HOK2.out hn hW hdn2 hcW hgr2 hR HNE2.out).mono ?_;rintro e w5 ⟨rfl,R3,hM3,HF2,ht5⟩;have ht6:Touch (InP ps) _ w5:=ht5.mono (fun k hk=>(HIN2.out k hk).sub HG.out.1);replace hR:=ht5.own hR hgr2;replace hQ:=ht6.own hQ (fun h=>by have:=HGL.out _ h;omega);replace hB:=ht6.own hB (fun h=>by have:=HGL.out _ h;omega);have hFR:=row_touch HFR.out ht6 (fun q hq h=>by have:=HGL.out q h;omega);replace hsz:=Nat.le_trans hsz ht5.below.size;replace ht:=ht.trans (ht6.mono (fun k hk=>Or.inl hk));have hl3:R3.length=n:=(by rw [←hM3.len];exact HLL2.out);have HGJ:=Lib.hid (GJ.swappedA (R':=R3) HG.out.2.2 HFL.out HRN.out hi1 hin HRD.out (by rw [HRI.out,HSI.out]) (by rw [HX.out];exact hx0) hl3 (by rw [HR2.out];exact HF2.out.2));clear hM ht5 ht6 HFR hl3
           have hnews:∀j u,([Value.int .i64 (c:Int)]:List Value)[j]? = some u→(w5.alloc (.cells #[.int .i64 (c:Int)] 3)).cell? ((⟨w5.heap.size,0,none⟩:Addr).add j)=some u:=fun j u hu=>by
            rw [Addr.add_mid];exact (Own.new w5 3 #[.int .i64 (c:Int)]).range j u hu
           have hone:∀u∈([Value.int .i64 (c:Int)]:List Value),u.oneCell'=true:=(by simp [Value.oneCell']);have HN:=Lib.hid hnews;have HO:=Lib.hid hone;have hba:=bA1 w5 (.cells #[.int .i64 (c:Int)] 3);have HRW2:=Lib.hid (row_keep hFR hba);have hO3:=hM3.keep hba (fun k hk=>hM3.lt hk);have hR3:=hR.keep hba hR.lt;have hQ3:=hQ.keep hba hQ.lt;have hB3:=hB.keep hba hB.lt;have hsz3:=Nat.le_trans hsz hba.size;have ht3:=ht.trans (Touch.of_below (p:=PB ps gr) hba);have b1:=hB.cell 1;clear hnews hone hFR hba hM3 hR hQ hB ht;go_upto_region 14 with fail
           go_wp2_with (refine wpList_append_own_wide _ rfl (.tmp 55) (.tmp 57) 84 rfl (w.heap.size + 2) 3 ti tz 1 8 Tryz.underlying84 HI.out HZ.out HS.out HBt.out HZs.out (by omega) (.slice fa d fc) d _ rfl HRW2.out ⟨w5.heap.size, 0, none⟩ 1 1 [Value.int .i64 (c : Int)] rfl rfl HN.out HO.out (by simp only [maxLen]; omega) (by omega) (by rw [sAl]; omega) (fun v' w' h2 h3 h4 => ?_)
                        obtain ⟨va,vc,rfl⟩:=row_slice h2;have hO4:=hO3.grown h3 (fun k hk e=>by have:=(HRW2.out.lt k e.symm).1;have:=HGL.out k ((HIN2.out k hk).sub HG.out.1);omega);have hR4:=hR3.grown h3 (own_ne_row hR3 HRW2.out (by decide));have hQ4:=hQ3.grown h3 (own_ne_row hQ3 HRW2.out (by decide));have hB4:=hB3.grown h3 (own_ne_row hB3 HRW2.out (by decide));have ht4:Touch (PB ps gr) w w':=⟨grown_below ht3.below h3 (fun j e=>by omega) (Nat.zero_le _),fun k hk hp=>(h3.block k (Nat.lt_of_lt_of_le hk ht3.below.size) (fun e=>by have:=(HRW2.out.lt k e.symm).1;omega)).trans (ht3.other k hk hp)⟩;have hsz4:=Nat.le_trans hsz3 h3.size;have H2:=Lib.hid h2;clear h2 h3 h4 hO3 hR3 hQ3 hB3 ht3 HRW2 HN HO b1;have b1:=hB4.cell 1
                        have f1:=hB4.frozen 1)
           have hB5:=hB4.set 1 (.slice va (d+1) vc);have hO5:=hO4.far (p:=⟨w.heap.size+1,1,none⟩) (fun h=>by have:=HGL.out _ ((HIN2.out _ h).sub HG.out.1);dsimp only at this;omega) (.slice va (d+1) vc);have hR5:=hR4.far (p:=⟨w.heap.size+1,1,none⟩) (by dsimp only;omega) (.slice va (d+1) vc);have hQ5:=hQ4.far (p:=⟨w.heap.size+1,1,none⟩) (by dsimp only;omega) (.slice va (d+1) vc);have hF5:=row_farE (p:=⟨w.heap.size+1,1,none⟩) H2.out hB4 (by decide) (.slice va (d+1) vc);have ht5:Touch (PB ps gr) w (w'.setCell ⟨w.heap.size+1,1,none⟩ (.slice va (d+1) vc)):=⟨ht4.below.setCell (p:=⟨w.heap.size+1,1,none⟩) (Nat.zero_le _) _,fun k hk hp=>(Below.heap_setCell _ ⟨w.heap.size+1,1,none⟩ _ k (by dsimp only;omega)).trans (ht4.other k hk hp)⟩
           go_roundw
           case rel=>
            refine ⟨c+1,d+1,ps2,R3,F++[c],va,vc,by omega,by go_num,ht5,hO5,hR5,hQ5,hB5,?_,by simpa using hsz4,Lib.hid (by rw [List.length_append,HFL.out];rfl),Lib.hid ⟨fun p hp=>HG.out.1 p (HIN3.out p hp),HLL2.out,HGJ.out⟩⟩;rw [List.map_append];exact hF5
           case measure=>simp [intOf] <;> omega
         · skip
           (go_simp;try go_wp2_with fail)
           refine hK.out _ _ ?_ (fun _=>?_)
           · ((try dsimp only);(exact Nat.zero_le _))
           clear hK K
           (try simp only [Act.put,pA,pB,pC])
           refine hdC 7 (fun K hK=>?_)
           (go_simp;try go_wp2_with fail)
           refine hK.out _ _ ?_ (fun _=>?_)
           · ((try dsimp only);(exact Nat.zero_le _))
           clear hK K
           (try simp only [Act.put,pA,pB,pC])
           refine hdT 12 ?_;refine hdC 13 (fun K hK=>?_);obtain ⟨ov,hcS⟩:=hR.has (i:=d) (by have:=HG.out.2.1;simp [slp];omega);have hfS:=hR.frozen d
           (go_simp;go_wp2_with fail)
           clear hcS hfS;have hTo:Touch (fun k=>k=gr) W0d (W0d.setCell ⟨gr,d,none⟩ (.slice (some ⟨gi,0,none⟩) W ki)):=Touch.of_only ((Only.refl gr W0d).set d (.slice (some ⟨gi,0,none⟩) W ki));replace hM:=hM.touch hTo HR1.out;replace hQ:=hTo.own hQ (by omega);replace hB:=hTo.own hB (by omega);have hFR:=row_touch HFR.out hTo (fun q hq=>by omega);have HFR:=Lib.hid hFR;replace ht:=ht.trans (hTo.mono (fun k hk=>Or.inr hk));replace hsz:=Nat.le_trans hsz hTo.below.size;replace hR:=hR.set d (.slice (some ⟨gi,0,none⟩) W ki);clear hTo hFR;generalize W0d.setCell ⟨gr,d,none⟩ (.slice (some ⟨gi,0,none⟩) W ki)=W3 at *;refine hK.out _ _ ?_ (fun _=>?_)
           · ((try dsimp only);(exact Nat.zero_le _))
           clear hK K
           (try simp only [Act.put,pA,pB,pC])
           refine hdT 14 ?_;refine hdC 15 (fun K hK=>?_);obtain ⟨ov,hcS⟩:=hR.has (i:=i) (by have:=HG.out.2.1;simp [slp];omega);have hfS:=hR.frozen i
           (go_simp;go_wp2_with fail)
           clear hcS hfS;have hTo:Touch (fun k=>k=gr) W3 (W3.setCell ⟨gr,i,none⟩ (.slice (some ⟨gd,0,none⟩) W kd)):=Touch.of_only ((Only.refl gr W3).set i (.slice (some ⟨gd,0,none⟩) W kd));replace hM:=hM.touch hTo HR1.out;replace hQ:=hTo.own hQ (by omega);replace hB:=hTo.own hB (by omega);have hFR:=row_touch HFR.out hTo (fun q hq=>by omega);have HFR:=Lib.hid hFR;replace ht:=ht.trans (hTo.mono (fun k hk=>Or.inr hk));replace hsz:=Nat.le_trans hsz hTo.below.size;replace hR:=hR.set i (.slice (some ⟨gd,0,none⟩) W kd);clear hTo hFR;generalize W3.setCell ⟨gr,i,none⟩ (.slice (some ⟨gd,0,none⟩) W kd)=W4 at *;refine hK.out _ _ ?_ (fun _=>?_)
           · ((try dsimp only);(exact Nat.zero_le _))
           clear hK K
           (try simp only [Act.put,pA,pB,pC])
           refine wpAnyH_done (by kernel_rfl) ?_ _;have hSW:((slp W ps1).toArray.setIfInBounds d (.slice (some ⟨gi,0,none⟩) W ki)).setIfInBounds i (.slice (some ⟨gd,0,none⟩) W kd)=(slp W (swpL ps1 d i (gd,kd) (gi,ki))).toArray:=swpL_slp (pd:=(gd,kd)) (pi:=(gi,ki));rw [hSW] at hR;replace hM:=hM.swap HPD.out HPI.out HRD.out HRI.out
           have HIN2:=Lib.hid (fun k (hk:InP (swpL ps1 d i (gd,kd) (gi,ki)) k)=>show InP ps1 k from by
            obtain ⟨p,hp,rfl⟩:=hk
            exact ⟨p,swpL_mem HPD.out HPI.out hp,rfl⟩)
           have HIN3:Hid (∀p∈swpL ps1 d i (gd,kd) (gi,ki),p∈ps1):=Lib.hid (fun p hp=>swpL_mem HPD.out HPI.out hp);have HLL2:Hid ((swpL ps1 d i (gd,kd) (gi,ki)).length=n):=Lib.hid (by rw [swpL_len];exact HG.out.2.1);have HOK2:Hid (∀r∈swpL R1 d i (rw_ R1 d) (rw_ R1 i),RowOk W r):=Lib.hid (fun r hr=>HG.out.2.2.ok r (swpL_mem HRD.out (by rw [HRI.out];congr 1;have:=rw_at HRI.out;exact this.symm) hr));have HSI:Hid (S=rw_ R1 i):=Lib.hid (rw_at HRI.out).symm;rw [HSI.out] at hM
           have HNE2:Hid (¬(rw_ (swpL R1 d i (rw_ R1 d) (rw_ R1 i)) d).getD c 0=0):=Lib.hid (by
            rw [rw_swap HRD.out (by rw [HRI.out,HSI.out]),swN_at d i,HX.out]
            exact hx0)
           clear hci2 hcd hSW;generalize hps2:swpL ps1 d i (gd,kd) (gi,ki)=ps2 at *;obtain ⟨R2,hR2⟩:∃R2,swpL R1 d i (rw_ R1 d) (rw_ R1 i)=R2:=⟨_,rfl⟩;rw [hR2] at hM HOK2 HNE2;have HR2:=Lib.hid hR2;clear hps2 hR2;have hgr2:¬InP ps2 gr:=fun h=>HR1.out gr (HIN2.out gr h) rfl;go_wp2_with fail
           refine (clearColumnA_c gc hM HLL2.out HOK2.out hn hW hdn2 hcW hgr2 hR HNE2.out).mono ?_;rintro e w5 ⟨rfl,R3,hM3,HF2,ht5⟩;have ht6:Touch (InP ps) _ w5:=ht5.mono (fun k hk=>(HIN2.out k hk).sub HG.out.1);replace hR:=ht5.own hR hgr2;replace hQ:=ht6.own hQ (fun h=>by have:=HGL.out _ h;omega);replace hB:=ht6.own hB (fun h=>by have:=HGL.out _ h;omega);have hFR:=row_touch HFR.out ht6 (fun q hq h=>by have:=HGL.out q h;omega);replace hsz:=Nat.le_trans hsz ht5.below.size;replace ht:=ht.trans (ht6.mono (fun k hk=>Or.inl hk));have hl3:R3.length=n:=(by rw [←hM3.len];exact HLL2.out);have HGJ:=Lib.hid (GJ.swappedA (R':=R3) HG.out.2.2 HFL.out HRN.out hi1 hin HRD.out (by rw [HRI.out,HSI.out]) (by rw [HX.out];exact hx0) hl3 (by rw [HR2.out];exact HF2.out.2));clear hM ht5 ht6 HFR hl3
           have hnews:∀j u,([Value.int .i64 (c:Int)]:List Value)[j]? = some u→(w5.alloc (.cells #[.int .i64 (c:Int)] 3)).cell? ((⟨w5.heap.size,0,none⟩:Addr).add j)=some u:=fun j u hu=>by
            rw [Addr.add_mid];exact (Own.new w5 3 #[.int .i64 (c:Int)]).range j u hu
           have hone:∀u∈([Value.int .i64 (c:Int)]:List Value),u.oneCell'=true:=(by simp [Value.oneCell']);have HN:=Lib.hid hnews;have HO:=Lib.hid hone;have hba:=bA1 w5 (.cells #[.int .i64 (c:Int)] 3);have HRW2:=Lib.hid (row_keep hFR hba);have hO3:=hM3.keep hba (fun k hk=>hM3.lt hk);have hR3:=hR.keep hba hR.lt;have hQ3:=hQ.keep hba hQ.lt;have hB3:=hB.keep hba hB.lt;have hsz3:=Nat.le_trans hsz hba.size;have ht3:=ht.trans (Touch.of_below (p:=PB ps gr) hba);have b1:=hB.cell 1;clear hnews hone hFR hba hM3 hR hQ hB ht;go_upto_region 14 with fail
           go_wp2_with (refine wpList_append_own_wide _ rfl (.tmp 55) (.tmp 57) 84 rfl (w.heap.size + 2) 3 ti tz 1 8 Tryz.underlying84 HI.out HZ.out HS.out HBt.out HZs.out (by omega) (.slice fa d fc) d _ rfl HRW2.out ⟨w5.heap.size, 0, none⟩ 1 1 [Value.int .i64 (c : Int)] rfl rfl HN.out HO.out (by simp only [maxLen]; omega) (by omega) (by rw [sAl]; omega) (fun v' w' h2 h3 h4 => ?_)
                        obtain ⟨va,vc,rfl⟩:=row_slice h2;have hO4:=hO3.grown h3 (fun k hk e=>by have:=(HRW2.out.lt k e.symm).1;have:=HGL.out k ((HIN2.out k hk).sub HG.out.1);omega);have hR4:=hR3.grown h3 (own_ne_row hR3 HRW2.out (by decide));have hQ4:=hQ3.grown h3 (own_ne_row hQ3 HRW2.out (by decide));have hB4:=hB3.grown h3 (own_ne_row hB3 HRW2.out (by decide));have ht4:Touch (PB ps gr) w w':=⟨grown_below ht3.below h3 (fun j e=>by omega) (Nat.zero_le _),fun k hk hp=>(h3.block k (Nat.lt_of_lt_of_le hk ht3.below.size) (fun e=>by have:=(HRW2.out.lt k e.symm).1;omega)).trans (ht3.other k hk hp)⟩;have hsz4:=Nat.le_trans hsz3 h3.size;have H2:=Lib.hid h2;clear h2 h3 h4 hO3 hR3 hQ3 hB3 ht3 HRW2 HN HO b1;have b1:=hB4.cell 1
                        have f1:=hB4.frozen 1)
           have hB5:=hB4.set 1 (.slice va (d+1) vc);have hO5:=hO4.far (p:=⟨w.heap.size+1,1,none⟩) (fun h=>by have:=HGL.out _ ((HIN2.out _ h).sub HG.out.1);dsimp only at this;omega) (.slice va (d+1) vc);have hR5:=hR4.far (p:=⟨w.heap.size+1,1,none⟩) (by dsimp only;omega) (.slice va (d+1) vc);have hQ5:=hQ4.far (p:=⟨w.heap.size+1,1,none⟩) (by dsimp only;omega) (.slice va (d+1) vc);have hF5:=row_farE (p:=⟨w.heap.size+1,1,none⟩) H2.out hB4 (by decide) (.slice va (d+1) vc);have ht5:Touch (PB ps gr) w (w'.setCell ⟨w.heap.size+1,1,none⟩ (.slice va (d+1) vc)):=⟨ht4.below.setCell (p:=⟨w.heap.size+1,1,none⟩) (Nat.zero_le _) _,fun k hk hp=>(Below.heap_setCell _ ⟨w.heap.size+1,1,none⟩ _ k (by dsimp only;omega)).trans (ht4.other k hk hp)⟩
           go_roundw
           case rel=>
            refine ⟨c+1,d+1,ps2,R3,F++[c],va,vc,by omega,by go_num,ht5,hO5,hR5,hQ5,hB5,?_,by simpa using hsz4,Lib.hid (by rw [List.length_append,HFL.out];rfl),Lib.hid ⟨fun p hp=>HG.out.1 p (HIN3.out p hp),HLL2.out,HGJ.out⟩⟩;rw [List.map_append];exact hF5
           case measure=>simp [intOf] <;> omega
     · have he:i=n:=(by omega);subst he;go_wp2_with fail
       go_roundw
       case rel=>exact ⟨c+1,d,ps1,R1,F,fa,fc,by omega,by go_num,ht,hM,hR,hQ,hB,HFR.out,hsz,HFL,Lib.hid ⟨HG.out.1,HG.out.2.1,HG.out.2.2.skip (fun j h1 h2=>by
        rw [HRN.out] at h2
        exact HZ0.out j (by rw [HFL.out] at h1;exact h1) h2)⟩⟩
       case measure=>simp [intOf] <;> omega
  · have he:c=W:=(by omega);subst he
    have HRK:Hid (R1.take d=redR R∧(redR R).map fstN=F∧∀r∈R1,RowOk c r):=Lib.hid (by
     have h1:=HG.out.2.2.redR HOK0.out;have h2:=HG.out.2.2.fsts;rw [HFL.out] at h1 h2;rw [h1] at h2
     exact ⟨h1,h2,HG.out.2.2.ok⟩)
    have hsl:=fun w=>sliceR_run gr 0 n gc d (by omega) w;have b0:=hB.cell 0;have b1:=hB.cell 1;have f0:=hB.frozen 0;have r0:=hQ.cell 0;have r1:=hQ.cell 1;have q0:=hQ.frozen 0;have q1:=hQ.frozen 1;go_wp2_with fail
    (try rw [Exit.noGoto_ret])
    have s2:=(((hQ.far (p:=⟨w.heap.size+1,0,none⟩) (by dsimp only;omega) (.slice (some ⟨gr,0,none⟩) d gc)).set 0 (.slice (some ⟨gr,0,none⟩) d gc)).set 1 (.slice fa d fc));have hnp:∀q,w.heap.size≤q→¬InP ps1 q:=fun q hq h=>(by have:=HL1.out q h;omega);have hM5:=((hM.far (p:=⟨w.heap.size+1,0,none⟩) (hnp _ (by dsimp only;omega)) (.slice (some ⟨gr,0,none⟩) d gc)).far (p:=⟨w.heap.size,0,none⟩) (hnp _ (by dsimp only;omega)) (.slice (some ⟨gr,0,none⟩) d gc)).far (p:=⟨w.heap.size,1,none⟩) (hnp _ (by dsimp only;omega)) (.slice fa d fc);have hR5:=((hR.far (p:=⟨w.heap.size+1,0,none⟩) (by dsimp only;omega) (.slice (some ⟨gr,0,none⟩) d gc)).far (p:=⟨w.heap.size,0,none⟩) (by dsimp only;omega) (.slice (some ⟨gr,0,none⟩) d gc)).far (p:=⟨w.heap.size,1,none⟩) (by dsimp only;omega) (.slice fa d fc);have hF5:=row_farE (p:=⟨w.heap.size,1,none⟩) (row_farE (p:=⟨w.heap.size,0,none⟩) (row_farE (p:=⟨w.heap.size+1,0,none⟩) HFR.out hB (by decide) (.slice (some ⟨gr,0,none⟩) d gc)) (hQ.far (p:=⟨w.heap.size+1,0,none⟩) (by dsimp only;omega) (.slice (some ⟨gr,0,none⟩) d gc)) (by decide) (.slice (some ⟨gr,0,none⟩) d gc)) ((hQ.far (p:=⟨w.heap.size+1,0,none⟩) (by dsimp only;omega) (.slice (some ⟨gr,0,none⟩) d gc)).set 0 (.slice (some ⟨gr,0,none⟩) d gc)) (by decide) (.slice fa d fc);exact bodyPost_ret (results_cell_row rfl _ _ w.heap.size 86 #[.slice (some ⟨gr,0,none⟩) d gc,.slice fa d fc] (0,0) _ rfl s2 Tryz.underlying86 rfl Tryz.info_basis) rfl ⟨d,ps1,R1,F,fa,fc,rfl,hM5,hR5,hF5,Lib.hid ⟨HG.out.1,HG.out.2.1,HRK.out.2.2,HFL.out,hdn,HRK.out.1,HRK.out.2.1⟩,((ht.setNew (b:=w.heap.size+1) (by omega) 0 _).setNew (b:=w.heap.size) (Nat.le_refl _) 0 _).setNew (b:=w.heap.size) (Nat.le_refl _) 1 _⟩
end Go.Proofs.YtifcfoijcodjbaaGreat
