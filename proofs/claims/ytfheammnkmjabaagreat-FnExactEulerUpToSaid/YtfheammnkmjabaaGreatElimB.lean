
import Derived.Test.YtfheammnkmjabaaGreatElimC
import Derived.WalkMore
import Derived.OwnWalk
namespace Go.Proofs.YtfheammnkmjabaaGreat
set_option maxRecDepth 100000
open Go.RowKit Go.Deep
theorem row_touch {w w':World} {p:Nat→Prop} {B sz n:Nat} {t:TypeId} {v:Value} {xs:List Value} (o:w.ownsRow B t sz v n xs) (h:Touch p w w') (hp:∀q,B≤q→¬p q):w'.ownsRow B t sz v n xs:=by
 obtain ⟨hl,h1⟩:=o
 refine ⟨hl,?_⟩
 rcases h1 with h0 | ⟨g,cap,cur,hv2,hb,hg,r⟩
 · exact Or.inl h0
 · exact Or.inr ⟨g,cap,cur,hv2,hb,(h.other g (Array.getElem?_eq_some_iff.1 hg).1 (hp g hb)).trans hg,r⟩
theorem row_farE {w:World} {B sz n:Nat} {t t':TypeId} {v:Value} {xs:List Value} {p:Addr} {os:Array Value} (h:w.ownsRow B t sz v n xs) (ho:Own w p.block t' os) (ht:t'≠t) (u:Value):(w.setCell p u).ownsRow B t sz v n xs:=
 ownsRow_setCell_other h (fun e=>own_ne_row ho h ht e.symm) u
theorem Touch.setNew {p:Nat→Prop} {w w':World} (h:Touch p w w') {b:Nat} (hb:w.heap.size≤b) (i:Nat) (v:Value):Touch p w (w'.setCell ⟨b,i,none⟩ v):=
 ⟨h.below.setCell (p:=⟨b,i,none⟩) (Nat.zero_le _) _,fun k hk hp=>(Below.heap_setCell _ ⟨b,i,none⟩ _ k (by dsimp only;omega)).trans (h.other k hk hp)⟩
def swp (o:List Nat) (d i:Nat):List Nat:=(o.set d (o.getD i 0)).set i (o.getD d 0)
theorem swp_get {o:List Nat} {d i q:Nat} (hd:d<o.length) (hi:i<o.length) (_hq:q<o.length):(swp o d i).getD q 0=if q=i then o.getD d 0 else if q=d then o.getD i 0 else o.getD q 0:=by
 rw [swp,List.getD_eq_getElem?_getD]
 by_cases e:q=i
 · subst e;rw [List.getElem?_set_self (by rw [List.length_set];exact hi),if_pos rfl];rfl
 · rw [List.getElem?_set_ne (fun h=>e h.symm),if_neg e];by_cases e2:q=d
   · subst e2;rw [List.getElem?_set_self hd,if_pos rfl];rfl
   · rw [List.getElem?_set_ne (fun h=>e2 h.symm),if_neg e2,←List.getD_eq_getElem?_getD]
theorem Mat.swp {Fl:List Int} {W n:Nat} {o:List Nat} (h:Mat Fl W n o) {d i:Nat} (hd:d<n) (hi:i<n):Mat Fl W n (swp o d i):=by
 have hol:=h.ol
 have hl:(Go.Proofs.YtfheammnkmjabaaGreat.swp o d i).length=n:=by rw [Go.Proofs.YtfheammnkmjabaaGreat.swp,List.length_set,List.length_set,hol]
 have hget:∀q (hq:q<(Go.Proofs.YtfheammnkmjabaaGreat.swp o d i).length),(Go.Proofs.YtfheammnkmjabaaGreat.swp o d i)[q]=if q=i then o.getD d 0 else if q=d then o.getD i 0 else o.getD q 0:=fun q hq=>by
  rw [←swp_get (by omega) (by omega) (by omega),List.getD_eq_getElem?_getD,List.getElem?_eq_getElem hq];rfl
 refine ⟨h.len,hl,?_,fun x hx=>?_,h.bd⟩
 · rw [List.Nodup,List.pairwise_iff_getElem];intro a b ha hb hab;rw [hget a ha,hget b hb];have hne:∀{p q:Nat},p<n→q<n→¬p=q→¬o.getD p 0=o.getD q 0:=fun hp hq hpq=>h.o_ne hp hq hpq;rw [hl] at ha hb;by_cases a1:a=i
   · rw [if_pos a1,if_neg (by omega)];by_cases b2:b=d
     · rw [if_pos b2];exact hne hd hi (by omega)
     · rw [if_neg b2];exact hne hd hb (by omega)
   · rw [if_neg a1];by_cases b1:b=i
     · rw [if_pos b1];by_cases a2:a=d
       · rw [if_pos a2];exact hne hi hd (by omega)
       · rw [if_neg a2];exact hne ha hd a2
     · rw [if_neg b1];by_cases a2:a=d
       · rw [if_pos a2,if_neg (by omega)];exact hne hi hb (by omega)
       · rw [if_neg a2];by_cases b2:b=d
         · rw [if_pos b2];exact hne ha hi a1
         · rw [if_neg b2];exact hne ha hb (by omega)
 · obtain ⟨q,hq,rfl⟩:=List.mem_iff_getElem.1 hx;rw [hget q hq];rw [hl] at hq;split
   · exact h.o_lt hd
   · split
     · exact h.o_lt hi
     · exact h.o_lt hq
theorem rw_rows {Fl:List Int} {W n:Nat} {o:List Nat} (h:Mat Fl W n o) {q:Nat} (hq:q<n):rw_ (o.map (rowOf Fl W)) q=rowOf Fl W (o.getD q 0):=by
 have h1:q<o.length:=by rw [h.ol];exact hq
 rw [rw_,List.getD_eq_getElem?_getD,List.getElem?_map,List.getD_eq_getElem?_getD,List.getElem?_eq_getElem h1]
 rfl
theorem GJ.swapped {V : List Vec} {W n c i : Nat} {Fl Fl' : List Int} {o : List Nat} {F : List Nat} (hM : Mat Fl W n o) (h : GJ V W (o.map (rowOf Fl W)) F c) (hi : F.length ≤ i) (hn : i < n) (hne : ¬ (rowOf Fl W (o.getD i 0)).getD c 0 = 0)
    (hM':Mat Fl' W n (Go.Proofs.YtfheammnkmjabaaGreat.swp o F.length i)) (hq:∀q,q<n→rowOf Fl' W ((Go.Proofs.YtfheammnkmjabaaGreat.swp o F.length i).getD q 0)=if q=F.length then (rowOf Fl W ((Go.Proofs.YtfheammnkmjabaaGreat.swp o F.length i).getD F.length 0)).map (fun x=>num (x * invOf ((rowOf Fl W ((Go.Proofs.YtfheammnkmjabaaGreat.swp o F.length i).getD F.length 0)).getD c 0))) else clr ((rowOf Fl W ((Go.Proofs.YtfheammnkmjabaaGreat.swp o F.length i).getD F.length 0)).map (fun x=>num (x * invOf ((rowOf Fl W ((Go.Proofs.YtfheammnkmjabaaGreat.swp o F.length i).getD F.length 0)).getD c 0)))) c (rowOf Fl W ((Go.Proofs.YtfheammnkmjabaaGreat.swp o F.length i).getD q 0))) :
    GJ V W ((Go.Proofs.YtfheammnkmjabaaGreat.swp o F.length i).map (rowOf Fl' W)) (F++[c]) (c+1):=by
 have hol:=hM.ol
 have hd:F.length<n:=by omega
 have hi0:(Go.Proofs.YtfheammnkmjabaaGreat.swp o F.length i).getD F.length 0=o.getD i 0:=by
  rw [swp_get (by omega) (by omega) (by omega)];split
  · rename_i e;rw [←e]
  · rw [if_pos rfl]
 have hri:=rw_rows hM hn
 have hlen:(o.map (rowOf Fl W)).length=n:=by rw [List.length_map,hol]
 have hfst:fstN (rowOf Fl W (o.getD i 0))=c:=fstN_eq (fun q hq2=>by rw [←hri];exact h.rest i hi (by omega) q hq2) hne
 have hsn:=scale_norm (rowOf_ok hM (hM.o_lt hn)) hfst
 rw [hi0,hsn] at hq
 refine GJ.step h hi (by rw [hlen];exact hn) (by rw [hri];exact hne) (by rw [List.length_map,List.length_map,hM'.ol,hol]) ?_ (fun j hj hjd=>?_)
 · rw [rw_rows hM' hd,hq F.length hd,if_pos rfl,hri]
 · rw [hlen] at hj;rw [rw_rows hM' hj,hq j hj,if_neg hjd,hri,swp_get (by omega) (by omega) (by omega)];congr 1
   by_cases e:j=i
   · rw [if_pos e,if_pos e,rw_rows hM hd]
   · rw [if_neg e,if_neg e,if_neg hjd,rw_rows hM hj]
theorem Tryz.info_intB:∃i z,Tryz.prog.info? 3=some i∧i.zero=some z∧i.size=1∧i.bytes=8∧z.cells.size=1:=by
 have h:(Tryz.prog.info? 3).map (fun i=>(i.zero,i.size,i.bytes))=some (some (.int .i64 0),1,8):=by kernel_rfl
 obtain ⟨i,hi,hzz⟩:=Option.map_eq_some_iff.1 h
 simp only [Prod.mk.injEq] at hzz
 obtain ⟨hz,hs,hb⟩:=hzz
 exact ⟨i,_,hi,hz,hs,hb,rfl⟩
theorem Tryz.info_basis:(Tryz.prog.info? 87).map (·.size)=some 2:=by kernel_rfl
theorem Tryz.sizeRow:∀w,(Go.sizeOf 84).run Tryz.prog w=.ok 1 w:=fun w=>by kernel_rfl
theorem sliceR_run (g o n c k : Nat) (h : k ≤ c) (w : World) :
    (Instr.slice 55 (.slice (some ⟨g,o,none⟩) n c) none (some (.int .i64 (k:Int))) none).run Tryz.prog w=.ok (.slice (some ⟨g,o,none⟩) k c) w:=by
 have he:Tryz.prog.elem 55=84:=by kernel_rfl
 have hu:Tryz.prog.underlying 55=some (.slice (Tryz.prog.elem 55)):=by rw [he];exact Tryz.underlying55
 have h:=run_slice_h (P:=Tryz.prog) w 55 (some ⟨g,o,none⟩) n c hu .i64 (k:Int) (by omega) (by omega)
 rw [h]
 have hs:=Tryz.sizeRow w
 rw [he,hs]
 simp [Result.andThen,sliced,Addr.add]
set_option maxHeartbeats 8000000 in
theorem basisOf_c {w : World} {g gr W n : Nat} {Fl : List Int} {o : List Nat} (hM : Mat Fl W n o) (hn : n ≤ 1000) (hn0 : 0 < n) (hW : W ≤ 1000) (hgr : ¬ gr = g) (hO : Own w g 109 (ofI Fl)) (hR : Own w gr 84 (slc g W o).toArray) :
    Calls Tryz.prog 42 #[.slice (some ⟨gr,0,none⟩) n n] w fun e w'=>∃(d rc:Nat) (v2:Value),e=.returned (.agg #[.slice (some ⟨gr,0,none⟩) d rc,v2])∧Hid (IsRank (o.map (fun i=>vec (rowOf Fl W i))) d)∧Touch (fun k=>k=g∨k=gr) w w':=by
 obtain ⟨ti,tz,hti,htz,hts,htb,htzs⟩:=Tryz.info_intB
 have HI:=Lib.hid hti
 have HZ:=Lib.hid htz
 have HS:=Lib.hid hts
 have HBt:=Lib.hid htb
 have HZs:=Lib.hid htzs
 clear hti htz hts htb htzs
 have hgl:=hO.lt
 have hgrl:=hR.lt
 have hQ:=(Own.new w 87 #[.slice none 0 0,.slice none 0 0]).alloc (.cells #[.slice none 0 0,.slice none 0 0] 87)
 have hB:=Own.new (w.alloc (.cells #[.slice none 0 0,.slice none 0 0] 87)) 87 #[.slice none 0 0,.slice none 0 0]
 rw [sAl] at hB
 have hba:=bTn (bA1 w (.cells #[.slice none 0 0,.slice none 0 0] 87)) (bA1 _ (.cells #[.slice none 0 0,.slice none 0 0] 87))
 have ht:Touch (fun k=>k=g∨k=gr) w ((w.alloc (.cells #[.slice none 0 0,.slice none 0 0] 87)).alloc (.cells #[.slice none 0 0,.slice none 0 0] 87)):=Touch.of_below hba
 replace hO:=hO.keep hba hgl
 replace hR:=hR.keep hba hgrl
 have hnb:((n:Int)==0)=false:=by simp;omega
 have HG0:Hid (Mat Fl W n o∧GJ (o.map (fun i=>vec (rowOf Fl W i))) W (o.map (rowOf Fl W)) [] 0):=Lib.hid ⟨hM,by
  have:=GJ.start (V:=o.map (rowOf Fl W)) (m:=W) (fun r hr=>by
   obtain ⟨i,hi,rfl⟩:=List.mem_map.1 hr
   exact rowOf_ok hM (hM.lt i hi))
  rw [List.map_map] at this
  exact this⟩
 obtain ⟨V,hV⟩:∃V,o.map (fun i=>vec (rowOf Fl W i))=V:=⟨_,rfl⟩
 rw [hV] at HG0 ⊢
 have hc0:=hR.cell 0
 rw [slc_get hM.ol hn0] at hc0
 clear hba hV
 have hn0i:(0:Int)<(n:Int):=by omega
 go_enter Tryz.func42,Tryz.ntmps42
 go_wp2_with fail
 go_step3
 go_upto_region 2 with fail
 have hs2:((w.alloc (.cells #[.slice none 0 0,.slice none 0 0] 87)).alloc (.cells #[.slice none 0 0,.slice none 0 0] 87)).heap.size=w.heap.size+2:=by rw [sAl,sAl]
 generalize (w.alloc (.cells #[.slice none 0 0,.slice none 0 0] 87)).alloc (.cells #[.slice none 0 0,.slice none 0 0] 87)=w0 at *
 have hsz:w.heap.size+2≤w0.heap.size:=by omega
 clear hs2
 go_wp2_with fail
 go_step3
 go_upto_region 5 with fail
 clear hc0
 go_loopw [15] (fun y wr=>∃(c d:Nat) (F1:List Int) (o1:List Nat) (F:List Nat) (fa:Option Addr) (fc:Nat),c≤W∧y=.int .i64 c∧Touch (fun k=>k=g∨k=gr) w wr∧Own wr g 109 (ofI F1)∧Own wr gr 84 (slc g W o1).toArray∧Own wr w.heap.size 87 #[.slice none 0 0,.slice none 0 0]∧Own wr (w.heap.size+1) 87 #[.slice none 0 0,.slice fa d fc]∧wr.ownsRow (w.heap.size+2) 3 1 (.slice fa d fc) d (F.map (fun f:Nat=>Value.int .i64 (f:Int)))∧w.heap.size+2≤wr.heap.size∧Hid (F.length=d)∧Hid (Mat F1 W n o1∧GJ V W (o1.map (rowOf F1 W)) F c)) (fun y _=>W - (intOf y).toNat)
 case atStart=>exact ⟨0,0,Fl,o,[],none,0,Nat.zero_le _,rfl,ht,hO,hR,hQ,hB,World.ownsRow_nil _ _ _ _,hsz,Lib.hid rfl,HG0⟩
 case round=>
  clear ht hO hR hQ hB hsz HG0;obtain ⟨c,d,F1,o1,F,fa,fc,hc,rfl,ht,hO,hR,hQ,hB,hF,hsz,HFL,HG⟩:=hrel;have hc0:(0:Int)≤(c:Int):=(by omega);have hdn:d≤n:=(by have:=HG.out.2.le;rw [HFL.out,List.length_map,HG.out.1.ol] at this;exact this);have HFR:=Lib.hid hF;clear hF;by_cases hcW:c<W
  · have hci:(c:Int)<(W:Int):=(by omega);have b1:=hB.cell 1;go_upto_region 9 with fail
    clear b1
    go_loopw [6] (fun y wq=>∃i:Nat,d≤i∧i≤n∧y=.int .i64 i∧wq=wr∧Hid (∀q,d≤q→q<i→(rowOf F1 W (o1.getD q 0)).getD c 0=0)) (fun y _=>n - (intOf y).toNat)
    case atStart=>exact ⟨d,Nat.le_refl _,hdn,rfl,rfl,Lib.hid (fun q h1 h2=>absurd h1 (by omega))⟩
    case round=>
     obtain ⟨i,hi1,hi2,rfl,rfl,HZ0⟩:=hrel;have hi0:(0:Int)≤(i:Int):=(by omega);by_cases hin:i<n
     · have hii:(i:Int)<(n:Int):=(by omega);have hoi:=HG.out.1.o_lt hin;obtain ⟨off,hoff⟩:∃off,o1.getD i 0 * W=off:=⟨_,rfl⟩;have hci2:=hR.cell i;rw [slc_get HG.out.1.ol hin,hoff] at hci2;have hRok:=rowOf_ok HG.out.1 hoi;obtain ⟨P,hP⟩:∃P,rowOf F1 W (o1.getD i 0)=P:=⟨_,rfl⟩;rw [hP] at hRok;obtain ⟨x,hx⟩:∃x,P.getD c 0=x:=⟨_,rfl⟩
       have hcx:wr.cell? ⟨g,off+c,none⟩=some (.int .i64 x):=by
        rw [hO.cell (off+c)];refine ofI_get ?_;rw [←hoff,rowOf_get HG.out.1.len hoi hcW,hP,←hx,List.getD_eq_getElem?_getD,List.getElem?_eq_getElem (by rw [hRok.len];exact hcW)];rfl
       have HX:Hid ((rowOf F1 W (o1.getD i 0)).getD c 0=x):=Lib.hid (by rw [hP];exact hx);clear hP;have HOFF:=Lib.hid hoff;clear hx hRok hoff;by_cases hx0:x=0
       · subst hx0;go_wp2_with fail
         go_roundw
         case rel=>
          refine ⟨i+1,by omega,by omega,by go_num,by trivial,Lib.hid (fun q h1 h2=>?_)⟩;by_cases e:q=i
          · rw [e];exact HX.out
          · exact HZ0.out q h1 (by omega)
         case measure=>simp [intOf] <;> omega
       · have hxb:(x != 0)=true:=(by simpa using hx0);have hdn2:d<n:=(by omega);have hdi:(d:Int)<(n:Int):=(by omega);have hd0:(0:Int)≤(d:Int):=(by omega);have hod:=HG.out.1.o_lt hdn2;obtain ⟨offd,hoffd⟩:∃offd,o1.getD d 0 * W=offd:=⟨_,rfl⟩;have hcd:=hR.cell d;rw [slc_get HG.out.1.ol hdn2,hoffd] at hcd;have HOFD:=Lib.hid hoffd;clear hoffd;go_upto_region 12 with fail
         replace hO:Own wr.drew g 109 (ofI F1):=hO;replace hR:Own wr.drew gr 84 (slc g W o1).toArray:=hR;replace hQ:Own wr.drew w.heap.size 87 #[.slice none 0 0,.slice none 0 0]:=hQ;replace hB:Own wr.drew (w.heap.size+1) 87 #[.slice none 0 0,.slice fa d fc]:=hB;replace hsz:w.heap.size+2≤wr.drew.heap.size:=hsz;replace hci2:wr.drew.cell? ⟨gr,i,none⟩=some (.slice (some ⟨g,off,none⟩) W W):=hci2;replace hcd:wr.drew.cell? ⟨gr,d,none⟩=some (.slice (some ⟨g,offd,none⟩) W W):=hcd;have htd:Touch (fun k=>k=g∨k=gr) wr wr.drew:=Touch.of_below ((Below.refl _ _).drew);have hFR:=row_touch HFR.out htd (fun q hq=>by omega);have HFR:=Lib.hid hFR;replace ht:Touch (fun k=>k=g∨k=gr) w wr.drew:=ht.trans htd;clear hcx htd hFR;refine wp_region_held_drew (S:=(fun w'=>0≤w'.heap.size)) (by kernel_rfl) ?_ (fun _=>?_)
         · ((try dsimp only);(exact Nat.zero_le _))
         generalize wr.drew=W0d at *;refine hdT 0 ?_;refine hdT 1 ?_;refine hdT 2 ?_;refine hdT 3 ?_;refine hdT 4 ?_;refine hdT 5 ?_;refine hdT 6 ?_;refine hdT 8 ?_;refine hdT 9 ?_;refine hdT 10 ?_;refine wpAnyH_ready (rs:=[7,11]) (by kernel_rfl) (by simp) ?_;refine AllReadyH.cons (hdAt (i:=7) rfl) (fun K hK=>?_) (AllReadyH.cons (hdAt (i:=11) rfl) (fun K hK=>?_) AllReadyH.nil)
         · skip
           (go_simp;try go_wp2_with fail)
           refine hK.out _ _ ?_ (fun _=>?_)
           · ((try dsimp only);(exact Nat.zero_le _))
           clear hK K
           (try simp only [Act.put,pA,pB,pC])
           refine hdC 11 (fun K hK=>?_)
           (go_simp;try go_wp2_with fail)
           refine hK.out _ _ ?_ (fun _=>?_)
           · ((try dsimp only);(exact Nat.zero_le _))
           clear hK K
           (try simp only [Act.put,pA,pB,pC])
           refine hdT 12 ?_;refine hdC 13 (fun K hK=>?_);obtain ⟨ov,hcS⟩:=hR.has (i:=d) (by have:=HG.out.1.ol;simp [slc];omega);have hfS:=hR.frozen d
           (go_simp;go_wp2_with fail)
           clear hcS hfS;have hTo:Touch (fun k=>k=gr) W0d (W0d.setCell ⟨gr,d,none⟩ (.slice (some ⟨g,off,none⟩) W W)):=Touch.of_only ((Only.refl gr W0d).set d (.slice (some ⟨g,off,none⟩) W W));replace hO:=hTo.own hO (fun e=>hgr e.symm);replace hQ:=hTo.own hQ (by omega);replace hB:=hTo.own hB (by omega);have hFR:=row_touch HFR.out hTo (fun q hq=>by omega);have HFR:=Lib.hid hFR;replace ht:=ht.trans (hTo.mono (fun k hk=>Or.inr hk));replace hsz:=Nat.le_trans hsz hTo.below.size;replace hR:=hR.set d (.slice (some ⟨g,off,none⟩) W W);clear hTo hFR;generalize W0d.setCell ⟨gr,d,none⟩ (.slice (some ⟨g,off,none⟩) W W)=W1 at *;refine hK.out _ _ ?_ (fun _=>?_)
           · ((try dsimp only);(exact Nat.zero_le _))
           clear hK K
           (try simp only [Act.put,pA,pB,pC])
           refine hdT 14 ?_;refine hdC 15 (fun K hK=>?_);obtain ⟨ov,hcS⟩:=hR.has (i:=i) (by have:=HG.out.1.ol;simp [slc];omega);have hfS:=hR.frozen i
           (go_simp;go_wp2_with fail)
           clear hcS hfS;have hTo:Touch (fun k=>k=gr) W1 (W1.setCell ⟨gr,i,none⟩ (.slice (some ⟨g,offd,none⟩) W W)):=Touch.of_only ((Only.refl gr W1).set i (.slice (some ⟨g,offd,none⟩) W W));replace hO:=hTo.own hO (fun e=>hgr e.symm);replace hQ:=hTo.own hQ (by omega);replace hB:=hTo.own hB (by omega);have hFR:=row_touch HFR.out hTo (fun q hq=>by omega);have HFR:=Lib.hid hFR;replace ht:=ht.trans (hTo.mono (fun k hk=>Or.inr hk));replace hsz:=Nat.le_trans hsz hTo.below.size;replace hR:=hR.set i (.slice (some ⟨g,offd,none⟩) W W);clear hTo hFR;generalize W1.setCell ⟨gr,i,none⟩ (.slice (some ⟨g,offd,none⟩) W W)=W2 at *;refine hK.out _ _ ?_ (fun _=>?_)
           · ((try dsimp only);(exact Nat.zero_le _))
           clear hK K
           (try simp only [Act.put,pA,pB,pC])
           refine wpAnyH_done (by kernel_rfl) ?_ _;have HSW:Hid (((slc g W o1).toArray.setIfInBounds d (.slice (some ⟨g,off,none⟩) W W)).setIfInBounds i (.slice (some ⟨g,offd,none⟩) W W)=(slc g W (swp o1 d i)).toArray):=Lib.hid (by rw [←HOFF.out,←HOFD.out];simp [slc,swp,List.map_set]);rw [HSW.out] at hR;have hM2:=HG.out.1.swp hdn2 hin
           have hoi2:(swp o1 d i).getD d 0=o1.getD i 0:=by
            have:=HG.out.1.ol;rw [swp_get (by omega) (by omega) (by omega)];split
            · rename_i e;rw [←e]
            · rw [if_pos rfl]
           have HM2:=Lib.hid hM2;have HOI2:=Lib.hid hoi2;clear hM2 hoi2 hci2 hcd HSW;go_wp2_with fail
           refine (clearColumn_c n HM2.out hn hW hdn2 hcW hgr hO hR (by rw [HOI2.out,HX.out];exact hx0)).mono ?_;rintro e w5 ⟨rfl,F2,hO2,HF2,ht5⟩;have hN5:∀q,w.heap.size≤q→¬q=g:=fun q hq=>(by omega);replace hR:=ht5.own hR hgr;replace hQ:=ht5.own hQ (by omega);replace hB:=ht5.own hB (by omega);have hFR:=row_touch HFR.out ht5 (fun q hq=>by omega);replace hsz:=Nat.le_trans hsz ht5.below.size;replace ht:=ht.trans (ht5.mono (fun k hk=>Or.inl hk));have HGJ:=Lib.hid (GJ.swapped HG.out.1 HG.out.2 (by rw [HFL.out];exact hi1) hin (by rw [HX.out];exact hx0) (by rw [HFL.out];exact HF2.out.1) (by rw [HFL.out];exact HF2.out.2));rw [HFL.out] at HGJ;clear hO ht5 HFR hN5
           have hnews:∀j u,([Value.int .i64 (c:Int)]:List Value)[j]? = some u→(w5.alloc (.cells #[.int .i64 (c:Int)] 3)).cell? ((⟨w5.heap.size,0,none⟩:Addr).add j)=some u:=fun j u hu=>by
            rw [Addr.add_mid];exact (Own.new w5 3 #[.int .i64 (c:Int)]).range j u hu
           have hone:∀u∈([Value.int .i64 (c:Int)]:List Value),u.oneCell'=true:=(by simp [Value.oneCell']);have HN:=Lib.hid hnews;have HO:=Lib.hid hone;have hba:=bA1 w5 (.cells #[.int .i64 (c:Int)] 3);have HR2:=Lib.hid (row_keep hFR hba);have hO3:=hO2.keep hba hO2.lt;have hR3:=hR.keep hba hR.lt;have hQ3:=hQ.keep hba hQ.lt;have hB3:=hB.keep hba hB.lt;have hsz3:=Nat.le_trans hsz hba.size;have ht3:=ht.trans (Touch.of_below (p:=fun k=>k=g∨k=gr) hba);have b1:=hB.cell 1;clear hnews hone hFR hba hO2 hR hQ hB ht;go_upto_region 14 with fail
           go_wp2_with (refine wpList_append_own_wide _ rfl (.tmp 55) (.tmp 57) 85 rfl (w.heap.size + 2) 3 ti tz 1 8 Tryz.underlying85 HI.out HZ.out HS.out HBt.out HZs.out (by omega) (.slice fa d fc) d _ rfl HR2.out ⟨w5.heap.size, 0, none⟩ 1 1 [Value.int .i64 (c : Int)] rfl rfl HN.out HO.out (by simp only [maxLen]; omega) (by omega) (by rw [sAl]; omega) (fun v' w' h2 h3 h4 => ?_)
                        obtain ⟨va,vc,rfl⟩:=row_slice h2;have hO4:=hO3.grown h3 (own_ne_row hO3 HR2.out (by decide));have hR4:=hR3.grown h3 (own_ne_row hR3 HR2.out (by decide));have hQ4:=hQ3.grown h3 (own_ne_row hQ3 HR2.out (by decide));have hB4:=hB3.grown h3 (own_ne_row hB3 HR2.out (by decide));have ht4:Touch (fun k=>k=g∨k=gr) w w':=⟨grown_below ht3.below h3 (fun j e=>by omega) (Nat.zero_le _),fun k hk hp=>(h3.block k (Nat.lt_of_lt_of_le hk ht3.below.size) (fun e=>by have:=(HR2.out.lt k e.symm).1;omega)).trans (ht3.other k hk hp)⟩;have hsz4:=Nat.le_trans hsz3 h3.size;have H2:=Lib.hid h2;clear h2 h3 h4 hO3 hR3 hQ3 hB3 ht3 HR2 HN HO b1;have b1:=hB4.cell 1
                        have f1:=hB4.frozen 1)
           have hB5:=hB4.set 1 (.slice va (d+1) vc);have hO5:=hO4.far (p:=⟨w.heap.size+1,1,none⟩) (by dsimp only;omega) (.slice va (d+1) vc);have hR5:=hR4.far (p:=⟨w.heap.size+1,1,none⟩) (by dsimp only;omega) (.slice va (d+1) vc);have hQ5:=hQ4.far (p:=⟨w.heap.size+1,1,none⟩) (by dsimp only;omega) (.slice va (d+1) vc);have hF5:=row_farE (p:=⟨w.heap.size+1,1,none⟩) H2.out hB4 (by decide) (.slice va (d+1) vc);have ht5:Touch (fun k=>k=g∨k=gr) w (w'.setCell ⟨w.heap.size+1,1,none⟩ (.slice va (d+1) vc)):=⟨ht4.below.setCell (p:=⟨w.heap.size+1,1,none⟩) (Nat.zero_le _) _,fun k hk hp=>(Below.heap_setCell _ ⟨w.heap.size+1,1,none⟩ _ k (by dsimp only;omega)).trans (ht4.other k hk hp)⟩
           go_roundw
           case rel=>
            refine ⟨c+1,d+1,F2,swp o1 d i,F++[c],va,vc,by omega,by go_num,ht5,hO5,hR5,hQ5,hB5,?_,by simpa using hsz4,Lib.hid (by rw [List.length_append,HFL.out];rfl),Lib.hid ⟨HF2.out.1,HGJ.out⟩⟩;rw [List.map_append];exact hF5
           case measure=>simp [intOf] <;> omega
         · skip
           (go_simp;try go_wp2_with fail)
           refine hK.out _ _ ?_ (fun _=>?_)
           · ((try dsimp only);(exact Nat.zero_le _))
           clear hK K
           (try simp only [Act.put,pA,pB,pC])
           refine hdC 7 (fun K hK=>?_)
           (go_simp;try go_wp2_with fail)
           refine hK.out _ _ ?_ (fun _=>?_)
           · ((try dsimp only);(exact Nat.zero_le _))
           clear hK K
           (try simp only [Act.put,pA,pB,pC])
           refine hdT 12 ?_;refine hdC 13 (fun K hK=>?_);obtain ⟨ov,hcS⟩:=hR.has (i:=d) (by have:=HG.out.1.ol;simp [slc];omega);have hfS:=hR.frozen d
           (go_simp;go_wp2_with fail)
           clear hcS hfS;have hTo:Touch (fun k=>k=gr) W0d (W0d.setCell ⟨gr,d,none⟩ (.slice (some ⟨g,off,none⟩) W W)):=Touch.of_only ((Only.refl gr W0d).set d (.slice (some ⟨g,off,none⟩) W W));replace hO:=hTo.own hO (fun e=>hgr e.symm);replace hQ:=hTo.own hQ (by omega);replace hB:=hTo.own hB (by omega);have hFR:=row_touch HFR.out hTo (fun q hq=>by omega);have HFR:=Lib.hid hFR;replace ht:=ht.trans (hTo.mono (fun k hk=>Or.inr hk));replace hsz:=Nat.le_trans hsz hTo.below.size;replace hR:=hR.set d (.slice (some ⟨g,off,none⟩) W W);clear hTo hFR;generalize W0d.setCell ⟨gr,d,none⟩ (.slice (some ⟨g,off,none⟩) W W)=W3 at *;refine hK.out _ _ ?_ (fun _=>?_)
           · ((try dsimp only);(exact Nat.zero_le _))
           clear hK K
           (try simp only [Act.put,pA,pB,pC])
           refine hdT 14 ?_;refine hdC 15 (fun K hK=>?_);obtain ⟨ov,hcS⟩:=hR.has (i:=i) (by have:=HG.out.1.ol;simp [slc];omega);have hfS:=hR.frozen i
           (go_simp;go_wp2_with fail)
           clear hcS hfS;have hTo:Touch (fun k=>k=gr) W3 (W3.setCell ⟨gr,i,none⟩ (.slice (some ⟨g,offd,none⟩) W W)):=Touch.of_only ((Only.refl gr W3).set i (.slice (some ⟨g,offd,none⟩) W W));replace hO:=hTo.own hO (fun e=>hgr e.symm);replace hQ:=hTo.own hQ (by omega);replace hB:=hTo.own hB (by omega);have hFR:=row_touch HFR.out hTo (fun q hq=>by omega);have HFR:=Lib.hid hFR;replace ht:=ht.trans (hTo.mono (fun k hk=>Or.inr hk));replace hsz:=Nat.le_trans hsz hTo.below.size;replace hR:=hR.set i (.slice (some ⟨g,offd,none⟩) W W);clear hTo hFR;generalize W3.setCell ⟨gr,i,none⟩ (.slice (some ⟨g,offd,none⟩) W W)=W4 at *;refine hK.out _ _ ?_ (fun _=>?_)
           · ((try dsimp only);(exact Nat.zero_le _))
           clear hK K
           (try simp only [Act.put,pA,pB,pC])
           refine wpAnyH_done (by kernel_rfl) ?_ _;have HSW:Hid (((slc g W o1).toArray.setIfInBounds d (.slice (some ⟨g,off,none⟩) W W)).setIfInBounds i (.slice (some ⟨g,offd,none⟩) W W)=(slc g W (swp o1 d i)).toArray):=Lib.hid (by rw [←HOFF.out,←HOFD.out];simp [slc,swp,List.map_set]);rw [HSW.out] at hR;have hM2:=HG.out.1.swp hdn2 hin
           have hoi2:(swp o1 d i).getD d 0=o1.getD i 0:=by
            have:=HG.out.1.ol;rw [swp_get (by omega) (by omega) (by omega)];split
            · rename_i e;rw [←e]
            · rw [if_pos rfl]
           have HM2:=Lib.hid hM2;have HOI2:=Lib.hid hoi2;clear hM2 hoi2 hci2 hcd HSW;go_wp2_with fail
           refine (clearColumn_c n HM2.out hn hW hdn2 hcW hgr hO hR (by rw [HOI2.out,HX.out];exact hx0)).mono ?_;rintro e w5 ⟨rfl,F2,hO2,HF2,ht5⟩;have hN5:∀q,w.heap.size≤q→¬q=g:=fun q hq=>(by omega);replace hR:=ht5.own hR hgr;replace hQ:=ht5.own hQ (by omega);replace hB:=ht5.own hB (by omega);have hFR:=row_touch HFR.out ht5 (fun q hq=>by omega);replace hsz:=Nat.le_trans hsz ht5.below.size;replace ht:=ht.trans (ht5.mono (fun k hk=>Or.inl hk));have HGJ:=Lib.hid (GJ.swapped HG.out.1 HG.out.2 (by rw [HFL.out];exact hi1) hin (by rw [HX.out];exact hx0) (by rw [HFL.out];exact HF2.out.1) (by rw [HFL.out];exact HF2.out.2));rw [HFL.out] at HGJ;clear hO ht5 HFR hN5
           have hnews:∀j u,([Value.int .i64 (c:Int)]:List Value)[j]? = some u→(w5.alloc (.cells #[.int .i64 (c:Int)] 3)).cell? ((⟨w5.heap.size,0,none⟩:Addr).add j)=some u:=fun j u hu=>by
            rw [Addr.add_mid];exact (Own.new w5 3 #[.int .i64 (c:Int)]).range j u hu
           have hone:∀u∈([Value.int .i64 (c:Int)]:List Value),u.oneCell'=true:=(by simp [Value.oneCell']);have HN:=Lib.hid hnews;have HO:=Lib.hid hone;have hba:=bA1 w5 (.cells #[.int .i64 (c:Int)] 3);have HR2:=Lib.hid (row_keep hFR hba);have hO3:=hO2.keep hba hO2.lt;have hR3:=hR.keep hba hR.lt;have hQ3:=hQ.keep hba hQ.lt;have hB3:=hB.keep hba hB.lt;have hsz3:=Nat.le_trans hsz hba.size;have ht3:=ht.trans (Touch.of_below (p:=fun k=>k=g∨k=gr) hba);have b1:=hB.cell 1;clear hnews hone hFR hba hO2 hR hQ hB ht;go_upto_region 14 with fail
           go_wp2_with (refine wpList_append_own_wide _ rfl (.tmp 55) (.tmp 57) 85 rfl (w.heap.size + 2) 3 ti tz 1 8 Tryz.underlying85 HI.out HZ.out HS.out HBt.out HZs.out (by omega) (.slice fa d fc) d _ rfl HR2.out ⟨w5.heap.size, 0, none⟩ 1 1 [Value.int .i64 (c : Int)] rfl rfl HN.out HO.out (by simp only [maxLen]; omega) (by omega) (by rw [sAl]; omega) (fun v' w' h2 h3 h4 => ?_)
                        obtain ⟨va,vc,rfl⟩:=row_slice h2;have hO4:=hO3.grown h3 (own_ne_row hO3 HR2.out (by decide));have hR4:=hR3.grown h3 (own_ne_row hR3 HR2.out (by decide));have hQ4:=hQ3.grown h3 (own_ne_row hQ3 HR2.out (by decide));have hB4:=hB3.grown h3 (own_ne_row hB3 HR2.out (by decide));have ht4:Touch (fun k=>k=g∨k=gr) w w':=⟨grown_below ht3.below h3 (fun j e=>by omega) (Nat.zero_le _),fun k hk hp=>(h3.block k (Nat.lt_of_lt_of_le hk ht3.below.size) (fun e=>by have:=(HR2.out.lt k e.symm).1;omega)).trans (ht3.other k hk hp)⟩;have hsz4:=Nat.le_trans hsz3 h3.size;have H2:=Lib.hid h2;clear h2 h3 h4 hO3 hR3 hQ3 hB3 ht3 HR2 HN HO b1;have b1:=hB4.cell 1
                        have f1:=hB4.frozen 1)
           have hB5:=hB4.set 1 (.slice va (d+1) vc);have hO5:=hO4.far (p:=⟨w.heap.size+1,1,none⟩) (by dsimp only;omega) (.slice va (d+1) vc);have hR5:=hR4.far (p:=⟨w.heap.size+1,1,none⟩) (by dsimp only;omega) (.slice va (d+1) vc);have hQ5:=hQ4.far (p:=⟨w.heap.size+1,1,none⟩) (by dsimp only;omega) (.slice va (d+1) vc);have hF5:=row_farE (p:=⟨w.heap.size+1,1,none⟩) H2.out hB4 (by decide) (.slice va (d+1) vc);have ht5:Touch (fun k=>k=g∨k=gr) w (w'.setCell ⟨w.heap.size+1,1,none⟩ (.slice va (d+1) vc)):=⟨ht4.below.setCell (p:=⟨w.heap.size+1,1,none⟩) (Nat.zero_le _) _,fun k hk hp=>(Below.heap_setCell _ ⟨w.heap.size+1,1,none⟩ _ k (by dsimp only;omega)).trans (ht4.other k hk hp)⟩
           go_roundw
           case rel=>
            refine ⟨c+1,d+1,F2,swp o1 d i,F++[c],va,vc,by omega,by go_num,ht5,hO5,hR5,hQ5,hB5,?_,by simpa using hsz4,Lib.hid (by rw [List.length_append,HFL.out];rfl),Lib.hid ⟨HF2.out.1,HGJ.out⟩⟩;rw [List.map_append];exact hF5
           case measure=>simp [intOf] <;> omega
     · have he:i=n:=(by omega);subst he;go_wp2_with fail
       go_roundw
       case rel=>exact ⟨c+1,d,F1,o1,F,fa,fc,by omega,by go_num,ht,hO,hR,hQ,hB,HFR.out,hsz,HFL,Lib.hid ⟨HG.out.1,HG.out.2.skip (fun j h1 h2=>by
        rw [List.length_map,HG.out.1.ol] at h2;rw [rw_rows HG.out.1 h2]
        exact HZ0.out j (by rw [HFL.out] at h1;exact h1) h2)⟩⟩
       case measure=>simp [intOf] <;> omega
  · have he:c=W:=(by omega);subst he;have HRK:Hid (IsRank V d):=Lib.hid (by have:=HG.out.2.rank;rwa [HFL.out] at this);have hsl:=sliceR_run gr 0 n n d hdn;have b0:=hB.cell 0;have b1:=hB.cell 1;have f0:=hB.frozen 0;have r0:=hQ.cell 0;have r1:=hQ.cell 1;have q0:=hQ.frozen 0;have q1:=hQ.frozen 1;go_wp2_with fail
    (try rw [Exit.noGoto_ret])
    have s2:=(((hQ.far (p:=⟨w.heap.size+1,0,none⟩) (by dsimp only;omega) (.slice (some ⟨gr,0,none⟩) d n)).set 0 (.slice (some ⟨gr,0,none⟩) d n)).set 1 (.slice fa d fc));exact bodyPost_ret (results_cell_row rfl _ _ w.heap.size 87 #[.slice (some ⟨gr,0,none⟩) d n,.slice fa d fc] (0,0) _ rfl s2 Tryz.underlying87 rfl Tryz.info_basis) rfl ⟨d,n,.slice fa d fc,rfl,HRK,((ht.setNew (b:=w.heap.size+1) (by omega) 0 _).setNew (b:=w.heap.size) (Nat.le_refl _) 0 _).setNew (b:=w.heap.size) (Nat.le_refl _) 1 _⟩
end Go.Proofs.YtfheammnkmjabaaGreat
