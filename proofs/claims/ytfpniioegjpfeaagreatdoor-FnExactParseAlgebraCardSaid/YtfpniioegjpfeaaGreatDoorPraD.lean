
import Derived.Test.YtfpniioegjpfeaaGreatDoorPraC
import Derived.Test.YtfpniioegjpfeaaGreatDoorPraM
namespace Go.Proofs.YtfpniioegjpfeaaGreatDoor
set_option maxRecDepth 100000
open Go.RowKit Go.Deep
def paZ (l:List UInt8):List Int:=((okPr l).getD ([],[])).1
def paI (l:List UInt8):List (List Tm):=((okPr l).getD ([],[])).2
def paE (l:List UInt8):Int:=if (okPr l).isSome=true then 0 else 6
theorem pa_no {l:List UInt8} (h:okPr l=none):paZ l=[]∧paI l=[]∧paE l=6:=by
 rw [paZ,paI,paE,h]
 exact ⟨rfl,rfl,rfl⟩
theorem pa_yes {l:List UInt8} {r:List Int × List (List Tm)} (h:okPr l=some r):paZ l=r.1∧paI l=r.2∧paE l=0:=by
 rw [paZ,paI,paE,h]
 exact ⟨rfl,rfl,rfl⟩
theorem okPr_bad {l:List UInt8} {R:List (Int × List Tm)} (h:rdA l=some R) (hn:¬(isAlg (R.map (·.1)) (R.map (·.2))=true∧textA (R.map (·.1)) (R.map (·.2))=l)):okPr l=none:=by
 rw [okPr,h]
 exact if_neg hn
theorem okPr_none {l:List UInt8} (h:rdA l=none):okPr l=none:=by rw [okPr,h]
theorem okPr_yes {l:List UInt8} {R:List (Int × List Tm)} (h:rdA l=some R) (hi:isAlg (R.map (·.1)) (R.map (·.2))=true) (ht:textA (R.map (·.1)) (R.map (·.2))=l):okPr l=some (R.map (·.1),R.map (·.2)):=by
 rw [okPr,h]
 exact if_pos ⟨hi,ht⟩
def PaAl (l:List UInt8) (w:World) (e:Ending) (w':World):Prop:=∃(da:Option Addr) (dn dc:Nat) (ia:Option Addr) (iN ic:Nat),e=.returned (.tuple #[.agg #[.slice da dn dc,.slice ia iN ic],.int .i64 (paE l)])∧OwnV w' w.heap.size w'.heap.size da dn (paZ l)∧OwnF w' w.heap.size w'.heap.size ia iN (paI l)∧Below w.heap.size w w'
set_option maxHeartbeats 4000000 in
theorem ParseAlgebra_c {w : World} (l : List UInt8) (hl : l.length ≤ 1048576) (hE : Errs w) (htab : Tab w) :
    Calls Tryz.prog 14 #[str l] w fun e w'=>PaAl l w e w':=by
 have HE:=Lib.hid hE
 have HTB:=Lib.hid htab
 clear hE htab
 have hX:=Own.new w 36 #[.slice none 0 0,.slice none 0 0]
 have hb:=bA1 w (.cells #[.slice none 0 0,.slice none 0 0] 36)
 go_enter Tryz.func14,Tryz.ntmps14
 go_upto_region 1 with fail
 generalize w.alloc (.cells #[.slice none 0 0,.slice none 0 0] 36)=w1 at *
 obtain ⟨gX,hgX⟩:∃g,w.heap.size=g:=⟨_,rfl⟩
 rw [hgX] at hX
 try rw [hgX]
 have hwX:w.heap.size≤gX:=by omega
 clear hgX
 go_wp2_with fail
 refine (readAlgebra_c l w1 hl (HE.out.keep hb)).mono ?_
 rintro e w2 ⟨da,dn,dc,ia,iN,ic,b,R,rfl,hV,hF,hP,hrd,hb2⟩
 have hXO:gX<w1.heap.size:=hX.lt
 replace hX:=hX.keep hb2 hX.lt
 replace hb:=bT' hb hb2 hb.size
 clear hb2
 have hG:=Own.new w2 36 #[.slice da dn dc,.slice ia iN ic]
 have hb3:=bA1 w2 (.cells #[.slice da dn dc,.slice ia iN ic] 36)
 replace hX:=hX.keep hb3 hX.lt
 replace hb:=bT' hb hb3 hb.size
 have HV:=Lib.hid ((hV.keep hb3).weaken (Nat.le_refl _) hb3.size)
 have HF:=Lib.hid ((hF.keep hb3).weaken (Nat.le_refl _) hb3.size)
 have HP:=Lib.hid hP
 clear hb3 hV hF hP
 go_upto_region 2 with fail
 generalize w2.alloc (.cells #[.slice da dn dc,.slice ia iN ic] 36)=w3 at *
 obtain ⟨gG,hgG⟩:∃g,w2.heap.size=g:=⟨_,rfl⟩
 rw [hgG] at hG
 try rw [hgG]
 clear hgG
 cases b with
 | false =>
   have HVV:=Lib.hid (pa_no (okPr_none (hrd.2 rfl)));clear hrd hG;have cX:=hX.cell 0;have cX1:=hX.cell 1;have fX:=hX.frozen 0;have fX1:=hX.frozen 1;go_wp2_with fail
   have hX9:=(hX.set 0 (.slice none 0 0)).set 1 (.slice none 0 0);exact bodyPost_ret (results_row2 rfl _ _ gX 36 #[.slice none 0 0,.slice none 0 0] (0,0) _ rfl hX9 Tryz.underlying36 rfl Tryz.info_alg) rfl ⟨none,0,0,none,0,0,by rw [HVV.out.2.2];rfl,by rw [HVV.out.1];exact OwnV.none_,by rw [HVV.out.2.1];exact OwnF.none_,(hb.setCell (p:=⟨gX,0,none⟩) hwX _).setCell (p:=⟨gX,1,none⟩) hwX _⟩
 | true =>
   have HRD:=Lib.hid (hrd.1 rfl);clear hrd
   have hL:∀im∈R.map (·.2),(im.length:Int)≤1048576:=by
    intro im h;obtain ⟨x,hx,rfl⟩:=List.mem_map.1 h;have:=HP.out.2.2 x hx;omega
   have HT:Hid (∀im∈R.map (·.2),∀u∈im,IsTm u):=Lib.hid (by
    intro im h;obtain ⟨x,hx,rfl⟩:=List.mem_map.1 h
    exact (HP.out.1 x hx).2)
   have HI:=Lib.hid HV.out.ints;have HFr:=Lib.hid (HF.out.frms hL);have HLn:=Lib.hid hL
   have HN:Hid (dn≤8∧iN≤8∧iN=dn):=Lib.hid (by
    have h1:=HP.out.2.1;have h2:=HI.out.len;have h3:=HFr.out.len;rw [List.length_map] at h2 h3
    omega)
   clear hL;have cG:=hG.cell 0;have cG1:=hG.cell 1;go_wp2_with fail
   refine (IsAlgebra_c dc ic HI.out (by have:=HN.out;omega) HFr.out (by have:=HN.out;omega) HLn.out).mono ?_;rintro e w4 ⟨rfl,hb4⟩;clear cG cG1;replace hX:=hX.keep hb4 hX.lt;have hG4:=hG.keep hb4 hG.lt;replace hb:=bT' hb hb4 hb.size;have HV4:=Lib.hid ((HV.out.keep hb4).weaken (Nat.le_refl _) hb4.size);have HF4:=Lib.hid ((HF.out.keep hb4).weaken (Nat.le_refl _) hb4.size);have HI4:=Lib.hid (HI.out.keep hb4);have HFr4:=Lib.hid (HFr.out.keep hb4);clear hb4 hG HV HF HI HFr
   cases hi:isAlg (R.map (·.1)) (R.map (·.2)) with
   | false =>
     have HVV:=Lib.hid (pa_no (okPr_bad HRD.out (by rw [hi];simp)));clear hi;have cX:=hX.cell 0;have cX1:=hX.cell 1;have fX:=hX.frozen 0;have fX1:=hX.frozen 1;go_wp2_with fail
     have hX9:=(hX.set 0 (.slice none 0 0)).set 1 (.slice none 0 0);exact bodyPost_ret (results_row2 rfl _ _ gX 36 #[.slice none 0 0,.slice none 0 0] (0,0) _ rfl hX9 Tryz.underlying36 rfl Tryz.info_alg) rfl ⟨none,0,0,none,0,0,by rw [HVV.out.2.2];rfl,by rw [HVV.out.1];exact OwnV.none_,by rw [HVV.out.2.1];exact OwnF.none_,(hb.setCell (p:=⟨gX,0,none⟩) hwX _).setCell (p:=⟨gX,1,none⟩) hwX _⟩
   | true =>
     have HFA:=Lib.hid (fineA_of hi HT.out);have HIA:=Lib.hid hi;clear hi;have cG:=hG4.cell 0;have cG1:=hG4.cell 1;have hdi:=HN.out.2.2;subst hdi;go_wp2_with fail
     refine (textOfAlgebra_c dc ic HI4.out HFr4.out HFA.out (HTB.out.keep hb (Nat.le_refl _))).mono ?_;rintro e w5 ⟨rfl,hb5⟩;clear cG cG1;replace hX:=hX.keep hb5 hX.lt;have hG5:=hG4.keep hb5 hG4.lt;replace hb:=bT' hb hb5 hb.size;have HV5:=Lib.hid ((HV4.out.keep hb5).weaken (Nat.le_refl _) hb5.size);have HF5:=Lib.hid ((HF4.out.keep hb5).weaken (Nat.le_refl _) hb5.size);clear hb5 hG4 HV4 HF4 HI4 HFr4
     cases hq:(textA (R.map (·.1)) (R.map (·.2))==l) with
     | false =>
       have HVV:=Lib.hid (pa_no (okPr_bad HRD.out (by rintro ⟨-,h⟩;rw [h] at hq;simp at hq)));have cX:=hX.cell 0;have cX1:=hX.cell 1;have fX:=hX.frozen 0;have fX1:=hX.frozen 1;go_wp2_with fail
       have hX9:=(hX.set 0 (.slice none 0 0)).set 1 (.slice none 0 0);exact bodyPost_ret (results_row2 rfl _ _ gX 36 #[.slice none 0 0,.slice none 0 0] (0,0) _ rfl hX9 Tryz.underlying36 rfl Tryz.info_alg) rfl ⟨none,0,0,none,0,0,by rw [HVV.out.2.2];rfl,by rw [HVV.out.1];exact OwnV.none_,by rw [HVV.out.2.1];exact OwnF.none_,(hb.setCell (p:=⟨gX,0,none⟩) hwX _).setCell (p:=⟨gX,1,none⟩) hwX _⟩
     | true =>
       have hqe:textA (R.map (·.1)) (R.map (·.2))=l:=(by simpa using hq);have HVV:=Lib.hid (pa_yes (okPr_yes HRD.out HIA.out hqe));clear hqe;have cX:=hX.cell 0;have cX1:=hX.cell 1;have fX:=hX.frozen 0;have fX1:=hX.frozen 1;have cG:=hG5.cell 0;have cG1:=hG5.cell 1;go_wp2_with fail
       have hX9:=(hX.set 0 (.slice da iN dc)).set 1 (.slice ia iN ic);have hTo:Touch (fun q=>q=gX) w5 ((w5.setCell ⟨gX,0,none⟩ (.slice da iN dc)).setCell ⟨gX,1,none⟩ (.slice ia iN ic)):=Touch.of_only (((Only.refl gX w5).set 0 _).set 1 _);exact bodyPost_ret (results_row2 rfl _ _ gX 36 #[.slice da iN dc,.slice ia iN ic] (0,0) _ rfl hX9 Tryz.underlying36 rfl Tryz.info_alg) rfl ⟨da,iN,dc,ia,iN,ic,by rw [HVV.out.2.2];rfl,by rw [HVV.out.1];exact (HV5.out.touch hTo (fun g h1 h2=>by omega)).weaken (by omega) (by simp),by rw [HVV.out.2.1];exact (HF5.out.touch hTo (fun g h1 h2=>by omega)).weaken (by omega) (by simp),(hb.setCell (p:=⟨gX,0,none⟩) hwX _).setCell (p:=⟨gX,1,none⟩) hwX _⟩
end Go.Proofs.YtfpniioegjpfeaaGreatDoor
