
import Derived.Test.YtfpniioegjpfeaaGreatDoorPrsR
import Derived.Test.YtfpniioegjpfeaaGreatDoorPraD
namespace Go.Proofs.YtfpniioegjpfeaaGreatDoor
set_option maxRecDepth 100000
open Go.RowKit Go.Deep
def RdMl (l:List UInt8) (w:World) (e:Ending) (w':World):Prop:=∃(da:Option Addr) (dn dc:Nat) (ia:Option Addr) (iN ic:Nat) (b:Bool) (Z:List Int) (I:List (List Tm)),
 e=.returned (.tuple #[.agg #[.slice da dn dc,.slice ia iN ic],.bool b])∧(b=true→okMo l=some (Z,I)∧OwnV w' w.heap.size w'.heap.size da dn Z∧OwnF w' w.heap.size w'.heap.size ia iN I)∧(b=false→okMo l=none)∧Below w.heap.size w w'
theorem okMo_no {l:List UInt8} (h:naA l=none):okMo l=none:=by rw [okMo,h]
def naP (E:Option (List (Int × List UInt8))):Option (List Int × List (List Tm)):=match E with
 | some hs=>if degsOk (hs.map (·.1))=true then ((hs.map (·.2)).mapM (naI (hs.map (·.1)))).map fun ims=>(hs.map (·.1),ims) else none
 | none=>none
theorem naA_ne {l:List UInt8} (h:¬l=[]):naA l=naP ((splA 59 [] l).mapM naH):=by
 rw [naA,if_neg h]
 cases (splA 59 [] l).mapM naH <;> rfl
theorem joinP_len (c:UInt8):∀(R:List (List UInt8)),(∀p∈R,1≤p.length)→R.length≤(joinP c R).length
 | [],_=>by simp
 | [p],h=>by have:=h p (by simp);simpa [joinP] using this
 | p :: q :: r, h => by
   have ih:=joinP_len c (q::r) (fun x hx=>h x (List.mem_cons_of_mem _ hx));rw [joinP,List.length_append,List.length_cons,List.length_cons];simp only [List.length_cons] at ih ⊢;omega
theorem naH_pos {p:List UInt8} {x:Int × List UInt8} (h:naH p=some x):1≤p.length:=by
 cases p with
 | nil=>rw [show naH []=none from rfl] at h;cases h
 | cons c p=>simp
theorem naH_len:∀{R:List (List UInt8)} {hs:List (Int × List UInt8)},All2 (fun a b=>naH a=some b) R hs→(∀p∈R,p.length≤1048576)→∀x∈hs,x.2.length≤1048576
 | [],[],_,_=>by simp
 | p :: R, x :: hs, .cons a b, hR => by
   intro y hy
   rcases List.mem_cons.1 hy with rfl | hy
   · have hp:=hR p (by simp);have hle:=splA_le 58 1048576 p [] (by simpa using hp);rw [naH] at a;split at a
     · rename_i A B hAB;cases a
       exact hle _ (by rw [hAB];simp)
     · cases a
   · exact naH_len b (fun q hq=>hR q (by simp [hq])) y hy
theorem parts_few {l:List UInt8} {hs:List (Int × List UInt8)} (h:(splA 59 [] l).mapM naH=some hs):(splA 59 [] l).length≤l.length:=by
 obtain ⟨p,r,h1,h2⟩:=splA_inv 59 l []
 have h3:=joinP_len 59 (p::r) (fun q hq=>by
  rw [←h1] at hq
  cases hn:naH q with
  | none=>rw [mapM_none hn hq] at h;cases h
  | some x=>exact naH_pos hn)
 rw [h2,List.nil_append] at h3
 rw [h1]
 exact h3
theorem naH_two {p:List UInt8} {A B:List UInt8} (h:splA 58 [] p=[A,B]):naH p=some (nbD A,B):=by rw [naH,h]
theorem naH_not {p:List UInt8} (h:¬(splA 58 [] p).length=2):naH p=none:=by
 rw [naH]
 split
 · rename_i h2;rw [h2] at h;exact absurd rfl h
 · rfl
set_option maxHeartbeats 8000000 in
theorem l02Read_c (l : List UInt8) (w : World) (hl : l.length ≤ 1048576) :
    Calls Tryz.prog 27 #[str l] w fun e w'=>RdMl l w e w':=by
 have hX:=(Own.new w 36 #[.slice none 0 0,.slice none 0 0]).alloc (.cells #[.slice none 0 0,.slice none 0 0] 36)
 have hG:=Own.new (w.alloc (.cells #[.slice none 0 0,.slice none 0 0] 36)) 36 #[.slice none 0 0,.slice none 0 0]
 rw [sAl] at hG
 have hb:=bTn (bA1 w (.cells #[.slice none 0 0,.slice none 0 0] 36)) (bA1 _ (.cells #[.slice none 0 0,.slice none 0 0] 36))
 go_enter Tryz.func27,Tryz.ntmps27
 go_upto_region 2 with fail
 generalize (w.alloc (.cells #[.slice none 0 0,.slice none 0 0] 36)).alloc (.cells #[.slice none 0 0,.slice none 0 0] 36)=w2 at *
 obtain ⟨gX,hgX⟩:∃g,w.heap.size=g:=⟨_,rfl⟩
 obtain ⟨g8,hg8⟩:∃g,w.heap.size+1=g:=⟨_,rfl⟩
 rw [hgX] at hX
 rw [hg8] at hG
 try rw [hg8]
 try rw [hgX]
 have hX8:gX<g8:=by omega
 have hwX:w.heap.size≤gX:=by omega
 clear hgX hg8
 cases hc:(l==[]) with
 | true =>
   have he:l=[]:=(by simpa using hc);subst he;have cX:=hX.cell 0;have cX1:=hX.cell 1;have fX:=hX.frozen 0;have fX1:=hX.frozen 1;have cG:=hG.cell 0;have cG1:=hG.cell 1;go_wp2_with fail
   have hX9:=(hX.set 0 (.slice none 0 0)).set 1 (.slice none 0 0);exact bodyPost_ret (results_row2 rfl _ _ gX 36 #[.slice none 0 0,.slice none 0 0] (0,0) _ rfl hX9 Tryz.underlying36 rfl Tryz.info_alg) rfl ⟨none,0,0,none,0,0,true,[],[],rfl,fun _=>⟨rfl,OwnV.none_,OwnF.none_⟩,fun h=>(by cases h),(hb.setCell (p:=⟨gX,0,none⟩) hwX _).setCell (p:=⟨gX,1,none⟩) hwX _⟩
 | false =>
   have hne:¬l=[]:=(by intro e;subst e;cases hc);go_wp2_with fail
   refine (l01Split_c l 59 59 rfl w2 hl).mono ?_;rintro e w3 ⟨pa,pc,rfl,hP,hb3⟩;obtain ⟨R,hR⟩:∃R,splA 59 [] l=R:=⟨_,rfl⟩;have hpos:=splA_pos 59 l [];have hRB:=splA_le 59 1048576 l [] (by simpa using hl);have hRL:=splA_len 59 l [];rw [hR] at hP hpos hRB hRL ⊢;obtain ⟨gS,cap,cur,hve,hgS,hS,hcur⟩:=row_ownP hP hpos;simp only [Value.slice.injEq,true_and] at hve;obtain ⟨rfl,rfl⟩:=hve;have hGl:g8<w2.heap.size:=hG.lt;replace hX:=hX.keep hb3 hX.lt;replace hG:=hG.keep hb3 hG.lt;replace hb:=bT' hb hb3 hb.size;have hgS8:g8<gS:=(by omega);clear hP hb3 hgS hGl;clear w2;have HRB:=Lib.hid hRB;have HCU:=Lib.hid hcur;have HNA:Hid (naA l=naP (R.mapM naH)):=Lib.hid (by rw [naA_ne hne,hR]);have HFEW:Hid (∀hs,R.mapM naH=some hs→R.length≤l.length):=Lib.hid (by rw [←hR];exact fun hs h=>parts_few h);have HRL:Hid (R.length≤1048577):=Lib.hid (by omega);clear hRB hcur hne hR hRL;have hSl:gS+1≤w3.heap.size:=hS.lt;have hR0:(w3.alloc (.cells #[] 9)).ownsRow (gS+1) 9 1 (.slice (some ⟨w3.heap.size,0,none⟩) 0 0) 0 []:=⟨rfl,Or.inr ⟨w3.heap.size,0,#[],rfl,hSl,heap_alloc_new w3 _,Nat.le_refl _,by simp [maxLen],rfl,rfl⟩⟩;have hb4:=bA1 w3 (.cells #[] 9);replace hX:=hX.keep hb4 hX.lt;replace hG:=hG.keep hb4 hG.lt;replace hS:=hS.keep hb4 hS.lt;replace hb:=bT' hb hb4 hb.size;clear hb4 hSl;go_upto_region 6 with fail
   generalize w3.alloc (.cells #[] 9)=w4 at *;generalize w3.heap.size=g4 at *
   go_loopw [6,7] (fun s y wr=>∃(k:Nat) (da:Option Addr) (dc:Nat) (sa:Option Addr) (sc:Nat) (hs:List (Int × List UInt8)),k≤R.length∧s=.slice sa k sc∧y=.int .i64 k∧(R.take k).mapM naH=some hs∧hs.length=k∧Below w.heap.size w wr∧Own wr gX 36 #[.slice none 0 0,.slice none 0 0]∧Own wr g8 36 #[.slice da k dc,.slice none 0 0]∧Own wr gS 9 cur∧wr.ownsRow (gS+1) 2 1 (.slice da k dc) k ((hs.map (·.1)).map (Value.int .i64))∧wr.ownsRow (gS+1) 9 1 (.slice sa k sc) k ((hs.map (·.2)).map str)) (fun _ y _=>R.length - (intOf y).toNat)
   case atStart=>exact ⟨0,none,0,_,0,[],Nat.zero_le _,rfl,rfl,rfl,rfl,hb,hX,hG,hS,World.ownsRow_nil _ _ _ _,hR0⟩
   case round=>
    clear hX hG hS hb hR0;obtain ⟨k,da,dc,sa,sc,hs,hk,rfl,rfl,hts,hlk,hb,hX,hG,hS,hD,hM⟩:=hrel;have hk0:(0:Int)≤(k:Int):=(by omega);have HTS:=Lib.hid hts;have HLK:=Lib.hid hlk;have HD:=Lib.hid hD;have HM:=Lib.hid hM;have HRLo:=HRL.out;clear hts hlk hD hM;by_cases hkn:k<R.length
    · have hki:(k:Int)<(R.length:Int):=(by omega);obtain ⟨p,hp⟩:∃p,R[k]? = some p:=⟨_,List.getElem?_eq_getElem hkn⟩;have HPK:=Lib.hid hp;have hpl:=HRB.out p (List.mem_of_getElem? hp);have cS:wr.cell? ⟨gS,k,none⟩=some (str p):=(by rw [hS.cell k];exact HCU.out k _ (by rw [List.getElem?_map,hp];rfl));clear hp;go_wp2_with fail
      refine (l01Split_c p 58 58 rfl wr hpl).mono ?_;rintro e w5 ⟨qa,qc,rfl,hQ,hb5⟩;obtain ⟨Hh,hHh⟩:∃Hh,splA 58 [] p=Hh:=⟨_,rfl⟩;have hpos2:=splA_pos 58 p [];have hHB:=splA_le 58 1048576 p [] (by simpa using hpl);have hnot:=@naH_not p;have htwo:=fun A B=>@naH_two p A B;rw [hHh] at hQ hpos2 hHB hnot htwo ⊢;obtain ⟨gQ,cap2,cur2,hve,hgQ,hQO,hcur2⟩:=row_ownP hQ hpos2;have hSQ:gS<gQ:=(by have:=hS.lt;omega);simp only [Value.slice.injEq,true_and] at hve;obtain ⟨rfl,rfl⟩:=hve;replace hX:=hX.keep hb5 hX.lt;replace hG:=hG.keep hb5 hG.lt;replace hS:=hS.keep hb5 hS.lt;replace HD:=Lib.hid (row_keep HD.out hb5);have hrl:=HM.out.lt;replace HM:=Lib.hid (row_keep HM.out hb5);replace hb:=bT' hb hb5 hb.size;have HRLT:=Lib.hid hrl;clear hQ hb5 cS hHh hrl;have HTWO:=Lib.hid htwo;have HNOT:=Lib.hid hnot;clear htwo hnot;by_cases h2:Hh.length=2
      · have g2:((Hh.length:Int)==2)=true:=by rw [h2];rfl
        obtain ⟨A,B,hAB⟩:∃A B,Hh=[A,B]:=by
         match Hh,h2 with
         | [A,B],_=>exact ⟨A,B,rfl⟩
        have cA:cur2[0]? = some (str A):=hcur2 0 _ (by rw [hAB];rfl);have cB:cur2[1]? = some (str B):=hcur2 1 _ (by rw [hAB];rfl);have hAl:A.length≤1048576:=hHB A (by rw [hAB];simp);have HNA2:=Lib.hid (HTWO.out A B hAB);rw [h2];clear hHB hcur2 hpos2 hAB g2 h2 HTWO HNOT;go_upto_region 11 with fail
        obtain ⟨f,hf⟩:∃f,nbD A=f:=⟨_,rfl⟩;have HFN:=Lib.hid hf
        have HT9:Hid ((R.take (k+1)).mapM naH=some (hs++[(f,B)])):=Lib.hid (by
         rw [List.take_add_one,HPK.out,←hf]
         exact mapM_snoc HTS.out HNA2.out)
        obtain ⟨ti,tz,hti,htz,hts,htb,htzs⟩:=Tryz.info_intA;have HI:=Lib.hid hti;have HZ:=Lib.hid htz;have HSz:=Lib.hid hts;have HBt:=Lib.hid htb;have HZs:=Lib.hid htzs;clear hti htz hts htb htzs;obtain ⟨ts,tsz,hti,htz,hts,htb,htzs⟩:=info_str;have HIs:=Lib.hid hti;have HZs2:=Lib.hid htz;have HSs:=Lib.hid hts;have HBs:=Lib.hid htb;have HZss:=Lib.hid htzs;clear hti htz hts htb htzs hf;have HOn:Hid (∀u∈([Value.int .i64 f]:List Value),u.oneCell'=true):=Lib.hid (by simp [Value.oneCell']);have HOs:Hid (∀u∈([str B]:List Value),u.oneCell'=true):=Lib.hid (by simp [Value.oneCell']);replace hX:Own w5.drew gX 36 #[.slice none 0 0,.slice none 0 0]:=hX;replace hG:Own w5.drew g8 36 #[.slice da k dc,.slice none 0 0]:=hG;replace hS:Own w5.drew gS 9 cur:=hS;have hQ:Own w5.drew gQ 9 cur2:=hQO;replace HD:Hid (w5.drew.ownsRow (gS+1) 2 1 (.slice da k dc) k ((hs.map (·.1)).map (Value.int .i64))):=HD;replace HM:Hid (w5.drew.ownsRow (gS+1) 9 1 (.slice sa k sc) k ((hs.map (·.2)).map str)):=HM;replace hb:Below w.heap.size w w5.drew:=hb.drew;clear hQO;refine wp_region_held_drew (S:=(fun w'=>w'.cell? ⟨gQ,0,none⟩=some (str A))) (by kernel_rfl) ?_ (fun _=>?_)
        · ((try dsimp only);(exact (hQ.cell 0).trans cA))
        generalize w5.drew=W0 at *;refine hdT 0 ?_;refine hdT 2 ?_;refine wpAnyH_ready (rs:=[1,3]) (by kernel_rfl) (by simp) ?_;refine AllReadyH.cons (hdAt (i:=1) rfl) (fun K hK=>?_) (AllReadyH.cons (hdAt (i:=3) rfl) (fun K hK=>?_) AllReadyH.nil)
        · have cG:=hG.cell 0
          (go_simp;go_wp2_with fail)
          clear cG;refine hK.out _ _ ?_ (fun _=>?_)
          · ((try dsimp only);(exact (hQ.cell 0).trans cA))
          clear hK K
          (try simp only [Act.put,pA,pB,pC])
          refine hdC 3 (fun K hK=>?_)
          (go_simp;try go_wp2_with fail)
          refine hK.out _ _ ?_ (fun _=>?_)
          · ((try dsimp only);(exact (hQ.cell 0).trans cA))
          clear hK K
          (try simp only [Act.put,pA,pB,pC])
          refine hdT 4 ?_;refine hdC 5 (fun K hK=>?_)
          (go_simp;(go_at_call 38;refine (l01Number_c A _ hAl).mono ?_;rintro e W1 ⟨rfl,hbX⟩);go_wp2_with fail)
          rw [HFN.out];replace hX:=hX.keep hbX hX.lt;replace hG:=hG.keep hbX hG.lt;replace hS:=hS.keep hbX hS.lt;replace hQ:=hQ.keep hbX hQ.lt;replace HD:=Lib.hid (row_keep HD.out hbX);replace HM:=Lib.hid (row_keep HM.out hbX);replace hb:=bT' hb hbX hb.size;clear hbX;refine hK.out _ _ ?_ (fun _=>?_)
          · ((try dsimp only);(exact (hQ.cell 0).trans cA))
          clear hK K
          (try simp only [Act.put,pA,pB,pC])
          refine hdC 6 (fun K hK=>?_)
          (go_simp;try go_wp2_with fail)
          have HN:=Lib.hid (news1p W1 (.int .i64 f) 2);have hbX:=bA1 W1 (.cells #[.int .i64 f] 2);replace hX:=hX.keep hbX hX.lt;replace hG:=hG.keep hbX hG.lt;replace hS:=hS.keep hbX hS.lt;replace hQ:=hQ.keep hbX hQ.lt;replace HD:=Lib.hid (row_keep HD.out hbX);replace HM:=Lib.hid (row_keep HM.out hbX);replace hb:=bT' hb hbX hb.size;clear hbX;refine hK.out _ _ ?_ (fun _=>?_)
          · ((try dsimp only);(exact (hQ.cell 0).trans cA))
          clear hK K
          (try simp only [Act.put,pA,pB,pC])
          refine hdC 7 (fun K hK=>?_);rw [if_pos (by rfl)];refine wp_append_own_wide _ (.tmp 35) (.tmp 40) 22 rfl (gS+1) 2 ti tz 1 8 Tryz.underlying22 HI.out HZ.out HSz.out HBt.out HZs.out (by omega) (.slice da k dc) k _ rfl HD.out ⟨W1.heap.size,0,none⟩ 1 1 [Value.int .i64 f] rfl rfl HN.out HOn.out (by simp only [maxLen];omega) (by omega) (by have:=hS.lt;omega) (fun v' w' h2 h3 h4=>?_);obtain ⟨na,nc,rfl⟩:=row_slice h2;have hr:∀q,(Value.slice da k dc).ownBlock=some q→gS+1≤q:=fun q e=>(HD.out.lt q e).1;have hbb:=grown_below hb h3 (fun q e=>by have:=hr q e;omega) hb.size;replace hX:=hX.grown h3 (fun e=>by have:=hr _ e.symm;omega);replace hG:=hG.grown h3 (fun e=>by have:=hr _ e.symm;omega);replace hS:=hS.grown h3 (fun e=>by have:=hr _ e.symm;omega);replace hQ:=hQ.grown h3 (own_ne_row hQ HD.out (by decide));replace HM:=Lib.hid (row_grown2 HM.out HD.out (by decide) h3);replace HD:=Lib.hid h2;replace hb:=hbb;clear h2 h3 h4 hr hbb HN;refine hK.out _ _ ?_ (fun _=>?_)
          · ((try dsimp only);(exact (hQ.cell 0).trans cA))
          clear hK K
          (try simp only [Act.put,pA,pB,pC])
          refine hdT 8 ?_;refine hdC 9 (fun K hK=>?_);have c7:=hG.cell 0;have f7:=hG.frozen 0
          (go_simp;go_wp2_with fail)
          clear c7 f7;replace hX:=hX.far (p:=⟨g8,0,none⟩) (by dsimp only;omega) (.slice na (k+1) nc);replace hS:=hS.far (p:=⟨g8,0,none⟩) (by dsimp only;omega) (.slice na (k+1) nc);replace hQ:=hQ.far (p:=⟨g8,0,none⟩) (by dsimp only;omega) (.slice na (k+1) nc);replace hG:=hG.set 0 (.slice na (k+1) nc);replace HM:=Lib.hid (ownsRow_setCell_below HM.out (a:=⟨g8,0,none⟩) (by dsimp only;omega) (.slice na (k+1) nc));replace HD:=Lib.hid (ownsRow_setCell_below HD.out (a:=⟨g8,0,none⟩) (by dsimp only;omega) (.slice na (k+1) nc));replace hb:=hb.setCell (p:=⟨g8,0,none⟩) (by dsimp only;omega) (.slice na (k+1) nc);generalize w'.setCell ⟨g8,0,none⟩ (.slice na (k+1) nc)=W3 at *;refine hK.out _ _ ?_ (fun _=>?_)
          · ((try dsimp only);(exact (hQ.cell 0).trans cA))
          clear hK K
          (try simp only [Act.put,pA,pB,pC])
          refine wpAnyH_done (by kernel_rfl) ?_ _;have cB2:=(hQ.cell 1).trans cB;have HN2:=Lib.hid (news1p W3 (str B) 9);have hbX:=bA1 W3 (.cells #[str B] 9);have hsz3:gS<W3.heap.size:=hS.lt;have hX2:=hX.keep hbX hX.lt;have hG2:=hG.keep hbX hG.lt;have hS2:=hS.keep hbX hS.lt;have HD2:=Lib.hid (row_keep HD.out hbX);have HM2:=Lib.hid (row_keep HM.out hbX);have hb2:=bT' hb hbX hb.size;clear hbX hX hG hS HD HM hb hQ
          go_wp2_with (refine wpList_append_own_wide _ rfl (.tmp 43) (.tmp 47) 57 rfl (gS + 1) 9 ts tsz 1 16 Tryz.underlying57 HIs.out HZs2.out HSs.out HBs.out HZss.out (by omega) (.slice sa k sc) k _ rfl HM2.out ⟨W3.heap.size, 0, none⟩ 1 1 [str B] rfl rfl HN2.out HOs.out (by simp only [maxLen]; omega) (by omega) (by rw [sAl]; omega) (fun v' w'' h2 h3 h4 => ?_)
                       obtain ⟨ma,mc,rfl⟩:=row_slice h2;have hr:∀q,(Value.slice sa k sc).ownBlock=some q→gS+1≤q:=fun q e=>(HM2.out.lt q e).1;have hX3:=hX2.grown h3 (fun e=>by have:=hr _ e.symm;omega);have hG3:=hG2.grown h3 (fun e=>by have:=hr _ e.symm;omega);have hS3:=hS2.grown h3 (fun e=>by have:=hr _ e.symm;omega);have hb3:=grown_below hb2 h3 (fun q e=>by have:=hr q e;omega) hb2.size;have HD3:=Lib.hid (row_grown2 HD2.out HM2.out (by decide) h3);have HM3:=Lib.hid h2
                       clear h2 h3 h4 hr hX2 hG2 hS2 hb2 HD2 HM2 HN2)
          go_roundw
          case rel=>
           refine ⟨k+1,na,nc,ma,mc,hs++[(f,B)],by omega,rfl,by go_num,HT9.out,by simp [HLK.out],hb3,hX3,hG3,hS3,?_,?_⟩
           · rw [List.map_append,List.map_append];exact HD3.out
           · rw [List.map_append,List.map_append];exact HM3.out
          case measure=>simp [intOf] <;> omega
        · (go_simp;try go_wp2_with fail)
          refine hK.out _ _ ?_ (fun _=>?_)
          · ((try dsimp only);(exact (hQ.cell 0).trans cA))
          clear hK K
          (try simp only [Act.put,pA,pB,pC])
          refine hdT 4 ?_;refine wpAnyH_ready (rs:=[1,5]) (by kernel_rfl) (by simp) ?_;refine AllReadyH.cons (hdAt (i:=1) rfl) (fun K hK=>?_) (AllReadyH.cons (hdAt (i:=5) rfl) (fun K hK=>?_) AllReadyH.nil)
          · have cG:=hG.cell 0
            (go_simp;go_wp2_with fail)
            clear cG;refine hK.out _ _ ?_ (fun _=>?_)
            · ((try dsimp only);(exact (hQ.cell 0).trans cA))
            clear hK K
            (try simp only [Act.put,pA,pB,pC])
            refine hdC 5 (fun K hK=>?_)
            (go_simp;(go_at_call 38;refine (l01Number_c A _ hAl).mono ?_;rintro e W1 ⟨rfl,hbX⟩);go_wp2_with fail)
            rw [HFN.out];replace hX:=hX.keep hbX hX.lt;replace hG:=hG.keep hbX hG.lt;replace hS:=hS.keep hbX hS.lt;replace hQ:=hQ.keep hbX hQ.lt;replace HD:=Lib.hid (row_keep HD.out hbX);replace HM:=Lib.hid (row_keep HM.out hbX);replace hb:=bT' hb hbX hb.size;clear hbX;refine hK.out _ _ ?_ (fun _=>?_)
            · ((try dsimp only);(exact (hQ.cell 0).trans cA))
            clear hK K
            (try simp only [Act.put,pA,pB,pC])
            refine hdC 6 (fun K hK=>?_)
            (go_simp;try go_wp2_with fail)
            have HN:=Lib.hid (news1p W1 (.int .i64 f) 2);have hbX:=bA1 W1 (.cells #[.int .i64 f] 2);replace hX:=hX.keep hbX hX.lt;replace hG:=hG.keep hbX hG.lt;replace hS:=hS.keep hbX hS.lt;replace hQ:=hQ.keep hbX hQ.lt;replace HD:=Lib.hid (row_keep HD.out hbX);replace HM:=Lib.hid (row_keep HM.out hbX);replace hb:=bT' hb hbX hb.size;clear hbX;refine hK.out _ _ ?_ (fun _=>?_)
            · ((try dsimp only);(exact (hQ.cell 0).trans cA))
            clear hK K
            (try simp only [Act.put,pA,pB,pC])
            refine hdC 7 (fun K hK=>?_);rw [if_pos (by rfl)];refine wp_append_own_wide _ (.tmp 35) (.tmp 40) 22 rfl (gS+1) 2 ti tz 1 8 Tryz.underlying22 HI.out HZ.out HSz.out HBt.out HZs.out (by omega) (.slice da k dc) k _ rfl HD.out ⟨W1.heap.size,0,none⟩ 1 1 [Value.int .i64 f] rfl rfl HN.out HOn.out (by simp only [maxLen];omega) (by omega) (by have:=hS.lt;omega) (fun v' w' h2 h3 h4=>?_);obtain ⟨na,nc,rfl⟩:=row_slice h2;have hr:∀q,(Value.slice da k dc).ownBlock=some q→gS+1≤q:=fun q e=>(HD.out.lt q e).1;have hbb:=grown_below hb h3 (fun q e=>by have:=hr q e;omega) hb.size;replace hX:=hX.grown h3 (fun e=>by have:=hr _ e.symm;omega);replace hG:=hG.grown h3 (fun e=>by have:=hr _ e.symm;omega);replace hS:=hS.grown h3 (fun e=>by have:=hr _ e.symm;omega);replace hQ:=hQ.grown h3 (own_ne_row hQ HD.out (by decide));replace HM:=Lib.hid (row_grown2 HM.out HD.out (by decide) h3);replace HD:=Lib.hid h2;replace hb:=hbb;clear h2 h3 h4 hr hbb HN;refine hK.out _ _ ?_ (fun _=>?_)
            · ((try dsimp only);(exact (hQ.cell 0).trans cA))
            clear hK K
            (try simp only [Act.put,pA,pB,pC])
            refine hdT 8 ?_;refine hdC 9 (fun K hK=>?_);have c7:=hG.cell 0;have f7:=hG.frozen 0
            (go_simp;go_wp2_with fail)
            clear c7 f7;replace hX:=hX.far (p:=⟨g8,0,none⟩) (by dsimp only;omega) (.slice na (k+1) nc);replace hS:=hS.far (p:=⟨g8,0,none⟩) (by dsimp only;omega) (.slice na (k+1) nc);replace hQ:=hQ.far (p:=⟨g8,0,none⟩) (by dsimp only;omega) (.slice na (k+1) nc);replace hG:=hG.set 0 (.slice na (k+1) nc);replace HM:=Lib.hid (ownsRow_setCell_below HM.out (a:=⟨g8,0,none⟩) (by dsimp only;omega) (.slice na (k+1) nc));replace HD:=Lib.hid (ownsRow_setCell_below HD.out (a:=⟨g8,0,none⟩) (by dsimp only;omega) (.slice na (k+1) nc));replace hb:=hb.setCell (p:=⟨g8,0,none⟩) (by dsimp only;omega) (.slice na (k+1) nc);generalize w'.setCell ⟨g8,0,none⟩ (.slice na (k+1) nc)=W3 at *;refine hK.out _ _ ?_ (fun _=>?_)
            · ((try dsimp only);(exact (hQ.cell 0).trans cA))
            clear hK K
            (try simp only [Act.put,pA,pB,pC])
            refine wpAnyH_done (by kernel_rfl) ?_ _;have cB2:=(hQ.cell 1).trans cB;have HN2:=Lib.hid (news1p W3 (str B) 9);have hbX:=bA1 W3 (.cells #[str B] 9);have hsz3:gS<W3.heap.size:=hS.lt;have hX2:=hX.keep hbX hX.lt;have hG2:=hG.keep hbX hG.lt;have hS2:=hS.keep hbX hS.lt;have HD2:=Lib.hid (row_keep HD.out hbX);have HM2:=Lib.hid (row_keep HM.out hbX);have hb2:=bT' hb hbX hb.size;clear hbX hX hG hS HD HM hb hQ
            go_wp2_with (refine wpList_append_own_wide _ rfl (.tmp 43) (.tmp 47) 57 rfl (gS + 1) 9 ts tsz 1 16 Tryz.underlying57 HIs.out HZs2.out HSs.out HBs.out HZss.out (by omega) (.slice sa k sc) k _ rfl HM2.out ⟨W3.heap.size, 0, none⟩ 1 1 [str B] rfl rfl HN2.out HOs.out (by simp only [maxLen]; omega) (by omega) (by rw [sAl]; omega) (fun v' w'' h2 h3 h4 => ?_)
                         obtain ⟨ma,mc,rfl⟩:=row_slice h2;have hr:∀q,(Value.slice sa k sc).ownBlock=some q→gS+1≤q:=fun q e=>(HM2.out.lt q e).1;have hX3:=hX2.grown h3 (fun e=>by have:=hr _ e.symm;omega);have hG3:=hG2.grown h3 (fun e=>by have:=hr _ e.symm;omega);have hS3:=hS2.grown h3 (fun e=>by have:=hr _ e.symm;omega);have hb3:=grown_below hb2 h3 (fun q e=>by have:=hr q e;omega) hb2.size;have HD3:=Lib.hid (row_grown2 HD2.out HM2.out (by decide) h3);have HM3:=Lib.hid h2
                         clear h2 h3 h4 hr hX2 hG2 hS2 hb2 HD2 HM2 HN2)
            go_roundw
            case rel=>
             refine ⟨k+1,na,nc,ma,mc,hs++[(f,B)],by omega,rfl,by go_num,HT9.out,by simp [HLK.out],hb3,hX3,hG3,hS3,?_,?_⟩
             · rw [List.map_append,List.map_append];exact HD3.out
             · rw [List.map_append,List.map_append];exact HM3.out
            case measure=>simp [intOf] <;> omega
          · (go_simp;(go_at_call 38;refine (l01Number_c A _ hAl).mono ?_;rintro e W1 ⟨rfl,hbX⟩);go_wp2_with fail)
            rw [HFN.out];replace hX:=hX.keep hbX hX.lt;replace hG:=hG.keep hbX hG.lt;replace hS:=hS.keep hbX hS.lt;replace hQ:=hQ.keep hbX hQ.lt;replace HD:=Lib.hid (row_keep HD.out hbX);replace HM:=Lib.hid (row_keep HM.out hbX);replace hb:=bT' hb hbX hb.size;clear hbX;refine hK.out _ _ ?_ (fun _=>?_)
            · ((try dsimp only);(exact (hQ.cell 0).trans cA))
            clear hK K
            (try simp only [Act.put,pA,pB,pC])
            refine wpAnyH_ready (rs:=[1,6]) (by kernel_rfl) (by simp) ?_;refine AllReadyH.cons (hdAt (i:=1) rfl) (fun K hK=>?_) (AllReadyH.cons (hdAt (i:=6) rfl) (fun K hK=>?_) AllReadyH.nil)
            · have cG:=hG.cell 0
              (go_simp;go_wp2_with fail)
              clear cG;refine hK.out _ _ ?_ (fun _=>?_)
              · ((try dsimp only);(exact (hQ.cell 0).trans cA))
              clear hK K
              (try simp only [Act.put,pA,pB,pC])
              refine hdC 6 (fun K hK=>?_)
              (go_simp;try go_wp2_with fail)
              have HN:=Lib.hid (news1p W1 (.int .i64 f) 2);have hbX:=bA1 W1 (.cells #[.int .i64 f] 2);replace hX:=hX.keep hbX hX.lt;replace hG:=hG.keep hbX hG.lt;replace hS:=hS.keep hbX hS.lt;replace hQ:=hQ.keep hbX hQ.lt;replace HD:=Lib.hid (row_keep HD.out hbX);replace HM:=Lib.hid (row_keep HM.out hbX);replace hb:=bT' hb hbX hb.size;clear hbX;refine hK.out _ _ ?_ (fun _=>?_)
              · ((try dsimp only);(exact (hQ.cell 0).trans cA))
              clear hK K
              (try simp only [Act.put,pA,pB,pC])
              refine hdC 7 (fun K hK=>?_);rw [if_pos (by rfl)];refine wp_append_own_wide _ (.tmp 35) (.tmp 40) 22 rfl (gS+1) 2 ti tz 1 8 Tryz.underlying22 HI.out HZ.out HSz.out HBt.out HZs.out (by omega) (.slice da k dc) k _ rfl HD.out ⟨W1.heap.size,0,none⟩ 1 1 [Value.int .i64 f] rfl rfl HN.out HOn.out (by simp only [maxLen];omega) (by omega) (by have:=hS.lt;omega) (fun v' w' h2 h3 h4=>?_);obtain ⟨na,nc,rfl⟩:=row_slice h2;have hr:∀q,(Value.slice da k dc).ownBlock=some q→gS+1≤q:=fun q e=>(HD.out.lt q e).1;have hbb:=grown_below hb h3 (fun q e=>by have:=hr q e;omega) hb.size;replace hX:=hX.grown h3 (fun e=>by have:=hr _ e.symm;omega);replace hG:=hG.grown h3 (fun e=>by have:=hr _ e.symm;omega);replace hS:=hS.grown h3 (fun e=>by have:=hr _ e.symm;omega);replace hQ:=hQ.grown h3 (own_ne_row hQ HD.out (by decide));replace HM:=Lib.hid (row_grown2 HM.out HD.out (by decide) h3);replace HD:=Lib.hid h2;replace hb:=hbb;clear h2 h3 h4 hr hbb HN;refine hK.out _ _ ?_ (fun _=>?_)
              · ((try dsimp only);(exact (hQ.cell 0).trans cA))
              clear hK K
              (try simp only [Act.put,pA,pB,pC])
              refine hdT 8 ?_;refine hdC 9 (fun K hK=>?_);have c7:=hG.cell 0;have f7:=hG.frozen 0
              (go_simp;go_wp2_with fail)
              clear c7 f7;replace hX:=hX.far (p:=⟨g8,0,none⟩) (by dsimp only;omega) (.slice na (k+1) nc);replace hS:=hS.far (p:=⟨g8,0,none⟩) (by dsimp only;omega) (.slice na (k+1) nc);replace hQ:=hQ.far (p:=⟨g8,0,none⟩) (by dsimp only;omega) (.slice na (k+1) nc);replace hG:=hG.set 0 (.slice na (k+1) nc);replace HM:=Lib.hid (ownsRow_setCell_below HM.out (a:=⟨g8,0,none⟩) (by dsimp only;omega) (.slice na (k+1) nc));replace HD:=Lib.hid (ownsRow_setCell_below HD.out (a:=⟨g8,0,none⟩) (by dsimp only;omega) (.slice na (k+1) nc));replace hb:=hb.setCell (p:=⟨g8,0,none⟩) (by dsimp only;omega) (.slice na (k+1) nc);generalize w'.setCell ⟨g8,0,none⟩ (.slice na (k+1) nc)=W3 at *;refine hK.out _ _ ?_ (fun _=>?_)
              · ((try dsimp only);(exact (hQ.cell 0).trans cA))
              clear hK K
              (try simp only [Act.put,pA,pB,pC])
              refine wpAnyH_done (by kernel_rfl) ?_ _;have cB2:=(hQ.cell 1).trans cB;have HN2:=Lib.hid (news1p W3 (str B) 9);have hbX:=bA1 W3 (.cells #[str B] 9);have hsz3:gS<W3.heap.size:=hS.lt;have hX2:=hX.keep hbX hX.lt;have hG2:=hG.keep hbX hG.lt;have hS2:=hS.keep hbX hS.lt;have HD2:=Lib.hid (row_keep HD.out hbX);have HM2:=Lib.hid (row_keep HM.out hbX);have hb2:=bT' hb hbX hb.size;clear hbX hX hG hS HD HM hb hQ
              go_wp2_with (refine wpList_append_own_wide _ rfl (.tmp 43) (.tmp 47) 57 rfl (gS + 1) 9 ts tsz 1 16 Tryz.underlying57 HIs.out HZs2.out HSs.out HBs.out HZss.out (by omega) (.slice sa k sc) k _ rfl HM2.out ⟨W3.heap.size, 0, none⟩ 1 1 [str B] rfl rfl HN2.out HOs.out (by simp only [maxLen]; omega) (by omega) (by rw [sAl]; omega) (fun v' w'' h2 h3 h4 => ?_)
                           obtain ⟨ma,mc,rfl⟩:=row_slice h2;have hr:∀q,(Value.slice sa k sc).ownBlock=some q→gS+1≤q:=fun q e=>(HM2.out.lt q e).1;have hX3:=hX2.grown h3 (fun e=>by have:=hr _ e.symm;omega);have hG3:=hG2.grown h3 (fun e=>by have:=hr _ e.symm;omega);have hS3:=hS2.grown h3 (fun e=>by have:=hr _ e.symm;omega);have hb3:=grown_below hb2 h3 (fun q e=>by have:=hr q e;omega) hb2.size;have HD3:=Lib.hid (row_grown2 HD2.out HM2.out (by decide) h3);have HM3:=Lib.hid h2
                           clear h2 h3 h4 hr hX2 hG2 hS2 hb2 HD2 HM2 HN2)
              go_roundw
              case rel=>
               refine ⟨k+1,na,nc,ma,mc,hs++[(f,B)],by omega,rfl,by go_num,HT9.out,by simp [HLK.out],hb3,hX3,hG3,hS3,?_,?_⟩
               · rw [List.map_append,List.map_append];exact HD3.out
               · rw [List.map_append,List.map_append];exact HM3.out
              case measure=>simp [intOf] <;> omega
            · (go_simp;try go_wp2_with fail)
              have HN:=Lib.hid (news1p W1 (.int .i64 f) 2);have hbX:=bA1 W1 (.cells #[.int .i64 f] 2);replace hX:=hX.keep hbX hX.lt;replace hG:=hG.keep hbX hG.lt;replace hS:=hS.keep hbX hS.lt;replace hQ:=hQ.keep hbX hQ.lt;replace HD:=Lib.hid (row_keep HD.out hbX);replace HM:=Lib.hid (row_keep HM.out hbX);replace hb:=bT' hb hbX hb.size;clear hbX;refine hK.out _ _ ?_ (fun _=>?_)
              · ((try dsimp only);(exact (hQ.cell 0).trans cA))
              clear hK K
              (try simp only [Act.put,pA,pB,pC])
              refine hdC 1 (fun K hK=>?_);have cG:=hG.cell 0
              (go_simp;go_wp2_with fail)
              clear cG;refine hK.out _ _ ?_ (fun _=>?_)
              · ((try dsimp only);(exact (hQ.cell 0).trans cA))
              clear hK K
              (try simp only [Act.put,pA,pB,pC])
              refine hdC 7 (fun K hK=>?_);rw [if_pos (by rfl)];refine wp_append_own_wide _ (.tmp 35) (.tmp 40) 22 rfl (gS+1) 2 ti tz 1 8 Tryz.underlying22 HI.out HZ.out HSz.out HBt.out HZs.out (by omega) (.slice da k dc) k _ rfl HD.out ⟨W1.heap.size,0,none⟩ 1 1 [Value.int .i64 f] rfl rfl HN.out HOn.out (by simp only [maxLen];omega) (by omega) (by have:=hS.lt;omega) (fun v' w' h2 h3 h4=>?_);obtain ⟨na,nc,rfl⟩:=row_slice h2;have hr:∀q,(Value.slice da k dc).ownBlock=some q→gS+1≤q:=fun q e=>(HD.out.lt q e).1;have hbb:=grown_below hb h3 (fun q e=>by have:=hr q e;omega) hb.size;replace hX:=hX.grown h3 (fun e=>by have:=hr _ e.symm;omega);replace hG:=hG.grown h3 (fun e=>by have:=hr _ e.symm;omega);replace hS:=hS.grown h3 (fun e=>by have:=hr _ e.symm;omega);replace hQ:=hQ.grown h3 (own_ne_row hQ HD.out (by decide));replace HM:=Lib.hid (row_grown2 HM.out HD.out (by decide) h3);replace HD:=Lib.hid h2;replace hb:=hbb;clear h2 h3 h4 hr hbb HN;refine hK.out _ _ ?_ (fun _=>?_)
              · ((try dsimp only);(exact (hQ.cell 0).trans cA))
              clear hK K
              (try simp only [Act.put,pA,pB,pC])
              refine hdT 8 ?_;refine hdC 9 (fun K hK=>?_);have c7:=hG.cell 0;have f7:=hG.frozen 0
              (go_simp;go_wp2_with fail)
              clear c7 f7;replace hX:=hX.far (p:=⟨g8,0,none⟩) (by dsimp only;omega) (.slice na (k+1) nc);replace hS:=hS.far (p:=⟨g8,0,none⟩) (by dsimp only;omega) (.slice na (k+1) nc);replace hQ:=hQ.far (p:=⟨g8,0,none⟩) (by dsimp only;omega) (.slice na (k+1) nc);replace hG:=hG.set 0 (.slice na (k+1) nc);replace HM:=Lib.hid (ownsRow_setCell_below HM.out (a:=⟨g8,0,none⟩) (by dsimp only;omega) (.slice na (k+1) nc));replace HD:=Lib.hid (ownsRow_setCell_below HD.out (a:=⟨g8,0,none⟩) (by dsimp only;omega) (.slice na (k+1) nc));replace hb:=hb.setCell (p:=⟨g8,0,none⟩) (by dsimp only;omega) (.slice na (k+1) nc);generalize w'.setCell ⟨g8,0,none⟩ (.slice na (k+1) nc)=W3 at *;refine hK.out _ _ ?_ (fun _=>?_)
              · ((try dsimp only);(exact (hQ.cell 0).trans cA))
              clear hK K
              (try simp only [Act.put,pA,pB,pC])
              refine wpAnyH_done (by kernel_rfl) ?_ _;have cB2:=(hQ.cell 1).trans cB;have HN2:=Lib.hid (news1p W3 (str B) 9);have hbX:=bA1 W3 (.cells #[str B] 9);have hsz3:gS<W3.heap.size:=hS.lt;have hX2:=hX.keep hbX hX.lt;have hG2:=hG.keep hbX hG.lt;have hS2:=hS.keep hbX hS.lt;have HD2:=Lib.hid (row_keep HD.out hbX);have HM2:=Lib.hid (row_keep HM.out hbX);have hb2:=bT' hb hbX hb.size;clear hbX hX hG hS HD HM hb hQ
              go_wp2_with (refine wpList_append_own_wide _ rfl (.tmp 43) (.tmp 47) 57 rfl (gS + 1) 9 ts tsz 1 16 Tryz.underlying57 HIs.out HZs2.out HSs.out HBs.out HZss.out (by omega) (.slice sa k sc) k _ rfl HM2.out ⟨W3.heap.size, 0, none⟩ 1 1 [str B] rfl rfl HN2.out HOs.out (by simp only [maxLen]; omega) (by omega) (by rw [sAl]; omega) (fun v' w'' h2 h3 h4 => ?_)
                           obtain ⟨ma,mc,rfl⟩:=row_slice h2;have hr:∀q,(Value.slice sa k sc).ownBlock=some q→gS+1≤q:=fun q e=>(HM2.out.lt q e).1;have hX3:=hX2.grown h3 (fun e=>by have:=hr _ e.symm;omega);have hG3:=hG2.grown h3 (fun e=>by have:=hr _ e.symm;omega);have hS3:=hS2.grown h3 (fun e=>by have:=hr _ e.symm;omega);have hb3:=grown_below hb2 h3 (fun q e=>by have:=hr q e;omega) hb2.size;have HD3:=Lib.hid (row_grown2 HD2.out HM2.out (by decide) h3);have HM3:=Lib.hid h2
                           clear h2 h3 h4 hr hX2 hG2 hS2 hb2 HD2 HM2 HN2)
              go_roundw
              case rel=>
               refine ⟨k+1,na,nc,ma,mc,hs++[(f,B)],by omega,rfl,by go_num,HT9.out,by simp [HLK.out],hb3,hX3,hG3,hS3,?_,?_⟩
               · rw [List.map_append,List.map_append];exact HD3.out
               · rw [List.map_append,List.map_append];exact HM3.out
              case measure=>simp [intOf] <;> omega
      · have g2:¬((Hh.length:Int)==2)=true:=(by simp;omega);have HF:Hid (naA l=none):=Lib.hid (by rw [HNA.out,mapM_none (HNOT.out h2) (List.mem_of_getElem? HPK.out)];rfl);have cX:=hX.cell 0;have cX1:=hX.cell 1;have fX:=hX.frozen 0;have fX1:=hX.frozen 1;go_wp2_with fail
        have hX9:=(hX.set 0 (.slice none 0 0)).set 1 (.slice none 0 0);exact bodyPost_ret (results_row2 rfl _ _ gX 36 #[.slice none 0 0,.slice none 0 0] (0,0) _ rfl hX9 Tryz.underlying36 rfl Tryz.info_alg) rfl ⟨none,0,0,none,0,0,false,[],[],rfl,fun h=>(by cases h),fun _=>okMo_no HF.out,(hb.setCell (p:=⟨gX,0,none⟩) hwX _).setCell (p:=⟨gX,1,none⟩) hwX _⟩
    · have he:k=R.length:=(by omega);have hkk:¬(k:Int)<(R.length:Int):=(by omega);have hts:=HTS.out;rw [he,List.take_length] at hts;have hfew:=HFEW.out hs hts;have HNB:Hid (naA l=naP (some hs)):=Lib.hid (by rw [HNA.out,hts]);obtain ⟨Z,hZ⟩:∃Z,hs.map (·.1)=Z:=⟨_,rfl⟩;rw [hZ] at HD;have HZ:=Lib.hid hZ;obtain ⟨a',c',hve,hOV⟩:=OwnV.of_row HD.out;simp only [Value.slice.injEq] at hve;obtain ⟨rfl,-,rfl⟩:=hve;have hDI:=Lib.hid hOV.ints;have cG:=hG.cell 0;have hk9:k≤1048576:=(by omega);have HKE:=Lib.hid he;clear hts hOV hZ he hfew;go_wp2_with fail
      refine (l01Degrees_c dc hDI.out (by omega)).mono ?_;rintro e w5 ⟨rfl,rfl⟩;clear cG
      cases hz:degsOk Z with
      | false =>
        have HF:Hid (naA l=none):=Lib.hid (by rw [HNB.out,naP,HZ.out,hz];rfl);have cX:=hX.cell 0;have cX1:=hX.cell 1;have fX:=hX.frozen 0;have fX1:=hX.frozen 1;clear hz;go_wp2_with fail
        have hX9:=(hX.set 0 (.slice none 0 0)).set 1 (.slice none 0 0);exact bodyPost_ret (results_row2 rfl _ _ gX 36 #[.slice none 0 0,.slice none 0 0] (0,0) _ rfl hX9 Tryz.underlying36 rfl Tryz.info_alg) rfl ⟨none,0,0,none,0,0,false,[],[],rfl,fun h=>(by cases h),fun _=>okMo_no HF.out,(hb.setCell (p:=⟨gX,0,none⟩) hwX _).setCell (p:=⟨gX,1,none⟩) hwX _⟩
      | true =>
        have h8:=degsOk_len hz;have HDZ:=Lib.hid hz;clear hz;obtain ⟨T,hT⟩:∃T,hs.map (·.2)=T:=⟨_,rfl⟩;rw [hT] at HM;have HTT:=Lib.hid hT;have HTL:Hid (T.length=k):=Lib.hid (by rw [←hT,List.length_map,HLK.out])
        have HTB:Hid (∀p∈T,p.length≤1048576):=Lib.hid (by
         intro p hp;rw [←hT] at hp;obtain ⟨x,hx,rfl⟩:=List.mem_map.1 hp
         exact naH_len (mapM_two HTS.out) (fun q hq=>HRB.out q (List.mem_of_mem_take hq)) x hx)
        clear hT;go_upto_region 16 with fail
        go_loopw [9] (fun y w2=>∃(i:Nat) (ia:Option Addr) (ic:Nat) (vs:List Value) (I:List (List Tm)),i≤k∧y=.int .i64 i∧(T.take i).mapM (naI Z)=some I∧I.length=i∧Below w.heap.size w w2∧Own w2 gX 36 #[.slice none 0 0,.slice none 0 0]∧Own w2 g8 36 #[.slice da k dc,.slice ia i ic]∧w2.ownsRow (gS+1) 2 1 (.slice da k dc) k (Z.map (Value.int .i64))∧w2.ownsRow (gS+1) 9 1 (.slice sa k sc) k (T.map str)∧w2.ownsRow (gS+1) 25 1 (.slice ia i ic) i vs∧Vals w2 (gS+1) vs I) (fun y _=>k - (intOf y).toNat)
        case atStart=>exact ⟨0,none,0,[],[],Nat.zero_le _,rfl,rfl,rfl,hb,hX,hG,HD.out,HM.out,World.ownsRow_nil _ _ _ _,Vals.nil _ _⟩
        case round=>
         clear hX hG hS hb HD HM;obtain ⟨i,ia,ic,vs,I,hik,rfl,hti,hIl,hb,hX,hG,hD,hM,hF,hV⟩:=hrel;have hi0:(0:Int)≤(i:Int):=(by omega);by_cases hin:i<k
         · have hii:(i:Int)<(k:Int):=(by omega);obtain ⟨p,hp⟩:∃p,T[i]? = some p:=⟨_,List.getElem?_eq_getElem (by rw [HTL.out];exact hin)⟩;have HPI:=Lib.hid hp;have HTI:=Lib.hid hti;have hpl:=HTB.out p (List.mem_of_getElem? hp);obtain ⟨gT,capT,curT,hve,hgT,hTO,hcT⟩:=row_ownP hM (show 0<k by omega);simp only [Value.slice.injEq,true_and] at hve;obtain ⟨rfl,rfl⟩:=hve;have cT:curT[i]? = some (str p):=hcT i _ (by rw [List.getElem?_map,hp];rfl);obtain ⟨a',c',hve,hOV⟩:=OwnV.of_row hD;simp only [Value.slice.injEq] at hve;obtain ⟨rfl,-,rfl⟩:=hve;have HDI:=Lib.hid hOV.ints;have HD:=Lib.hid hD;have HM:=Lib.hid hM;have HF:=Lib.hid hF;have HV:=Lib.hid hV;clear hp hti hcT hOV hD hM hF hV;go_upto_region 18 with fail
           replace hX:Own wr.drew gX 36 #[.slice none 0 0,.slice none 0 0]:=hX;replace hG:Own wr.drew g8 36 #[.slice da k dc,.slice ia i ic]:=hG;replace hTO:Own wr.drew gT 9 curT:=hTO;have hdr:Below wr.heap.size wr wr.drew:=(Below.refl _ _).drew;replace HDI:=Lib.hid (HDI.out.keep hdr);replace HD:=Lib.hid (row_keep HD.out hdr);replace HM:=Lib.hid (row_keep HM.out hdr);replace HF:=Lib.hid (row_keep HF.out hdr);replace HV:=Lib.hid (HV.out.keep hdr);clear hdr;replace hb:Below w.heap.size w wr.drew:=hb.drew;refine wp_region_held_drew (S:=(fun w'=>w'.cell? ⟨g8,0,none⟩=some (.slice da k dc)∧w'.cell? ⟨gT,i,none⟩=some (str p))) (by kernel_rfl) ?_ (fun _=>?_)
           · ((try dsimp only);(exact ⟨hG.cell 0,(hTO.cell i).trans cT⟩))
           generalize wr.drew=W0 at *;have hT0:gT<W0.heap.size:=hTO.lt;have hBB:=Below.refl W0.heap.size W0;refine hdT 0 ?_;refine hdT 1 ?_;refine hdT 2 ?_;refine hdT 3 ?_;refine wpAnyH_ready (rs:=[4,10]) (by kernel_rfl) (by simp) ?_;refine AllReadyH.cons (hdAt (i:=4) rfl) (fun K hK=>?_) (AllReadyH.cons (hdAt (i:=10) rfl) (fun K hK=>?_) AllReadyH.nil)
           · (go_simp;try go_wp2_with fail)
             refine hK.out _ _ ?_ (fun _=>?_)
             · ((try dsimp only);(exact ⟨(hG.keep hBB hG.lt).cell 0,((hTO.keep hBB hTO.lt).cell i).trans cT⟩))
             clear hK K
             (try simp only [Act.put,pA,pB,pC])
             refine hdT 5 ?_;refine wpAnyH_ready (rs:=[6,10]) (by kernel_rfl) (by simp) ?_;refine AllReadyH.cons (hdAt (i:=6) rfl) (fun K hK=>?_) (AllReadyH.cons (hdAt (i:=10) rfl) (fun K hK=>?_) AllReadyH.nil)
             · (go_simp;(go_at_call 19;refine (l01Read_c dc p (HDI.out.keep hBB) (by omega) HDZ.out hpl).mono ?_;rintro e W1 ⟨va,vn,vc,b,ts,rfl,hO,hTm,hPO,hbX⟩);go_wp2_with fail)
               replace hO:=hO.weaken hBB.size;have HTm:=Lib.hid hTm;have HPO:=Lib.hid hPO;replace hBB:=bT' hBB hbX hBB.size;clear hbX hTm hPO;refine hK.out _ _ ?_ (fun _=>?_)
               · ((try dsimp only);(exact ⟨(hG.keep hBB hG.lt).cell 0,((hTO.keep hBB hTO.lt).cell i).trans cT⟩))
               clear hK K
               (try simp only [Act.put,pA,pB,pC])
               refine hdT 7 ?_;refine hdT 8 ?_;refine hdT 9 ?_;refine hdC 10 (fun K hK=>?_)
               (go_simp;try go_wp2_with fail)
               have hbX:=bA1 W1 (.cells #[.slice none 0 0] 25);have hFo:=Own.new W1 25 #[.slice none 0 0];have hsF:=hBB.size;replace hO:=hO.keep hbX;replace hBB:=bT' hBB hbX hBB.size;clear hbX;generalize W1.alloc (.cells #[.slice none 0 0] 25)=W2 at *;obtain ⟨gF,hgF⟩:∃x,W1.heap.size=x:=⟨_,rfl⟩;rw [hgF] at hFo;replace hsF:W0.heap.size≤gF:=by omega
               try rw [hgF]
               clear hgF;refine hK.out _ _ ?_ (fun _=>?_)
               · ((try dsimp only);(exact ⟨(hG.keep hBB hG.lt).cell 0,((hTO.keep hBB hTO.lt).cell i).trans cT⟩))
               clear hK K
               (try simp only [Act.put,pA,pB,pC])
               refine hdC 11 (fun K hK=>?_);have cF:=hFo.cell 0;have fF:=hFo.frozen 0
               (go_simp;go_wp2_with fail)
               clear cF fF;replace hO:=hO.far (p:=⟨gF,0,none⟩) (hO.ne_form hFo) (.slice va vn vc);replace hFo:=hFo.set 0 (.slice va vn vc);replace hBB:=hBB.setCell (p:=⟨gF,0,none⟩) hsF (.slice va vn vc);generalize W2.setCell ⟨gF,0,none⟩ (.slice va vn vc)=W9 at *;refine hK.out _ _ ?_ (fun _=>?_)
               · ((try dsimp only);(exact ⟨(hG.keep hBB hG.lt).cell 0,((hTO.keep hBB hTO.lt).cell i).trans cT⟩))
               clear hK K
               (try simp only [Act.put,pA,pB,pC])
               refine hdT 12 ?_;refine wpAnyH_done (by kernel_rfl) ?_ _;replace hX:=hX.keep hBB hX.lt;replace hG:=hG.keep hBB hG.lt;replace hTO:=hTO.keep hBB hTO.lt;replace HD:=Lib.hid (row_keep HD.out hBB);replace HM:=Lib.hid (row_keep HM.out hBB);replace HF:=Lib.hid (row_keep HF.out hBB);have HVL:=Lib.hid HV.out.lt;replace HV:=Lib.hid (HV.out.keep hBB);replace hb:=bT' hb hBB hb.size;clear hBB HDI hsF cT;have HO:=Lib.hid hO;clear hO;have hs0:gS+1≤W0.heap.size:=by omega
               cases b with
               | false =>
                 have HF9:Hid (naA l=none):=Lib.hid (by
                  rw [HNB.out,naP,HZ.out,HTT.out,if_pos HDZ.out,mapM_none (show naI Z p=none from HPO.out.2 rfl) (List.mem_of_getElem? HPI.out)]
                  rfl)
                 have cX:=hX.cell 0;have cX1:=hX.cell 1;have fX:=hX.frozen 0;have fX1:=hX.frozen 1;clear hFo hG hTO;go_wp2_with fail
                 have hX9:=(hX.set 0 (.slice none 0 0)).set 1 (.slice none 0 0);exact bodyPost_ret (results_row2 rfl _ _ gX 36 #[.slice none 0 0,.slice none 0 0] (0,0) _ rfl hX9 Tryz.underlying36 rfl Tryz.info_alg) rfl ⟨none,0,0,none,0,0,false,[],[],rfl,fun h=>(by cases h),fun _=>okMo_no HF9.out,(hb.setCell (p:=⟨gX,0,none⟩) hwX _).setCell (p:=⟨gX,1,none⟩) hwX _⟩
               | true =>
                 have HT9:Hid ((T.take (i+1)).mapM (naI Z)=some (I++[ts])):=Lib.hid (by
                  rw [List.take_add_one,HPI.out]
                  exact mapM_snoc HTI.out (show naI Z p=some ts from HPO.out.1 rfl))
                 obtain ⟨tf,tfz,htif,htzf,htsf,htbf,htzsf⟩:=Tryz.info_formA;have HIf:=Lib.hid htif;have HZf:=Lib.hid htzf;have HSf:=Lib.hid htsf;have HBf:=Lib.hid htbf;have HZsf:=Lib.hid htzsf;clear htif htzf htsf htbf htzsf;have HOn2:Hid (∀u∈([Value.slice va vn vc]:List Value),u.oneCell'=true):=Lib.hid (by simp [Value.oneCell']);have cF:=hFo.cell 0;have cG1:=hG.cell 1;have hsz:gS<W9.heap.size:=(by have:=hTO.lt;omega);have HN2:=Lib.hid (news1p W9 (.slice va vn vc) 25);have hba:=bA1 W9 (.cells #[.slice va vn vc] 25);have hXd:=hX.keep hba hX.lt;have hGd:=hG.keep hba hG.lt;have HDd:=Lib.hid (row_keep HD.out hba);have HMd:=Lib.hid (row_keep HM.out hba);have HFd:=Lib.hid (row_keep HF.out hba);have HVd:=Lib.hid (HV.out.keep hba);have HOd:=Lib.hid (HO.out.keep hba);have hbd:=bT' hb hba hb.size;clear hba hX hG hTO HD HM HF HV HO hb hFo HPO
                 go_wp2_with (refine wpList_append_own_wide _ rfl (.tmp 74) (.tmp 76) 34 rfl (gS + 1) 25 tf tfz 1 24 Tryz.underlying34 HIf.out HZf.out HSf.out HBf.out HZsf.out (by omega) (.slice ia i ic) i vs rfl HFd.out ⟨W9.heap.size, 0, none⟩ 1 1 [Value.slice va vn vc] rfl rfl HN2.out HOn2.out (by simp only [maxLen]; omega) (by omega) (by rw [sAl]; omega) (fun v' w'' h2 h3 h4 => ?_)
                              obtain ⟨ma,mc,rfl⟩:=row_slice h2;have hr:∀q,(Value.slice ia i ic).ownBlock=some q→gS+1≤q:=fun q e=>(HFd.out.lt q e).1;have hXe:=hXd.grown h3 (fun e=>by have:=hr _ e.symm;omega);have hGe:=hGd.grown h3 (fun e=>by have:=hr _ e.symm;omega);have hbe:=grown_below hbd h3 (fun q e=>by have:=hr q e;omega) hbd.size;have HDe:=Lib.hid (row_grown2 HDd.out HFd.out (by decide) h3);have HMe:=Lib.hid (row_grown2 HMd.out HFd.out (by decide) h3);have HVe:=Lib.hid (HVd.out.grown h3 (fun q e=>row_own HFd.out e));have HOe:=Lib.hid (row_grown2 HOd.out HFd.out (by decide) h3);have cG4:=hGe.cell 1;have fG4:=hGe.frozen 1;have H2e:=Lib.hid h2
                              clear h2 h3 h4 hr hXd hGd hbd HDd HMd HVd HOd HFd HN2)
                 have hl9:(⟨g8,1,none⟩:Addr).block<gS+1:=(by dsimp only;omega);have hXf:=hXe.far (p:=⟨g8,1,none⟩) (by dsimp only;omega) (.slice ma (i+1) mc);have hGf:=hGe.set 1 (.slice ma (i+1) mc);have hbf:=hbe.setCell (p:=⟨g8,1,none⟩) (by dsimp only;omega) (.slice ma (i+1) mc)
                 go_roundw
                 case rel=>
                  refine ⟨i+1,ma,mc,vs++[.slice va vn vc],I++[ts],by omega,by go_num,HT9.out,by simp [hIl],hbf,hXf,hGf,ownsRow_setCell_below HDe.out hl9 _,ownsRow_setCell_below HMe.out hl9 _,ownsRow_setCell_below H2e.out hl9 _,?_⟩;exact (HVe.out.snoc (C:=W0.heap.size) HVL.out (by omega) HOe.out).farB hl9 _
                 case measure=>simp [intOf] <;> omega
             · (go_simp;try go_wp2_with fail)
               have hbX:=bA1 W0 (.cells #[.slice none 0 0] 25);have hFo:=Own.new W0 25 #[.slice none 0 0];have hsF:=hBB.size;replace hBB:=bT' hBB hbX hBB.size;clear hbX;generalize W0.alloc (.cells #[.slice none 0 0] 25)=W1 at *;obtain ⟨gF,hgF⟩:∃x,W0.heap.size=x:=⟨_,rfl⟩;rw [hgF] at hFo;replace hsF:W0.heap.size≤gF:=by omega
               try rw [hgF]
               clear hgF;refine hK.out _ _ ?_ (fun _=>?_)
               · ((try dsimp only);(exact ⟨(hG.keep hBB hG.lt).cell 0,((hTO.keep hBB hTO.lt).cell i).trans cT⟩))
               clear hK K
               (try simp only [Act.put,pA,pB,pC])
               refine hdC 6 (fun K hK=>?_)
               (go_simp;(go_at_call 19;refine (l01Read_c dc p (HDI.out.keep hBB) (by omega) HDZ.out hpl).mono ?_;rintro e W2 ⟨va,vn,vc,b,ts,rfl,hO,hTm,hPO,hbX⟩);go_wp2_with fail)
               replace hO:=hO.weaken hBB.size;have HTm:=Lib.hid hTm;have HPO:=Lib.hid hPO;replace hFo:=hFo.keep hbX hFo.lt;replace hBB:=bT' hBB hbX hBB.size;clear hbX hTm hPO;refine hK.out _ _ ?_ (fun _=>?_)
               · ((try dsimp only);(exact ⟨(hG.keep hBB hG.lt).cell 0,((hTO.keep hBB hTO.lt).cell i).trans cT⟩))
               clear hK K
               (try simp only [Act.put,pA,pB,pC])
               refine hdT 7 ?_;refine hdT 8 ?_;refine hdT 9 ?_;refine hdC 11 (fun K hK=>?_);have cF:=hFo.cell 0;have fF:=hFo.frozen 0
               (go_simp;go_wp2_with fail)
               clear cF fF;replace hO:=hO.far (p:=⟨gF,0,none⟩) (hO.ne_form hFo) (.slice va vn vc);replace hFo:=hFo.set 0 (.slice va vn vc);replace hBB:=hBB.setCell (p:=⟨gF,0,none⟩) hsF (.slice va vn vc);generalize W2.setCell ⟨gF,0,none⟩ (.slice va vn vc)=W9 at *;refine hK.out _ _ ?_ (fun _=>?_)
               · ((try dsimp only);(exact ⟨(hG.keep hBB hG.lt).cell 0,((hTO.keep hBB hTO.lt).cell i).trans cT⟩))
               clear hK K
               (try simp only [Act.put,pA,pB,pC])
               refine hdT 12 ?_;refine wpAnyH_done (by kernel_rfl) ?_ _;replace hX:=hX.keep hBB hX.lt;replace hG:=hG.keep hBB hG.lt;replace hTO:=hTO.keep hBB hTO.lt;replace HD:=Lib.hid (row_keep HD.out hBB);replace HM:=Lib.hid (row_keep HM.out hBB);replace HF:=Lib.hid (row_keep HF.out hBB);have HVL:=Lib.hid HV.out.lt;replace HV:=Lib.hid (HV.out.keep hBB);replace hb:=bT' hb hBB hb.size;clear hBB HDI hsF cT;have HO:=Lib.hid hO;clear hO;have hs0:gS+1≤W0.heap.size:=by omega
               cases b with
               | false =>
                 have HF9:Hid (naA l=none):=Lib.hid (by
                  rw [HNB.out,naP,HZ.out,HTT.out,if_pos HDZ.out,mapM_none (show naI Z p=none from HPO.out.2 rfl) (List.mem_of_getElem? HPI.out)]
                  rfl)
                 have cX:=hX.cell 0;have cX1:=hX.cell 1;have fX:=hX.frozen 0;have fX1:=hX.frozen 1;clear hFo hG hTO;go_wp2_with fail
                 have hX9:=(hX.set 0 (.slice none 0 0)).set 1 (.slice none 0 0);exact bodyPost_ret (results_row2 rfl _ _ gX 36 #[.slice none 0 0,.slice none 0 0] (0,0) _ rfl hX9 Tryz.underlying36 rfl Tryz.info_alg) rfl ⟨none,0,0,none,0,0,false,[],[],rfl,fun h=>(by cases h),fun _=>okMo_no HF9.out,(hb.setCell (p:=⟨gX,0,none⟩) hwX _).setCell (p:=⟨gX,1,none⟩) hwX _⟩
               | true =>
                 have HT9:Hid ((T.take (i+1)).mapM (naI Z)=some (I++[ts])):=Lib.hid (by
                  rw [List.take_add_one,HPI.out]
                  exact mapM_snoc HTI.out (show naI Z p=some ts from HPO.out.1 rfl))
                 obtain ⟨tf,tfz,htif,htzf,htsf,htbf,htzsf⟩:=Tryz.info_formA;have HIf:=Lib.hid htif;have HZf:=Lib.hid htzf;have HSf:=Lib.hid htsf;have HBf:=Lib.hid htbf;have HZsf:=Lib.hid htzsf;clear htif htzf htsf htbf htzsf;have HOn2:Hid (∀u∈([Value.slice va vn vc]:List Value),u.oneCell'=true):=Lib.hid (by simp [Value.oneCell']);have cF:=hFo.cell 0;have cG1:=hG.cell 1;have hsz:gS<W9.heap.size:=(by have:=hTO.lt;omega);have HN2:=Lib.hid (news1p W9 (.slice va vn vc) 25);have hba:=bA1 W9 (.cells #[.slice va vn vc] 25);have hXd:=hX.keep hba hX.lt;have hGd:=hG.keep hba hG.lt;have HDd:=Lib.hid (row_keep HD.out hba);have HMd:=Lib.hid (row_keep HM.out hba);have HFd:=Lib.hid (row_keep HF.out hba);have HVd:=Lib.hid (HV.out.keep hba);have HOd:=Lib.hid (HO.out.keep hba);have hbd:=bT' hb hba hb.size;clear hba hX hG hTO HD HM HF HV HO hb hFo HPO
                 go_wp2_with (refine wpList_append_own_wide _ rfl (.tmp 74) (.tmp 76) 34 rfl (gS + 1) 25 tf tfz 1 24 Tryz.underlying34 HIf.out HZf.out HSf.out HBf.out HZsf.out (by omega) (.slice ia i ic) i vs rfl HFd.out ⟨W9.heap.size, 0, none⟩ 1 1 [Value.slice va vn vc] rfl rfl HN2.out HOn2.out (by simp only [maxLen]; omega) (by omega) (by rw [sAl]; omega) (fun v' w'' h2 h3 h4 => ?_)
                              obtain ⟨ma,mc,rfl⟩:=row_slice h2;have hr:∀q,(Value.slice ia i ic).ownBlock=some q→gS+1≤q:=fun q e=>(HFd.out.lt q e).1;have hXe:=hXd.grown h3 (fun e=>by have:=hr _ e.symm;omega);have hGe:=hGd.grown h3 (fun e=>by have:=hr _ e.symm;omega);have hbe:=grown_below hbd h3 (fun q e=>by have:=hr q e;omega) hbd.size;have HDe:=Lib.hid (row_grown2 HDd.out HFd.out (by decide) h3);have HMe:=Lib.hid (row_grown2 HMd.out HFd.out (by decide) h3);have HVe:=Lib.hid (HVd.out.grown h3 (fun q e=>row_own HFd.out e));have HOe:=Lib.hid (row_grown2 HOd.out HFd.out (by decide) h3);have cG4:=hGe.cell 1;have fG4:=hGe.frozen 1;have H2e:=Lib.hid h2
                              clear h2 h3 h4 hr hXd hGd hbd HDd HMd HVd HOd HFd HN2)
                 have hl9:(⟨g8,1,none⟩:Addr).block<gS+1:=(by dsimp only;omega);have hXf:=hXe.far (p:=⟨g8,1,none⟩) (by dsimp only;omega) (.slice ma (i+1) mc);have hGf:=hGe.set 1 (.slice ma (i+1) mc);have hbf:=hbe.setCell (p:=⟨g8,1,none⟩) (by dsimp only;omega) (.slice ma (i+1) mc)
                 go_roundw
                 case rel=>
                  refine ⟨i+1,ma,mc,vs++[.slice va vn vc],I++[ts],by omega,by go_num,HT9.out,by simp [hIl],hbf,hXf,hGf,ownsRow_setCell_below HDe.out hl9 _,ownsRow_setCell_below HMe.out hl9 _,ownsRow_setCell_below H2e.out hl9 _,?_⟩;exact (HVe.out.snoc (C:=W0.heap.size) HVL.out (by omega) HOe.out).farB hl9 _
                 case measure=>simp [intOf] <;> omega
           · (go_simp;try go_wp2_with fail)
             have hbX:=bA1 W0 (.cells #[.slice none 0 0] 25);have hFo:=Own.new W0 25 #[.slice none 0 0];have hsF:=hBB.size;replace hBB:=bT' hBB hbX hBB.size;clear hbX;generalize W0.alloc (.cells #[.slice none 0 0] 25)=W1 at *;obtain ⟨gF,hgF⟩:∃x,W0.heap.size=x:=⟨_,rfl⟩;rw [hgF] at hFo;replace hsF:W0.heap.size≤gF:=by omega
             try rw [hgF]
             clear hgF;refine hK.out _ _ ?_ (fun _=>?_)
             · ((try dsimp only);(exact ⟨(hG.keep hBB hG.lt).cell 0,((hTO.keep hBB hTO.lt).cell i).trans cT⟩))
             clear hK K
             (try simp only [Act.put,pA,pB,pC])
             refine hdC 4 (fun K hK=>?_)
             (go_simp;try go_wp2_with fail)
             refine hK.out _ _ ?_ (fun _=>?_)
             · ((try dsimp only);(exact ⟨(hG.keep hBB hG.lt).cell 0,((hTO.keep hBB hTO.lt).cell i).trans cT⟩))
             clear hK K
             (try simp only [Act.put,pA,pB,pC])
             refine hdT 5 ?_;refine hdC 6 (fun K hK=>?_)
             (go_simp;(go_at_call 19;refine (l01Read_c dc p (HDI.out.keep hBB) (by omega) HDZ.out hpl).mono ?_;rintro e W2 ⟨va,vn,vc,b,ts,rfl,hO,hTm,hPO,hbX⟩);go_wp2_with fail)
             replace hO:=hO.weaken hBB.size;have HTm:=Lib.hid hTm;have HPO:=Lib.hid hPO;replace hFo:=hFo.keep hbX hFo.lt;replace hBB:=bT' hBB hbX hBB.size;clear hbX hTm hPO;refine hK.out _ _ ?_ (fun _=>?_)
             · ((try dsimp only);(exact ⟨(hG.keep hBB hG.lt).cell 0,((hTO.keep hBB hTO.lt).cell i).trans cT⟩))
             clear hK K
             (try simp only [Act.put,pA,pB,pC])
             refine hdT 7 ?_;refine hdT 8 ?_;refine hdT 9 ?_;refine hdC 11 (fun K hK=>?_);have cF:=hFo.cell 0;have fF:=hFo.frozen 0
             (go_simp;go_wp2_with fail)
             clear cF fF;replace hO:=hO.far (p:=⟨gF,0,none⟩) (hO.ne_form hFo) (.slice va vn vc);replace hFo:=hFo.set 0 (.slice va vn vc);replace hBB:=hBB.setCell (p:=⟨gF,0,none⟩) hsF (.slice va vn vc);generalize W2.setCell ⟨gF,0,none⟩ (.slice va vn vc)=W9 at *;refine hK.out _ _ ?_ (fun _=>?_)
             · ((try dsimp only);(exact ⟨(hG.keep hBB hG.lt).cell 0,((hTO.keep hBB hTO.lt).cell i).trans cT⟩))
             clear hK K
             (try simp only [Act.put,pA,pB,pC])
             refine hdT 12 ?_;refine wpAnyH_done (by kernel_rfl) ?_ _;replace hX:=hX.keep hBB hX.lt;replace hG:=hG.keep hBB hG.lt;replace hTO:=hTO.keep hBB hTO.lt;replace HD:=Lib.hid (row_keep HD.out hBB);replace HM:=Lib.hid (row_keep HM.out hBB);replace HF:=Lib.hid (row_keep HF.out hBB);have HVL:=Lib.hid HV.out.lt;replace HV:=Lib.hid (HV.out.keep hBB);replace hb:=bT' hb hBB hb.size;clear hBB HDI hsF cT;have HO:=Lib.hid hO;clear hO;have hs0:gS+1≤W0.heap.size:=by omega
             cases b with
             | false =>
               have HF9:Hid (naA l=none):=Lib.hid (by
                rw [HNB.out,naP,HZ.out,HTT.out,if_pos HDZ.out,mapM_none (show naI Z p=none from HPO.out.2 rfl) (List.mem_of_getElem? HPI.out)]
                rfl)
               have cX:=hX.cell 0;have cX1:=hX.cell 1;have fX:=hX.frozen 0;have fX1:=hX.frozen 1;clear hFo hG hTO;go_wp2_with fail
               have hX9:=(hX.set 0 (.slice none 0 0)).set 1 (.slice none 0 0);exact bodyPost_ret (results_row2 rfl _ _ gX 36 #[.slice none 0 0,.slice none 0 0] (0,0) _ rfl hX9 Tryz.underlying36 rfl Tryz.info_alg) rfl ⟨none,0,0,none,0,0,false,[],[],rfl,fun h=>(by cases h),fun _=>okMo_no HF9.out,(hb.setCell (p:=⟨gX,0,none⟩) hwX _).setCell (p:=⟨gX,1,none⟩) hwX _⟩
             | true =>
               have HT9:Hid ((T.take (i+1)).mapM (naI Z)=some (I++[ts])):=Lib.hid (by
                rw [List.take_add_one,HPI.out]
                exact mapM_snoc HTI.out (show naI Z p=some ts from HPO.out.1 rfl))
               obtain ⟨tf,tfz,htif,htzf,htsf,htbf,htzsf⟩:=Tryz.info_formA;have HIf:=Lib.hid htif;have HZf:=Lib.hid htzf;have HSf:=Lib.hid htsf;have HBf:=Lib.hid htbf;have HZsf:=Lib.hid htzsf;clear htif htzf htsf htbf htzsf;have HOn2:Hid (∀u∈([Value.slice va vn vc]:List Value),u.oneCell'=true):=Lib.hid (by simp [Value.oneCell']);have cF:=hFo.cell 0;have cG1:=hG.cell 1;have hsz:gS<W9.heap.size:=(by have:=hTO.lt;omega);have HN2:=Lib.hid (news1p W9 (.slice va vn vc) 25);have hba:=bA1 W9 (.cells #[.slice va vn vc] 25);have hXd:=hX.keep hba hX.lt;have hGd:=hG.keep hba hG.lt;have HDd:=Lib.hid (row_keep HD.out hba);have HMd:=Lib.hid (row_keep HM.out hba);have HFd:=Lib.hid (row_keep HF.out hba);have HVd:=Lib.hid (HV.out.keep hba);have HOd:=Lib.hid (HO.out.keep hba);have hbd:=bT' hb hba hb.size;clear hba hX hG hTO HD HM HF HV HO hb hFo HPO
               go_wp2_with (refine wpList_append_own_wide _ rfl (.tmp 74) (.tmp 76) 34 rfl (gS + 1) 25 tf tfz 1 24 Tryz.underlying34 HIf.out HZf.out HSf.out HBf.out HZsf.out (by omega) (.slice ia i ic) i vs rfl HFd.out ⟨W9.heap.size, 0, none⟩ 1 1 [Value.slice va vn vc] rfl rfl HN2.out HOn2.out (by simp only [maxLen]; omega) (by omega) (by rw [sAl]; omega) (fun v' w'' h2 h3 h4 => ?_)
                            obtain ⟨ma,mc,rfl⟩:=row_slice h2;have hr:∀q,(Value.slice ia i ic).ownBlock=some q→gS+1≤q:=fun q e=>(HFd.out.lt q e).1;have hXe:=hXd.grown h3 (fun e=>by have:=hr _ e.symm;omega);have hGe:=hGd.grown h3 (fun e=>by have:=hr _ e.symm;omega);have hbe:=grown_below hbd h3 (fun q e=>by have:=hr q e;omega) hbd.size;have HDe:=Lib.hid (row_grown2 HDd.out HFd.out (by decide) h3);have HMe:=Lib.hid (row_grown2 HMd.out HFd.out (by decide) h3);have HVe:=Lib.hid (HVd.out.grown h3 (fun q e=>row_own HFd.out e));have HOe:=Lib.hid (row_grown2 HOd.out HFd.out (by decide) h3);have cG4:=hGe.cell 1;have fG4:=hGe.frozen 1;have H2e:=Lib.hid h2
                            clear h2 h3 h4 hr hXd hGd hbd HDd HMd HVd HOd HFd HN2)
               have hl9:(⟨g8,1,none⟩:Addr).block<gS+1:=(by dsimp only;omega);have hXf:=hXe.far (p:=⟨g8,1,none⟩) (by dsimp only;omega) (.slice ma (i+1) mc);have hGf:=hGe.set 1 (.slice ma (i+1) mc);have hbf:=hbe.setCell (p:=⟨g8,1,none⟩) (by dsimp only;omega) (.slice ma (i+1) mc)
               go_roundw
               case rel=>
                refine ⟨i+1,ma,mc,vs++[.slice va vn vc],I++[ts],by omega,by go_num,HT9.out,by simp [hIl],hbf,hXf,hGf,ownsRow_setCell_below HDe.out hl9 _,ownsRow_setCell_below HMe.out hl9 _,ownsRow_setCell_below H2e.out hl9 _,?_⟩;exact (HVe.out.snoc (C:=W0.heap.size) HVL.out (by omega) HOe.out).farB hl9 _
               case measure=>simp [intOf] <;> omega
         · have hie:i=k:=(by omega);subst hie;rw [←HTL.out,List.take_length] at hti;have HTI:=Lib.hid hti
           have HIT:Hid (∀im∈I,(∀t∈im,IsTm t)∧im.length≤400):=Lib.hid (fun im him=>mapM_mem (P:=fun ts=>(∀t∈ts,IsTm t)∧ts.length≤400) (fun b ts h=>by
            have h1:=(paG_of (fun _ h=>rdFs_tm h) (fun ts h hl e=>by rw [←e];exact rdFs_text h hl) ts).1 h
            exact ⟨h1.2.2,(isForm_fine h1.1 h1.2.2).2⟩) hti im him)
           have HNO:Hid (naA l=some (Z,I)):=Lib.hid (by
            rw [HNB.out,naP,HZ.out,HTT.out,if_pos HDZ.out,hti]
            rfl)
           obtain ⟨a',c',hve,hOV⟩:=OwnV.of_row hD;simp only [Value.slice.injEq] at hve;obtain ⟨rfl,-,rfl⟩:=hve;obtain ⟨a',c',hve,hOF⟩:=hV.ownF_row hIl hF (fun ts h=>(HIT.out ts h).1);simp only [Value.slice.injEq] at hve;obtain ⟨rfl,-,rfl⟩:=hve;have hL:∀im∈I,(im.length:Int)≤1048576:=fun im h=>(by have:=(HIT.out im h).2;omega);have HOV:=Lib.hid hOV;have HOF:=Lib.hid hOF;have HDI:=Lib.hid hOV.ints;have HFr:=Lib.hid (hOF.frms hL);have HLL:=Lib.hid hL;have hgXs:gX<gS+1:=(by omega);clear hti hOV hOF hL hD hM hF hV hIl;have cG:=hG.cell 0;have cG1:=hG.cell 1;go_upto_region 22 with fail
           clear cG cG1;replace hX:Own wr.drew gX 36 #[.slice none 0 0,.slice none 0 0]:=hX;replace hG:Own wr.drew g8 36 #[.slice da i dc,.slice ia i ic]:=hG;replace HOV:Hid (OwnV wr.drew (gS+1) wr.drew.heap.size da i Z):=HOV;have hdr:Below wr.heap.size wr wr.drew:=(Below.refl _ _).drew;replace HOF:Hid (OwnF wr.drew (gS+1) wr.drew.heap.size ia i I):=Lib.hid (HOF.out.keep hdr);replace HDI:Hid (Ints wr.drew da i Z):=HDI;replace HFr:Hid (Frms wr.drew ia i I):=Lib.hid (HFr.out.keep hdr);clear hdr;replace hb:Below w.heap.size w wr.drew:=hb.drew;refine wp_region_held_drew (S:=(fun w'=>w'.cell? ⟨g8,0,none⟩=some (.slice da i dc)∧w'.cell? ⟨g8,1,none⟩=some (.slice ia i ic))) (by kernel_rfl) ?_ (fun _=>?_)
           · ((try dsimp only);(exact ⟨hG.cell 0,hG.cell 1⟩))
           generalize wr.drew=W0 at *;refine hdT 0 ?_;refine hdT 1 ?_;refine hdC 2 (fun K hK=>?_)
           (go_simp;(go_at_call 52;refine (l02Is_c dc ic HDI.out (by omega) HFr.out (by omega) HLL.out).mono ?_;rintro e W1 ⟨rfl,hbX⟩);go_wp2_with fail)
           obtain ⟨q,hq⟩:∃q,isAlg Z I=q:=⟨_,rfl⟩;rw [hq];have HQ:=Lib.hid hq;clear hq;replace hX:=hX.keep hbX hX.lt;replace hG:=hG.keep hbX hG.lt;have HOV1:=Lib.hid ((HOV.out.keep hbX).weaken (Nat.le_refl _) hbX.size);have HOF1:=Lib.hid ((HOF.out.keep hbX).weaken (Nat.le_refl _) hbX.size);replace hb:=bT' hb hbX hb.size;clear hbX HOV HOF HDI HFr;refine hK.out _ _ ?_ (fun _=>?_)
           · ((try dsimp only);(exact ⟨hG.cell 0,hG.cell 1⟩))
           clear hK K
           (try simp only [Act.put,pA,pB,pC])
           refine hdC 3 (fun K hK=>?_);have cX:=hX.cell 0;have cX1:=hX.cell 1;have fX:=hX.frozen 0;have fX1:=hX.frozen 1
           (go_simp;go_wp2_with fail)
           clear cX cX1 fX fX1;have hTo:Touch (fun q=>q=gX) W1 ((W1.setCell ⟨gX,0,none⟩ (.slice da i dc)).setCell ⟨gX,1,none⟩ (.slice ia i ic)):=Touch.of_only (((Only.refl gX W1).set 0 _).set 1 _);replace hG:=(hG.far (p:=⟨gX,0,none⟩) (by dsimp only;omega) (.slice da i dc)).far (p:=⟨gX,1,none⟩) (by dsimp only;omega) (.slice ia i ic);replace hX:=(hX.set 0 (.slice da i dc)).set 1 (.slice ia i ic);have hV9:=(HOV1.out.touch hTo (fun g h1 h2=>by omega)).weaken (lo':=w.heap.size) (hi':=((W1.setCell ⟨gX,0,none⟩ (.slice da i dc)).setCell ⟨gX,1,none⟩ (.slice ia i ic)).heap.size) (by omega) (by simp);have hF9:=(HOF1.out.touch hTo (fun g h1 h2=>by omega)).weaken (lo':=w.heap.size) (hi':=((W1.setCell ⟨gX,0,none⟩ (.slice da i dc)).setCell ⟨gX,1,none⟩ (.slice ia i ic)).heap.size) (by omega) (by simp);replace hb:=(hb.setCell (p:=⟨gX,0,none⟩) hwX (.slice da i dc)).setCell (p:=⟨gX,1,none⟩) hwX (.slice ia i ic);clear hTo HOV1 HOF1;refine hK.out _ _ ?_ (fun _=>?_)
           · ((try dsimp only);(exact ⟨hG.cell 0,hG.cell 1⟩))
           clear hK K
           (try simp only [Act.put,pA,pB,pC])
           refine hdT 4 ?_;refine wpAnyH_done (by kernel_rfl) ?_ _;go_wp2_with fail
           exact bodyPost_ret (results_row2 rfl _ _ gX 36 #[.slice da i dc,.slice ia i ic] (0,0) _ rfl hX Tryz.underlying36 rfl Tryz.info_alg) rfl ⟨da,i,dc,ia,i,ic,q,Z,I,rfl,fun h=>⟨by rw [okMo,HNO.out];exact if_pos (by rw [HQ.out];exact h),hV9,hF9⟩,fun h=>by rw [okMo,HNO.out];exact if_neg (by rw [HQ.out,h];simp),hb⟩
end Go.Proofs.YtfpniioegjpfeaaGreatDoor
