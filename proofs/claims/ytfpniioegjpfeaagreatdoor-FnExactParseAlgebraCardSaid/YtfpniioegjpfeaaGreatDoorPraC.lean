
import Derived.Test.YtfpniioegjpfeaaGreatDoorPrsF
import Derived.Test.YtfpniioegjpfeaaGreatDoorAlgS
import Derived.Test.YtfpniioegjpfeaaGreatDoorNewA
namespace Go.Proofs.YtfpniioegjpfeaaGreatDoor
set_option maxRecDepth 100000
open Go.RowKit Go.Deep
theorem news1p (w:World) (v:Value) (t:TypeId):∀j u,([v]:List Value)[j]? = some u→(w.alloc (.cells #[v] t)).cell? ((⟨w.heap.size,0,none⟩:Addr).add j)=some u:=fun j u hu=>by
 rw [Addr.add_mid]
 exact (Own.new w t #[v]).range j u hu
theorem row_grown2 {w w':World} {B B2 sz sz2 n m:Nat} {t t':TypeId} {v u:Value} {xs ys:List Value} (h:w.ownsRow B t sz v n xs) (hu:w.ownsRow B2 t' sz2 u m ys) (ht:t≠t') (hg:w.grownBy w' u.ownBlock):w'.ownsRow B t sz v n xs:=by
 refine World.ownsRow.kept h hg ?_
 cases hv:v.ownBlock with
 | none=>exact Or.inl rfl
 | some q =>
   obtain ⟨os,ho⟩:=row_own h hv;exact Or.inr (own_ne_row ho hu ht)
def Parts (R:List (Int × List Tm)):Prop:=(∀x∈R,(-9223372036854775808≤x.1∧x.1≤9223372036854775807)∧∀u∈x.2,IsTm u)∧R.length≤8∧∀x∈R,x.2.length≤400
def RdAl (l:List UInt8) (w:World) (e:Ending) (w':World):Prop:=∃(da:Option Addr) (dn dc:Nat) (ia:Option Addr) (iN ic:Nat) (b:Bool) (R:List (Int × List Tm)),
 e=.returned (.tuple #[.agg #[.slice da dn dc,.slice ia iN ic],.bool b])∧OwnV w' w.heap.size w'.heap.size da dn (R.map (·.1))∧OwnF w' w.heap.size w'.heap.size ia iN (R.map (·.2))∧Parts R∧RdO (rdA l) b R∧Below w.heap.size w w'
theorem Parts.nil:Parts []:=⟨by simp,by simp,by simp⟩
theorem frmsN_vals {w:World} {B C n:Nat} {v:Value} {vs:List Value} {fss:List (List Tm)} (h:w.ownsRow B 25 1 v n vs) (hV:Vals w C vs fss) (hl:fss.length=n) (hT:∀ts∈fss,∀t∈ts,IsTm t) (hn:0<n):∃g c,v=.slice (some ⟨g,0,none⟩) n c∧FrmsN w (some ⟨g,0,none⟩) n fss:=by
 have hc:=fun g=>World.ownsRow.cells (g:=g) h
 have hvl:vs.length=n:=by have:=h.1;omega
 rcases h.2 with ⟨hv,h0⟩ | ⟨g,cap,cur,hv,hb,hg,hnc,_⟩
 · omega
 · refine ⟨g,cap,hv,hl,fun _=>⟨g,0,rfl,(Array.getElem?_eq_some_iff.1 hg).1,fun i ts hi=>?_⟩⟩;have hii:=(List.getElem?_eq_some_iff.1 hi).1;have hu:vs[i]? = some (vs[i]'(by omega)):=List.getElem?_eq_getElem (by omega);have hr:=hV.each i _ ts hu hi;obtain ⟨a,c,h1,h2⟩:=hr.terms (hT ts (List.mem_of_getElem? hi)) rfl;have h4:=hc g (by rw [hv];rfl) i _ hu;rw [Addr.add_mid] at h4;refine ⟨a,ts.length,c,by rw [h4,h1],h2,?_⟩
   rcases hr.2 with ⟨q,q0⟩ | ⟨g',cap',cur',q,_⟩
   · rw [h1] at q;simp only [Value.slice.injEq] at q;exact Or.inl q
   · rw [h1] at q;simp only [Value.slice.injEq] at q;exact Or.inr ⟨g',0,q.1⟩
theorem ints_rowP {w:World} {B n:Nat} {v:Value} {zs:List Int} (h:w.ownsRow B 2 1 v n (zs.map (Value.int .i64))) (hn:0<n):∃g c,v=.slice (some ⟨g,0,none⟩) n c∧Ints w (some ⟨g,0,none⟩) n zs:=by
 obtain ⟨a,c,hv,hO⟩:=OwnV.of_row h
 have hi:=hO.ints
 obtain ⟨g,cs,e,-⟩:=hO.2 hn
 subst e
 exact ⟨g,c,hv,hi⟩
theorem sumLen_bdP {B:Nat}:∀{V:List (List Tm)},(∀ts∈V,ts.length≤B)→sumLen V≤V.length * B
 | [],_=>by simp [sumLen]
 | x :: V, h => by
   have ih:=sumLen_bdP (V:=V) (fun ts ht=>h ts (by simp [ht]));have h1:=h x (by simp);simp only [sumLen,List.map_cons,List.sum_cons,List.length_cons] at ih ⊢;rw [Nat.succ_mul];omega
set_option maxHeartbeats 4000000 in
theorem readAlgebra_c (l : List UInt8) (w : World) (hl : l.length ≤ 1048576) (hE : Errs w) :
    Calls Tryz.prog 28 #[str l] w fun e w'=>RdAl l w e w':=by
 have hsz:(⟨l.toArray⟩:ByteArray).size<4294967281:=by rw [show (⟨l.toArray⟩:ByteArray).size=l.length by simp [ByteArray.size]];omega
 have HE:=Lib.hid hE
 clear hE
 have hX:=(Own.new w 36 #[.slice none 0 0,.slice none 0 0]).alloc (.cells #[.slice none 0 0,.slice none 0 0] 36)
 have hG:=Own.new (w.alloc (.cells #[.slice none 0 0,.slice none 0 0] 36)) 36 #[.slice none 0 0,.slice none 0 0]
 rw [sAl] at hG
 have hb:=bTn (bA1 w (.cells #[.slice none 0 0,.slice none 0 0] 36)) (bA1 _ (.cells #[.slice none 0 0,.slice none 0 0] 36))
 go_enter Tryz.func28,Tryz.ntmps28
 go_upto_region 2 with fail
 generalize (w.alloc (.cells #[.slice none 0 0,.slice none 0 0] 36)).alloc (.cells #[.slice none 0 0,.slice none 0 0] 36)=w2 at *
 obtain ⟨gX,hgX⟩:∃g,w.heap.size=g:=⟨_,rfl⟩
 obtain ⟨g8,hg8⟩:∃g,w.heap.size+1=g:=⟨_,rfl⟩
 rw [hgX] at hX
 rw [hg8] at hG
 try rw [hg8]
 try rw [hgX]
 have hX8:gX<g8:=by omega
 have hwX:w.heap.size≤gX:=by omega
 have HGX:=Lib.hid hgX
 clear hgX hg8
 have cX:=hX.cell 0
 have cX1:=hX.cell 1
 have fX:=hX.frozen 0
 have fX1:=hX.frozen 1
 have cG:=hG.cell 0
 have cG1:=hG.cell 1
 cases hc:(l==[]) with
 | true =>
   have he:l=[]:=(by simpa using hc);subst he;go_wp2_with fail
   have hX9:=(hX.set 0 (.slice none 0 0)).set 1 (.slice none 0 0);exact bodyPost_ret (results_row2 rfl _ _ gX 36 #[.slice none 0 0,.slice none 0 0] (0,0) _ rfl hX9 Tryz.underlying36 rfl Tryz.info_alg) rfl ⟨none,0,0,none,0,0,true,[],rfl,OwnV.none_,OwnF.none_,Parts.nil,RdO.yes rfl,(hb.setCell (p:=⟨gX,0,none⟩) hwX _).setCell (p:=⟨gX,1,none⟩) hwX _⟩
 | false =>
   have hne:¬l=[]:=(by intro e;subst e;cases hc);go_wp2_with fail
   refine (Tryz.strings_Count_one ⟨l.toArray⟩ 59 w2).mono ?_;rintro e w2 ⟨rfl,rfl⟩;rw [show Lib.countByte (⟨l.toArray⟩:ByteArray).data.toList 59=l.count 59 by simp [Lib.countByte]];obtain ⟨n,hn⟩:∃n,l.count 59=n:=⟨_,rfl⟩;rw [hn];have HC:=Lib.hid hn;by_cases hmany:8≤n
   · have hm2:(8:Int)≤(n:Int):=(by omega);have HF:Hid (rdA l=none):=Lib.hid (by rw [rdA,if_neg hne,if_pos (by omega)]);clear hne hn;go_wp2_with fail
     have hX9:=(hX.set 0 (.slice none 0 0)).set 1 (.slice none 0 0);exact bodyPost_ret (results_row2 rfl _ _ gX 36 #[.slice none 0 0,.slice none 0 0] (0,0) _ rfl hX9 Tryz.underlying36 rfl Tryz.info_alg) rfl ⟨none,0,0,none,0,0,false,[],rfl,OwnV.none_,OwnF.none_,Parts.nil,RdO.no HF.out,(hb.setCell (p:=⟨gX,0,none⟩) hwX _).setCell (p:=⟨gX,1,none⟩) hwX _⟩
   · have hm2:¬(8:Int)≤(n:Int):=(by omega);have hn4:n<8:=(by omega);obtain ⟨P,hP⟩:∃P,Lib.splitK [59] 0 n l=P:=⟨_,rfl⟩;have HPL:Hid (P.length=n+1):=Lib.hid (by rw [←hP,←hn];exact split_len 59 l);have HPB:Hid (∀p∈P,p.length≤1048576):=Lib.hid (by rw [←hP];exact splitK_le [59] 1048576 n l hl);have HRF:Hid (rdA l=P.mapM rdG):=Lib.hid (by rw [rdA,if_neg hne,if_neg (by omega),hn,hP]);obtain ⟨mx,hmx⟩:=(HE.out.keep (hb.mono (Nat.le_refl _))).2.2;clear hne hn cX cX1 fX fX1 cG cG1;have hcnt:Lib.countB ⟨l.toArray⟩ ⟨#[59]⟩=n:=(by rw [countB_one,HC.out]);have hcell:(Lib.splitB ⟨#[59]⟩ 0 n ⟨l.toArray⟩).map Value.string=P.map str:=(by rw [split_cells];exact congrArg (List.map str) hP);clear hP;go_wp2_with fail
     refine (Tryz.strings_Split ⟨l.toArray⟩ ⟨#[59]⟩ mx w2 hsz hmx (by simp [ByteArray.size])).mono ?_;rintro e w4 ⟨rfl,hw4⟩;rw [hcnt] at hw4 ⊢;rw [hcell] at hw4;have hS:=Own.new w2 9 (P.map str).toArray;have hbS:=bA1 w2 (.cells (P.map str).toArray 9);rw [←hw4] at hS hbS;have hX4:=hX.keep hbS hX.lt;have hG4:=hG.keep hbS hG.lt;have hb4:=bT' hb hbS hb.size;have h8S:g8<w2.heap.size:=hG.lt;clear hX hG hb hbS hw4 hcnt hcell hsz hmx;obtain ⟨gS,hgS⟩:∃g,w2.heap.size=g:=⟨_,rfl⟩;rw [hgS] at hS h8S
     try rw [hgS]
     clear hgS;clear w2;go_upto_region 7 with fail
     go_loopw [24] (fun y wr=>∃(k:Nat) (da:Option Addr) (dc:Nat) (ia:Option Addr) (ic:Nat) (vs:List Value) (R:List (Int × List Tm)),k≤n+1∧y=.int .i64 k∧(P.take k).mapM rdG=some R∧R.length=k∧Below w.heap.size w wr∧Own wr gX 36 #[.slice none 0 0,.slice none 0 0]∧Own wr g8 36 #[.slice da k dc,.slice ia k ic]∧Own wr gS 9 (P.map str).toArray∧wr.ownsRow (gS+1) 2 1 (.slice da k dc) k ((R.map (·.1)).map (Value.int .i64))∧wr.ownsRow (gS+1) 25 1 (.slice ia k ic) k vs∧Vals wr (gS+1) vs (R.map (·.2))∧∀x∈R,x.2.length≤400) (fun y _=>n+1 - (intOf y).toNat)
     case atStart=>exact ⟨0,none,0,none,0,[],[],Nat.zero_le _,rfl,rfl,rfl,hb4,hX4,hG4,hS,World.ownsRow_nil _ _ _ _,World.ownsRow_nil _ _ _ _,Vals.nil _ _,by simp⟩
     case round=>
      clear hX4 hG4 hS hb4;obtain ⟨k,da,dc,ia,ic,vs,R,hk,rfl,hts,hRk,hb,hX,hG,hS,hD,hI,hV,h400⟩:=hrel;have hk0:(0:Int)≤(k:Int):=(by omega);have HD:=Lib.hid hD;have HII:=Lib.hid hI;have HV:=Lib.hid hV;have H4:=Lib.hid h400;have HTS:=Lib.hid hts;have HRK:=Lib.hid hRk;clear hD hI hV h400 hts hRk;by_cases hkn:k<n+1
      · have hki:(k:Int)<(n:Int)+1:=(by omega);obtain ⟨p,hp⟩:∃p,P[k]? = some p:=⟨_,List.getElem?_eq_getElem (by rw [HPL.out];exact hkn)⟩;have HPK:=Lib.hid hp;have hpl:=HPB.out p (List.mem_of_getElem? hp);have cS:wr.cell? ⟨gS,k,none⟩=some (str p):=(by rw [hS.cell k];simp [hp]);clear hp;obtain ⟨mx,hmx⟩:=(HE.out.keep (hb.mono (Nat.le_refl _))).2.2;go_wp2_with fail
        refine (Tryz.strings_Cut ⟨p.toArray⟩ ⟨#[58]⟩ mx wr (by rw [show (⟨p.toArray⟩:ByteArray).size=p.length by simp [ByteArray.size]];omega) hmx).mono ?_;rintro e w5 ⟨rfl,q,hw5⟩;have hb5:Below wr.heap.size wr w5:=(by rw [hw5];exact below_drewN (Below.refl _ _) q);clear hw5 hmx cS;rw [show Lib.cut (⟨p.toArray⟩:ByteArray).data.toList (⟨#[58]⟩:ByteArray).data.toList=Lib.cut p [58] by simp];have hcl:=cut_len p [58];have hno:=rdG_no p;have hyes:=fun f m=>@rdG_yes p f m;obtain ⟨ra,rb,fd,hcut⟩:∃ra rb fd,Lib.cut p [58]=(ra,rb,fd):=⟨_,_,_,rfl⟩;rw [hcut] at hcl hno hyes ⊢;simp only at hcl hno hyes;have HNO:=Lib.hid hno;have HYES:=Lib.hid hyes;have hla:=hcl.1;have hlb:=hcl.2;clear hcl hno hyes hcut;replace hX:=hX.keep hb5 hX.lt;replace hG:=hG.keep hb5 hG.lt;replace hS:=hS.keep hb5 hS.lt;replace HD:=Lib.hid (row_keep HD.out hb5);replace HII:=Lib.hid (row_keep HII.out hb5);replace HV:=Lib.hid (HV.out.keep hb5);replace hb:=bT' hb hb5 hb.size;clear hb5;go_wp2_with fail
        refine (parseI_c ra w5 (by omega) (HE.out.keep (hb.mono (Nat.le_refl _)))).mono ?_;rintro e w6 ⟨z,ev,b1,rfl,hcase,hb6⟩;replace hX:=hX.keep hb6 hX.lt;replace hG:=hG.keep hb6 hG.lt;replace hS:=hS.keep hb6 hS.lt;replace HD:=Lib.hid (row_keep HD.out hb6);replace HII:=Lib.hid (row_keep HII.out hb6);replace HV:=Lib.hid (HV.out.keep hb6);replace hb:=bT' hb hb6 hb.size;clear hb6;go_wp2_with fail
        refine (readForm_c rb w6 (by omega) (HE.out.keep (hb.mono (Nat.le_refl _)))).mono ?_;rintro e w7 ⟨va,vn,vc,b2,ts,rfl,hO,hTm,hl4,hrd,hb7⟩;have hlt6:=HV.out.lt;have hs67:=hb7.size;have hsz6:=hS.lt;replace hX:=hX.keep hb7 hX.lt;replace hG:=hG.keep hb7 hG.lt;replace hS:=hS.keep hb7 hS.lt;replace HD:=Lib.hid (row_keep HD.out hb7);replace HII:=Lib.hid (row_keep HII.out hb7);replace HV:=Lib.hid (HV.out.keep hb7);replace hb:=bT' hb hb7 hb.size;clear hb7;have hF:=Own.new w7 25 #[.slice va vn vc];have hb8:=bA1 w7 (.cells #[.slice va vn vc] 25);have hFl:gS<w7.heap.size:=hS.lt;have hs78:=hb8.size;replace hO:=hO.keep hb8;replace hX:=hX.keep hb8 hX.lt;replace hG:=hG.keep hb8 hG.lt;replace hS:=hS.keep hb8 hS.lt;replace HD:=Lib.hid (row_keep HD.out hb8);replace HII:=Lib.hid (row_keep HII.out hb8);replace HV:=Lib.hid (HV.out.keep hb8);replace hb:=bT' hb hb8 hb.size;clear hb8;go_upto_region 12 with fail
        generalize w7.alloc (.cells #[.slice va vn vc] 25)=w8 at *;obtain ⟨gF,hgF⟩:∃g,w7.heap.size=g:=⟨_,rfl⟩;rw [hgF] at hF hFl
        try rw [hgF]
        clear hgF;have HO:=Lib.hid hO;have HTM:=Lib.hid hTm;have HL4:=Lib.hid hl4;have HRD:=Lib.hid hrd;have HLT:=Lib.hid hlt6;clear hO hTm hl4 hrd hlt6
        cases fd with
        | false =>
          clear hcase;have HF:Hid (rdA l=none):=Lib.hid (by rw [HRF.out];exact mapM_none (HNO.out (Or.inl rfl)) (List.mem_of_getElem? HPK.out));have cX:=hX.cell 0;have cX1:=hX.cell 1;have fX:=hX.frozen 0;have fX1:=hX.frozen 1;go_wp2_with fail
          have hX9:=(hX.set 0 (.slice none 0 0)).set 1 (.slice none 0 0);exact bodyPost_ret (results_row2 rfl _ _ gX 36 #[.slice none 0 0,.slice none 0 0] (0,0) _ rfl hX9 Tryz.underlying36 rfl Tryz.info_alg) rfl ⟨none,0,0,none,0,0,false,[],rfl,OwnV.none_,OwnF.none_,Parts.nil,RdO.no HF.out,(hb.setCell (p:=⟨gX,0,none⟩) hwX _).setCell (p:=⟨gX,1,none⟩) hwX _⟩
        | true =>
          rcases hcase with ⟨rfl,rfl,hp⟩ | ⟨rfl,⟨te,pe,rfl⟩,hp⟩
          · cases b2 with
            | false =>
              have HN2:=Lib.hid (HRD.out.2 rfl);clear hp;have HF:Hid (rdA l=none):=Lib.hid (by rw [HRF.out];exact mapM_none (HNO.out (Or.inr (Or.inr HN2.out))) (List.mem_of_getElem? HPK.out));have cX:=hX.cell 0;have cX1:=hX.cell 1;have fX:=hX.frozen 0;have fX1:=hX.frozen 1;go_wp2_with fail
              have hX9:=(hX.set 0 (.slice none 0 0)).set 1 (.slice none 0 0);exact bodyPost_ret (results_row2 rfl _ _ gX 36 #[.slice none 0 0,.slice none 0 0] (0,0) _ rfl hX9 Tryz.underlying36 rfl Tryz.info_alg) rfl ⟨none,0,0,none,0,0,false,[],rfl,OwnV.none_,OwnF.none_,Parts.nil,RdO.no HF.out,(hb.setCell (p:=⟨gX,0,none⟩) hwX _).setCell (p:=⟨gX,1,none⟩) hwX _⟩
            | true =>
              have HG:=Lib.hid (HYES.out z _ rfl hp (HRD.out.1 rfl))
              have HT9:Hid ((P.take (k+1)).mapM rdG=some (R++[(z,ts)])):=Lib.hid (by
               rw [List.take_add_one,HPK.out]
               exact mapM_snoc HTS.out HG.out)
              clear hp;obtain ⟨ti,tz,hti,htz,hts,htb,htzs⟩:=Tryz.info_intA;have HI:=Lib.hid hti;have HZ:=Lib.hid htz;have HSz:=Lib.hid hts;have HBt:=Lib.hid htb;have HZs:=Lib.hid htzs;obtain ⟨tf,tfz,htif,htzf,htsf,htbf,htzsf⟩:=Tryz.info_formA;have HIf:=Lib.hid htif;have HZf:=Lib.hid htzf;have HSf:=Lib.hid htsf;have HBf:=Lib.hid htbf;have HZsf:=Lib.hid htzsf;clear htif htzf htsf htbf htzsf;have HOn2:Hid (∀u∈([Value.slice va vn vc]:List Value),u.oneCell'=true):=Lib.hid (by simp [Value.oneCell']);have HN:=Lib.hid (news1p w8 (.int .i64 z) 2);have HOn:Hid (∀u∈([Value.int .i64 z]:List Value),u.oneCell'=true):=Lib.hid (by simp [Value.oneCell']);have cG:=hG.cell 0;have cG1:=hG.cell 1;have cF:=hF.cell 0;have hba:=bA1 w8 (.cells #[.int .i64 z] 2);have hsS:gS<w8.heap.size:=hS.lt;have hsF:gF<w8.heap.size:=hF.lt;have HFFl:Hid (w6.heap.size≤w8.heap.size):=Lib.hid (Nat.le_trans hs67 hs78);have HDa:=Lib.hid (row_keep HD.out hba);have HIa:=Lib.hid (row_keep HII.out hba);have HVa:=Lib.hid (HV.out.keep hba);have HFa:=Lib.hid (HO.out.keep hba);have hXa:=hX.keep hba hX.lt;have hGa:=hG.keep hba hG.lt;have hSa:=hS.keep hba hS.lt;have hFa:=hF.keep hba hF.lt;have hb9:=bT' hb hba hb.size;clear hti htz hts htb htzs hX hG hS HD HII HV hb hba HO;clear hF
              go_wp2_with (first
               | (refine wpList_append_own_wide _ rfl (.tmp 56) (.tmp 58) 22 rfl (gS + 1) 2 ti tz 1 8 Tryz.underlying22 HI.out HZ.out HSz.out HBt.out HZs.out (by omega) (.slice da k dc) k _ rfl HDa.out ⟨w8.heap.size, 0, none⟩ 1 1 [Value.int .i64 z] rfl rfl HN.out HOn.out (by simp only [maxLen]; omega) (by omega) (by rw [sAl]; omega) (fun v' w' h2 h3 h4 => ?_)
                  obtain ⟨na,nc,rfl⟩:=row_slice h2;have hr:∀q,(Value.slice da k dc).ownBlock=some q→gS+1≤q:=fun q e=>(HDa.out.lt q e).1;have hXb:=hXa.grown h3 (fun e=>by have:=hr _ e.symm;omega);have hGb:=hGa.grown h3 (fun e=>by have:=hr _ e.symm;omega);have hSb:=hSa.grown h3 (fun e=>by have:=hr _ e.symm;omega);have hFb:=hFa.grown h3 (own_ne_row hFa HDa.out (by decide));have hbb:=grown_below hb9 h3 (fun q e=>by have:=hr q e;omega) hb9.size;have HIb:=Lib.hid (row_grown2 HIa.out HDa.out (by decide) h3)
                  have HVb:=Lib.hid (HVa.out.grownN h3 (fun i u q hu hq e=>by
                   obtain ⟨os,ho⟩:=row_own HDa.out e;obtain ⟨ts',-,hr'⟩:=HVa.out.at_ hu
                   exact own_ne_row ho hr' (by decide) hq.symm))
                  have HFFb:=Lib.hid (row_grown2 HFa.out HDa.out (by decide) h3);have fG2:=hGb.frozen 0;have cG2:=hGb.cell 0;have hl8:(⟨g8,0,none⟩:Addr).block<gS+1:=(by dsimp only;omega);have hXc:=hXb.far (p:=⟨g8,0,none⟩) (by dsimp only;omega) (.slice na (k+1) nc);have hSc:=hSb.far (p:=⟨g8,0,none⟩) (by dsimp only;omega) (.slice na (k+1) nc);have hFc:=hFb.far (p:=⟨g8,0,none⟩) (by dsimp only;omega) (.slice na (k+1) nc);have hGc:=hGb.set 0 (.slice na (k+1) nc);have hbc:=hbb.setCell (p:=⟨g8,0,none⟩) (by dsimp only;omega) (.slice na (k+1) nc);have hIc:=ownsRow_setCell_below HIb.out hl8 (.slice na (k+1) nc);have hVc:=HVb.out.farB (p:=⟨g8,0,none⟩) hl8 (.slice na (k+1) nc);have hFFc:=ownsRow_setCell_below HFFb.out (a:=⟨g8,0,none⟩) (by dsimp only;omega) (.slice na (k+1) nc);have hDc:=ownsRow_setCell_below h2 hl8 (.slice na (k+1) nc);have cF2:=hFc.cell 0;have cG3:=hGc.cell 1;have hba2:=bA1 (w'.setCell ⟨g8,0,none⟩ (.slice na (k+1) nc)) (.cells #[.slice va vn vc] 25);have hn2:=news1p (w'.setCell ⟨g8,0,none⟩ (.slice na (k+1) nc)) (.slice va vn vc) 25;rw [World.size_setCell] at hn2;have HN2:=Lib.hid hn2;clear hn2;have hsW:gS<(w'.setCell ⟨g8,0,none⟩ (.slice na (k+1) nc)).heap.size:=hSc.lt;have hFW:w6.heap.size≤(w'.setCell ⟨g8,0,none⟩ (.slice na (k+1) nc)).heap.size:=(by have:=HFFl.out;have:=h3.size;rw [sAl] at this;rw [World.size_setCell];omega);have hXd:=hXc.keep hba2 hXc.lt;have hSd:=hSc.keep hba2 hSc.lt;have hGd:=hGc.keep hba2 hGc.lt;have HId:=Lib.hid (row_keep hIc hba2);have HVd:=Lib.hid (hVc.keep hba2);have HDd:=Lib.hid (row_keep hDc hba2);have HFd:=Lib.hid (row_keep hFFc hba2);have hbd:=bT' hbc hba2 hbc.size
                  clear h2 h3 h4 hXa hGa hSa hFa hb9 HIa HDa HVa HFa hr HN HOn hXb hGb hSb hFb hbb HIb HVb HFFb hXc hSc hFc hbc hIc hVc hFFc hDc hba2 hl8)
               | (refine wpList_append_own_wide _ rfl (.tmp 62) (.tmp 64) 34 rfl (gS + 1) 25 tf tfz 1 24 Tryz.underlying34 HIf.out HZf.out HSf.out HBf.out HZsf.out (by omega) (.slice ia k ic) k vs rfl HId.out ⟨w'.heap.size, 0, none⟩ 1 1 [Value.slice va vn vc] rfl rfl HN2.out HOn2.out (by simp only [maxLen]; omega) (by omega) (by rw [sAl]; omega) (fun v' w'' h2 h3 h4 => ?_)
                  obtain ⟨ma,mc,rfl⟩:=row_slice h2;have hr:∀q,(Value.slice ia k ic).ownBlock=some q→gS+1≤q:=fun q e=>(HId.out.lt q e).1;have hXe:=hXd.grown h3 (fun e=>by have:=hr _ e.symm;omega);have hGe:=hGd.grown h3 (fun e=>by have:=hr _ e.symm;omega);have hSe:=hSd.grown h3 (fun e=>by have:=hr _ e.symm;omega);have hbe:=grown_below hbd h3 (fun q e=>by have:=hr q e;omega) hbd.size;have HDe:=Lib.hid (row_grown2 HDd.out HId.out (by decide) h3);have HVe:=Lib.hid (HVd.out.grown h3 (fun q e=>row_own HId.out e));have HFe:=Lib.hid (row_grown2 HFd.out HId.out (by decide) h3);have cG4:=hGe.cell 1;have fG4:=hGe.frozen 1;have H2e:=Lib.hid h2
                  clear h2 h3 h4 hr hXd hGd hSd hbd HDd HVd HFd HId HN2))
              have hl9:(⟨g8,1,none⟩:Addr).block<gS+1:=(by dsimp only;omega);have hXf:=hXe.far (p:=⟨g8,1,none⟩) (by dsimp only;omega) (.slice ma (k+1) mc);have hSf:=hSe.far (p:=⟨g8,1,none⟩) (by dsimp only;omega) (.slice ma (k+1) mc);have hGf:=hGe.set 1 (.slice ma (k+1) mc);have hbf:=hbe.setCell (p:=⟨g8,1,none⟩) (by dsimp only;omega) (.slice ma (k+1) mc)
              go_roundw
              case rel=>
               refine ⟨k+1,na,nc,ma,mc,vs++[.slice va vn vc],R++[(z,ts)],by omega,by go_num,HT9.out,by simp [HRK.out],hbf,hXf,hGf,hSf,?_,?_,?_,?_⟩
               · rw [List.map_append,List.map_append];exact ownsRow_setCell_below HDe.out hl9 _
               · exact ownsRow_setCell_below H2e.out hl9 _
               · rw [List.map_append];exact (HVe.out.snoc (C:=w6.heap.size) HLT.out (by omega) HFe.out).farB hl9 _
               · intro x hx
                 rcases List.mem_append.1 hx with hx | hx
                 · exact H4.out x hx
                 · rw [List.mem_singleton] at hx;subst hx;exact HL4.out
              case measure=>simp [intOf] <;> omega
          · have HN2:=Lib.hid hp;clear hp;have HF:Hid (rdA l=none):=Lib.hid (by rw [HRF.out];exact mapM_none (HNO.out (Or.inr (Or.inl HN2.out))) (List.mem_of_getElem? HPK.out));have cX:=hX.cell 0;have cX1:=hX.cell 1;have fX:=hX.frozen 0;have fX1:=hX.frozen 1;go_wp2_with fail
            have hX9:=(hX.set 0 (.slice none 0 0)).set 1 (.slice none 0 0);exact bodyPost_ret (results_row2 rfl _ _ gX 36 #[.slice none 0 0,.slice none 0 0] (0,0) _ rfl hX9 Tryz.underlying36 rfl Tryz.info_alg) rfl ⟨none,0,0,none,0,0,false,[],rfl,OwnV.none_,OwnF.none_,Parts.nil,RdO.no HF.out,(hb.setCell (p:=⟨gX,0,none⟩) hwX _).setCell (p:=⟨gX,1,none⟩) hwX _⟩
      · have he:k=n+1:=(by omega);subst he;have hts:=HTS.out;rw [List.take_of_length_le (by rw [HPL.out];exact Nat.le_refl _)] at hts;have HRR:=Lib.hid (HRF.out.trans hts);have HPT:Hid (Parts R):=Lib.hid ⟨rdA_tm HRR.out,by rw [HRK.out];omega,H4.out⟩
        have hT:∀ts∈R.map (·.2),∀t∈ts,IsTm t:=by
         intro ts h t ht;obtain ⟨x,hx,rfl⟩:=List.mem_map.1 h;exact (HPT.out.1 x hx).2 t ht
        have HSum:Hid (sumLen (R.map (·.2))≤1048576):=Lib.hid (by
         have h1:=sumLen_bdP (B:=400) (V:=R.map (·.2)) (fun ts h=>by obtain ⟨x,hx,rfl⟩:=List.mem_map.1 h;exact H4.out x hx);rw [List.length_map,HRK.out] at h1
         omega)
        obtain ⟨gD,cD,heD,hDI⟩:=ints_rowP HD.out (by omega);simp only [Value.slice.injEq] at heD;obtain ⟨rfl,-,rfl⟩:=heD;obtain ⟨gI,cI,heI,hIN⟩:=frmsN_vals HII.out HV.out (by rw [List.length_map,HRK.out]) hT (by omega);simp only [Value.slice.injEq] at heI;obtain ⟨rfl,-,rfl⟩:=heI;have HTm:=Lib.hid hT;have HDI:=Lib.hid hDI;have HIN:=Lib.hid hIN;have cG:=hG.cell 0;have cG1:=hG.cell 1;clear hts hT hDI hIN hS;go_wp2_with fail
        refine (newAlgebra_c dc ic HDI.out (by omega) HIN.out (by omega) HTm.out HSum.out).mono ?_;rintro e w5 ⟨ra,rac,rb,rfl,hOV,hOF,hb5⟩;have hXl:gX<wr.heap.size:=hX.lt;replace hX:=hX.keep hb5 hX.lt;replace hb:=bT' hb hb5 hb.size;have hsz5:=hb5.size;clear hb5 hG cG cG1;have cX:=hX.cell 0;have cX1:=hX.cell 1;have fX:=hX.frozen 0;have fX1:=hX.frozen 1;have HOV:=Lib.hid hOV;have HOF:=Lib.hid hOF;clear hOV hOF;go_wp2_with fail
        have hX9:=(hX.set 0 (.slice ra (n+1) rac)).set 1 (.slice rb (n+1) (n+1));have hTo:Touch (fun q=>q=gX) w5 ((w5.setCell ⟨gX,0,none⟩ (.slice ra (n+1) rac)).setCell ⟨gX,1,none⟩ (.slice rb (n+1) (n+1))):=Touch.of_only (((Only.refl gX w5).set 0 _).set 1 _);exact bodyPost_ret (results_row2 rfl _ _ gX 36 #[.slice ra (n+1) rac,.slice rb (n+1) (n+1)] (0,0) _ rfl hX9 Tryz.underlying36 rfl Tryz.info_alg) rfl ⟨ra,n+1,rac,rb,n+1,n+1,true,R,rfl,(HOV.out.touch hTo (fun g h1 h2=>by omega)).weaken (by have:=hb.size;omega) (by simp),(HOF.out.touch hTo (fun g h1 h2=>by omega)).weaken (by have:=hb.size;omega) (by simp),HPT.out,RdO.yes HRR.out,(hb.setCell (p:=⟨gX,0,none⟩) hwX _).setCell (p:=⟨gX,1,none⟩) hwX _⟩
end Go.Proofs.YtfpniioegjpfeaaGreatDoor
