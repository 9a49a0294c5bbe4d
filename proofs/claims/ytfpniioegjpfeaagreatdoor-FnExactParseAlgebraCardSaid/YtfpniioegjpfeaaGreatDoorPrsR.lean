
import Derived.Test.YtfpniioegjpfeaaGreatDoorPrsQ
import Derived.Test.YtfpniioegjpfeaaGreatDoorPrsF
import Derived.Test.YtfpniioegjpfeaaGreatDoorHeld
namespace Go.Proofs.YtfpniioegjpfeaaGreatDoor
set_option maxRecDepth 100000
open Go.RowKit Go.Deep
theorem row_ownP {w:World} {B n:Nat} {t:TypeId} {v:Value} {xs:List Value} (h:w.ownsRow B t 1 v n xs) (hn:0<n):∃g cap cur,v=.slice (some ⟨g,0,none⟩) n cap∧B≤g∧Own w g t cur∧∀(i:Nat) u,xs[i]? = some u→cur[i]? = some u:=by
 rcases h.2 with ⟨-,h0⟩ | ⟨g,cap,cur,e,h1,h2,-,-,-,h3⟩
 · omega
 · refine ⟨g,cap,cur,e,h1,h2,fun i u hu=>?_⟩;rw [←h3,List.getElem?_take] at hu;split at hu
   · rwa [Array.getElem?_toList] at hu
   · cases hu
theorem splA_pos (c:UInt8):∀(l cur:List UInt8),0<(splA c cur l).length
 | [],_=>by simp [splA]
 | x :: l, cur => by
   rw [splA];split
   · simp
   · exact splA_pos c l _
theorem splA_le (c:UInt8) (n:Nat):∀(l cur:List UInt8),cur.length+l.length≤n→∀p∈splA c cur l,p.length≤n
 | [], cur, h, p, hp => by
   rw [splA,List.mem_singleton] at hp;subst hp;simpa using h
 | x :: l, cur, h, p, hp => by
   simp only [List.length_cons] at h;rw [splA] at hp;split at hp
   · rcases List.mem_cons.1 hp with rfl | hp
     · omega
     · exact splA_le c n l [] (by simp;omega) p hp
   · exact splA_le c n l (cur++[x]) (by rw [List.length_append,List.length_singleton];omega) p hp
def PaO (zs:List Int) (l:List UInt8) (b:Bool) (ts:List Tm):Prop:=(b=true→paG zs l (rdFs l)=some ts)∧(b=false→paG zs l (rdFs l)=none)
theorem PaO.no {zs:List Int} {l:List UInt8} {ts:List Tm} (h:paG zs l (rdFs l)=none):PaO zs l false ts:=⟨fun h=>(by cases h),fun _=>h⟩
theorem PaO.yes {zs:List Int} {l:List UInt8} {ts:List Tm} (h:paG zs l (rdFs l)=some ts):PaO zs l true ts:=⟨fun _=>h,fun h=>(by cases h)⟩
def RdMo (zs:List Int) (l:List UInt8) (w:World) (e:Ending) (w':World):Prop:=∃(va:Option Addr) (vn vc:Nat) (b:Bool) (ts:List Tm),e=.returned (.tuple #[.agg #[.slice va vn vc],.bool b])∧OwnR w' w.heap.size (.slice va vn vc) ts∧(∀t∈ts,IsTm t)∧PaO zs l b ts∧Below w.heap.size w w'
theorem pa_none {zs:List Int} {l:List UInt8} (h:rdFs l=none):paG zs l (rdFs l)=none:=by rw [h];rfl
set_option maxHeartbeats 8000000 in
theorem l01Read_c {w : World} {da : Option Addr} {dn : Nat} {zs : List Int} (dc : Nat) (l : List UInt8) (hd : Ints w da dn zs) (hdn : dn ≤ 1048576) (hz : degsOk zs = true) (hl : l.length ≤ 1048576) :
    Calls Tryz.prog 19 #[.slice da dn dc,str l] w fun e w'=>RdMo zs l w e w':=by
 have HD:=Lib.hid hd
 have HDZ:=Lib.hid hz
 clear hd hz
 have hX:=(Own.new w 25 #[.slice none 0 0]).alloc (.cells #[.slice none 0 0] 25)
 have hG:=Own.new (w.alloc (.cells #[.slice none 0 0] 25)) 25 #[.slice none 0 0]
 rw [sAl] at hG
 have hb:=bTn (bA1 w (.cells #[.slice none 0 0] 25)) (bA1 _ (.cells #[.slice none 0 0] 25))
 go_enter Tryz.func19,Tryz.ntmps19
 go_upto_region 2 with fail
 generalize (w.alloc (.cells #[.slice none 0 0] 25)).alloc (.cells #[.slice none 0 0] 25)=w2 at *
 obtain ⟨gX,hgX⟩:∃g,w.heap.size=g:=⟨_,rfl⟩
 obtain ⟨g8,hg8⟩:∃g,w.heap.size+1=g:=⟨_,rfl⟩
 rw [hgX] at hX
 rw [hg8] at hG
 try rw [hg8]
 try rw [hgX]
 have hX8:gX<g8:=by omega
 have hwX:w.heap.size≤gX:=by omega
 have hw8:w.heap.size≤g8:=by omega
 clear hgX hg8
 cases hc:(l==[48]) with
 | true =>
   have he:l=[48]:=(by simpa using hc);subst he;have cX:=hX.cell 0;have fX:=hX.frozen 0;have cG:=hG.cell 0
   have HF:Hid (paG zs [48] (rdFs [48])=some []):=Lib.hid (by
    rw [show rdFs [48]=some [] from rfl,paG]
    exact if_pos ⟨by rw [isForm,HDZ.out];rfl,rfl⟩)
   go_wp2_with fail
   have hX9:=hX.set 0 (.slice none 0 0);exact bodyPost_ret (results_row2 rfl _ _ gX 25 #[.slice none 0 0] (0,0) _ rfl hX9 Tryz.underlying25 rfl Tryz.info_form) rfl ⟨none,0,0,true,[],rfl,World.ownsRow_nil _ _ _ _,by simp,PaO.yes HF.out,hb.setCell (p:=⟨gX,0,none⟩) hwX _⟩
 | false =>
   have hne:¬l=[48]:=(by intro e;subst e;cases hc);go_wp2_with fail
   refine (l01Split_c l 43 43 rfl w2 hl).mono ?_;rintro e w3 ⟨pa,pc,rfl,hP,hb3⟩;obtain ⟨R,hR⟩:∃R,splA 43 [] l=R:=⟨_,rfl⟩;have hpos:=splA_pos 43 l [];have hRB:=splA_le 43 1048576 l [] (by simpa using hl);rw [hR] at hP hpos hRB ⊢;obtain ⟨gS,cap,cur,hve,hgS,hS,hcur⟩:=row_ownP hP hpos;simp only [Value.slice.injEq,true_and] at hve;obtain ⟨rfl,rfl⟩:=hve;have hGl:g8<w2.heap.size:=hG.lt;replace hX:=hX.keep hb3 hX.lt;replace hG:=hG.keep hb3 hG.lt;replace hb:=bT' hb hb3 hb.size;have hgS8:g8<gS:=(by omega);clear hP hb3 hgS hGl;clear w2;have HRB:=Lib.hid hRB;have HCU:=Lib.hid hcur;clear hRB hcur;by_cases hmany:400<R.length
   · have hm2:(400:Int)<(R.length:Int):=(by omega);have HF:Hid (paG zs l (rdFs l)=none):=Lib.hid (pa_none (by rw [rdFs,if_neg hne,hR,if_pos hmany]));clear hne hR;have cX:=hX.cell 0;have fX:=hX.frozen 0;go_wp2_with fail
     have hX9:=hX.set 0 (.slice none 0 0);exact bodyPost_ret (results_row2 rfl _ _ gX 25 #[.slice none 0 0] (0,0) _ rfl hX9 Tryz.underlying25 rfl Tryz.info_form) rfl ⟨none,0,0,false,[],rfl,World.ownsRow_nil _ _ _ _,by simp,PaO.no HF.out,hb.setCell (p:=⟨gX,0,none⟩) hwX _⟩
   · have hm2:¬(400:Int)<(R.length:Int):=(by omega);have HRF:Hid (rdFs l=R.mapM rdTs):=Lib.hid (by rw [rdFs,if_neg hne,hR,if_neg hmany]);have hR4:R.length≤400:=(by omega);clear hne hR;go_upto_region 8 with fail
     have hSl0:gS<w3.heap.size:=hS.lt;obtain ⟨Bf,hBf⟩:∃b,gS+1=b:=⟨_,rfl⟩
     go_loopw [8] (fun y wr=>∃(k:Nat) (va:Option Addr) (vn vc:Nat) (ts:List Tm),k≤R.length∧y=.int .i64 k∧(R.take k).mapM rdTs=some ts∧Below w.heap.size w wr∧Own wr gX 25 #[.slice none 0 0]∧Own wr g8 25 #[.slice va vn vc]∧Own wr gS 9 cur∧OwnForm wr Bf (.slice va vn vc) ts) (fun y _=>R.length - (intOf y).toNat)
     case atStart=>exact ⟨0,none,0,0,[],Nat.zero_le _,rfl,rfl,hb,hX,hG,hS,⟨World.ownsRow_nil _ _ _ _,by simp⟩⟩
     case round=>
      clear hX hG hS hb hSl0;obtain ⟨k,va,vn,vc,ts,hk,rfl,hts,hb,hX,hG,hS,hO⟩:=hrel;have hk0:(0:Int)≤(k:Int):=(by omega);by_cases hkn:k<R.length
      · have hki:(k:Int)<(R.length:Int):=(by omega);obtain ⟨p,hp⟩:∃p,R[k]? = some p:=⟨_,List.getElem?_eq_getElem hkn⟩;have HPK:=Lib.hid hp;have hpl:=HRB.out p (List.mem_of_getElem? hp);have cS:wr.cell? ⟨gS,k,none⟩=some (str p):=(by rw [hS.cell k];exact HCU.out k _ (by rw [List.getElem?_map,hp];rfl));have HTS:=Lib.hid hts;have HOB:Hid (∀q,(Value.slice va vn vc).ownBlock=some q→q<wr.heap.size):=Lib.hid (fun q e=>(hO.1.lt q e).2);have hSwr:=hS.lt;clear hts hp;go_wp2_with fail
        refine (l01Split_c p 42 42 rfl wr hpl).mono ?_;rintro e w5 ⟨qa,qc,rfl,hQ,hb5⟩;obtain ⟨Hh,hHh⟩:∃Hh,splA 42 [] p=Hh:=⟨_,rfl⟩;have hpos2:=splA_pos 42 p [];have hHB:=splA_le 42 1048576 p [] (by simpa using hpl);rw [hHh] at hQ hpos2 hHB ⊢;obtain ⟨gQ,cap2,cur2,hve,hgQ,hQO,hcur2⟩:=row_ownP hQ hpos2;simp only [Value.slice.injEq,true_and] at hve;obtain ⟨rfl,rfl⟩:=hve;have hSl:Bf≤w5.heap.size:=(by have:=hS.lt;have:=hb5.size;omega);replace hX:=hX.keep hb5 hX.lt;replace hG:=hG.keep hb5 hG.lt;replace hS:=hS.keep hb5 hS.lt;replace hO:=hO.keep hb5;replace hb:=bT' hb hb5 hb.size;have hgQB:Bf≤gQ:=(by omega);have hb5s:=hb5.size;clear hQ hb5 cS;by_cases h2:Hh.length=2
        · have g2:((Hh.length:Int)==2)=true:=by rw [h2];rfl
          obtain ⟨A,B,hAB⟩:∃A B,Hh=[A,B]:=by
           match Hh,h2 with
           | [A,B],_=>exact ⟨A,B,rfl⟩
          have cA:w5.cell? ⟨gQ,0,none⟩=some (str A):=(by rw [hQO.cell 0];exact hcur2 0 _ (by rw [hAB];rfl));have cB:w5.cell? ⟨gQ,1,none⟩=some (str B):=(by rw [hQO.cell 1];exact hcur2 1 _ (by rw [hAB];rfl));have hAl:A.length≤1048576:=hHB A (by rw [hAB];simp);have hBl:B.length≤1048576:=hHB B (by rw [hAB];simp)
          have HTT:Hid (rdTs p=match naM B with
           | some m=>some ⟨m,nbD A⟩
           | none => none) := Lib.hid (by
             rw [rdTs,hHh,hAB]
             show (match naM B with | some m=>some (⟨m,nbD A⟩:Tm) | none=>none)=_
             cases naM B <;> rfl)
          have hQc:Own w5 gQ 9 cur2:=hQO;rw [h2];clear hHB hcur2 hpos2 hHh hAB g2 h2;go_wp2_with fail
          refine (l01Named_c B w5 hBl).mono ?_;rintro e w6 ⟨x0,x1,x2,x3,x4,x5,x6,x7,b,rfl,hmo,hrd,hb6⟩;have hb6s:=Nat.le_trans hb5s hb6.size;replace hX:=hX.keep hb6 hX.lt;replace hG:=hG.keep hb6 hG.lt;replace hS:=hS.keep hb6 hS.lt;replace hO:=hO.keep hb6;have hQ6:=hQc.keep hb6 hQc.lt;have hcA:cur2[0]? = some (str A):=(by rw [←cA,hQc.cell 0]);replace hb:=bT' hb hb6 hb.size;clear hb6 cA cB hQc hQO;have hM:=Own.new w6 60 #[.int .u8 x0,.int .u8 x1,.int .u8 x2,.int .u8 x3,.int .u8 x4,.int .u8 x5,.int .u8 x6,.int .u8 x7];have hb7:=bA1 w6 (.cells #[.int .u8 x0,.int .u8 x1,.int .u8 x2,.int .u8 x3,.int .u8 x4,.int .u8 x5,.int .u8 x6,.int .u8 x7] 60);have hSl6:Bf≤w6.heap.size:=(by have:=hS.lt;omega);have hgMw:wr.heap.size≤w6.heap.size:=(by have:=hb6s;omega);replace hX:=hX.keep hb7 hX.lt;replace hG:=hG.keep hb7 hG.lt;replace hS:=hS.keep hb7 hS.lt;replace hO:=hO.keep hb7;have hQ7:=hQ6.keep hb7 hQ6.lt;replace hb:=bT' hb hb7 hb.size;clear hb7 hQ6;go_upto_region 14 with fail
          generalize w6.alloc (.cells #[.int .u8 x0,.int .u8 x1,.int .u8 x2,.int .u8 x3,.int .u8 x4,.int .u8 x5,.int .u8 x6,.int .u8 x7] 60)=w7 at *;obtain ⟨gM,hgM⟩:∃g,w6.heap.size=g:=⟨_,rfl⟩;rw [hgM] at hM hSl6 hgMw
          try rw [hgM]
          clear hgM
          cases b with
          | false =>
            have HF:Hid (paG zs l (rdFs l)=none):=Lib.hid (pa_none (by
             rw [HRF.out];refine mapM_none (a:=p) ?_ (List.mem_of_getElem? HPK.out)
             rw [HTT.out,hrd.2 rfl]))
            have cX:=hX.cell 0;have fX:=hX.frozen 0;go_wp2_with fail
            have hX9:=hX.set 0 (.slice none 0 0);exact bodyPost_ret (results_row2 rfl _ _ gX 25 #[.slice none 0 0] (0,0) _ rfl hX9 Tryz.underlying25 rfl Tryz.info_form) rfl ⟨none,0,0,false,[],rfl,World.ownsRow_nil _ _ _ _,by simp,PaO.no HF.out,hb.setCell (p:=⟨gX,0,none⟩) hwX _⟩
          | true =>
            have hrt:rdTs p=some ⟨[x0,x1,x2,x3,x4,x5,x6,x7],nbD A⟩:=(by rw [HTT.out,hrd.1 rfl]);obtain ⟨f,hf⟩:∃f,nbD A=f:=⟨_,rfl⟩;have HFN:=Lib.hid hf;rw [hf] at hrt
            have HT9:Hid ((R.take (k+1)).mapM rdTs=some (ts++[⟨[x0,x1,x2,x3,x4,x5,x6,x7],f⟩])):=Lib.hid (by
             rw [List.take_add_one,HPK.out]
             exact mapM_snoc HTS.out hrt)
            have HTL:Hid (ts.length=k):=Lib.hid (by
             have h1:=mapM_len HTS.out;rw [List.length_take] at h1
             omega)
            obtain ⟨ti,tz,hti,htz,hts,htb,htzs⟩:=Tryz.info_termA;have HI:=Lib.hid hti;have HZ:=Lib.hid htz;have HS:=Lib.hid hts;have HBt:=Lib.hid htb;have HZs:=Lib.hid htzs;clear hti htz hts htb htzs hf hrt hrd;have cA:w7.cell? ⟨gQ,0,none⟩=some (str A):=(by rw [hQ7.cell 0];exact hcA);have cG:=hG.cell 0;obtain ⟨⟨m0,m1,m2,m3,m4,m5,m6,m7⟩,-⟩:=eight_cells hM;go_upto_region 16 with fail
            clear cG cA m0 m1 m2 m3 m4 m5 m6 m7;replace hX:Own w7.drew gX 25 #[.slice none 0 0]:=hX;replace hG:Own w7.drew g8 25 #[.slice va vn vc]:=hG;replace hS:Own w7.drew gS 9 cur:=hS;replace hO:OwnForm w7.drew Bf (.slice va vn vc) ts:=hO;replace hM:Own w7.drew gM 60 #[.int .u8 x0,.int .u8 x1,.int .u8 x2,.int .u8 x3,.int .u8 x4,.int .u8 x5,.int .u8 x6,.int .u8 x7]:=hM;have hQ8:Own w7.drew gQ 9 cur2:=hQ7;replace hb:Below w.heap.size w w7.drew:=hb.drew;clear hQ7;have hSl7:Bf≤w7.drew.heap.size:=(by have:=hS.lt;omega);refine wp_region_held_drew (S:=(fun w'=>w'.cell? ⟨gM,0,none⟩=some (.int .u8 x0)∧w'.cell? ⟨gM,1,none⟩=some (.int .u8 x1)∧w'.cell? ⟨gM,2,none⟩=some (.int .u8 x2)∧w'.cell? ⟨gM,3,none⟩=some (.int .u8 x3)∧w'.cell? ⟨gM,4,none⟩=some (.int .u8 x4)∧w'.cell? ⟨gM,5,none⟩=some (.int .u8 x5)∧w'.cell? ⟨gM,6,none⟩=some (.int .u8 x6)∧w'.cell? ⟨gM,7,none⟩=some (.int .u8 x7)∧w'.cell? ⟨gQ,0,none⟩=some (str A))) (by kernel_rfl) ?_ (fun _=>?_)
            · ((try dsimp only);(exact ⟨(eight_cells hM).1.1,(eight_cells hM).1.2.1,(eight_cells hM).1.2.2.1,(eight_cells hM).1.2.2.2.1,(eight_cells hM).1.2.2.2.2.1,(eight_cells hM).1.2.2.2.2.2.1,(eight_cells hM).1.2.2.2.2.2.2.1,(eight_cells hM).1.2.2.2.2.2.2.2,(hQ8.cell 0).trans hcA⟩))
            generalize w7.drew=W0 at *;refine hdT 0 ?_;refine hdT 2 ?_;refine hdT 3 ?_;refine wpAnyH_ready (rs:=[1,4]) (by kernel_rfl) (by simp) ?_;refine AllReadyH.cons (hdAt (i:=1) rfl) (fun K hK=>?_) (AllReadyH.cons (hdAt (i:=4) rfl) (fun K hK=>?_) AllReadyH.nil)
            · have cG:=hG.cell 0
              (go_simp;go_wp2_with fail)
              clear cG;refine hK.out _ _ ?_ (fun _=>?_)
              · ((try dsimp only);(exact ⟨(eight_cells hM).1.1,(eight_cells hM).1.2.1,(eight_cells hM).1.2.2.1,(eight_cells hM).1.2.2.2.1,(eight_cells hM).1.2.2.2.2.1,(eight_cells hM).1.2.2.2.2.2.1,(eight_cells hM).1.2.2.2.2.2.2.1,(eight_cells hM).1.2.2.2.2.2.2.2,(hQ8.cell 0).trans hcA⟩))
              clear hK K
              (try simp only [Act.put,pA,pB,pC])
              refine hdC 4 (fun K hK=>?_)
              (go_simp;try go_wp2_with fail)
              refine hK.out _ _ ?_ (fun _=>?_)
              · ((try dsimp only);(exact ⟨(eight_cells hM).1.1,(eight_cells hM).1.2.1,(eight_cells hM).1.2.2.1,(eight_cells hM).1.2.2.2.1,(eight_cells hM).1.2.2.2.2.1,(eight_cells hM).1.2.2.2.2.2.1,(eight_cells hM).1.2.2.2.2.2.2.1,(eight_cells hM).1.2.2.2.2.2.2.2,(hQ8.cell 0).trans hcA⟩))
              clear hK K
              (try simp only [Act.put,pA,pB,pC])
              refine hdT 5 ?_;refine hdC 6 (fun K hK=>?_)
              (go_simp;(go_at_call 38;refine (l01Number_c A _ hAl).mono ?_;rintro e W1 ⟨rfl,hbX⟩);go_wp2_with fail)
              rw [HFN.out];replace hX:=hX.keep hbX hX.lt;replace hG:=hG.keep hbX hG.lt;replace hS:=hS.keep hbX hS.lt;replace hM:=hM.keep hbX hM.lt;replace hQ8:=hQ8.keep hbX hQ8.lt;replace hO:=hO.keep hbX;replace hb:=bT' hb hbX hb.size;replace hSl7:=Nat.le_trans hSl7 hbX.size;clear hbX;refine hK.out _ _ ?_ (fun _=>?_)
              · ((try dsimp only);(exact ⟨(eight_cells hM).1.1,(eight_cells hM).1.2.1,(eight_cells hM).1.2.2.1,(eight_cells hM).1.2.2.2.1,(eight_cells hM).1.2.2.2.2.1,(eight_cells hM).1.2.2.2.2.2.1,(eight_cells hM).1.2.2.2.2.2.2.1,(eight_cells hM).1.2.2.2.2.2.2.2,(hQ8.cell 0).trans hcA⟩))
              clear hK K
              (try simp only [Act.put,pA,pB,pC])
              refine hdT 7 ?_;refine hdC 8 (fun K hK=>?_)
              (go_simp;try go_wp2_with fail)
              have hnews:∀j u,([Value.int .u8 x0,.int .u8 x1,.int .u8 x2,.int .u8 x3,.int .u8 x4,.int .u8 x5,.int .u8 x6,.int .u8 x7,.int .i64 f]:List Value)[j]? = some u→(W1.alloc (.cells #[.int .u8 x0,.int .u8 x1,.int .u8 x2,.int .u8 x3,.int .u8 x4,.int .u8 x5,.int .u8 x6,.int .u8 x7,.int .i64 f] 65)).cell? ((⟨W1.heap.size,0,none⟩:Addr).add j)=some u:=fun j u hu=>by
               rw [Addr.add_mid];exact (Own.new W1 65 #[.int .u8 x0,.int .u8 x1,.int .u8 x2,.int .u8 x3,.int .u8 x4,.int .u8 x5,.int .u8 x6,.int .u8 x7,.int .i64 f]).range j u hu
              have hone:∀u∈([Value.int .u8 x0,.int .u8 x1,.int .u8 x2,.int .u8 x3,.int .u8 x4,.int .u8 x5,.int .u8 x6,.int .u8 x7,.int .i64 f]:List Value),u.oneCell'=true:=(by simp [Value.oneCell']);have HN:=Lib.hid hnews;have HO:=Lib.hid hone;have hbX:=bA1 W1 (.cells #[.int .u8 x0,.int .u8 x1,.int .u8 x2,.int .u8 x3,.int .u8 x4,.int .u8 x5,.int .u8 x6,.int .u8 x7,.int .i64 f] 65);clear hnews hone;replace hX:=hX.keep hbX hX.lt;replace hG:=hG.keep hbX hG.lt;replace hS:=hS.keep hbX hS.lt;replace hM:=hM.keep hbX hM.lt;replace hQ8:=hQ8.keep hbX hQ8.lt;replace hO:=hO.keep hbX;replace hb:=bT' hb hbX hb.size;replace hSl7:=Nat.le_trans hSl7 hbX.size;clear hbX;refine hK.out _ _ ?_ (fun _=>?_)
              · ((try dsimp only);(exact ⟨(eight_cells hM).1.1,(eight_cells hM).1.2.1,(eight_cells hM).1.2.2.1,(eight_cells hM).1.2.2.2.1,(eight_cells hM).1.2.2.2.2.1,(eight_cells hM).1.2.2.2.2.2.1,(eight_cells hM).1.2.2.2.2.2.2.1,(eight_cells hM).1.2.2.2.2.2.2.2,(hQ8.cell 0).trans hcA⟩))
              clear hK K
              (try simp only [Act.put,pA,pB,pC])
              refine hdC 9 (fun K hK=>?_);rw [if_pos (by rfl)];have hOa:=hO.1;refine wp_append_own_wide _ (.tmp 48) (.tmp 55) 23 rfl Bf 65 ti tz 9 16 Tryz.underlying23 HI.out HZ.out HS.out HBt.out HZs.out (by omega) (.slice va vn vc) _ _ rfl hOa ⟨W1.heap.size,0,none⟩ 1 1 [Value.int .u8 x0,.int .u8 x1,.int .u8 x2,.int .u8 x3,.int .u8 x4,.int .u8 x5,.int .u8 x6,.int .u8 x7,.int .i64 f] rfl rfl HN.out HO.out (by have:=HTL.out;simp only [maxLen];omega) (by have:=HTL.out;omega) hSl7 (fun v' w' h2 h3 h4=>?_)
              obtain ⟨gg,vk,cp,rfl⟩:∃gg vk cp,v'=.slice gg vk cp:=by
               rcases h2.2 with ⟨h0,_⟩ | ⟨g,cap,cur,hv,_⟩
               · exact ⟨_,_,_,h0⟩
               · exact ⟨_,_,_,hv⟩
              have hbb:=grown_below hb h3 (fun q e=>by have:=(hOa.lt q e).1;omega) hb.size;replace hX:=hX.grown h3 (fun e=>by have:=(hOa.lt _ e.symm).1;omega);replace hG:=hG.grown h3 (fun e=>by have:=(hOa.lt _ e.symm).1;omega);replace hS:=hS.grown h3 (fun e=>by have:=(hOa.lt _ e.symm).1;omega);replace hM:=hM.grown h3 (fun e=>by have:=HOB.out _ e.symm;omega);replace hQ8:=hQ8.grown h3 (fun e=>by have:=HOB.out _ e.symm;omega);have H2:=Lib.hid h2;have H4:=Lib.hid h4;clear h2 h3 h4 hOa hO hb hSl7;refine hK.out _ _ ?_ (fun _=>?_)
              · ((try dsimp only);(exact ⟨(eight_cells hM).1.1,(eight_cells hM).1.2.1,(eight_cells hM).1.2.2.1,(eight_cells hM).1.2.2.2.1,(eight_cells hM).1.2.2.2.2.1,(eight_cells hM).1.2.2.2.2.2.1,(eight_cells hM).1.2.2.2.2.2.2.1,(eight_cells hM).1.2.2.2.2.2.2.2,(hQ8.cell 0).trans hcA⟩))
              clear hK K
              (try simp only [Act.put,pA,pB,pC])
              refine hdT 10 ?_;refine hdC 11 (fun K hK=>?_);have c7:=hG.cell 0;have f7:=hG.frozen 0
              (go_simp;go_wp2_with fail)
              have hXc:=hX.far (p:=⟨g8,0,none⟩) (by dsimp only;omega) (.slice gg vk cp);have hSc:=hS.far (p:=⟨g8,0,none⟩) (by dsimp only;omega) (.slice gg vk cp);replace hM:=hM.far (p:=⟨g8,0,none⟩) (by dsimp only;omega) (.slice gg vk cp);replace hQ8:=hQ8.far (p:=⟨g8,0,none⟩) (by dsimp only;omega) (.slice gg vk cp);have hGc:=hG.set 0 (.slice gg vk cp);have hbc:=hbb.setCell (p:=⟨g8,0,none⟩) (by dsimp only;omega) (.slice gg vk cp);refine hK.out _ _ ?_ (fun _=>?_)
              · ((try dsimp only);(exact ⟨(eight_cells hM).1.1,(eight_cells hM).1.2.1,(eight_cells hM).1.2.2.1,(eight_cells hM).1.2.2.2.1,(eight_cells hM).1.2.2.2.2.1,(eight_cells hM).1.2.2.2.2.2.1,(eight_cells hM).1.2.2.2.2.2.2.1,(eight_cells hM).1.2.2.2.2.2.2.2,(hQ8.cell 0).trans hcA⟩))
              clear hK K
              (try simp only [Act.put,pA,pB,pC])
              refine wpAnyH_done (by kernel_rfl) ?_ _;go_wp2_with fail
              go_roundw
              case rel=>
               refine ⟨k+1,gg,vk,cp,_,by omega,by go_num,HT9.out,hbc,hXc,hGc,hSc,?_⟩;exact OwnForm.set (p:=⟨g8,0,none⟩) (OwnForm.of H2.out (by simp) (by rw [rcells_append];rfl) ⟨fun e=>absurd (H4.out.1 e).2 (by omega),fun e=>by simp at e⟩) (by dsimp only;omega) _
              case measure=>simp [intOf] <;> omega
            · (go_simp;try go_wp2_with fail)
              refine hK.out _ _ ?_ (fun _=>?_)
              · ((try dsimp only);(exact ⟨(eight_cells hM).1.1,(eight_cells hM).1.2.1,(eight_cells hM).1.2.2.1,(eight_cells hM).1.2.2.2.1,(eight_cells hM).1.2.2.2.2.1,(eight_cells hM).1.2.2.2.2.2.1,(eight_cells hM).1.2.2.2.2.2.2.1,(eight_cells hM).1.2.2.2.2.2.2.2,(hQ8.cell 0).trans hcA⟩))
              clear hK K
              (try simp only [Act.put,pA,pB,pC])
              refine hdT 5 ?_;refine wpAnyH_ready (rs:=[1,6]) (by kernel_rfl) (by simp) ?_;refine AllReadyH.cons (hdAt (i:=1) rfl) (fun K hK=>?_) (AllReadyH.cons (hdAt (i:=6) rfl) (fun K hK=>?_) AllReadyH.nil)
              · have cG:=hG.cell 0
                (go_simp;go_wp2_with fail)
                clear cG;refine hK.out _ _ ?_ (fun _=>?_)
                · ((try dsimp only);(exact ⟨(eight_cells hM).1.1,(eight_cells hM).1.2.1,(eight_cells hM).1.2.2.1,(eight_cells hM).1.2.2.2.1,(eight_cells hM).1.2.2.2.2.1,(eight_cells hM).1.2.2.2.2.2.1,(eight_cells hM).1.2.2.2.2.2.2.1,(eight_cells hM).1.2.2.2.2.2.2.2,(hQ8.cell 0).trans hcA⟩))
                clear hK K
                (try simp only [Act.put,pA,pB,pC])
                refine hdC 6 (fun K hK=>?_)
                (go_simp;(go_at_call 38;refine (l01Number_c A _ hAl).mono ?_;rintro e W1 ⟨rfl,hbX⟩);go_wp2_with fail)
                rw [HFN.out];replace hX:=hX.keep hbX hX.lt;replace hG:=hG.keep hbX hG.lt;replace hS:=hS.keep hbX hS.lt;replace hM:=hM.keep hbX hM.lt;replace hQ8:=hQ8.keep hbX hQ8.lt;replace hO:=hO.keep hbX;replace hb:=bT' hb hbX hb.size;replace hSl7:=Nat.le_trans hSl7 hbX.size;clear hbX;refine hK.out _ _ ?_ (fun _=>?_)
                · ((try dsimp only);(exact ⟨(eight_cells hM).1.1,(eight_cells hM).1.2.1,(eight_cells hM).1.2.2.1,(eight_cells hM).1.2.2.2.1,(eight_cells hM).1.2.2.2.2.1,(eight_cells hM).1.2.2.2.2.2.1,(eight_cells hM).1.2.2.2.2.2.2.1,(eight_cells hM).1.2.2.2.2.2.2.2,(hQ8.cell 0).trans hcA⟩))
                clear hK K
                (try simp only [Act.put,pA,pB,pC])
                refine hdT 7 ?_;refine hdC 8 (fun K hK=>?_)
                (go_simp;try go_wp2_with fail)
                have hnews:∀j u,([Value.int .u8 x0,.int .u8 x1,.int .u8 x2,.int .u8 x3,.int .u8 x4,.int .u8 x5,.int .u8 x6,.int .u8 x7,.int .i64 f]:List Value)[j]? = some u→(W1.alloc (.cells #[.int .u8 x0,.int .u8 x1,.int .u8 x2,.int .u8 x3,.int .u8 x4,.int .u8 x5,.int .u8 x6,.int .u8 x7,.int .i64 f] 65)).cell? ((⟨W1.heap.size,0,none⟩:Addr).add j)=some u:=fun j u hu=>by
                 rw [Addr.add_mid];exact (Own.new W1 65 #[.int .u8 x0,.int .u8 x1,.int .u8 x2,.int .u8 x3,.int .u8 x4,.int .u8 x5,.int .u8 x6,.int .u8 x7,.int .i64 f]).range j u hu
                have hone:∀u∈([Value.int .u8 x0,.int .u8 x1,.int .u8 x2,.int .u8 x3,.int .u8 x4,.int .u8 x5,.int .u8 x6,.int .u8 x7,.int .i64 f]:List Value),u.oneCell'=true:=(by simp [Value.oneCell']);have HN:=Lib.hid hnews;have HO:=Lib.hid hone;have hbX:=bA1 W1 (.cells #[.int .u8 x0,.int .u8 x1,.int .u8 x2,.int .u8 x3,.int .u8 x4,.int .u8 x5,.int .u8 x6,.int .u8 x7,.int .i64 f] 65);clear hnews hone;replace hX:=hX.keep hbX hX.lt;replace hG:=hG.keep hbX hG.lt;replace hS:=hS.keep hbX hS.lt;replace hM:=hM.keep hbX hM.lt;replace hQ8:=hQ8.keep hbX hQ8.lt;replace hO:=hO.keep hbX;replace hb:=bT' hb hbX hb.size;replace hSl7:=Nat.le_trans hSl7 hbX.size;clear hbX;refine hK.out _ _ ?_ (fun _=>?_)
                · ((try dsimp only);(exact ⟨(eight_cells hM).1.1,(eight_cells hM).1.2.1,(eight_cells hM).1.2.2.1,(eight_cells hM).1.2.2.2.1,(eight_cells hM).1.2.2.2.2.1,(eight_cells hM).1.2.2.2.2.2.1,(eight_cells hM).1.2.2.2.2.2.2.1,(eight_cells hM).1.2.2.2.2.2.2.2,(hQ8.cell 0).trans hcA⟩))
                clear hK K
                (try simp only [Act.put,pA,pB,pC])
                refine hdC 9 (fun K hK=>?_);rw [if_pos (by rfl)];have hOa:=hO.1;refine wp_append_own_wide _ (.tmp 48) (.tmp 55) 23 rfl Bf 65 ti tz 9 16 Tryz.underlying23 HI.out HZ.out HS.out HBt.out HZs.out (by omega) (.slice va vn vc) _ _ rfl hOa ⟨W1.heap.size,0,none⟩ 1 1 [Value.int .u8 x0,.int .u8 x1,.int .u8 x2,.int .u8 x3,.int .u8 x4,.int .u8 x5,.int .u8 x6,.int .u8 x7,.int .i64 f] rfl rfl HN.out HO.out (by have:=HTL.out;simp only [maxLen];omega) (by have:=HTL.out;omega) hSl7 (fun v' w' h2 h3 h4=>?_)
                obtain ⟨gg,vk,cp,rfl⟩:∃gg vk cp,v'=.slice gg vk cp:=by
                 rcases h2.2 with ⟨h0,_⟩ | ⟨g,cap,cur,hv,_⟩
                 · exact ⟨_,_,_,h0⟩
                 · exact ⟨_,_,_,hv⟩
                have hbb:=grown_below hb h3 (fun q e=>by have:=(hOa.lt q e).1;omega) hb.size;replace hX:=hX.grown h3 (fun e=>by have:=(hOa.lt _ e.symm).1;omega);replace hG:=hG.grown h3 (fun e=>by have:=(hOa.lt _ e.symm).1;omega);replace hS:=hS.grown h3 (fun e=>by have:=(hOa.lt _ e.symm).1;omega);replace hM:=hM.grown h3 (fun e=>by have:=HOB.out _ e.symm;omega);replace hQ8:=hQ8.grown h3 (fun e=>by have:=HOB.out _ e.symm;omega);have H2:=Lib.hid h2;have H4:=Lib.hid h4;clear h2 h3 h4 hOa hO hb hSl7;refine hK.out _ _ ?_ (fun _=>?_)
                · ((try dsimp only);(exact ⟨(eight_cells hM).1.1,(eight_cells hM).1.2.1,(eight_cells hM).1.2.2.1,(eight_cells hM).1.2.2.2.1,(eight_cells hM).1.2.2.2.2.1,(eight_cells hM).1.2.2.2.2.2.1,(eight_cells hM).1.2.2.2.2.2.2.1,(eight_cells hM).1.2.2.2.2.2.2.2,(hQ8.cell 0).trans hcA⟩))
                clear hK K
                (try simp only [Act.put,pA,pB,pC])
                refine hdT 10 ?_;refine hdC 11 (fun K hK=>?_);have c7:=hG.cell 0;have f7:=hG.frozen 0
                (go_simp;go_wp2_with fail)
                have hXc:=hX.far (p:=⟨g8,0,none⟩) (by dsimp only;omega) (.slice gg vk cp);have hSc:=hS.far (p:=⟨g8,0,none⟩) (by dsimp only;omega) (.slice gg vk cp);replace hM:=hM.far (p:=⟨g8,0,none⟩) (by dsimp only;omega) (.slice gg vk cp);replace hQ8:=hQ8.far (p:=⟨g8,0,none⟩) (by dsimp only;omega) (.slice gg vk cp);have hGc:=hG.set 0 (.slice gg vk cp);have hbc:=hbb.setCell (p:=⟨g8,0,none⟩) (by dsimp only;omega) (.slice gg vk cp);refine hK.out _ _ ?_ (fun _=>?_)
                · ((try dsimp only);(exact ⟨(eight_cells hM).1.1,(eight_cells hM).1.2.1,(eight_cells hM).1.2.2.1,(eight_cells hM).1.2.2.2.1,(eight_cells hM).1.2.2.2.2.1,(eight_cells hM).1.2.2.2.2.2.1,(eight_cells hM).1.2.2.2.2.2.2.1,(eight_cells hM).1.2.2.2.2.2.2.2,(hQ8.cell 0).trans hcA⟩))
                clear hK K
                (try simp only [Act.put,pA,pB,pC])
                refine wpAnyH_done (by kernel_rfl) ?_ _;go_wp2_with fail
                go_roundw
                case rel=>
                 refine ⟨k+1,gg,vk,cp,_,by omega,by go_num,HT9.out,hbc,hXc,hGc,hSc,?_⟩;exact OwnForm.set (p:=⟨g8,0,none⟩) (OwnForm.of H2.out (by simp) (by rw [rcells_append];rfl) ⟨fun e=>absurd (H4.out.1 e).2 (by omega),fun e=>by simp at e⟩) (by dsimp only;omega) _
                case measure=>simp [intOf] <;> omega
              · (go_simp;(go_at_call 38;refine (l01Number_c A _ hAl).mono ?_;rintro e W1 ⟨rfl,hbX⟩);go_wp2_with fail)
                rw [HFN.out];replace hX:=hX.keep hbX hX.lt;replace hG:=hG.keep hbX hG.lt;replace hS:=hS.keep hbX hS.lt;replace hM:=hM.keep hbX hM.lt;replace hQ8:=hQ8.keep hbX hQ8.lt;replace hO:=hO.keep hbX;replace hb:=bT' hb hbX hb.size;replace hSl7:=Nat.le_trans hSl7 hbX.size;clear hbX;refine hK.out _ _ ?_ (fun _=>?_)
                · ((try dsimp only);(exact ⟨(eight_cells hM).1.1,(eight_cells hM).1.2.1,(eight_cells hM).1.2.2.1,(eight_cells hM).1.2.2.2.1,(eight_cells hM).1.2.2.2.2.1,(eight_cells hM).1.2.2.2.2.2.1,(eight_cells hM).1.2.2.2.2.2.2.1,(eight_cells hM).1.2.2.2.2.2.2.2,(hQ8.cell 0).trans hcA⟩))
                clear hK K
                (try simp only [Act.put,pA,pB,pC])
                refine hdT 7 ?_;refine wpAnyH_ready (rs:=[1,8]) (by kernel_rfl) (by simp) ?_;refine AllReadyH.cons (hdAt (i:=1) rfl) (fun K hK=>?_) (AllReadyH.cons (hdAt (i:=8) rfl) (fun K hK=>?_) AllReadyH.nil)
                · have cG:=hG.cell 0
                  (go_simp;go_wp2_with fail)
                  clear cG;refine hK.out _ _ ?_ (fun _=>?_)
                  · ((try dsimp only);(exact ⟨(eight_cells hM).1.1,(eight_cells hM).1.2.1,(eight_cells hM).1.2.2.1,(eight_cells hM).1.2.2.2.1,(eight_cells hM).1.2.2.2.2.1,(eight_cells hM).1.2.2.2.2.2.1,(eight_cells hM).1.2.2.2.2.2.2.1,(eight_cells hM).1.2.2.2.2.2.2.2,(hQ8.cell 0).trans hcA⟩))
                  clear hK K
                  (try simp only [Act.put,pA,pB,pC])
                  refine hdC 8 (fun K hK=>?_)
                  (go_simp;try go_wp2_with fail)
                  have hnews:∀j u,([Value.int .u8 x0,.int .u8 x1,.int .u8 x2,.int .u8 x3,.int .u8 x4,.int .u8 x5,.int .u8 x6,.int .u8 x7,.int .i64 f]:List Value)[j]? = some u→(W1.alloc (.cells #[.int .u8 x0,.int .u8 x1,.int .u8 x2,.int .u8 x3,.int .u8 x4,.int .u8 x5,.int .u8 x6,.int .u8 x7,.int .i64 f] 65)).cell? ((⟨W1.heap.size,0,none⟩:Addr).add j)=some u:=fun j u hu=>by
                   rw [Addr.add_mid];exact (Own.new W1 65 #[.int .u8 x0,.int .u8 x1,.int .u8 x2,.int .u8 x3,.int .u8 x4,.int .u8 x5,.int .u8 x6,.int .u8 x7,.int .i64 f]).range j u hu
                  have hone:∀u∈([Value.int .u8 x0,.int .u8 x1,.int .u8 x2,.int .u8 x3,.int .u8 x4,.int .u8 x5,.int .u8 x6,.int .u8 x7,.int .i64 f]:List Value),u.oneCell'=true:=(by simp [Value.oneCell']);have HN:=Lib.hid hnews;have HO:=Lib.hid hone;have hbX:=bA1 W1 (.cells #[.int .u8 x0,.int .u8 x1,.int .u8 x2,.int .u8 x3,.int .u8 x4,.int .u8 x5,.int .u8 x6,.int .u8 x7,.int .i64 f] 65);clear hnews hone;replace hX:=hX.keep hbX hX.lt;replace hG:=hG.keep hbX hG.lt;replace hS:=hS.keep hbX hS.lt;replace hM:=hM.keep hbX hM.lt;replace hQ8:=hQ8.keep hbX hQ8.lt;replace hO:=hO.keep hbX;replace hb:=bT' hb hbX hb.size;replace hSl7:=Nat.le_trans hSl7 hbX.size;clear hbX;refine hK.out _ _ ?_ (fun _=>?_)
                  · ((try dsimp only);(exact ⟨(eight_cells hM).1.1,(eight_cells hM).1.2.1,(eight_cells hM).1.2.2.1,(eight_cells hM).1.2.2.2.1,(eight_cells hM).1.2.2.2.2.1,(eight_cells hM).1.2.2.2.2.2.1,(eight_cells hM).1.2.2.2.2.2.2.1,(eight_cells hM).1.2.2.2.2.2.2.2,(hQ8.cell 0).trans hcA⟩))
                  clear hK K
                  (try simp only [Act.put,pA,pB,pC])
                  refine hdC 9 (fun K hK=>?_);rw [if_pos (by rfl)];have hOa:=hO.1;refine wp_append_own_wide _ (.tmp 48) (.tmp 55) 23 rfl Bf 65 ti tz 9 16 Tryz.underlying23 HI.out HZ.out HS.out HBt.out HZs.out (by omega) (.slice va vn vc) _ _ rfl hOa ⟨W1.heap.size,0,none⟩ 1 1 [Value.int .u8 x0,.int .u8 x1,.int .u8 x2,.int .u8 x3,.int .u8 x4,.int .u8 x5,.int .u8 x6,.int .u8 x7,.int .i64 f] rfl rfl HN.out HO.out (by have:=HTL.out;simp only [maxLen];omega) (by have:=HTL.out;omega) hSl7 (fun v' w' h2 h3 h4=>?_)
                  obtain ⟨gg,vk,cp,rfl⟩:∃gg vk cp,v'=.slice gg vk cp:=by
                   rcases h2.2 with ⟨h0,_⟩ | ⟨g,cap,cur,hv,_⟩
                   · exact ⟨_,_,_,h0⟩
                   · exact ⟨_,_,_,hv⟩
                  have hbb:=grown_below hb h3 (fun q e=>by have:=(hOa.lt q e).1;omega) hb.size;replace hX:=hX.grown h3 (fun e=>by have:=(hOa.lt _ e.symm).1;omega);replace hG:=hG.grown h3 (fun e=>by have:=(hOa.lt _ e.symm).1;omega);replace hS:=hS.grown h3 (fun e=>by have:=(hOa.lt _ e.symm).1;omega);replace hM:=hM.grown h3 (fun e=>by have:=HOB.out _ e.symm;omega);replace hQ8:=hQ8.grown h3 (fun e=>by have:=HOB.out _ e.symm;omega);have H2:=Lib.hid h2;have H4:=Lib.hid h4;clear h2 h3 h4 hOa hO hb hSl7;refine hK.out _ _ ?_ (fun _=>?_)
                  · ((try dsimp only);(exact ⟨(eight_cells hM).1.1,(eight_cells hM).1.2.1,(eight_cells hM).1.2.2.1,(eight_cells hM).1.2.2.2.1,(eight_cells hM).1.2.2.2.2.1,(eight_cells hM).1.2.2.2.2.2.1,(eight_cells hM).1.2.2.2.2.2.2.1,(eight_cells hM).1.2.2.2.2.2.2.2,(hQ8.cell 0).trans hcA⟩))
                  clear hK K
                  (try simp only [Act.put,pA,pB,pC])
                  refine hdT 10 ?_;refine hdC 11 (fun K hK=>?_);have c7:=hG.cell 0;have f7:=hG.frozen 0
                  (go_simp;go_wp2_with fail)
                  have hXc:=hX.far (p:=⟨g8,0,none⟩) (by dsimp only;omega) (.slice gg vk cp);have hSc:=hS.far (p:=⟨g8,0,none⟩) (by dsimp only;omega) (.slice gg vk cp);replace hM:=hM.far (p:=⟨g8,0,none⟩) (by dsimp only;omega) (.slice gg vk cp);replace hQ8:=hQ8.far (p:=⟨g8,0,none⟩) (by dsimp only;omega) (.slice gg vk cp);have hGc:=hG.set 0 (.slice gg vk cp);have hbc:=hbb.setCell (p:=⟨g8,0,none⟩) (by dsimp only;omega) (.slice gg vk cp);refine hK.out _ _ ?_ (fun _=>?_)
                  · ((try dsimp only);(exact ⟨(eight_cells hM).1.1,(eight_cells hM).1.2.1,(eight_cells hM).1.2.2.1,(eight_cells hM).1.2.2.2.1,(eight_cells hM).1.2.2.2.2.1,(eight_cells hM).1.2.2.2.2.2.1,(eight_cells hM).1.2.2.2.2.2.2.1,(eight_cells hM).1.2.2.2.2.2.2.2,(hQ8.cell 0).trans hcA⟩))
                  clear hK K
                  (try simp only [Act.put,pA,pB,pC])
                  refine wpAnyH_done (by kernel_rfl) ?_ _;go_wp2_with fail
                  go_roundw
                  case rel=>
                   refine ⟨k+1,gg,vk,cp,_,by omega,by go_num,HT9.out,hbc,hXc,hGc,hSc,?_⟩;exact OwnForm.set (p:=⟨g8,0,none⟩) (OwnForm.of H2.out (by simp) (by rw [rcells_append];rfl) ⟨fun e=>absurd (H4.out.1 e).2 (by omega),fun e=>by simp at e⟩) (by dsimp only;omega) _
                  case measure=>simp [intOf] <;> omega
                · (go_simp;try go_wp2_with fail)
                  have hnews:∀j u,([Value.int .u8 x0,.int .u8 x1,.int .u8 x2,.int .u8 x3,.int .u8 x4,.int .u8 x5,.int .u8 x6,.int .u8 x7,.int .i64 f]:List Value)[j]? = some u→(W1.alloc (.cells #[.int .u8 x0,.int .u8 x1,.int .u8 x2,.int .u8 x3,.int .u8 x4,.int .u8 x5,.int .u8 x6,.int .u8 x7,.int .i64 f] 65)).cell? ((⟨W1.heap.size,0,none⟩:Addr).add j)=some u:=fun j u hu=>by
                   rw [Addr.add_mid];exact (Own.new W1 65 #[.int .u8 x0,.int .u8 x1,.int .u8 x2,.int .u8 x3,.int .u8 x4,.int .u8 x5,.int .u8 x6,.int .u8 x7,.int .i64 f]).range j u hu
                  have hone:∀u∈([Value.int .u8 x0,.int .u8 x1,.int .u8 x2,.int .u8 x3,.int .u8 x4,.int .u8 x5,.int .u8 x6,.int .u8 x7,.int .i64 f]:List Value),u.oneCell'=true:=(by simp [Value.oneCell']);have HN:=Lib.hid hnews;have HO:=Lib.hid hone;have hbX:=bA1 W1 (.cells #[.int .u8 x0,.int .u8 x1,.int .u8 x2,.int .u8 x3,.int .u8 x4,.int .u8 x5,.int .u8 x6,.int .u8 x7,.int .i64 f] 65);clear hnews hone;replace hX:=hX.keep hbX hX.lt;replace hG:=hG.keep hbX hG.lt;replace hS:=hS.keep hbX hS.lt;replace hM:=hM.keep hbX hM.lt;replace hQ8:=hQ8.keep hbX hQ8.lt;replace hO:=hO.keep hbX;replace hb:=bT' hb hbX hb.size;replace hSl7:=Nat.le_trans hSl7 hbX.size;clear hbX;refine hK.out _ _ ?_ (fun _=>?_)
                  · ((try dsimp only);(exact ⟨(eight_cells hM).1.1,(eight_cells hM).1.2.1,(eight_cells hM).1.2.2.1,(eight_cells hM).1.2.2.2.1,(eight_cells hM).1.2.2.2.2.1,(eight_cells hM).1.2.2.2.2.2.1,(eight_cells hM).1.2.2.2.2.2.2.1,(eight_cells hM).1.2.2.2.2.2.2.2,(hQ8.cell 0).trans hcA⟩))
                  clear hK K
                  (try simp only [Act.put,pA,pB,pC])
                  refine hdC 1 (fun K hK=>?_);have cG:=hG.cell 0
                  (go_simp;go_wp2_with fail)
                  clear cG;refine hK.out _ _ ?_ (fun _=>?_)
                  · ((try dsimp only);(exact ⟨(eight_cells hM).1.1,(eight_cells hM).1.2.1,(eight_cells hM).1.2.2.1,(eight_cells hM).1.2.2.2.1,(eight_cells hM).1.2.2.2.2.1,(eight_cells hM).1.2.2.2.2.2.1,(eight_cells hM).1.2.2.2.2.2.2.1,(eight_cells hM).1.2.2.2.2.2.2.2,(hQ8.cell 0).trans hcA⟩))
                  clear hK K
                  (try simp only [Act.put,pA,pB,pC])
                  refine hdC 9 (fun K hK=>?_);rw [if_pos (by rfl)];have hOa:=hO.1;refine wp_append_own_wide _ (.tmp 48) (.tmp 55) 23 rfl Bf 65 ti tz 9 16 Tryz.underlying23 HI.out HZ.out HS.out HBt.out HZs.out (by omega) (.slice va vn vc) _ _ rfl hOa ⟨W1.heap.size,0,none⟩ 1 1 [Value.int .u8 x0,.int .u8 x1,.int .u8 x2,.int .u8 x3,.int .u8 x4,.int .u8 x5,.int .u8 x6,.int .u8 x7,.int .i64 f] rfl rfl HN.out HO.out (by have:=HTL.out;simp only [maxLen];omega) (by have:=HTL.out;omega) hSl7 (fun v' w' h2 h3 h4=>?_)
                  obtain ⟨gg,vk,cp,rfl⟩:∃gg vk cp,v'=.slice gg vk cp:=by
                   rcases h2.2 with ⟨h0,_⟩ | ⟨g,cap,cur,hv,_⟩
                   · exact ⟨_,_,_,h0⟩
                   · exact ⟨_,_,_,hv⟩
                  have hbb:=grown_below hb h3 (fun q e=>by have:=(hOa.lt q e).1;omega) hb.size;replace hX:=hX.grown h3 (fun e=>by have:=(hOa.lt _ e.symm).1;omega);replace hG:=hG.grown h3 (fun e=>by have:=(hOa.lt _ e.symm).1;omega);replace hS:=hS.grown h3 (fun e=>by have:=(hOa.lt _ e.symm).1;omega);replace hM:=hM.grown h3 (fun e=>by have:=HOB.out _ e.symm;omega);replace hQ8:=hQ8.grown h3 (fun e=>by have:=HOB.out _ e.symm;omega);have H2:=Lib.hid h2;have H4:=Lib.hid h4;clear h2 h3 h4 hOa hO hb hSl7;refine hK.out _ _ ?_ (fun _=>?_)
                  · ((try dsimp only);(exact ⟨(eight_cells hM).1.1,(eight_cells hM).1.2.1,(eight_cells hM).1.2.2.1,(eight_cells hM).1.2.2.2.1,(eight_cells hM).1.2.2.2.2.1,(eight_cells hM).1.2.2.2.2.2.1,(eight_cells hM).1.2.2.2.2.2.2.1,(eight_cells hM).1.2.2.2.2.2.2.2,(hQ8.cell 0).trans hcA⟩))
                  clear hK K
                  (try simp only [Act.put,pA,pB,pC])
                  refine hdT 10 ?_;refine hdC 11 (fun K hK=>?_);have c7:=hG.cell 0;have f7:=hG.frozen 0
                  (go_simp;go_wp2_with fail)
                  have hXc:=hX.far (p:=⟨g8,0,none⟩) (by dsimp only;omega) (.slice gg vk cp);have hSc:=hS.far (p:=⟨g8,0,none⟩) (by dsimp only;omega) (.slice gg vk cp);replace hM:=hM.far (p:=⟨g8,0,none⟩) (by dsimp only;omega) (.slice gg vk cp);replace hQ8:=hQ8.far (p:=⟨g8,0,none⟩) (by dsimp only;omega) (.slice gg vk cp);have hGc:=hG.set 0 (.slice gg vk cp);have hbc:=hbb.setCell (p:=⟨g8,0,none⟩) (by dsimp only;omega) (.slice gg vk cp);refine hK.out _ _ ?_ (fun _=>?_)
                  · ((try dsimp only);(exact ⟨(eight_cells hM).1.1,(eight_cells hM).1.2.1,(eight_cells hM).1.2.2.1,(eight_cells hM).1.2.2.2.1,(eight_cells hM).1.2.2.2.2.1,(eight_cells hM).1.2.2.2.2.2.1,(eight_cells hM).1.2.2.2.2.2.2.1,(eight_cells hM).1.2.2.2.2.2.2.2,(hQ8.cell 0).trans hcA⟩))
                  clear hK K
                  (try simp only [Act.put,pA,pB,pC])
                  refine wpAnyH_done (by kernel_rfl) ?_ _;go_wp2_with fail
                  go_roundw
                  case rel=>
                   refine ⟨k+1,gg,vk,cp,_,by omega,by go_num,HT9.out,hbc,hXc,hGc,hSc,?_⟩;exact OwnForm.set (p:=⟨g8,0,none⟩) (OwnForm.of H2.out (by simp) (by rw [rcells_append];rfl) ⟨fun e=>absurd (H4.out.1 e).2 (by omega),fun e=>by simp at e⟩) (by dsimp only;omega) _
                  case measure=>simp [intOf] <;> omega
        · have g2:((Hh.length:Int)==2)=false:=by simp only [beq_eq_false_iff_ne,ne_eq];omega
          have HF:Hid (paG zs l (rdFs l)=none):=Lib.hid (pa_none (by
           rw [HRF.out];refine mapM_none (a:=p) ?_ (List.mem_of_getElem? HPK.out);rw [rdTs,hHh];split
           · rename_i A B;exact absurd rfl h2
           · rfl))
          clear hHB hcur2 hpos2 hHh h2;have cX:=hX.cell 0;have fX:=hX.frozen 0;go_wp2_with fail
          have hX9:=hX.set 0 (.slice none 0 0);exact bodyPost_ret (results_row2 rfl _ _ gX 25 #[.slice none 0 0] (0,0) _ rfl hX9 Tryz.underlying25 rfl Tryz.info_form) rfl ⟨none,0,0,false,[],rfl,World.ownsRow_nil _ _ _ _,by simp,PaO.no HF.out,hb.setCell (p:=⟨gX,0,none⟩) hwX _⟩
      · have he:k=R.length:=(by omega);have hki:¬((k:Int)<(R.length:Int)):=(by omega);rw [he,List.take_length] at hts;have HTT:=Lib.hid (HRF.out.trans hts);have hlen:=mapM_len hts;have HTM:Hid (∀t∈ts,IsTm t):=Lib.hid (rdFs_tm HTT.out);clear hts;obtain ⟨a',c',hve,hT⟩:=hO.r.terms HTM.out rfl;simp only [Value.slice.injEq] at hve;obtain ⟨rfl,rfl,rfl⟩:=hve;have HL4:Hid (ts.length≤400):=Lib.hid (by omega);have hO2:=hO.r;have hg8B:g8<Bf:=(by omega);have hgXB:gX<Bf:=(by omega);have hwB:w.heap.size≤Bf:=(by omega);clear hO hS hlen hki he;have cG:=hG.cell 0;go_upto_region 17 with fail
        clear cG;replace hX:Own wr.drew gX 25 #[.slice none 0 0]:=hX;replace hG:Own wr.drew g8 25 #[.slice va ts.length vc]:=hG;replace hO2:OwnR wr.drew Bf (.slice va ts.length vc) ts:=hO2;replace hT:Terms wr.drew va ts.length ts:=hT;replace hb:Below w.heap.size w wr.drew:=hb.drew;refine wp_region_held_drew (S:=(fun w'=>w'.cell? ⟨g8,0,none⟩=some (.slice va ts.length vc))) (by kernel_rfl) ?_ (fun _=>?_)
        · ((try dsimp only);(exact hG.cell 0))
        generalize wr.drew=W0 at *;refine hdT 0 ?_;refine hdT 1 ?_;refine hdT 2 ?_;refine hdC 3 (fun K hK=>?_)
        (go_simp;(go_at_call 39;refine (l01Is_c dc vc (HD.out.keep hb) hdn hT (by have:=HL4.out;omega)).mono ?_;rintro e W1 ⟨rfl,hbX⟩);go_wp2_with fail)
        obtain ⟨q,hq⟩:∃q,(listOk zs ts && decide (ts.length≤400))=q:=⟨_,rfl⟩;rw [hq];have HQ:Hid (isForm zs ts=q):=Lib.hid (by rw [isForm,HDZ.out,hq];rfl);clear hq;replace hX:=hX.keep hbX hX.lt;replace hG:=hG.keep hbX hG.lt;replace hO2:=hO2.keep hbX;replace hT:=hT.keep hbX;replace hb:=bT' hb hbX hb.size;clear hbX;refine hK.out _ _ ?_ (fun _=>?_)
        · ((try dsimp only);(exact hG.cell 0))
        clear hK K
        (try simp only [Act.put,pA,pB,pC])
        refine hdT 4 ?_
        cases q with
        | false =>
          have HP:Hid (paG zs l (rdFs l)=none):=Lib.hid (by rw [HTT.out,paG];exact if_neg (by rw [HQ.out];simp));refine hdU 5 ?_;refine hdU 7 ?_;refine hdC 6 (fun K hK=>?_);rw [if_neg (Bool.eq_false_iff.1 (by rfl))];refine hK.out _ _ ?_ (fun _=>?_)
          · ((try dsimp only);(exact hG.cell 0))
          clear hK K
          (try simp only [Act.put,pA,pB,pC])
          refine hdU 8 ?_;refine hdT 9 ?_;refine hdC 10 (fun K hK=>?_);have cX:=hX.cell 0;have fX:=hX.frozen 0
          (go_simp;go_wp2_with fail)
          clear cX fX;replace hG:=hG.far (p:=⟨gX,0,none⟩) (by dsimp only;omega) (.slice va ts.length vc);replace hX:=hX.set 0 (.slice va ts.length vc);have hO3:=(hO2.set (p:=⟨gX,0,none⟩) (by dsimp only;exact hgXB) (.slice va ts.length vc)).weaken hwB;replace hb:=hb.setCell (p:=⟨gX,0,none⟩) hwX (.slice va ts.length vc);clear hO2 hT;refine hK.out _ _ ?_ (fun _=>?_)
          · ((try dsimp only);(exact hG.cell 0))
          clear hK K
          (try simp only [Act.put,pA,pB,pC])
          refine hdT 11 ?_;refine wpAnyH_done (by kernel_rfl) ?_ _;go_wp2_with fail
          exact bodyPost_ret (results_row2 rfl _ _ gX 25 #[.slice va ts.length vc] (0,0) _ rfl hX Tryz.underlying25 rfl Tryz.info_form) rfl ⟨va,ts.length,vc,false,ts,rfl,hO3,HTM.out,PaO.no HP.out,hb⟩
        | true =>
          have HFI:=Lib.hid (isForm_fine HQ.out HTM.out).1;refine hdT 5 ?_;refine hdT 7 ?_;refine hdC 6 (fun K hK=>?_)
          (go_simp;(go_at_call 40;refine (l01Text_c vc hT HL4.out HFI.out).mono ?_;rintro e W2 ⟨rfl,hbX⟩);go_wp2_with fail)
          replace hX:=hX.keep hbX hX.lt;replace hG:=hG.keep hbX hG.lt;replace hO2:=hO2.keep hbX;replace hT:=hT.keep hbX;replace hb:=bT' hb hbX hb.size;clear hbX;refine hK.out _ _ ?_ (fun _=>?_)
          · ((try dsimp only);(exact hG.cell 0))
          clear hK K
          (try simp only [Act.put,pA,pB,pC])
          refine hdT 8 ?_;refine hdT 9 ?_
          have HPO:Hid (PaO zs l (textF ts==l) ts):=Lib.hid (by
           cases h:(textF ts==l) with
           | true=>exact PaO.yes (by rw [HTT.out,paG];exact if_pos ⟨HQ.out,by simpa using h⟩)
           | false=>exact PaO.no (by rw [HTT.out,paG];exact if_neg (by rintro ⟨-,h2⟩;rw [h2] at h;simp at h)))
          refine hdC 10 (fun K hK=>?_);have cX:=hX.cell 0;have fX:=hX.frozen 0
          (go_simp;go_wp2_with fail)
          clear cX fX;replace hG:=hG.far (p:=⟨gX,0,none⟩) (by dsimp only;omega) (.slice va ts.length vc);replace hX:=hX.set 0 (.slice va ts.length vc);have hO3:=(hO2.set (p:=⟨gX,0,none⟩) (by dsimp only;exact hgXB) (.slice va ts.length vc)).weaken hwB;replace hb:=hb.setCell (p:=⟨gX,0,none⟩) hwX (.slice va ts.length vc);clear hO2 hT;refine hK.out _ _ ?_ (fun _=>?_)
          · ((try dsimp only);(exact hG.cell 0))
          clear hK K
          (try simp only [Act.put,pA,pB,pC])
          refine hdT 11 ?_;refine wpAnyH_done (by kernel_rfl) ?_ _;go_wp2_with fail
          exact bodyPost_ret (results_row2 rfl _ _ gX 25 #[.slice va ts.length vc] (0,0) _ rfl hX Tryz.underlying25 rfl Tryz.info_form) rfl ⟨va,ts.length,vc,(textF ts==l),ts,rfl,hO3,HTM.out,HPO.out,hb⟩
end Go.Proofs.YtfpniioegjpfeaaGreatDoor
