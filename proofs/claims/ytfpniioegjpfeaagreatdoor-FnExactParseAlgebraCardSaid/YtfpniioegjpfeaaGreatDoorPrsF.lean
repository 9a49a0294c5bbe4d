
import Derived.Test.YtfpniioegjpfeaaGreatDoorPrsE
import Derived.Test.YtfpniioegjpfeaaGreatDoorResult
namespace Go.Proofs.YtfpniioegjpfeaaGreatDoor
set_option maxRecDepth 100000
open Go.RowKit Go.Deep
theorem mapM_snoc {α β:Type} {g:α→Option β}:∀{l:List α} {r:List β} {a:α} {b:β},l.mapM g=some r→g a=some b→(l++[a]).mapM g=some (r++[b])
 | [], r, a, b, h, h2 => by
   simp only [List.mapM_nil,Option.pure_def,Option.some.injEq] at h;subst h;simp [h2]
 | c :: l, r, a, b, h, h2 => by
   rw [List.mapM_cons] at h
   cases h1:g c with
   | none=>rw [h1] at h;cases h
   | some d =>
     cases h3:l.mapM g with
     | none=>rw [h1,h3] at h;cases h
     | some s =>
       rw [h1,h3] at h;cases h
       have ih:=mapM_snoc h3 h2;rw [List.cons_append,List.mapM_cons,h1,ih];rfl
theorem mapM_none {α β:Type} {g:α→Option β} {a:α} (h2:g a=none):∀{l:List α},a∈l→l.mapM g=none
 | c :: l, h => by
   rw [List.mapM_cons]
   rcases List.mem_cons.1 h with rfl | h
   · rw [h2];rfl
   · rw [mapM_none h2 h];cases g c <;> rfl
theorem mapM_len {α β:Type} {g:α→Option β}:∀{l:List α} {r:List β},l.mapM g=some r→r.length=l.length
 | [], r, h => by
   simp only [List.mapM_nil,Option.pure_def,Option.some.injEq] at h;subst h;rfl
 | c :: l, r, h => by
   rw [List.mapM_cons] at h
   cases h1:g c with
   | none=>rw [h1] at h;cases h
   | some d =>
     cases h3:l.mapM g with
     | none=>rw [h1,h3] at h;cases h
     | some s =>
       rw [h1,h3] at h;cases h
       simp [mapM_len h3]
theorem splitK_le (s:List UInt8) (n:Nat):∀(k:Nat) (l:List UInt8),l.length≤n→∀p∈Lib.splitK s 0 k l,p.length≤n
 | 0, l, h, p, hp => by
   rw [Lib.splitK,List.mem_singleton] at hp;subst hp;exact h
 | k + 1, l, h, p, hp => by
   rw [Lib.splitK] at hp;split at hp
   · rw [List.mem_singleton] at hp;subst hp;exact h
   · rcases List.mem_cons.1 hp with rfl | hp
     · rw [List.length_take];omega
     · exact splitK_le s n k _ (by rw [List.length_drop];omega) p hp
theorem split_cells (sep:ByteArray) (k:Nat) (s:ByteArray):(Lib.splitB sep 0 k s).map Value.string=(Lib.splitK sep.data.toList 0 k s.data.toList).map str:=by
 rw [←Lib.splitB_data,List.map_map]
 rfl
theorem countB_one (c:UInt8) (l:List UInt8):Lib.countB ⟨l.toArray⟩ ⟨#[c]⟩=l.count c:=by
 show Lib.count (⟨l.toArray⟩:ByteArray).data.toList [c]=l.count c
 rw [Lib.count_one]
theorem split_len (c:UInt8) (l:List UInt8):(Lib.splitK [c] 0 (l.count c) l).length=l.count c+1:=by
 have h:=Lib.splitB_all ⟨#[c]⟩ (by simp [ByteArray.size]) 0 (l.count c) ⟨l.toArray⟩ (countB_one c l)
 have h2:=congrArg List.length (Lib.splitB_data ⟨#[c]⟩ 0 (l.count c) ⟨l.toArray⟩)
 rw [List.length_map,h] at h2
 exact h2.symm
def RdFm (l:List UInt8) (w:World) (e:Ending) (w':World):Prop:=∃(va:Option Addr) (vn vc:Nat) (b:Bool) (ts:List Tm),e=.returned (.tuple #[.agg #[.slice va vn vc],.bool b])∧OwnR w' w.heap.size (.slice va vn vc) ts∧(∀t∈ts,IsTm t)∧ts.length≤400∧RdO (rdF l) b ts∧Below w.heap.size w w'
set_option maxHeartbeats 4000000 in
theorem readForm_c (l : List UInt8) (w : World) (hl : l.length ≤ 1048576) (hE : Errs w) :
    Calls Tryz.prog 21 #[str l] w fun e w'=>RdFm l w e w':=by
 have hsz:(⟨l.toArray⟩:ByteArray).size<4294967281:=by rw [show (⟨l.toArray⟩:ByteArray).size=l.length by simp [ByteArray.size]];omega
 have HE:=Lib.hid hE
 clear hE
 have hX:=(Own.new w 25 #[.slice none 0 0]).alloc (.cells #[.slice none 0 0] 25)
 have hG:=Own.new (w.alloc (.cells #[.slice none 0 0] 25)) 25 #[.slice none 0 0]
 rw [sAl] at hG
 have hb:=bTn (bA1 w (.cells #[.slice none 0 0] 25)) (bA1 _ (.cells #[.slice none 0 0] 25))
 go_enter Tryz.func21,Tryz.ntmps21
 go_upto_region 2 with fail
 generalize (w.alloc (.cells #[.slice none 0 0] 25)).alloc (.cells #[.slice none 0 0] 25)=w2 at *
 obtain ⟨gX,hgX⟩:∃g,w.heap.size=g:=⟨_,rfl⟩
 obtain ⟨g8,hg8⟩:∃g,w.heap.size+1=g:=⟨_,rfl⟩
 rw [hgX] at hX
 rw [hg8] at hG
 try rw [hg8]
 try rw [hgX]
 have hX8:gX<g8:=by omega
 have hwX:w.heap.size≤gX:=by omega
 have HGX:=Lib.hid hgX
 clear hgX hg8
 have HT0:=Lib.hid (show OwnR w2 w.heap.size (.slice none 0 0) [] from World.ownsRow_nil _ _ _ _)
 have cX:=hX.cell 0
 have fX:=hX.frozen 0
 have cG:=hG.cell 0
 cases hc:(l==[48]) with
 | true =>
   have he:l=[48]:=(by simpa using hc);subst he;go_wp2_with fail
   have hX9:=hX.set 0 (.slice none 0 0);exact bodyPost_ret (results_row2 rfl _ _ gX 25 #[.slice none 0 0] (0,0) _ rfl hX9 Tryz.underlying25 rfl Tryz.info_form) rfl ⟨none,0,0,true,[],rfl,World.ownsRow_nil _ _ _ _,by simp,by simp,RdO.yes rfl,hb.setCell (p:=⟨gX,0,none⟩) hwX _⟩
 | false =>
   have hne:¬l=[48]:=(by intro e;subst e;cases hc);go_wp2_with fail
   refine (Tryz.strings_Count_one ⟨l.toArray⟩ 43 w2).mono ?_;rintro e w2 ⟨rfl,rfl⟩;rw [show Lib.countByte (⟨l.toArray⟩:ByteArray).data.toList 43=l.count 43 by simp [Lib.countByte]];obtain ⟨n,hn⟩:∃n,l.count 43=n:=⟨_,rfl⟩;rw [hn];have HC:=Lib.hid hn;by_cases hmany:400≤n
   · have hm2:(400:Int)≤(n:Int):=(by omega);have HF:Hid (rdF l=none):=Lib.hid (by rw [rdF,if_neg hne,if_pos (by omega)]);clear hne hn;go_wp2_with fail
     have hX9:=hX.set 0 (.slice none 0 0);exact bodyPost_ret (results_row2 rfl _ _ gX 25 #[.slice none 0 0] (0,0) _ rfl hX9 Tryz.underlying25 rfl Tryz.info_form) rfl ⟨none,0,0,false,[],rfl,World.ownsRow_nil _ _ _ _,by simp,by simp,RdO.no HF.out,hb.setCell (p:=⟨gX,0,none⟩) hwX _⟩
   · have hm2:¬(400:Int)≤(n:Int):=(by omega);have hn4:n<400:=(by omega);obtain ⟨P,hP⟩:∃P,Lib.splitK [43] 0 n l=P:=⟨_,rfl⟩;have HPL:Hid (P.length=n+1):=Lib.hid (by rw [←hP,←hn];exact split_len 43 l);have HPB:Hid (∀p∈P,p.length≤1048576):=Lib.hid (by rw [←hP];exact splitK_le [43] 1048576 n l hl);have HRF:Hid (rdF l=P.mapM rdT):=Lib.hid (by rw [rdF,if_neg hne,if_neg (by omega),hn,hP]);obtain ⟨mx,hmx⟩:=(HE.out.keep (hb.mono (Nat.le_refl _))).2.2;clear hne hn cX fX cG;have hcnt:Lib.countB ⟨l.toArray⟩ ⟨#[43]⟩=n:=(by rw [countB_one,HC.out]);have hcell:(Lib.splitB ⟨#[43]⟩ 0 n ⟨l.toArray⟩).map Value.string=P.map str:=(by rw [split_cells];exact congrArg (List.map str) hP);clear hP;go_wp2_with fail
     refine (Tryz.strings_Split ⟨l.toArray⟩ ⟨#[43]⟩ mx w2 hsz hmx (by simp [ByteArray.size])).mono ?_;rintro e w4 ⟨rfl,hw4⟩;rw [hcnt] at hw4 ⊢;rw [hcell] at hw4;have hS:=Own.new w2 9 (P.map str).toArray;have hbS:=bA1 w2 (.cells (P.map str).toArray 9);rw [←hw4] at hS hbS;have hX4:=hX.keep hbS hX.lt;have hG4:=hG.keep hbS hG.lt;have hb4:=bT' hb hbS hb.size;have h8S:g8<w2.heap.size:=hG.lt;clear hX hG hb hbS hw4 hcnt hcell hsz hmx;obtain ⟨gS,hgS⟩:∃g,w2.heap.size=g:=⟨_,rfl⟩;rw [hgS] at hS h8S
     try rw [hgS]
     clear hgS;clear HT0;clear w2;go_upto_region 7 with fail
     go_loopw [19] (fun y wr=>∃(k:Nat) (va:Option Addr) (vn vc:Nat) (ts:List Tm),k≤n+1∧y=.int .i64 k∧(P.take k).mapM rdT=some ts∧Below w.heap.size w wr∧Own wr gX 25 #[.slice none 0 0]∧Own wr g8 25 #[.slice va vn vc]∧Own wr gS 9 (P.map str).toArray∧OwnForm wr (gS+1) (.slice va vn vc) ts) (fun y _=>n+1 - (intOf y).toNat)
     case atStart=>exact ⟨0,none,0,0,[],Nat.zero_le _,rfl,rfl,hb4,hX4,hG4,hS,⟨World.ownsRow_nil _ _ _ _,by simp⟩⟩
     case round=>
      clear hX4 hG4 hS hb4;obtain ⟨k,va,vn,vc,ts,hk,rfl,hts,hb,hX,hG,hS,hO⟩:=hrel;have hk0:(0:Int)≤(k:Int):=(by omega);by_cases hkn:k<n+1
      · have hki:(k:Int)<(n:Int)+1:=(by omega);obtain ⟨p,hp⟩:∃p,P[k]? = some p:=⟨_,List.getElem?_eq_getElem (by rw [HPL.out];exact hkn)⟩;have HPK:=Lib.hid hp;have hpl:=HPB.out p (List.mem_of_getElem? hp);have cS:wr.cell? ⟨gS,k,none⟩=some (str p):=(by rw [hS.cell k];simp [hp]);have HTS:=Lib.hid hts;clear hts hp;go_wp2_with fail
        refine (readTerm_c p wr hpl (HE.out.keep (hb.mono (Nat.le_refl _)))).mono ?_;rintro e w5 ⟨x0,x1,x2,x3,x4,x5,x6,x7,f,b,rfl,htm,hrd,hb5⟩;have hX5:=hX.keep hb5 hX.lt;have hG5:=hG.keep hb5 hG.lt;have hS5:=hS.keep hb5 hS.lt;have hO5:=hO.keep hb5;have hb6:=bT' hb hb5 hb.size;have HTM:=Lib.hid htm;have HRD:=Lib.hid hrd;clear hX hG hS hO hb hb5 cS htm hrd;have hT:=Own.new w5 65 #[.int .u8 x0,.int .u8 x1,.int .u8 x2,.int .u8 x3,.int .u8 x4,.int .u8 x5,.int .u8 x6,.int .u8 x7,.int .i64 f];have hb7:=bA1 w5 (.cells #[.int .u8 x0,.int .u8 x1,.int .u8 x2,.int .u8 x3,.int .u8 x4,.int .u8 x5,.int .u8 x6,.int .u8 x7,.int .i64 f] 65);have hX7:=hX5.keep hb7 hX5.lt;have hG7:=hG5.keep hb7 hG5.lt;have hS7:=hS5.keep hb7 hS5.lt;have hO7:OwnForm (w5.alloc (.cells #[.int .u8 x0,.int .u8 x1,.int .u8 x2,.int .u8 x3,.int .u8 x4,.int .u8 x5,.int .u8 x6,.int .u8 x7,.int .i64 f] 65)) (gS+1) (.slice va vn vc) ts:=hO5.keep hb7;have hb8:=bT' hb6 hb7 hb6.size;have hSl:gS+1≤w5.heap.size:=hS5.lt;clear hX5 hG5 hS5 hO5 hb6 hb7;go_upto_region 10 with fail
        generalize w5.alloc (.cells #[.int .u8 x0,.int .u8 x1,.int .u8 x2,.int .u8 x3,.int .u8 x4,.int .u8 x5,.int .u8 x6,.int .u8 x7,.int .i64 f] 65)=w7 at *;obtain ⟨gT,hgT⟩:∃g,w5.heap.size=g:=⟨_,rfl⟩;rw [hgT] at hT hSl
        try rw [hgT]
        clear hgT
        cases b with
        | false =>
          have HF:Hid (rdF l=none):=Lib.hid (by rw [HRF.out];exact mapM_none (HRD.out.2 rfl) (List.mem_of_getElem? HPK.out));have cX:=hX7.cell 0;have fX:=hX7.frozen 0;go_wp2_with fail
          have hX9:=hX7.set 0 (.slice none 0 0);exact bodyPost_ret (results_row2 rfl _ _ gX 25 #[.slice none 0 0] (0,0) _ rfl hX9 Tryz.underlying25 rfl Tryz.info_form) rfl ⟨none,0,0,false,[],rfl,World.ownsRow_nil _ _ _ _,by simp,by simp,RdO.no HF.out,hb8.setCell (p:=⟨gX,0,none⟩) hwX _⟩
        | true =>
          have HT9:Hid ((P.take (k+1)).mapM rdT=some (ts++[⟨[x0,x1,x2,x3,x4,x5,x6,x7],f⟩])):=Lib.hid (by
           rw [List.take_add_one,HPK.out]
           exact mapM_snoc HTS.out (HRD.out.1 rfl))
          have htl:ts.length=k:=by
           have h1:=mapM_len HTS.out;rw [List.length_take,HPL.out] at h1;omega
          have HTL:=Lib.hid htl;obtain ⟨⟨t0,t1,t2,t3,t4,t5,t6,t7,t8⟩,-⟩:=nine_cells hT;have cG:=hG7.cell 0
          have hnews:∀j u,([Value.int .u8 x0,.int .u8 x1,.int .u8 x2,.int .u8 x3,.int .u8 x4,.int .u8 x5,.int .u8 x6,.int .u8 x7,.int .i64 f]:List Value)[j]? = some u→(w7.alloc (.cells #[.int .u8 x0,.int .u8 x1,.int .u8 x2,.int .u8 x3,.int .u8 x4,.int .u8 x5,.int .u8 x6,.int .u8 x7,.int .i64 f] 65)).cell? ((⟨w7.heap.size,0,none⟩:Addr).add j)=some u:=fun j u hu=>by
           rw [Addr.add_mid];exact (Own.new w7 65 #[.int .u8 x0,.int .u8 x1,.int .u8 x2,.int .u8 x3,.int .u8 x4,.int .u8 x5,.int .u8 x6,.int .u8 x7,.int .i64 f]).range j u hu
          have hone:∀u∈([Value.int .u8 x0,.int .u8 x1,.int .u8 x2,.int .u8 x3,.int .u8 x4,.int .u8 x5,.int .u8 x6,.int .u8 x7,.int .i64 f]:List Value),u.oneCell'=true:=(by simp [Value.oneCell']);obtain ⟨ti,tz,hti,htz,hts,htb,htzs⟩:=Tryz.info_termA;have HN:=Lib.hid hnews;have HO:=Lib.hid hone;have HI:=Lib.hid hti;have HZ:=Lib.hid htz;have HS:=Lib.hid hts;have HBt:=Lib.hid htb;have HZs:=Lib.hid htzs;have hba:=bA1 w7 (.cells #[.int .u8 x0,.int .u8 x1,.int .u8 x2,.int .u8 x3,.int .u8 x4,.int .u8 x5,.int .u8 x6,.int .u8 x7,.int .i64 f] 65);have hXa:=hX7.keep hba hX7.lt;have hGa:=hG7.keep hba hG7.lt;have hSa:=hS7.keep hba hS7.lt;have hOa:=(hO7.keep hba).1;have hb9:=bT' hb8 hba hb8.size;have hSl9:gS+1≤w7.heap.size:=hS7.lt;clear hnews hone hti htz hts htb htzs hX7 hG7 hS7 hO7 hb8 hba hT htl
          go_wp2_with (refine wpList_append_own_wide _ rfl (.tmp 32) (.tmp 34) 23 rfl (gS + 1) 65 ti tz 9 16 Tryz.underlying23 HI.out HZ.out HS.out HBt.out HZs.out (by omega) (.slice va vn vc) _ _ rfl hOa ⟨w7.heap.size, 0, none⟩ 1 1 [Value.int .u8 x0, .int .u8 x1, .int .u8 x2, .int .u8 x3, .int .u8 x4, .int .u8 x5, .int .u8 x6, .int .u8 x7, .int .i64 f] rfl rfl HN.out HO.out (by have := HTL.out; simp only [maxLen]; omega) (by have := HTL.out; omega) (by rw [sAl]; omega) (fun v' w' h2 h3 h4 => ?_)
                       obtain ⟨gg,vk,cp,rfl⟩:∃gg vk cp,v'=.slice gg vk cp:=by
                        rcases h2.2 with ⟨h0,_⟩ | ⟨g,cap,cur,hv,_⟩
                        · exact ⟨_,_,_,h0⟩
                        · exact ⟨_,_,_,hv⟩
                       have hXb:=hXa.grown h3 (fun e=>by have:=(hOa.lt _ e.symm).1;omega);have hGb:=hGa.grown h3 (fun e=>by have:=(hOa.lt _ e.symm).1;omega);have hSb:=hSa.grown h3 (fun e=>by have:=(hOa.lt _ e.symm).1;omega);have hbb:=grown_below hb9 h3 (fun q e=>by have:=(hOa.lt q e).1;omega) hb9.size;have cGb:=hGb.cell 0;have fGb:=hGb.frozen 0;have H2:=Lib.hid h2;have H4:=Lib.hid h4
                       clear h2 h3 h4 hXa hGa hSa hOa hb9)
          have hXc:=hXb.far (p:=⟨g8,0,none⟩) (by dsimp only;omega) (.slice gg vk cp);have hSc:=hSb.far (p:=⟨g8,0,none⟩) (by dsimp only;omega) (.slice gg vk cp);have hGc:=hGb.set 0 (.slice gg vk cp);have hbc:=hbb.setCell (p:=⟨g8,0,none⟩) (by dsimp only;omega) (.slice gg vk cp)
          go_roundw
          case rel=>
           refine ⟨k+1,gg,vk,cp,_,by omega,by go_num,HT9.out,hbc,hXc,hGc,hSc,?_⟩;exact OwnForm.set (p:=⟨g8,0,none⟩) (OwnForm.of H2.out (by simp) (by rw [rcells_append];rfl) ⟨fun e=>absurd (H4.out.1 e).2 (by omega),fun e=>by simp at e⟩) (by dsimp only;omega) _
          case measure=>simp [intOf] <;> omega
      · have he:k=n+1:=(by omega);subst he;rw [List.take_of_length_le (by rw [HPL.out];exact Nat.le_refl _)] at hts;have HRR:=Lib.hid (HRF.out.trans hts);have hlen:=mapM_len hts;rw [HPL.out] at hlen;have HLEN:Hid (ts.length≤400):=Lib.hid (by omega);have HTMS:Hid (∀t∈ts,IsTm t):=Lib.hid (rdF_tm HRR.out);have cX:=hX.cell 0;have fX:=hX.frozen 0;have cG:=hG.cell 0;have hsl:w.heap.size≤gS+1:=(by omega);have HOO:=Lib.hid hO.r;clear hts hlen hO hS;go_wp2_with fail
        have hX9:=hX.set 0 (.slice va vn vc);exact bodyPost_ret (results_row2 rfl _ _ gX 25 #[.slice va vn vc] (0,0) _ rfl hX9 Tryz.underlying25 rfl Tryz.info_form) rfl ⟨va,vn,vc,true,ts,rfl,(HOO.out.set (p:=⟨gX,0,none⟩) (by dsimp only;omega) _).weaken hsl,HTMS.out,HLEN.out,RdO.yes HRR.out,hb.setCell (p:=⟨gX,0,none⟩) hwX _⟩
end Go.Proofs.YtfpniioegjpfeaaGreatDoor
