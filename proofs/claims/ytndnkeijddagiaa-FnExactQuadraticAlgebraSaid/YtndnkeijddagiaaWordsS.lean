
import Derived.Test.YtndnkeijddagiaaPartS
import Derived.Test.YtndnkeijddagiaaResult
import Derived.Test.YtndnkeijddagiaaClosed
namespace Go.Proofs.Ytndnkeijddagiaa
set_option maxRecDepth 100000
open Go.RowKit Go.Deep
def wordsOf (n:Int) (ts:List Tm):List Tm:=ts.filter fun t=>decide (wlen t.m=n)
theorem wordsOf_take_yes {ts:List Tm} {n:Int} {k:Nat} {t:Tm} (h:ts[k]? = some t) (hw:wlen t.m=n):wordsOf n (ts.take (k+1))=wordsOf n (ts.take k)++[t]:=by
 rw [wordsOf,List.take_add_one,h,List.filter_append]
 simp [wordsOf,hw]
theorem wordsOf_take_no {ts:List Tm} {n:Int} {k:Nat} {t:Tm} (h:ts[k]? = some t) (hw:¬wlen t.m=n):wordsOf n (ts.take (k+1))=wordsOf n (ts.take k):=by
 rw [wordsOf,List.take_add_one,h,List.filter_append]
 simp [wordsOf,hw]
theorem wordsOf_len (n:Int) (ts:List Tm):(wordsOf n ts).length≤ts.length:=List.length_filter_le _ _
theorem wordsOf_tm {n:Int} {ts:List Tm} (h:∀t∈ts,IsTm t):∀t∈wordsOf n ts,IsTm t:=fun t ht=>h t (List.mem_filter.1 ht).1
set_option maxHeartbeats 1000000 in
theorem l02Words_c {w : World} {a : Option Addr} {n : Nat} {ts : List Tm} (c : Nat) (d : Int) (h : Terms w a n ts) (h400 : n ≤ 400) :
    Calls Try.prog 60 #[.agg #[.slice a n c],.int .i64 d] w fun e w'=>∃v,e=.returned (.agg #[v])∧OwnR w' w.heap.size v (wordsOf d ts)∧Below w.heap.size w w':=by
 have HLt:=Lib.hid h.len
 have HT:=Lib.hid h.2.1
 have H400:=Lib.hid h400
 have hn:n≤1048576:=by omega
 clear h400
 have hF2:=((Own.new w 47 #[.slice a n c]).alloc (.cells #[.slice none 0 0] 47)).alloc (.cells #[.slice none 0 0] 47)
 have hR2:=(Own.new (w.alloc (.cells #[.slice a n c] 47)) 47 #[.slice none 0 0]).alloc (.cells #[.slice none 0 0] 47)
 have hG2:=Own.new ((w.alloc (.cells #[.slice a n c] 47)).alloc (.cells #[.slice none 0 0] 47)) 47 #[.slice none 0 0]
 rw [sAl] at hR2
 rw [sAl,sAl] at hG2
 have hb02:=bTn (bTn (bA1 w (.cells #[.slice a n c] 47)) (bA1 _ (.cells #[.slice none 0 0] 47))) (bA1 _ (.cells #[.slice none 0 0] 47))
 go_enter Try.func60,Try.ntmps60
 go_upto_region 2 with fail
 generalize ((w.alloc (.cells #[.slice a n c] 47)).alloc (.cells #[.slice none 0 0] 47)).alloc (.cells #[.slice none 0 0] 47)=w2 at *
 generalize hg8:w.heap.size+1+1=g8 at *
 have hl1:w.heap.size+1<g8:=by omega
 clear hg8
 go_wp2_with fail
 go_loopw [6] (fun i wr=>∃(k:Nat) (v:Value),k≤n∧i=.int .i64 k∧Below w.heap.size w wr∧Own wr w.heap.size 47 #[.slice a n c]∧Own wr (w.heap.size+1) 47 #[.slice none 0 0]∧Own wr g8 47 #[v]∧OwnForm wr (g8+1) v (wordsOf d (ts.take k))) (fun i _=>n - (intOf i).toNat)
 case atStart=>exact ⟨0,.slice none 0 0,Nat.zero_le _,rfl,hb02,hF2,hR2,hG2,by simp only [List.take_zero];exact ⟨World.ownsRow_nil _ _ _ _,by simp [wordsOf]⟩⟩
 case round=>
  clear hb02 hF2 hR2 hG2;obtain ⟨k,v,hk,rfl,hb,hF,hR,hG,hO⟩:=hrel;obtain ⟨va,vn,vc,rfl⟩:=hO.isSlice;have cF:=hF.cell 0;by_cases hlt:k<n
  · obtain ⟨b,off,t,rfl,hbl,hr0,ht,hx⟩:=h.at_ hlt;obtain ⟨mt,ft⟩:=t;have hmt:IsMono mt:=ht.1;obtain ⟨p0,p1,p2,p3,p4,p5,p6,p7,rfl⟩:=mono8 hmt;have hr:=rgK hr0 (hb.block b hbl);obtain ⟨y0,y1,y2,y3,y4,y5,y6,y7,y8⟩:=nine hr;by_cases heq:wlen [p0,p1,p2,p3,p4,p5,p6,p7]=d
    · go_wp2_with fail
      refine (l02Word8 hmt heq).mono ?_;rintro e w5 ⟨rfl,hb5⟩;have hFc:Own w5.drew w.heap.size 47 #[.slice (some ⟨b,off,none⟩) n c]:=hF.keep hb5.drew hF.lt;have hRc:Own w5.drew (w.heap.size+1) 47 #[.slice none 0 0]:=hR.keep hb5.drew hR.lt;have hGc:Own w5.drew g8 47 #[.slice va vn vc]:=hG.keep hb5.drew hG.lt;have hOc:OwnForm w5.drew (g8+1) (.slice va vn vc) (wordsOf d (ts.take k)):=hO.keep hb5.drew;have hbc:Below w.heap.size w w5.drew:=(bT' hb hb5 hb.size).drew;have hrc:=rgK hr0 (hbc.block b hbl);have cG:=hGc.cell 0;clear y0 y1 y2 y3 y4 y5 y6 y7 y8 hr cF hF hR hG hO hb hb5
      have hnews:∀j u,([Value.int .u8 p0,.int .u8 p1,.int .u8 p2,.int .u8 p3,.int .u8 p4,.int .u8 p5,.int .u8 p6,.int .u8 p7,.int .i64 ft]:List Value)[j]? = some u→(w5.drew.alloc (.cells #[.int .u8 p0,.int .u8 p1,.int .u8 p2,.int .u8 p3,.int .u8 p4,.int .u8 p5,.int .u8 p6,.int .u8 p7,.int .i64 ft] 76)).cell? ((⟨w5.heap.size,0,none⟩:Addr).add j)=some u:=fun j u hu=>by
       rw [Addr.add_mid];exact (Own.new w5.drew 76 #[.int .u8 p0,.int .u8 p1,.int .u8 p2,.int .u8 p3,.int .u8 p4,.int .u8 p5,.int .u8 p6,.int .u8 p7,.int .i64 ft]).range j u hu
      have hone:∀u∈([Value.int .u8 p0,.int .u8 p1,.int .u8 p2,.int .u8 p3,.int .u8 p4,.int .u8 p5,.int .u8 p6,.int .u8 p7,.int .i64 ft]:List Value),u.oneCell'=true:=by simp [Value.oneCell']
      have hpl:(wordsOf d (ts.take k)).length≤400:=by
       have h1:=wordsOf_len d (ts.take k);have h2:=H400.out;rw [List.length_take] at h1;omega
      obtain ⟨ti,tz,hti,htz,hts,htb,htzs⟩:=Try.info_termA;have HN:=Lib.hid hnews;have HO:=Lib.hid hone;have HP:=Lib.hid hpl;have HI:=Lib.hid hti;have HZ:=Lib.hid htz;have HS:=Lib.hid hts;have HBt:=Lib.hid htb;have HZs:=Lib.hid htzs;clear hnews hone hpl hti htz hts htb htzs;have hk0:(0:Int)≤(k:Int):=(by omega);have hkn:(k:Int)<(n:Int):=(by omega);go_upto_region 6 with fail
      refine wp_region_held_drew (S:=(fun w'=>w'.cell? ⟨w.heap.size,0,none⟩=some (.slice (some ⟨b,off,none⟩) n c)∧w'.cell? ⟨b,off+k * 9,none⟩=some (.int .u8 p0)∧w'.cell? ⟨b,off+k * 9+1,none⟩=some (.int .u8 p1)∧w'.cell? ⟨b,off+k * 9+2,none⟩=some (.int .u8 p2)∧w'.cell? ⟨b,off+k * 9+3,none⟩=some (.int .u8 p3)∧w'.cell? ⟨b,off+k * 9+4,none⟩=some (.int .u8 p4)∧w'.cell? ⟨b,off+k * 9+5,none⟩=some (.int .u8 p5)∧w'.cell? ⟨b,off+k * 9+6,none⟩=some (.int .u8 p6)∧w'.cell? ⟨b,off+k * 9+7,none⟩=some (.int .u8 p7)∧w'.cell? ⟨b,off+k * 9+8,none⟩=some (.int .i64 ft))) (by kernel_rfl) ?_ (fun hHeld=>?_)
      · ((try dsimp only);(exact cellsP hFc hrc))
      refine hdT 0 ?_;refine hdT 2 ?_;refine hdT 3 ?_;refine hdT 4 ?_;refine hdT 5 ?_;refine hdT 6 ?_;refine wpAnyH_ready (rs:=[1,7]) (by kernel_rfl) (by simp) ?_;refine AllReadyH.cons (hdAt (i:=1) rfl) (fun K hK=>?_) (AllReadyH.cons (hdAt (i:=7) rfl) (fun K hK=>?_) AllReadyH.nil)
      · (go_simp;try go_wp2_with fail)
        refine hK.out _ _ ?_ (fun _=>?_)
        · ((try dsimp only);(exact cellsP hFc hrc))
        clear hK K
        (try simp only [Act.put,pA,pB,pC])
        refine hdC 7 (fun K hK=>?_)
        (go_simp;try go_wp2_with fail)
        have hFa:=hFc.alloc (.cells #[.int .u8 p0,.int .u8 p1,.int .u8 p2,.int .u8 p3,.int .u8 p4,.int .u8 p5,.int .u8 p6,.int .u8 p7,.int .i64 ft] 76);have hGa:=hGc.alloc (.cells #[.int .u8 p0,.int .u8 p1,.int .u8 p2,.int .u8 p3,.int .u8 p4,.int .u8 p5,.int .u8 p6,.int .u8 p7,.int .i64 ft] 76);have hRa:=hRc.alloc (.cells #[.int .u8 p0,.int .u8 p1,.int .u8 p2,.int .u8 p3,.int .u8 p4,.int .u8 p5,.int .u8 p6,.int .u8 p7,.int .i64 ft] 76);have hOa:=(hOc.keep (bA1 w5.drew (.cells #[.int .u8 p0,.int .u8 p1,.int .u8 p2,.int .u8 p3,.int .u8 p4,.int .u8 p5,.int .u8 p6,.int .u8 p7,.int .i64 ft] 76))).1;have hba:=bT' hbc (bA1 w5.drew (.cells #[.int .u8 p0,.int .u8 p1,.int .u8 p2,.int .u8 p3,.int .u8 p4,.int .u8 p5,.int .u8 p6,.int .u8 p7,.int .i64 ft] 76)) hbc.size;have hra:=rgK hr0 (hba.block b hbl);refine hK.out _ _ ?_ (fun _=>?_)
        · ((try dsimp only);(exact cellsP hFa hra))
        clear hK K
        (try simp only [Act.put,pA,pB,pC])
        refine hdC 8 (fun K hK=>?_);rw [if_pos (by rfl)];refine wp_append_own_wide _ (.tmp 25) (.tmp 31) 45 rfl (g8+1) 76 ti tz 9 16 Try.underlying45 HI.out HZ.out HS.out HBt.out HZs.out (by omega) (.slice va vn vc) _ _ rfl hOa ⟨w5.heap.size,0,none⟩ 1 1 [Value.int .u8 p0,.int .u8 p1,.int .u8 p2,.int .u8 p3,.int .u8 p4,.int .u8 p5,.int .u8 p6,.int .u8 p7,.int .i64 ft] rfl rfl HN.out HO.out (by have:=HP.out;simp only [maxLen];omega) (by have:=HP.out;omega) (Nat.succ_le_of_lt hGa.lt) (fun v' w' h2 h3 h4=>?_)
        obtain ⟨gg,vk,cp,rfl⟩:∃gg vk cp,v'=.slice gg vk cp:=by
         rcases h2.2 with ⟨h0,_⟩ | ⟨g,cap,cur,hv,_⟩
         · exact ⟨_,_,_,h0⟩
         · exact ⟨_,_,_,hv⟩
        have hF7:=hFa.grown h3 (fun e=>by have:=(hOa.lt _ e.symm).1;omega);have hG7:=hGa.grown h3 (fun e=>by have:=(hOa.lt _ e.symm).1;omega);have hR7:=hRa.grown h3 (fun e=>by have:=(hOa.lt _ e.symm).1;omega);have hb7:=grown_below hba h3 (fun q e=>by have:=(hOa.lt q e).1;omega) hba.size;have hr7:=rgK hr0 (hb7.block b hbl);have c7:=hG7.cell 0;have f7:=hG7.frozen 0;have H2:=Lib.hid h2;have H4:=Lib.hid h4;clear h2 h3 h4 hOa hFa hGa hRa hba;refine hK.out _ _ ?_ (fun _=>?_)
        · ((try dsimp only);(exact cellsP hF7 hr7))
        clear hK K
        (try simp only [Act.put,pA,pB,pC])
        refine hdT 9 ?_;refine hdC 10 (fun K hK=>?_)
        (go_simp;go_wp2_with fail)
        have hF8:=hF7.far (p:=⟨g8,0,none⟩) (by dsimp only;omega) (.slice gg vk cp);have hb8:=hb7.setCell (p:=⟨g8,0,none⟩) (by dsimp only;omega) (.slice gg vk cp);have hr8:=rgK hr0 (hb8.block b hbl);refine hK.out _ _ ?_ (fun _=>?_)
        · ((try dsimp only);(exact cellsP hF8 hr8))
        clear hK K
        (try simp only [Act.put,pA,pB,pC])
        refine wpAnyH_done (by kernel_rfl) ?_ _;go_wp2_with fail
        go_roundw
        case rel=>
         refine ⟨k+1,.slice gg vk cp,by omega,by go_num,hb8,hF8,hR7.far (p:=⟨g8,0,none⟩) (by dsimp only;omega) _,hG7.set 0 _,?_⟩;rw [wordsOf_take_yes hx.out heq];exact OwnForm.set (p:=⟨g8,0,none⟩) (OwnForm.of H2.out (by simp) (by rw [rcells_append];rfl) ⟨fun e=>absurd (H4.out.1 e).2 (by omega),fun e=>by omega⟩) (by dsimp only;omega) _
        case measure=>simp [intOf] <;> omega
      · (go_simp;try go_wp2_with fail)
        have hFa:=hFc.alloc (.cells #[.int .u8 p0,.int .u8 p1,.int .u8 p2,.int .u8 p3,.int .u8 p4,.int .u8 p5,.int .u8 p6,.int .u8 p7,.int .i64 ft] 76);have hGa:=hGc.alloc (.cells #[.int .u8 p0,.int .u8 p1,.int .u8 p2,.int .u8 p3,.int .u8 p4,.int .u8 p5,.int .u8 p6,.int .u8 p7,.int .i64 ft] 76);have hRa:=hRc.alloc (.cells #[.int .u8 p0,.int .u8 p1,.int .u8 p2,.int .u8 p3,.int .u8 p4,.int .u8 p5,.int .u8 p6,.int .u8 p7,.int .i64 ft] 76);have hOa:=(hOc.keep (bA1 w5.drew (.cells #[.int .u8 p0,.int .u8 p1,.int .u8 p2,.int .u8 p3,.int .u8 p4,.int .u8 p5,.int .u8 p6,.int .u8 p7,.int .i64 ft] 76))).1;have hba:=bT' hbc (bA1 w5.drew (.cells #[.int .u8 p0,.int .u8 p1,.int .u8 p2,.int .u8 p3,.int .u8 p4,.int .u8 p5,.int .u8 p6,.int .u8 p7,.int .i64 ft] 76)) hbc.size;have hra:=rgK hr0 (hba.block b hbl);refine hK.out _ _ ?_ (fun _=>?_)
        · ((try dsimp only);(exact cellsP hFa hra))
        clear hK K
        (try simp only [Act.put,pA,pB,pC])
        have cGa:(w5.alloc (.cells #[.int .u8 p0,.int .u8 p1,.int .u8 p2,.int .u8 p3,.int .u8 p4,.int .u8 p5,.int .u8 p6,.int .u8 p7,.int .i64 ft] 76)).drew.cell? ⟨g8,0,none⟩=some (.slice va vn vc):=hGa.cell 0;refine hdC 1 (fun K hK=>?_)
        (go_simp;try go_wp2_with fail)
        refine hK.out _ _ ?_ (fun _=>?_)
        · ((try dsimp only);(exact cellsP hFa hra))
        clear hK K
        (try simp only [Act.put,pA,pB,pC])
        refine hdC 8 (fun K hK=>?_);rw [if_pos (by rfl)];refine wp_append_own_wide _ (.tmp 25) (.tmp 31) 45 rfl (g8+1) 76 ti tz 9 16 Try.underlying45 HI.out HZ.out HS.out HBt.out HZs.out (by omega) (.slice va vn vc) _ _ rfl hOa ⟨w5.heap.size,0,none⟩ 1 1 [Value.int .u8 p0,.int .u8 p1,.int .u8 p2,.int .u8 p3,.int .u8 p4,.int .u8 p5,.int .u8 p6,.int .u8 p7,.int .i64 ft] rfl rfl HN.out HO.out (by have:=HP.out;simp only [maxLen];omega) (by have:=HP.out;omega) (Nat.succ_le_of_lt hGa.lt) (fun v' w' h2 h3 h4=>?_)
        obtain ⟨gg,vk,cp,rfl⟩:∃gg vk cp,v'=.slice gg vk cp:=by
         rcases h2.2 with ⟨h0,_⟩ | ⟨g,cap,cur,hv,_⟩
         · exact ⟨_,_,_,h0⟩
         · exact ⟨_,_,_,hv⟩
        have hF7:=hFa.grown h3 (fun e=>by have:=(hOa.lt _ e.symm).1;omega);have hG7:=hGa.grown h3 (fun e=>by have:=(hOa.lt _ e.symm).1;omega);have hR7:=hRa.grown h3 (fun e=>by have:=(hOa.lt _ e.symm).1;omega);have hb7:=grown_below hba h3 (fun q e=>by have:=(hOa.lt q e).1;omega) hba.size;have hr7:=rgK hr0 (hb7.block b hbl);have c7:=hG7.cell 0;have f7:=hG7.frozen 0;have H2:=Lib.hid h2;have H4:=Lib.hid h4;clear h2 h3 h4 hOa hFa hGa hRa hba;refine hK.out _ _ ?_ (fun _=>?_)
        · ((try dsimp only);(exact cellsP hF7 hr7))
        clear hK K
        (try simp only [Act.put,pA,pB,pC])
        refine hdT 9 ?_;refine hdC 10 (fun K hK=>?_)
        (go_simp;go_wp2_with fail)
        have hF8:=hF7.far (p:=⟨g8,0,none⟩) (by dsimp only;omega) (.slice gg vk cp);have hb8:=hb7.setCell (p:=⟨g8,0,none⟩) (by dsimp only;omega) (.slice gg vk cp);have hr8:=rgK hr0 (hb8.block b hbl);refine hK.out _ _ ?_ (fun _=>?_)
        · ((try dsimp only);(exact cellsP hF8 hr8))
        clear hK K
        (try simp only [Act.put,pA,pB,pC])
        refine wpAnyH_done (by kernel_rfl) ?_ _;go_wp2_with fail
        go_roundw
        case rel=>
         refine ⟨k+1,.slice gg vk cp,by omega,by go_num,hb8,hF8,hR7.far (p:=⟨g8,0,none⟩) (by dsimp only;omega) _,hG7.set 0 _,?_⟩;rw [wordsOf_take_yes hx.out heq];exact OwnForm.set (p:=⟨g8,0,none⟩) (OwnForm.of H2.out (by simp) (by rw [rcells_append];rfl) ⟨fun e=>absurd (H4.out.1 e).2 (by omega),fun e=>by omega⟩) (by dsimp only;omega) _
        case measure=>simp [intOf] <;> omega
    · obtain ⟨v2,hv2⟩:∃v2,wlen [p0,p1,p2,p3,p4,p5,p6,p7]=v2:=⟨_,rfl⟩;have hne3:¬v2=d:=(by rw [←hv2];exact heq);have hne2:(v2==d)=false:=(by simpa using hne3);have HV:=Lib.hid hv2;have HE:=Lib.hid heq;clear hv2 heq;go_wp2_with fail
      refine (l02Word8 hmt HV.out).mono ?_;rintro e w5 ⟨rfl,hb5⟩;go_wp2_with fail
      go_roundw
      case rel=>exact ⟨k+1,.slice va vn vc,by omega,by go_num,bT' hb hb5 hb.size,hF.keep hb5 hF.lt,hR.keep hb5 hR.lt,hG.keep hb5 hG.lt,by rw [wordsOf_take_no hx.out HE.out];exact hO.keep hb5⟩
      case measure=>simp [intOf] <;> omega
  · have he:k=n:=(by omega);subst he;have c3:=hG.cell 0;have cR:=hR.cell 0;have fR:=hR.frozen 0;go_wp2_with fail
    have q:=hR.set 0 (.slice va vn vc);refine bodyPost_ret (results_cell_row rfl _ _ (w.heap.size+1) 47 #[.slice va vn vc] (0,0) _ rfl q Try.underlying47 rfl Try.info_form) rfl ⟨.slice va vn vc,rfl,?_,hb.setCell (p:=⟨w.heap.size+1,0,none⟩) (by dsimp only;omega) _⟩;rw [List.take_of_length_le (Nat.le_of_eq HLt.out)] at hO;exact ((hO.set (p:=⟨w.heap.size+1,0,none⟩) (by dsimp only;omega) _).weaken (by omega)).r
end Go.Proofs.Ytndnkeijddagiaa
