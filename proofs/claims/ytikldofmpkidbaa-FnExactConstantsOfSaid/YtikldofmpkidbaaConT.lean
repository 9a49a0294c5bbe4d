
import Derived.Test.YtikldofmpkidbaaConS
import Derived.Test.YtikldofmpkidbaaClosed
namespace Go.Proofs.Ytikldofmpkidbaa
set_option maxRecDepth 100000
open Go.RowKit Go.Deep
theorem conV_no {zs:List Int} {ims:List (List Tm)} (h:isAlg zs ims=false):conV zs ims=[]∧conE zs ims=1:=by simp [conV,conE,h]
theorem conV_yes {zs:List Int} {ims:List (List Tm)} (h:isAlg zs ims=true):conV zs ims=conI zs.length ims ims.length∧conE zs ims=0:=by simp [conV,conE,h]
set_option maxHeartbeats 8000000 in
theorem ConstantsOf_s {w : World} {da : Option Addr} {dn : Nat} {zs : List Int} {a : Option Addr} {n : Nat} {ims : List (List Tm)} (dc c : Nat) (hd : Ints w da dn zs) (hdn : dn ≤ 1048576) (hF : Frms w a n ims) (hn : n ≤ 1048576) (hL : ∀ im ∈ ims, (im.length : Int) ≤ 1048576) :
    Calls Try.prog 23 #[.agg #[.slice da dn dc,.slice a n c]] w fun e w'=>∃ra rn rc,e=.returned (.tuple #[.slice ra rn rc,.int .i64 (conE zs ims)])∧OwnT w' w.heap.size w'.heap.size ra rn (conV zs ims)∧Below w.heap.size w w':=by
 have HLL:=Lib.hid hL
 have HLn:=Lib.hid hF.len
 have HFF:=Lib.hid hF
 have HT:=Lib.hid hF.tm
 have HDL:=Lib.hid hd.len
 obtain ⟨tiR,tzR,htiR,htzR,htsR,htbR,htzsR⟩:=Try.info_intsA
 have HIR:=Lib.hid htiR
 have HZR:=Lib.hid htzR
 have HSR:=Lib.hid htsR
 have HBtR:=Lib.hid htbR
 have HZsR:=Lib.hid htzsR
 clear hL htiR htzR htsR htbR htzsR
 have hA:=Own.new w 33 #[.slice da dn dc,.slice a n c]
 have hb:=bA1 w (.cells #[.slice da dn dc,.slice a n c] 33)
 have c0:=hA.cell 0
 have c1:=hA.cell 1
 cases hal:isAlg zs ims
 all_goals
  have HA:=Lib.hid hal;clear hal;go_enter Try.func23,Try.ntmps23
  go_upto_region 1 with fail
  generalize w.alloc (.cells #[.slice da dn dc,.slice a n c] 33)=w0 at *;go_wp2_with fail
  refine (l02Is_c dc c (hd.keep hb) hdn (hF.keep hb) hn HLL.out).mono ?_;rintro e w1 ⟨rfl,hb1⟩;rw [HA.out];have hA1:=hA.keep hb1 hA.lt;have hb2:=bT' hb hb1 hb.size;clear hA hb hb1 c0 c1
 · go_wp2_with fail
   go_ret2
   exact ⟨none,0,0,by rw [(conV_no HA.out).2];rfl,by rw [(conV_no HA.out).1];exact OwnT.none_,hb2⟩
 · have hO:=isAlg_ok HA.out HT.out;have H400:=Lib.hid (fun im him=>isForm_400 (hO.fm im him));have h8:dn≤8:=(by have:=hO.h8;have:=HDL.out;omega);have hnd:n=dn:=(by have:=hO.ln;have:=HLn.out;have:=HDL.out;omega);subst hnd;clear hO;have hl0:=hA1.lt;have hR0:=empty_rowG w1 22 (B:=w.heap.size) (by omega);have hba:=bA1 w1 (.cells #[] 22);have hA2:=hA1.keep hba hA1.lt;have hb3:=bT' hb2 hba hb2.size;go_upto_region 4 with fail
   have hsz2:w.heap.size≤(w1.alloc (.cells #[] 22)).heap.size:=(by rw [sAl];omega);generalize w1.alloc (.cells #[] 22)=w2 at *;generalize w1.heap.size=gO at *;clear hA1 hb2 hba hl0;obtain ⟨lo,hlo⟩:∃lo,w.heap.size=lo:=⟨_,rfl⟩;rw [hlo] at hR0 hA2 hb3 hsz2 ⊢
   try rw [hlo]
   have HLO:=Lib.hid hlo;clear hlo;have HW0:Hid (CoB w2 lo [] (conI n ims 0)):=Lib.hid (CoB.nil _ _);go_upto_region 5 with fail
   go_loopw [4,5] (fun o y wr=>∃(i:Nat) (oa:Option Addr) (oc:Nat) (gs:List Nat),i≤n∧y=.int .i64 i∧o=.slice oa gs.length oc∧Below lo w wr∧lo≤wr.heap.size∧Own wr lo 33 #[.slice da n dc,.slice a n c]∧wr.ownsRow lo 22 1 (.slice oa gs.length oc) gs.length (rowsC gs)∧Hid (CoB wr lo gs (conI n ims i))) (fun _ y _=>n - (intOf y).toNat)
   case atStart=>exact ⟨0,_,_,[],Nat.zero_le _,rfl,rfl,hb3,hsz2,hA2,hR0,HW0⟩
   case round=>
    clear hb3 hA2 hR0 HW0 hsz2;obtain ⟨i,oa,oc,gs,hi,rfl,rfl,hb,hsz,hA,hR,HW⟩:=hrel;have cA:=hA.cell 1;have HR:=Lib.hid hR;clear hR;by_cases hin:i<n
    · obtain ⟨b,off,ts,ai,ni,ci,rfl,hbl,hc0,hT0,hni,hx⟩:=HFF.out.at_ hin;have hc:=(World.cell?_of_block (a:=⟨b,off+i,none⟩) (hb.block b (by rw [←HLO.out];exact hbl))).trans hc0;have hTs:=hT0.keep (by rw [HLO.out];exact hb);have hni4:ni≤400:=(by have:=H400.out ts (List.mem_of_getElem? hx.out);have:=hT0.len;omega);have hi0:(0:Int)≤(i:Int):=(by omega);have hkn:(i:Int)<(n:Int):=(by omega);go_wp2_with fail
      refine (l02Words_c ci 2 hTs hni4).mono ?_;rintro e w4 ⟨v,rfl,hV,hb5⟩;obtain ⟨va,vn,vc,rfl⟩:=hV.isSlice;have HCI:Hid (conI n ims (i+1)=conI n ims i++conJ n i (wordsOf 2 ts) n):=Lib.hid (by rw [conI,List.getD_eq_getElem?_getD,hx.out];rfl);have HQM:=Lib.hid (wordsOf_tm (n:=2) hT0.2.1);have HQ4:=Lib.hid (show (wordsOf 2 ts).length≤400 from Nat.le_trans (wordsOf_len 2 ts) (by have:=hT0.len;omega));generalize wordsOf 2 ts=qT at *;have hba:=bA1 w4 (.cells #[.slice va vn vc] 61);have hb6:=bT' hb5 hba hb5.size
      have hI0:CoI w (w4.alloc (.cells #[.slice va vn vc] 61)) lo #[.slice da n dc,.slice (some ⟨b,off,none⟩) n c] w4.heap.size va vn vc qT oa oc gs (conI n ims i):=
       ⟨bT' hb hb6 hsz,Nat.le_trans hsz hb6.size,hA.keep hb6 hA.lt,Own.new w4 _ _,(hV.weaken hsz).keep hba,World.ownsRow.kept HR.out (row:=none) ⟨hb6.os,hb6.tape,hb6.output,hb6.size,fun j hj _=>hb6.block j hj⟩ (by cases oa <;> simp [Value.ownBlock]),HW.out.keep hb6⟩
      have HI0:Hid (CoI w (w4.alloc (.cells #[.slice va vn vc] 61)) lo #[.slice da n dc,.slice (some ⟨b,off,none⟩) n c] w4.heap.size va vn vc qT oa oc gs (conI n ims i++conJ n i qT 0)):=Lib.hid (by rw [conJ,List.append_nil];exact hI0);clear hI0 hb hb5 hb6 hba hsz hA HW HR hV cA hc hc0 hT0 hTs hx hbl hni hni4;go_upto_region 8 with fail
      generalize w4.alloc (.cells #[.slice va vn vc] 61)=w5 at *;generalize w4.heap.size=gQ at *;go_upto_region 9 with fail
      go_loopw [4,7] (fun o y wx=>∃(j:Nat) (oa:Option Addr) (oc:Nat) (gs:List Nat),j≤n∧y=.int .i64 j∧o=.slice oa gs.length oc∧Hid (CoI w wx lo #[.slice da n dc,.slice (some ⟨b,off,none⟩) n c] gQ va vn vc qT oa oc gs (conI n ims i++conJ n i qT j))) (fun _ y _=>n - (intOf y).toNat)
      case atStart=>exact ⟨0,_,_,gs,Nat.zero_le _,rfl,rfl,HI0⟩
      case round=>
       clear HI0;obtain ⟨j,oa,oc,gs,hj,rfl,rfl,HI⟩:=hrel;have cA:=HI.out.al.cell 0;have hj0:(0:Int)≤(j:Int):=(by omega);by_cases hjn:j<n
       · have hjn2:(j:Int)<(n:Int):=(by omega);have HI3:Hid (CoI w wr lo #[.slice da n dc,.slice (some ⟨b,off,none⟩) n c] gQ va vn vc qT oa oc gs ((conI n ims i++conJ n i qT j)++conK i j qT 0)):=Lib.hid (by rw [conK,List.append_nil];exact HI.out);clear HI;go_upto_region 12 with fail
         clear cA
         go_loopw [4,8] (fun o y wx=>∃(d:Nat) (oa:Option Addr) (oc:Nat) (gs:List Nat),j+d≤n∧y=.int .i64 ((j+d:Nat):Int)∧o=.slice oa gs.length oc∧Hid (CoI w wx lo #[.slice da n dc,.slice (some ⟨b,off,none⟩) n c] gQ va vn vc qT oa oc gs ((conI n ims i++conJ n i qT j)++conK i j qT d))) (fun _ y _=>n - (intOf y).toNat)
         case atStart=>exact ⟨0,_,_,gs,by omega,rfl,rfl,HI3⟩
         case round=>
          clear HI3;obtain ⟨d,oa,oc,gs,hd3,rfl,rfl,HI⟩:=hrel;have cA:=HI.out.al.cell 0;obtain ⟨k,hk⟩:∃k,j+d=k:=⟨_,rfl⟩;rw [hk] at hd3 ⊢;have HK:=Lib.hid hk;clear hk;have hk0:(0:Int)≤(k:Int):=(by omega);by_cases hkn3:k<n
          · have hkn2:(k:Int)<(n:Int):=(by omega);have hI:=HI.out;have hb7:=bA1 wr (.cells #[.int .u8 0,.int .u8 0,.int .u8 0,.int .u8 0,.int .u8 0,.int .u8 0,.int .u8 0,.int .u8 0] 86);have hM:=Own.new wr 86 #[.int .u8 0,.int .u8 0,.int .u8 0,.int .u8 0,.int .u8 0,.int .u8 0,.int .u8 0,.int .u8 0];clear HI;go_upto_region 15 with fail
            clear cA;obtain ⟨gM,hgM⟩:∃g,wr.heap.size=g:=⟨_,rfl⟩;rw [hgM] at hb7 hM
            try rw [hgM]
            have HGM:=Lib.hid hgM;clear hgM;replace hM:Own (wr.alloc (.cells #[.int .u8 0,.int .u8 0,.int .u8 0,.int .u8 0,.int .u8 0,.int .u8 0,.int .u8 0,.int .u8 0] 86)) gM 86 (mcells (List.replicate 8 0)).toArray:=hM;generalize wr.alloc (.cells #[.int .u8 0,.int .u8 0,.int .u8 0,.int .u8 0,.int .u8 0,.int .u8 0,.int .u8 0,.int .u8 0] 86)=wm at *;have hj8:(j:Int)<8:=(by omega);have hk8:(k:Int)<8:=(by omega);have e1:=hM.cell j;rw [mcell_at zeroM_mono (by omega),zeroM_getD] at e1;have f1:=hM.frozen j;go_upto_region 16 with fail
            replace hM:=hM.set j (.int .u8 1);replace hb7:=hb7.setCell (p:=⟨gM,j,none⟩) (Nat.le_refl _) (.int .u8 1);have hB1:=bump_cells (List.replicate 8 0) j;rw [zeroM_getD,Int.zero_add] at hB1;rw [hB1] at hM;generalize wm.setCell ⟨gM,j,none⟩ (.int .u8 1)=wm1 at *;clear e1 f1 hB1;obtain ⟨x,hx⟩:∃x,(bump (List.replicate 8 0) j).getD k 0=x:=⟨_,rfl⟩;have hx1:=(getD_mono (oneM_mono j) k).1;have hx2:=oneM_getD j k;have e1:=hM.cell k;rw [mcell_at (oneM_mono j) (by omega)] at e1;rw [hx] at hx1 hx2 e1;have s1:IntKind.u8.wrap (x+1)=x+1:=IntWalk.u8_in _ (by omega);have f1:=hM.frozen k;go_upto_region 17 with fail
            replace hM:=hM.set k (.int .u8 (x+1));replace hb7:=hb7.setCell (p:=⟨gM,k,none⟩) (Nat.le_refl _) (.int .u8 (x+1));have hB1:=bump_cells (bump (List.replicate 8 0) j) k;rw [hx] at hB1;rw [hB1] at hM;replace hM:Own _ gM 86 (mcells (pairM j k)).toArray:=hM;generalize wm1.setCell ⟨gM,k,none⟩ (.int .u8 (x+1))=wm2 at *;clear e1 f1 hB1 hx hx1 hx2 s1;have hgM:lo≤gM:=(by have:=hI.sz;have:=HGM.out;omega);have HI4:Hid (CoI w wm2 lo #[.slice da n dc,.slice (some ⟨b,off,none⟩) n c] gQ va vn vc qT oa oc gs (((conI n ims i++conJ n i qT j)++conK i j qT d)++conT i j k qT 0)):=Lib.hid (by rw [conT,List.append_nil];exact hI.keep (by rw [HGM.out];exact hb7));clear hI hb7 HGM;go_upto_region 18 with fail
            go_loopw [4,10] (fun o y wx=>∃(t:Nat) (oa:Option Addr) (oc:Nat) (gs:List Nat),t≤vn∧y=.int .i64 t∧o=.slice oa gs.length oc∧Hid (CoI w wx lo #[.slice da n dc,.slice (some ⟨b,off,none⟩) n c] gQ va vn vc qT oa oc gs (((conI n ims i++conJ n i qT j)++conK i j qT d)++conT i j k qT t))∧Own wx gM 86 (mcells (pairM j k)).toArray) (fun _ y _=>vn - (intOf y).toNat)
            case atStart=>exact ⟨0,_,_,gs,Nat.zero_le _,rfl,rfl,HI4,hM⟩
            case round=>
             clear HI4 hM;obtain ⟨t,oa,oc,gs,ht,rfl,rfl,HI,hM⟩:=hrel;have cQ:=HI.out.q.cell 0;have hTq:=HI.out.r.read HQM.out;have HVN:=Lib.hid hTq.len;have hvn4:vn≤400:=(by have:=HQ4.out;have:=HVN.out;omega);have ht0:(0:Int)≤(t:Int):=(by omega);by_cases htn:t<vn
             · have htn2:(t:Int)<(vn:Int):=(by omega);obtain ⟨b2,o2,x2,rfl,hb2l,hro,htm,hxt⟩:=hTq.at_ htn;obtain ⟨xm,xf⟩:=x2;obtain ⟨q0,q1,q2,q3,q4,q5,q6,q7,hq⟩:=mono8 (pairM_mono j k);have hqm:=pairM_mono j k;rw [hq] at hM hqm;by_cases hxe:xm=pairM j k
               · have HCT:=Lib.hid (conT_yes (i:=i) hxt.out hxe);rw [hq] at hxe;subst hxe
                 have HQ:∀w,(Op.equalIn 10000 86 (.agg #[.int .u8 q0,.int .u8 q1,.int .u8 q2,.int .u8 q3,.int .u8 q4,.int .u8 q5,.int .u8 q6,.int .u8 q7]) (.agg #[.int .u8 q0,.int .u8 q1,.int .u8 q2,.int .u8 q3,.int .u8 q4,.int .u8 q5,.int .u8 q6,.int .u8 q7])).run Try.prog w=.ok true w:=fun w=>by
                  have:=eqM_run (w:=w) hqm hqm
                  rwa [decide_eq_true rfl] at this
                 have y8:wr.drew.cell? ⟨b2,o2+t * 9+8,none⟩=some (.int .i64 xf):=hro 8 _ rfl;have cQd:wr.drew.cell? ⟨gQ,0,none⟩=some (.slice (some ⟨b2,o2,none⟩) vn vc):=cQ;have hI:=HI.out.keep ((Below.refl _ _).drew:Below wr.heap.size wr wr.drew);have hMd:Own wr.drew gM 86 (mcells [q0,q1,q2,q3,q4,q5,q6,q7]).toArray:=hM;have hgl:=con_bd (n:=n) (i:=i) (j:=j) (d:=d) (t:=t) (k:=k) (ims:=ims) (qT:=qT) h8 (by omega) (by omega) (by have:=HK.out;omega) (by omega) H400.out HQ4.out;rw [←hI.co.len] at hgl;clear htm hxt;go_upto_region 20 with fail
                 go_region_held3 (fun w'=>w'.cell? ⟨gQ,0,none⟩=some (.slice (some ⟨b2,o2,none⟩) vn vc)∧(w'.cell? ⟨b2,o2+t * 9,none⟩=some (.int .u8 q0)∧w'.cell? ⟨b2,o2+t * 9+1,none⟩=some (.int .u8 q1)∧w'.cell? ⟨b2,o2+t * 9+2,none⟩=some (.int .u8 q2)∧w'.cell? ⟨b2,o2+t * 9+3,none⟩=some (.int .u8 q3)∧w'.cell? ⟨b2,o2+t * 9+4,none⟩=some (.int .u8 q4)∧w'.cell? ⟨b2,o2+t * 9+5,none⟩=some (.int .u8 q5)∧w'.cell? ⟨b2,o2+t * 9+6,none⟩=some (.int .u8 q6)∧w'.cell? ⟨b2,o2+t * 9+7,none⟩=some (.int .u8 q7))∧w'.cell? ⟨gM,0,none⟩=some (.int .u8 q0)∧w'.cell? ⟨gM,1,none⟩=some (.int .u8 q1)∧w'.cell? ⟨gM,2,none⟩=some (.int .u8 q2)∧w'.cell? ⟨gM,3,none⟩=some (.int .u8 q3)∧w'.cell? ⟨gM,4,none⟩=some (.int .u8 q4)∧w'.cell? ⟨gM,5,none⟩=some (.int .u8 q5)∧w'.cell? ⟨gM,6,none⟩=some (.int .u8 q6)∧w'.cell? ⟨gM,7,none⟩=some (.int .u8 q7)) (exact ⟨cQ,⟨hro 0 _ rfl,hro 1 _ rfl,hro 2 _ rfl,hro 3 _ rfl,hro 4 _ rfl,hro 5 _ rfl,hro 6 _ rfl,hro 7 _ rfl⟩,hM.cell 0,hM.cell 1,hM.cell 2,hM.cell 3,hM.cell 4,hM.cell 5,hM.cell 6,hM.cell 7⟩) (fail)
                 all_goals clear HI hM cQ hro hTq HQ
                 all_goals
                  generalize wr.drew=wd at *;have hgd:=Lib.hid hI.sz;have HR4:=Lib.hid ((hI.rw_.alloc (.cells #[.int .i64 i,.int .i64 j,.int .i64 k,.int .i64 xf] 2)).alloc (.cells #[.slice (some ⟨wd.heap.size,0,none⟩) 4 4] 22));have hN:=news1c (wd.alloc (.cells #[.int .i64 i,.int .i64 j,.int .i64 k,.int .i64 xf] 2)) (.slice (some ⟨wd.heap.size,0,none⟩) 4 4) 22;rw [sAl] at hN;have HN:=Lib.hid hN;have HO:=Lib.hid (show ∀u∈([Value.slice (some ⟨wd.heap.size,0,none⟩) 4 4]:List Value),u.oneCell'=true by simp [Value.oneCell']);have HI5:=Lib.hid hI;have HM5:=Lib.hid hMd;clear hN hI hMd
                  go_wp2_with (refine wpList_append_own_wide _ rfl (.tmp 69) (.tmp 80) 41 rfl lo 22 tiR tzR 1 24 Try.underlying41 HIR.out HZR.out HSR.out HBtR.out HZsR.out (by omega) (.slice oa gs.length oc) gs.length (rowsC gs) rfl HR4.out ⟨wd.heap.size + 1, 0, none⟩ 1 1 [Value.slice (some ⟨wd.heap.size, 0, none⟩) 4 4] rfl rfl HN.out HO.out (by simp only [maxLen]; omega) (by omega) (by rw [sAl, sAl]; have := hgd.out; omega) (fun v' w' h2 h3 h4 => ?_)
                               obtain ⟨xa,xc,rfl,hI6,hM6⟩:=HI5.out.push (r:=[(i:Int),(j:Int),(k:Int),xf]) rfl h2 h3;replace hM6:=hM6 gM _ _ HM5.out (by decide);have HI6:=Lib.hid hI6
                               clear h2 h3 h4 hI6)
                 all_goals go_roundw
                 all_goals first
                  | (case measure=>simp [intOf] <;> omega)
                  | skip
                 all_goals exact ⟨t+1,xa,xc,gs++[wd.heap.size],by omega,by go_num,by simp,by rw [HCT.out,←List.append_assoc];exact HI6,by rw [hq];exact hM6⟩
               · have HCT:=Lib.hid (conT_no (i:=i) hxt.out hxe);rw [hq] at hxe;have hxm:IsMono xm:=htm.1;obtain ⟨p0,p1,p2,p3,p4,p5,p6,p7,rfl⟩:=mono8 hxm
                 have HQ:∀w,(Op.equalIn 10000 86 (.agg #[.int .u8 p0,.int .u8 p1,.int .u8 p2,.int .u8 p3,.int .u8 p4,.int .u8 p5,.int .u8 p6,.int .u8 p7]) (.agg #[.int .u8 q0,.int .u8 q1,.int .u8 q2,.int .u8 q3,.int .u8 q4,.int .u8 q5,.int .u8 q6,.int .u8 q7])).run Try.prog w=.ok false w:=fun w=>by
                  have:=eqM_run (w:=w) hxm hqm
                  rwa [decide_eq_false hxe] at this
                 clear htm hxe hxt;go_upto_region 20 with fail
                 go_region_held3 (fun w'=>w'.cell? ⟨gQ,0,none⟩=some (.slice (some ⟨b2,o2,none⟩) vn vc)∧(w'.cell? ⟨b2,o2+t * 9,none⟩=some (.int .u8 p0)∧w'.cell? ⟨b2,o2+t * 9+1,none⟩=some (.int .u8 p1)∧w'.cell? ⟨b2,o2+t * 9+2,none⟩=some (.int .u8 p2)∧w'.cell? ⟨b2,o2+t * 9+3,none⟩=some (.int .u8 p3)∧w'.cell? ⟨b2,o2+t * 9+4,none⟩=some (.int .u8 p4)∧w'.cell? ⟨b2,o2+t * 9+5,none⟩=some (.int .u8 p5)∧w'.cell? ⟨b2,o2+t * 9+6,none⟩=some (.int .u8 p6)∧w'.cell? ⟨b2,o2+t * 9+7,none⟩=some (.int .u8 p7))∧w'.cell? ⟨gM,0,none⟩=some (.int .u8 q0)∧w'.cell? ⟨gM,1,none⟩=some (.int .u8 q1)∧w'.cell? ⟨gM,2,none⟩=some (.int .u8 q2)∧w'.cell? ⟨gM,3,none⟩=some (.int .u8 q3)∧w'.cell? ⟨gM,4,none⟩=some (.int .u8 q4)∧w'.cell? ⟨gM,5,none⟩=some (.int .u8 q5)∧w'.cell? ⟨gM,6,none⟩=some (.int .u8 q6)∧w'.cell? ⟨gM,7,none⟩=some (.int .u8 q7)) (exact ⟨cQ,⟨hro 0 _ rfl,hro 1 _ rfl,hro 2 _ rfl,hro 3 _ rfl,hro 4 _ rfl,hro 5 _ rfl,hro 6 _ rfl,hro 7 _ rfl⟩,hM.cell 0,hM.cell 1,hM.cell 2,hM.cell 3,hM.cell 4,hM.cell 5,hM.cell 6,hM.cell 7⟩) (fail)
                 all_goals go_wp2_with fail
                 all_goals go_roundw
                 all_goals first
                  | (case measure=>simp [intOf] <;> omega)
                  | skip
                 all_goals exact ⟨t+1,oa,oc,gs,by omega,by go_num,rfl,by rw [HCT.out];exact Lib.hid (HI.out.keep ((Below.refl _ _).drew)),by rw [hq];exact hM⟩
             · have he:t=vn:=(by omega);subst he;go_wp2_with fail
               go_roundw
               case rel=>exact ⟨d+1,oa,oc,gs,by have:=HK.out;omega,by have:=HK.out;go_num,rfl,by rw [conK,←List.append_assoc,HK.out,HVN.out];exact HI⟩
               case measure=>simp [intOf] <;> omega
          · have he:k=n:=(by omega);subst he;go_wp2_with fail
            go_roundw
            case rel=>exact ⟨j+1,oa,oc,gs,by omega,by go_num,rfl,by rw [conJ,←List.append_assoc,show k - j=d by have:=HK.out;omega];exact HI⟩
            case measure=>simp [intOf] <;> omega
       · have he:j=n:=(by omega);subst he;have HII:=HI.out;go_wp2_with fail
         go_roundw
         case rel=>exact ⟨i+1,oa,oc,gs,by omega,by go_num,rfl,HII.b,HII.sz,HII.al,HII.rw_,by rw [HCI.out];exact Lib.hid HII.co⟩
         case measure=>simp [intOf] <;> omega
    · have he:i=n:=(by omega);subst he;go_wp2_with fail
      go_ret2
      have hq:conI i ims i=conV zs ims:=(by rw [(conV_yes HA.out).1];rw [HDL.out,HLn.out]);rw [HLO.out];exact ⟨oa,gs.length,oc,by rw [(conV_yes HA.out).2];rfl,by rw [←hq];exact HW.out.ownT HR.out (Nat.le_refl _) (Nat.le_refl _),hb⟩
end Go.Proofs.Ytikldofmpkidbaa
