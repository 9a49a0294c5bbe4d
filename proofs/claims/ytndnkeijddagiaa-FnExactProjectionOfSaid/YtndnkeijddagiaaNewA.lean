
import Derived.Test.YtndnkeijddagiaaHeld
import Derived.Test.YtndnkeijddagiaaResult
import Derived.Test.YtndnkeijddagiaaKeep
import Derived.Test.YtndnkeijddagiaaFree
namespace Go.Proofs.Ytndnkeijddagiaa
set_option maxRecDepth 100000
open Go.RowKit Go.Deep
def shM (s:Nat) (m:List Int):List Int:=List.replicate s 0++m.take (8 - s)
def shT (s:Nat) (t:Tm):Tm:=⟨shM s t.m,t.f⟩
theorem shM_mono {s:Nat} {m:List Int} (h:IsMono m) (hs:s≤8):IsMono (shM s m):=by
 refine ⟨by simp [shM,h.1];omega,fun x hx=>?_⟩
 rcases List.mem_append.1 hx with hx | hx
 · have:=List.eq_of_mem_replicate hx;omega
 · exact h.2 x (List.mem_of_mem_take hx)
theorem shT_tm {s:Nat} {t:Tm} (h:IsTm t) (hs:s≤8):IsTm (shT s t):=⟨shM_mono h.1 hs,h.2⟩
theorem shT_zero {t:Tm} (h:IsTm t):shT 0 t=t:=by
 obtain ⟨m,f⟩:=t
 have:m.take 8=m:=List.take_of_length_le (Nat.le_of_eq h.1.1)
 simp [shT,shM,this]
theorem map_shT_zero {ts:List Tm} (h:∀t∈ts,IsTm t):ts.map (shT 0)=ts:=by
 induction ts with
 | nil=>rfl
 | cons t ts ih=>rw [List.map_cons,shT_zero (h t (by simp)),ih (fun u hu=>h u (by simp [hu]))]
theorem sh_take {s k:Nat} {ts:List Tm} {t:Tm} (h:ts[k]? = some t):(ts.take (k+1)).map (shT s)=(ts.take k).map (shT s)++[shT s t]:=by
 rw [List.take_add_one,h,List.map_append]
 rfl
def shL (s:Nat) (m:List Int) (i:Nat):List Int:=List.replicate s 0++(m.take i++List.replicate (8 - s - i) 0)
theorem shL_zero (s:Nat) (m:List Int) (hs:s≤8):shL s m 0=nul8:=by
 rw [shL,List.take_zero,List.nil_append,List.replicate_append_replicate]
 have:s+(8 - s - 0)=8:=by omega
 rw [this]
 rfl
theorem shL_step {s i:Nat} {m:List Int} {y:Int} (h:m[i]? = some y) (hi:i+s<8):(shL s m i).set (i+s) y=shL s m (i+1):=by
 have hl:=(List.getElem?_eq_some_iff.1 h).1
 rw [shL,shL,List.set_append_right _ _ (by simp),List.length_replicate,Nat.add_sub_cancel,List.set_append_right _ _ (by rw [List.length_take];omega),List.length_take,Nat.min_eq_left (by omega),Nat.sub_self,
  show 8 - s - i=(8 - s - (i+1))+1 by omega,List.replicate_succ,List.set_cons_zero,List.take_add_one,h,List.append_assoc]
 rfl
theorem shL_end {s i:Nat} {m:List Int} (hi:i+s=8):shL s m i=shM s m:=by
 rw [shL,shM,show 8 - s - i=0 by omega,List.replicate_zero,List.append_nil,show 8 - s=i by omega]
theorem set_u8 {l:List Int} {i:Nat} {y:Int}:((l.map (Value.int .u8)).toArray).setIfInBounds i (.int .u8 y)=((l.set i y).map (Value.int .u8)).toArray:=by simp [List.map_set]
theorem row_keep {w w':World} {B sz n:Nat} {t:TypeId} {v:Value} {xs:List Value} (h:w.ownsRow B t sz v n xs) (hb:Below w.heap.size w w'):w'.ownsRow B t sz v n xs:=
 World.ownsRow.kept h (row:=none) ⟨hb.os,hb.tape,hb.output,hb.size,fun k hk _=>hb.block k hk⟩ (by cases h0:v.ownBlock <;> simp)
theorem row_grown {w w':World} {B B' sz sz' n n':Nat} {t t':TypeId} {v v':Value} {xs xs':List Value} (h:w.ownsRow B t sz v n xs) (h':w.ownsRow B' t' sz' v' n' xs') (ht:t≠t') (hg:w.grownBy w' v'.ownBlock):w'.ownsRow B t sz v n xs:=
 World.ownsRow.kept h hg (by
  cases hv:v.ownBlock with
  | none=>exact Or.inl rfl
  | some q =>
    obtain ⟨os,ho⟩:=row_own h hv
    exact Or.inr (own_ne_row ho h' ht))
set_option maxHeartbeats 4000000 in
theorem l02Copy_c {w : World} {a : Option Addr} {n : Nat} {ts : List Tm} (c s : Nat) (h : Terms w a n ts) (hn : n ≤ 1048576) (hs8 : s ≤ 8) :
    Calls Try.prog 94 #[.agg #[.slice a n c],.int .i64 s] w fun e w'=>∃va vc,e=.returned (.agg #[.slice va n vc])∧OwnR w' w.heap.size (.slice va n vc) (ts.map (shT s))∧Below w.heap.size w w':=by
 have HLt:=Lib.hid h.len
 obtain ⟨ti,tz,hti,htz,hts,htb,htzs⟩:=Try.info_termA
 have HI:=Lib.hid hti
 have HZ:=Lib.hid htz
 have HS:=Lib.hid hts
 have HBt:=Lib.hid htb
 have HZs:=Lib.hid htzs
 clear hti htz hts htb htzs
 have hF2:=((Own.new w 47 #[.slice a n c]).alloc (.cells #[.slice none 0 0] 47)).alloc (.cells #[.slice none 0 0] 47)
 have hR2:=(Own.new (w.alloc (.cells #[.slice a n c] 47)) 47 #[.slice none 0 0]).alloc (.cells #[.slice none 0 0] 47)
 have hG2:=Own.new ((w.alloc (.cells #[.slice a n c] 47)).alloc (.cells #[.slice none 0 0] 47)) 47 #[.slice none 0 0]
 rw [sAl] at hR2
 rw [sAl,sAl] at hG2
 have hb02:=bTn (bTn (bA1 w (.cells #[.slice a n c] 47)) (bA1 _ (.cells #[.slice none 0 0] 47))) (bA1 _ (.cells #[.slice none 0 0] 47))
 go_enter Try.func94,Try.ntmps94
 go_upto_region 2 with fail
 generalize ((w.alloc (.cells #[.slice a n c] 47)).alloc (.cells #[.slice none 0 0] 47)).alloc (.cells #[.slice none 0 0] 47)=w2 at *
 generalize hg8:w.heap.size+1+1=g8 at *
 have hl1:w.heap.size+1<g8:=by omega
 clear hg8
 go_upto_region 3 with fail
 go_loopw [6] (fun i wr=>∃(k:Nat) (va:Option Addr) (vc:Nat),k≤n∧i=.int .i64 k∧Below w.heap.size w wr∧Own wr w.heap.size 47 #[.slice a n c]∧Own wr (w.heap.size+1) 47 #[.slice none 0 0]∧Own wr g8 47 #[.slice va k vc]∧OwnForm wr (g8+1) (.slice va k vc) ((ts.take k).map (shT s))) (fun i _=>n - (intOf i).toNat)
 case atStart=>exact ⟨0,none,0,Nat.zero_le _,rfl,hb02,hF2,hR2,hG2,⟨World.ownsRow_nil _ _ _ _,by simp⟩⟩
 case round=>
  clear hb02 hF2 hR2 hG2;obtain ⟨k,va,vc,hk,rfl,hb,hF,hR,hG,hOF⟩:=hrel;have cF:=hF.cell 0;by_cases hlt:k<n
  · obtain ⟨b,off,t,rfl,hbl,hr0,ht,hx⟩:=h.at_ hlt;have HTK:=Lib.hid (sh_take (s:=s) hx.out);have HTS:=Lib.hid (shT_tm ht hs8);obtain ⟨mt,ft⟩:=t;have hmt:IsMono mt:=ht.1;have HM:=Lib.hid hmt
    have HFX:Hid (w.cell? ⟨b,off+k * 9+8,none⟩=some (.int .i64 ft)):=Lib.hid (hr0 8 _ (by
     show (mcells mt++[Value.int .i64 ft])[8]? = _
     have h8:(mcells mt).length=8:=(by simp [mcells,hmt.1]);rw [List.getElem?_append_right (by omega),h8]
     rfl))
    have HBY:Hid (∀(i:Nat) (y:Int),mt[i]? = some y→w.cell? ⟨b,off+k * 9+i,none⟩=some (.int .u8 y)):=Lib.hid (fun i y hy=>hr0 i _ (by
     have hi:=(List.getElem?_eq_some_iff.1 hy).1;rw [tcells,List.getElem?_append_left (by simp [mcells];omega),mcells,List.getElem?_map,hy]
     rfl))
    have HLL:Hid (((ts.take k).map (shT s)).length=k):=Lib.hid (by rw [List.length_map,List.length_take,HLt.out];omega)
    have hO:wr.ownsRow (g8+1) 76 9 (.slice va k vc) k (rcells ((ts.take k).map (shT s))):=by
     have:=hOF.1
     rwa [HLL.out] at this
    clear hOF hr0;have hk0:(0:Int)≤(k:Int):=(by omega);have hkn:(k:Int)<(n:Int):=(by omega);have hMn:=Own.new wr 74 #[.int .u8 0,.int .u8 0,.int .u8 0,.int .u8 0,.int .u8 0,.int .u8 0,.int .u8 0,.int .u8 0];have hba:=bA1 wr (.cells #[.int .u8 0,.int .u8 0,.int .u8 0,.int .u8 0,.int .u8 0,.int .u8 0,.int .u8 0,.int .u8 0] 74);go_upto_region 6 with fail
    generalize wr.alloc (.cells #[.int .u8 0,.int .u8 0,.int .u8 0,.int .u8 0,.int .u8 0,.int .u8 0,.int .u8 0,.int .u8 0] 74)=w3 at *;generalize hgm:wr.heap.size=gM at *;have HGS:=Lib.hid hgm;generalize wr=W0 at *;have hgl:g8<gM:=(by rw [←hgm];exact hG.lt);clear hgm cF;have hM0:Own w3 gM 74 ((shL s mt 0).map (Value.int .u8)).toArray:=(by rw [shL_zero s mt hs8];exact hMn);clear hMn;go_upto_region 7 with fail
    go_loopw [8] (fun y wr=>∃i:Nat,i+s≤8∧y=.int .i64 i∧Below gM W0 wr∧Own wr gM 74 ((shL s mt i).map (Value.int .u8)).toArray) (fun y _=>8 - (intOf y).toNat)
    case atStart=>exact ⟨0,by omega,rfl,hba,hM0⟩
    case round=>
     clear hM0 hba;obtain ⟨i,hi,rfl,hbx,hM⟩:=hrel;obtain ⟨p,hp⟩:∃p:Nat,i+s=p:=⟨_,rfl⟩;have hip:(i:Int)+(s:Int)=(p:Int):=(by omega);by_cases hp8:p<8
     · have hFx:=hF.keep hbx (by omega);have cFx:=hFx.cell 0;obtain ⟨y,hy0,hy1,hy,HY⟩:=mono_at HM.out (show i<8 by omega);have hbw:=hb.trans (hbx.mono (show w.heap.size≤gM by omega));have hcy:=(World.cell?_of_block (a:=⟨b,off+k * 9+i,none⟩) (hbw.block b hbl)).trans (HBY.out i y HY.out);have hfz:=hM.frozen p;obtain ⟨ov,hcv⟩:=hM.has (i:=p) (by rw [List.size_toArray,List.length_map,shL];simp [HM.out.1];omega);have HSTP:Hid ((shL s mt i).set p y=shL s mt (i+1)):=Lib.hid (by rw [←hp];exact shL_step HY.out (by omega));have hpi:(p:Int)<8:=(by omega);have hp0:(0:Int)≤(p:Int):=(by omega);have hi8:(i:Int)<8:=(by omega);clear hy;go_wp2_with fail
       go_roundw
       case rel=>
        refine ⟨i+1,by omega,by go_num,hbx.setCell (p:=⟨gM,p,none⟩) (by dsimp only;omega) _,?_⟩;have:=hM.set p (.int .u8 y);rw [set_u8,HSTP.out] at this;exact this
       case measure=>simp [intOf] <;> omega
     · have hp8':p=8:=(by omega);subst hp8';rw [shL_end hp] at hM;go_upto_region 10 with fail
       have hbX:Below W0.heap.size W0 wr:=(by rw [HGS.out];exact hbx);replace hF:=hF.keep hbX hF.lt;replace hR:=hR.keep hbX hR.lt;replace hG:=hG.keep hbX hG.lt;replace hO:=row_keep hO hbX;replace hb:=bT' hb hbX hb.size;clear hbX hbx;obtain ⟨q0,q1,q2,q3,q4,q5,q6,q7,hqe⟩:=mono8 (shM_mono HM.out hs8);rw [hqe] at hM;replace hM:Own wr gM 74 #[.int .u8 q0,.int .u8 q1,.int .u8 q2,.int .u8 q3,.int .u8 q4,.int .u8 q5,.int .u8 q6,.int .u8 q7]:=hM;have HQE:Hid (rcells [shT s ⟨mt,ft⟩]=[Value.int .u8 q0,.int .u8 q1,.int .u8 q2,.int .u8 q3,.int .u8 q4,.int .u8 q5,.int .u8 q6,.int .u8 q7,.int .i64 ft]):=Lib.hid (by rw [shT,rcells_cons,tcells,hqe];rfl);have HGM:Hid (gM≠g8):=Lib.hid (by omega);have HON:Hid (∀u∈([Value.int .u8 q0,.int .u8 q1,.int .u8 q2,.int .u8 q3,.int .u8 q4,.int .u8 q5,.int .u8 q6,.int .u8 q7,.int .i64 ft]:List Value),u.oneCell'=true):=Lib.hid (by simp [Value.oneCell']);have hgM:=hM.lt;clear hqe hgM;replace hF:Own wr.drew w.heap.size 47 #[.slice (some ⟨b,off,none⟩) n c]:=hF;replace hR:Own wr.drew (w.heap.size+1) 47 #[.slice none 0 0]:=hR;replace hG:Own wr.drew g8 47 #[.slice va k vc]:=hG;replace hM:Own wr.drew gM 74 #[.int .u8 q0,.int .u8 q1,.int .u8 q2,.int .u8 q3,.int .u8 q4,.int .u8 q5,.int .u8 q6,.int .u8 q7]:=hM;replace hO:wr.drew.ownsRow (g8+1) 76 9 (.slice va k vc) k (rcells ((ts.take k).map (shT s))):=hO;replace hb:Below w.heap.size w wr.drew:=hb.drew;refine wp_region_held_drew (S:=(fun w'=>w'.cell? ⟨w.heap.size,0,none⟩=some (.slice (some ⟨b,off,none⟩) n c)∧w'.cell? ⟨gM,0,none⟩=some (.int .u8 q0)∧w'.cell? ⟨gM,1,none⟩=some (.int .u8 q1)∧w'.cell? ⟨gM,2,none⟩=some (.int .u8 q2)∧w'.cell? ⟨gM,3,none⟩=some (.int .u8 q3)∧w'.cell? ⟨gM,4,none⟩=some (.int .u8 q4)∧w'.cell? ⟨gM,5,none⟩=some (.int .u8 q5)∧w'.cell? ⟨gM,6,none⟩=some (.int .u8 q6)∧w'.cell? ⟨gM,7,none⟩=some (.int .u8 q7)∧w'.cell? ⟨b,off+k * 9+8,none⟩=some (.int .i64 ft))) (by kernel_rfl) ?_ (fun _=>?_)
       · ((try dsimp only);(exact ⟨hF.cell 0,hM.cell 0,hM.cell 1,hM.cell 2,hM.cell 3,hM.cell 4,hM.cell 5,hM.cell 6,hM.cell 7,(World.cell?_of_block (a:=⟨b,off+k * 9+8,none⟩) (hb.block b hbl)).trans HFX.out⟩))
       generalize wr.drew=W0d at *;refine hdT 0 ?_;refine hdT 2 ?_;refine hdT 3 ?_;refine hdT 4 ?_;refine hdT 5 ?_;refine hdT 6 ?_;refine hdT 7 ?_;refine hdT 8 ?_;refine hdT 9 ?_;refine wpAnyH_ready (rs:=[1,10]) (by kernel_rfl) (by simp) ?_;refine AllReadyH.cons (hdAt (i:=1) rfl) (fun K hK=>?_) (AllReadyH.cons (hdAt (i:=10) rfl) (fun K hK=>?_) AllReadyH.nil)
       · skip
         have cG:=hG.cell 0
         (go_simp;try go_wp2_with fail)
         refine hK.out _ _ ?_ (fun _=>?_)
         · ((try dsimp only);(exact ⟨hF.cell 0,hM.cell 0,hM.cell 1,hM.cell 2,hM.cell 3,hM.cell 4,hM.cell 5,hM.cell 6,hM.cell 7,(World.cell?_of_block (a:=⟨b,off+k * 9+8,none⟩) (hb.block b hbl)).trans HFX.out⟩))
         clear hK K
         (try simp only [Act.put,pA,pB,pC])
         refine hdC 10 (fun K hK=>?_)
         (go_simp;try go_wp2_with fail)
         have hN:=Own.new W0d 76 #[.int .u8 q0,.int .u8 q1,.int .u8 q2,.int .u8 q3,.int .u8 q4,.int .u8 q5,.int .u8 q6,.int .u8 q7,.int .i64 ft];have hbX:=bA1 W0d (.cells #[.int .u8 q0,.int .u8 q1,.int .u8 q2,.int .u8 q3,.int .u8 q4,.int .u8 q5,.int .u8 q6,.int .u8 q7,.int .i64 ft] 76);replace hF:=hF.keep hbX hF.lt;replace hR:=hR.keep hbX hR.lt;replace hG:=hG.keep hbX hG.lt;replace hM:=hM.keep hbX hM.lt;replace hO:=row_keep hO hbX;replace hb:=bT' hb hbX hb.size;generalize W0d.alloc (.cells #[.int .u8 q0,.int .u8 q1,.int .u8 q2,.int .u8 q3,.int .u8 q4,.int .u8 q5,.int .u8 q6,.int .u8 q7,.int .i64 ft] 76)=W1 at *;generalize hhNg:W0d.heap.size=ghN at *;clear hbX hhNg;refine hK.out _ _ ?_ (fun _=>?_)
         · ((try dsimp only);(exact ⟨hF.cell 0,hM.cell 0,hM.cell 1,hM.cell 2,hM.cell 3,hM.cell 4,hM.cell 5,hM.cell 6,hM.cell 7,(World.cell?_of_block (a:=⟨b,off+k * 9+8,none⟩) (hb.block b hbl)).trans HFX.out⟩))
         clear hK K
         (try simp only [Act.put,pA,pB,pC])
         refine hdC 11 (fun K hK=>?_);have HNW:Hid (∀j u,([Value.int .u8 q0,.int .u8 q1,.int .u8 q2,.int .u8 q3,.int .u8 q4,.int .u8 q5,.int .u8 q6,.int .u8 q7,.int .i64 ft]:List Value)[j]? = some u→W1.cell? ((⟨ghN,0,none⟩:Addr).add j)=some u):=Lib.hid (fun j u hu=>by rw [Addr.add_mid];exact hN.range j u hu);have HRW:=Lib.hid hO;have hszW:(g8+1)≤W1.heap.size:=Nat.succ_le_of_lt hG.lt;rw [if_pos (by rfl)];refine wp_append_own_wide _ (.tmp 37) (.tmp 46) 45 rfl (g8+1) 76 ti tz 9 16 Try.underlying45 HI.out HZ.out HS.out HBt.out HZs.out (by omega) (.slice va k vc) k _ rfl HRW.out ⟨ghN,0,none⟩ 1 1 [Value.int .u8 q0,.int .u8 q1,.int .u8 q2,.int .u8 q3,.int .u8 q4,.int .u8 q5,.int .u8 q6,.int .u8 q7,.int .i64 ft] rfl rfl HNW.out HON.out (by simp only [maxLen];omega) (by omega) hszW (fun v' W2 h2 h3 h4=>?_);obtain ⟨xa,xc,rfl⟩:=row_slice h2;replace hF:=hF.grown h3 (own_ne_row hF HRW.out (by decide));replace hR:=hR.grown h3 (own_ne_row hR HRW.out (by decide));replace hG:=hG.grown h3 (own_ne_row hG HRW.out (by decide));replace hM:=hM.grown h3 (own_ne_row hM HRW.out (by decide));replace hb:=grown_below hb h3 (fun j e=>by have:=(HRW.out.lt j e).1;omega) hb.size;have H2:=Lib.hid h2;have H4:=Lib.hid h4;clear h2 h4 hO;clear HNW HRW hszW h3;refine hK.out _ _ ?_ (fun _=>?_)
         · ((try dsimp only);(exact ⟨hF.cell 0,hM.cell 0,hM.cell 1,hM.cell 2,hM.cell 3,hM.cell 4,hM.cell 5,hM.cell 6,hM.cell 7,(World.cell?_of_block (a:=⟨b,off+k * 9+8,none⟩) (hb.block b hbl)).trans HFX.out⟩))
         clear hK K
         (try simp only [Act.put,pA,pB,pC])
         refine hdT 12 ?_;refine hdC 13 (fun K hK=>?_);have cG8:=hG.cell 0;have fG8:=hG.frozen 0
         (go_simp;go_wp2_with fail)
         replace hF:=hF.far (p:=⟨g8,0,none⟩) (by dsimp only;omega) (.slice xa (k+1) xc);replace hR:=hR.far (p:=⟨g8,0,none⟩) (by dsimp only;omega) (.slice xa (k+1) xc);replace hG:=hG.set 0 (.slice xa (k+1) xc);replace hM:=hM.far (p:=⟨g8,0,none⟩) HGM.out (.slice xa (k+1) xc);have H5:=Lib.hid (ownsRow_setCell_other (a:=⟨g8,0,none⟩) H2.out (fun e=>by have:=(H2.out.lt _ e).1;dsimp only at this;omega) (.slice xa (k+1) xc));replace hb:=hb.setCell (p:=⟨g8,0,none⟩) (by dsimp only;omega) (.slice xa (k+1) xc);generalize W2.setCell ⟨g8,0,none⟩ (.slice xa (k+1) xc)=W3 at *;refine hK.out _ _ ?_ (fun _=>?_)
         · ((try dsimp only);(exact ⟨hF.cell 0,hM.cell 0,hM.cell 1,hM.cell 2,hM.cell 3,hM.cell 4,hM.cell 5,hM.cell 6,hM.cell 7,(World.cell?_of_block (a:=⟨b,off+k * 9+8,none⟩) (hb.block b hbl)).trans HFX.out⟩))
         clear hK K
         (try simp only [Act.put,pA,pB,pC])
         refine wpAnyH_done (by kernel_rfl) ?_ _;go_wp2_with fail
         go_roundw
         case rel=>
          refine ⟨k+1,xa,xc,by omega,by go_num,hb,hF,hR,hG,?_⟩;rw [HTK.out];refine OwnForm.of H5.out (by rw [List.length_append,HLL.out];rfl) (by rw [rcells_append,HQE.out]) ⟨fun e=>absurd (H4.out.1 e).2 (by omega),fun e=>by omega⟩
         case measure=>simp [intOf] <;> omega
       · skip
         (go_simp;try go_wp2_with fail)
         have hN:=Own.new W0d 76 #[.int .u8 q0,.int .u8 q1,.int .u8 q2,.int .u8 q3,.int .u8 q4,.int .u8 q5,.int .u8 q6,.int .u8 q7,.int .i64 ft];have hbX:=bA1 W0d (.cells #[.int .u8 q0,.int .u8 q1,.int .u8 q2,.int .u8 q3,.int .u8 q4,.int .u8 q5,.int .u8 q6,.int .u8 q7,.int .i64 ft] 76);replace hF:=hF.keep hbX hF.lt;replace hR:=hR.keep hbX hR.lt;replace hG:=hG.keep hbX hG.lt;replace hM:=hM.keep hbX hM.lt;replace hO:=row_keep hO hbX;replace hb:=bT' hb hbX hb.size;generalize W0d.alloc (.cells #[.int .u8 q0,.int .u8 q1,.int .u8 q2,.int .u8 q3,.int .u8 q4,.int .u8 q5,.int .u8 q6,.int .u8 q7,.int .i64 ft] 76)=W4 at *;generalize hhNg:W0d.heap.size=ghN at *;clear hbX hhNg;refine hK.out _ _ ?_ (fun _=>?_)
         · ((try dsimp only);(exact ⟨hF.cell 0,hM.cell 0,hM.cell 1,hM.cell 2,hM.cell 3,hM.cell 4,hM.cell 5,hM.cell 6,hM.cell 7,(World.cell?_of_block (a:=⟨b,off+k * 9+8,none⟩) (hb.block b hbl)).trans HFX.out⟩))
         clear hK K
         (try simp only [Act.put,pA,pB,pC])
         refine hdC 1 (fun K hK=>?_);have cG:=hG.cell 0
         (go_simp;try go_wp2_with fail)
         refine hK.out _ _ ?_ (fun _=>?_)
         · ((try dsimp only);(exact ⟨hF.cell 0,hM.cell 0,hM.cell 1,hM.cell 2,hM.cell 3,hM.cell 4,hM.cell 5,hM.cell 6,hM.cell 7,(World.cell?_of_block (a:=⟨b,off+k * 9+8,none⟩) (hb.block b hbl)).trans HFX.out⟩))
         clear hK K
         (try simp only [Act.put,pA,pB,pC])
         refine hdC 11 (fun K hK=>?_);have HNW:Hid (∀j u,([Value.int .u8 q0,.int .u8 q1,.int .u8 q2,.int .u8 q3,.int .u8 q4,.int .u8 q5,.int .u8 q6,.int .u8 q7,.int .i64 ft]:List Value)[j]? = some u→W4.cell? ((⟨ghN,0,none⟩:Addr).add j)=some u):=Lib.hid (fun j u hu=>by rw [Addr.add_mid];exact hN.range j u hu);have HRW:=Lib.hid hO;have hszW:(g8+1)≤W4.heap.size:=Nat.succ_le_of_lt hG.lt;rw [if_pos (by rfl)];refine wp_append_own_wide _ (.tmp 37) (.tmp 46) 45 rfl (g8+1) 76 ti tz 9 16 Try.underlying45 HI.out HZ.out HS.out HBt.out HZs.out (by omega) (.slice va k vc) k _ rfl HRW.out ⟨ghN,0,none⟩ 1 1 [Value.int .u8 q0,.int .u8 q1,.int .u8 q2,.int .u8 q3,.int .u8 q4,.int .u8 q5,.int .u8 q6,.int .u8 q7,.int .i64 ft] rfl rfl HNW.out HON.out (by simp only [maxLen];omega) (by omega) hszW (fun v' W5 h2 h3 h4=>?_);obtain ⟨xa,xc,rfl⟩:=row_slice h2;replace hF:=hF.grown h3 (own_ne_row hF HRW.out (by decide));replace hR:=hR.grown h3 (own_ne_row hR HRW.out (by decide));replace hG:=hG.grown h3 (own_ne_row hG HRW.out (by decide));replace hM:=hM.grown h3 (own_ne_row hM HRW.out (by decide));replace hb:=grown_below hb h3 (fun j e=>by have:=(HRW.out.lt j e).1;omega) hb.size;have H2:=Lib.hid h2;have H4:=Lib.hid h4;clear h2 h4 hO;clear HNW HRW hszW h3;refine hK.out _ _ ?_ (fun _=>?_)
         · ((try dsimp only);(exact ⟨hF.cell 0,hM.cell 0,hM.cell 1,hM.cell 2,hM.cell 3,hM.cell 4,hM.cell 5,hM.cell 6,hM.cell 7,(World.cell?_of_block (a:=⟨b,off+k * 9+8,none⟩) (hb.block b hbl)).trans HFX.out⟩))
         clear hK K
         (try simp only [Act.put,pA,pB,pC])
         refine hdT 12 ?_;refine hdC 13 (fun K hK=>?_);have cG8:=hG.cell 0;have fG8:=hG.frozen 0
         (go_simp;go_wp2_with fail)
         replace hF:=hF.far (p:=⟨g8,0,none⟩) (by dsimp only;omega) (.slice xa (k+1) xc);replace hR:=hR.far (p:=⟨g8,0,none⟩) (by dsimp only;omega) (.slice xa (k+1) xc);replace hG:=hG.set 0 (.slice xa (k+1) xc);replace hM:=hM.far (p:=⟨g8,0,none⟩) HGM.out (.slice xa (k+1) xc);have H5:=Lib.hid (ownsRow_setCell_other (a:=⟨g8,0,none⟩) H2.out (fun e=>by have:=(H2.out.lt _ e).1;dsimp only at this;omega) (.slice xa (k+1) xc));replace hb:=hb.setCell (p:=⟨g8,0,none⟩) (by dsimp only;omega) (.slice xa (k+1) xc);generalize W5.setCell ⟨g8,0,none⟩ (.slice xa (k+1) xc)=W6 at *;refine hK.out _ _ ?_ (fun _=>?_)
         · ((try dsimp only);(exact ⟨hF.cell 0,hM.cell 0,hM.cell 1,hM.cell 2,hM.cell 3,hM.cell 4,hM.cell 5,hM.cell 6,hM.cell 7,(World.cell?_of_block (a:=⟨b,off+k * 9+8,none⟩) (hb.block b hbl)).trans HFX.out⟩))
         clear hK K
         (try simp only [Act.put,pA,pB,pC])
         refine wpAnyH_done (by kernel_rfl) ?_ _;go_wp2_with fail
         go_roundw
         case rel=>
          refine ⟨k+1,xa,xc,by omega,by go_num,hb,hF,hR,hG,?_⟩;rw [HTK.out];refine OwnForm.of H5.out (by rw [List.length_append,HLL.out];rfl) (by rw [rcells_append,HQE.out]) ⟨fun e=>absurd (H4.out.1 e).2 (by omega),fun e=>by omega⟩
         case measure=>simp [intOf] <;> omega
  · have he:k=n:=(by omega);subst he;have c3:=hG.cell 0;have cR:=hR.cell 0;have fR:=hR.frozen 0;go_wp2_with fail
    have q:=hR.set 0 (.slice va k vc);refine bodyPost_ret (results_cell_row rfl _ _ (w.heap.size+1) 47 #[.slice va k vc] (0,0) _ rfl q Try.underlying47 rfl Try.info_form) rfl ⟨va,vc,rfl,?_,hb.setCell (p:=⟨w.heap.size+1,0,none⟩) (by dsimp only;omega) _⟩;rw [List.take_of_length_le (Nat.le_of_eq HLt.out)] at hOF;exact ((hOF.set (p:=⟨w.heap.size+1,0,none⟩) (by dsimp only;omega) _).weaken (by omega)).r
theorem eq_nil_someF {x:Addr} {n c:Nat} (w:World):(binOp BinOp.eql 27 (.slice (some x) n c) (.slice none 0 0)).run Try.prog w=.ok (.bool false) w:=by kernel_rfl
theorem cloneI_c {w : World} {g o n : Nat} {zs : List Int} (c : Nat) (h : Ints w (some ⟨g, o, none⟩) n zs) (hn : n ≤ 1048576) :
    Calls Try.prog 79 #[.slice (some ⟨g,o,none⟩) n c] w fun e w'=>∃a c',e=.returned (.slice a n c')∧w'.ownsRow w.heap.size 2 1 (.slice a n c') n (zs.map (Value.int .i64))∧Below w.heap.size w w':=by
 obtain ⟨ti,tz,hti,htz,hts,htb,htzs⟩:=Try.info_intA
 have hnews:∀j u,((zs.map (Value.int .i64)):List Value)[j]? = some u→(w.alloc (.cells #[] 2)).cell? ((⟨g,o,none⟩:Addr).add j)=some u:=fun j u hu=>by
  have hl:(zs.map (Value.int .i64)).length=n:=(by rw [List.length_map];exact h.1);have hj:=(List.getElem?_eq_some_iff.1 hu).1;obtain ⟨b,off,e,hb,hc⟩:=h.2 (by omega)
  injection e with e
  injection e with e1 e2
  subst e1 e2;rw [Addr.add_mid,World.cell?_alloc_lt _ _ _ hb,hc j (by omega)];rw [List.getElem?_map,getD_of (by rw [List.length_map] at hj;exact hj)] at hu;exact hu
 have hone:∀u∈((zs.map (Value.int .i64)):List Value),u.oneCell'=true:=by
  intro u hu;obtain ⟨x,-,rfl⟩:=List.mem_map.1 hu;rfl
 have hlen:((zs.map (Value.int .i64)):List Value).length=n * 1:=by rw [List.length_map,Nat.mul_one];exact h.1
 have hro:(w.alloc (.cells #[] 2)).ownsRow w.heap.size 2 1 (.slice (some ⟨w.heap.size,0,none⟩) 0 0) 0 []:=⟨rfl,Or.inr ⟨w.heap.size,0,#[],rfl,Nat.le_refl _,heap_alloc_new w _,Nat.le_refl _,by simp [maxLen],rfl,rfl⟩⟩
 have HN:=Lib.hid hnews
 have HO:=Lib.hid hone
 have HI:=Lib.hid hti
 have HZ:=Lib.hid htz
 have HS:=Lib.hid hts
 have HBt:=Lib.hid htb
 have HZs:=Lib.hid htzs
 have HLN:=Lib.hid hlen
 have HR:=Lib.hid hro
 have HEQ:=eq_nil_some (x:=⟨g,o,none⟩) (n:=n) (c:=c) w
 clear hnews hone hti htz hts htb htzs hlen hro h
 go_enter Try.func79,Try.ntmps79
 go_wp2_with (refine wpList_append_own_wide _ rfl (.tmp 5) (.tmp 6) 22 rfl w.heap.size 2 ti tz 1 8 Try.underlying22 HI.out HZ.out HS.out HBt.out HZs.out (by omega) (.slice (some ⟨w.heap.size,0,none⟩) 0 0) 0 [] rfl HR.out ⟨g,o,none⟩ n c (zs.map (Value.int .i64)) rfl HLN.out HN.out HO.out (by simp only [maxLen];omega) (by omega) (by rw [sAl];omega) (fun v' w' h2 h3 h4=>?_))
 rw [Nat.zero_add,List.nil_append] at h2
 obtain ⟨a',c',rfl⟩:=row_slice h2
 have hb:=grown_below (bA1 w (.cells #[] 2)) h3 (fun k e=>by have:w.heap.size=k:=(by simpa [Value.ownBlock] using e);omega) (by rw [sAl];omega)
 have H2:=Lib.hid h2
 clear h2 h3 h4
 go_wp2_with fail
 go_ret
 exact ⟨a',c',rfl,H2.out,hb⟩
theorem l01OwnI_c {w : World} {g o n : Nat} {zs : List Int} (c : Nat) (h : Ints w (some ⟨g, o, none⟩) n zs) (hn : n ≤ 1048576) :
    Calls Try.prog 93 #[.slice (some ⟨g,o,none⟩) n c] w fun e w'=>∃a c',e=.returned (.slice a n c')∧w'.ownsRow w.heap.size 2 1 (.slice a n c') n (zs.map (Value.int .i64))∧Below w.heap.size w w':=by
 obtain ⟨ti,tz,hti,htz,hts,htb,htzs⟩:=Try.info_intA
 have hnews:∀j u,((zs.map (Value.int .i64)):List Value)[j]? = some u→(w.alloc (.cells #[] 2)).cell? ((⟨g,o,none⟩:Addr).add j)=some u:=fun j u hu=>by
  have hl:(zs.map (Value.int .i64)).length=n:=(by rw [List.length_map];exact h.1);have hj:=(List.getElem?_eq_some_iff.1 hu).1;obtain ⟨b,off,e,hb,hc⟩:=h.2 (by omega)
  injection e with e
  injection e with e1 e2
  subst e1 e2;rw [Addr.add_mid,World.cell?_alloc_lt _ _ _ hb,hc j (by omega)];rw [List.getElem?_map,getD_of (by rw [List.length_map] at hj;exact hj)] at hu;exact hu
 have hone:∀u∈((zs.map (Value.int .i64)):List Value),u.oneCell'=true:=by
  intro u hu;obtain ⟨x,-,rfl⟩:=List.mem_map.1 hu;rfl
 have hlen:((zs.map (Value.int .i64)):List Value).length=n * 1:=by rw [List.length_map,Nat.mul_one];exact h.1
 have hro:(w.alloc (.cells #[] 2)).ownsRow w.heap.size 2 1 (.slice (some ⟨w.heap.size,0,none⟩) 0 0) 0 []:=⟨rfl,Or.inr ⟨w.heap.size,0,#[],rfl,Nat.le_refl _,heap_alloc_new w _,Nat.le_refl _,by simp [maxLen],rfl,rfl⟩⟩
 have HN:=Lib.hid hnews
 have HO:=Lib.hid hone
 have HI:=Lib.hid hti
 have HZ:=Lib.hid htz
 have HS:=Lib.hid hts
 have HBt:=Lib.hid htb
 have HZs:=Lib.hid htzs
 have HLN:=Lib.hid hlen
 have HR:=Lib.hid hro
 clear hnews hone hti htz hts htb htzs hlen hro h
 go_enter Try.func93,Try.ntmps93
 go_wp2_with (refine wpList_append_own_wide _ rfl (.tmp 3) (.tmp 4) 22 rfl w.heap.size 2 ti tz 1 8 Try.underlying22 HI.out HZ.out HS.out HBt.out HZs.out (by omega) (.slice (some ⟨w.heap.size,0,none⟩) 0 0) 0 [] rfl HR.out ⟨g,o,none⟩ n c (zs.map (Value.int .i64)) rfl HLN.out HN.out HO.out (by simp only [maxLen];omega) (by omega) (by rw [sAl];omega) (fun v' w' h2 h3 h4=>?_))
 rw [Nat.zero_add,List.nil_append] at h2
 obtain ⟨a',c',rfl⟩:=row_slice h2
 have hb:=grown_below (bA1 w (.cells #[] 2)) h3 (fun k e=>by have:w.heap.size=k:=(by simpa [Value.ownBlock] using e);omega) (by rw [sAl];omega)
 have H2:=Lib.hid h2
 clear h2 h3 h4
 go_wp2_with fail
 go_ret
 exact ⟨a',c',rfl,H2.out,hb⟩
theorem cloneF_c {w : World} {g o n : Nat} {vs : List Value} (c : Nat) (h : ∀ (j : Nat) v, vs[j]? = some v → w.cell? ⟨g, o + j, none⟩ = some v) (h1 : ∀ v ∈ vs, v.oneCell' = true) (hl : vs.length = n) (hn : n ≤ 1048576) :
    Calls Try.prog 80 #[.slice (some ⟨g,o,none⟩) n c] w fun e w'=>∃a c',e=.returned (.slice a n c')∧w'.ownsRow w.heap.size 47 1 (.slice a n c') n vs∧Below w.heap.size w w':=by
 obtain ⟨ti,tz,hti,htz,hts,htb,htzs⟩:=Try.info_formA
 have hnews:∀j u,(vs:List Value)[j]? = some u→(w.alloc (.cells #[] 47)).cell? ((⟨g,o,none⟩:Addr).add j)=some u:=fun j u hu=>by
  have hb:=h j u hu;rw [Addr.add_mid,World.cell?_alloc_lt _ _ _ (World.block_lt_of_cell? w ⟨g,o+j,none⟩ hb)];exact hb
 have hone:∀u∈(vs:List Value),u.oneCell'=true:=by
  exact h1
 have hlen:(vs:List Value).length=n * 1:=by rw [Nat.mul_one];exact hl
 have hro:(w.alloc (.cells #[] 47)).ownsRow w.heap.size 47 1 (.slice (some ⟨w.heap.size,0,none⟩) 0 0) 0 []:=⟨rfl,Or.inr ⟨w.heap.size,0,#[],rfl,Nat.le_refl _,heap_alloc_new w _,Nat.le_refl _,by simp [maxLen],rfl,rfl⟩⟩
 have HN:=Lib.hid hnews
 have HO:=Lib.hid hone
 have HI:=Lib.hid hti
 have HZ:=Lib.hid htz
 have HS:=Lib.hid hts
 have HBt:=Lib.hid htb
 have HZs:=Lib.hid htzs
 have HLN:=Lib.hid hlen
 have HR:=Lib.hid hro
 have HEQ:=eq_nil_someF (x:=⟨g,o,none⟩) (n:=n) (c:=c) w
 clear h1 hl
 clear hnews hone hti htz hts htb htzs hlen hro h
 go_enter Try.func80,Try.ntmps80
 go_wp2_with (refine wpList_append_own_wide _ rfl (.tmp 5) (.tmp 6) 27 rfl w.heap.size 47 ti tz 1 24 Try.underlying27 HI.out HZ.out HS.out HBt.out HZs.out (by omega) (.slice (some ⟨w.heap.size,0,none⟩) 0 0) 0 [] rfl HR.out ⟨g,o,none⟩ n c vs rfl HLN.out HN.out HO.out (by simp only [maxLen];omega) (by omega) (by rw [sAl];omega) (fun v' w' h2 h3 h4=>?_))
 rw [Nat.zero_add,List.nil_append] at h2
 obtain ⟨a',c',rfl⟩:=row_slice h2
 have hb:=grown_below (bA1 w (.cells #[] 47)) h3 (fun k e=>by have:w.heap.size=k:=(by simpa [Value.ownBlock] using e);omega) (by rw [sAl];omega)
 have H2:=Lib.hid h2
 clear h2 h3 h4
 go_wp2_with fail
 go_ret
 exact ⟨a',c',rfl,H2.out,hb⟩
set_option maxHeartbeats 2000000 in
theorem newAlgebra_c {w : World} {gd od dn gi oi n : Nat} {zs : List Int} {fss : List (List Tm)} (dc c : Nat) (hd : Ints w (some ⟨gd, od, none⟩) dn zs) (hdn : dn ≤ 1048576) (h : FrmsN w (some ⟨gi, oi, none⟩) n fss) (hn : n ≤ 1048576) (hT : ∀ ts ∈ fss, ∀ t ∈ ts, IsTm t) (hS : sumLen fss ≤ 1048576) :
    Calls Try.prog 59 #[.slice (some ⟨gd,od,none⟩) dn dc,.slice (some ⟨gi,oi,none⟩) n c] w fun e w'=>∃a ac b,e=.returned (.agg #[.slice a dn ac,.slice b n n])∧OwnV w' w.heap.size w'.heap.size a dn zs∧OwnF w' w.heap.size w'.heap.size b n fss∧Below w.heap.size w w':=by
 have HTT:=Lib.hid hT
 have HSS:=Lib.hid hS
 clear hT hS
 have hO:=Own.new w 29 #[.slice none 0 0,.slice none 0 0]
 have hb:=bA1 w (.cells #[.slice none 0 0,.slice none 0 0] 29)
 have hd1:=hd.keep hb
 have h1:=h.keep hb
 go_enter Try.func59,Try.ntmps59
 go_upto_region 1 with fail
 generalize w.alloc (.cells #[.slice none 0 0,.slice none 0 0] 29)=w0 at *
 generalize hg:w.heap.size=G at *
 have HG:=Lib.hid hg
 clear hg hd h
 have hl0:=hO.lt
 go_wp2_with fail
 refine (cloneI_c dc hd1 hdn).mono ?_
 rintro e w1 ⟨a,ac,rfl,hVr,hb1⟩
 obtain ⟨a',ac',hvv,hV⟩:=OwnV.of_row hVr
 simp only [Value.slice.injEq] at hvv
 obtain ⟨rfl,-,rfl⟩:=hvv
 clear hVr
 have hO1:=hO.keep hb1 hO.lt
 have h2:=h1.keep hb1
 have hb2:=bT' hb hb1 (by omega)
 have hV1:=hV.weaken (lo':=G+1) (by omega) (Nat.le_refl _)
 clear hO hb1 h1 hd1 hV hb
 have hl1:=hO1.lt
 go_wp2_with fail
 refine (keepForms_c c h2 hn HTT.out HSS.out).mono ?_
 rintro e w2 ⟨gb,rfl,hE,hb3⟩
 have hO2:=hO1.keep hb3 hO1.lt
 have hV2:=(hV1.keep hb3).weaken (Nat.le_refl _) hb3.size
 have hb4:=bT' hb2 hb3 (by omega)
 have hE1:=hE.weaken (lo':=G+1) (by omega) (Nat.le_refl _)
 clear hO1 hb2 hV1 hb3 h2 hE
 have k0:=hO2.cell 0
 have k1:=hO2.cell 1
 have f0:=hO2.frozen 0
 have f1:=hO2.frozen 1
 go_wp2_with fail
 have s2:=((hO2.set 0 (.slice a dn ac)).set 1 (.slice (some ⟨gb,0,none⟩) n n))
 have ht:Touch (fun k=>k=G) w2 ((w2.setCell ⟨G,0,none⟩ (.slice a dn ac)).setCell ⟨G,1,none⟩ (.slice (some ⟨gb,0,none⟩) n n)):=Touch.of_only (((Only.refl G w2).set 0 _).set 1 _)
 refine bodyPost_ret (results_cell_row rfl _ _ G 29 #[.slice a dn ac,.slice (some ⟨gb,0,none⟩) n n] (0,0) _ rfl s2 Try.underlying29 rfl Try.info_alg) rfl ⟨a,ac,some ⟨gb,0,none⟩,rfl,?_,?_,?_⟩
 · rw [HG.out];exact (hV2.touch ht (fun g h1 h2=>by omega)).weaken (by omega) (by simp)
 · rw [HG.out];exact (hE1.touch ht (fun g h1 h2=>by omega)).weaken (by omega) (by simp)
 · rw [HG.out];exact (hb4.setCell (p:=⟨G,0,none⟩) (by dsimp only;omega) _).setCell (p:=⟨G,1,none⟩) (by dsimp only;omega) _
end Go.Proofs.Ytndnkeijddagiaa
