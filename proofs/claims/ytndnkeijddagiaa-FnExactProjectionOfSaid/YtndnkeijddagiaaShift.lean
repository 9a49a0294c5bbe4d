
import Derived.Test.YtndnkeijddagiaaTimesM
import Derived.Test.YtndnkeijddagiaaAddS
import Derived.Test.YtndnkeijddagiaaMulM
import Derived.Test.YtndnkeijddagiaaLawMul
import Derived.Test.YtndnkeijddagiaaResult
namespace Go.Proofs.Ytndnkeijddagiaa
set_option maxRecDepth 100000
open Go.RowKit Go.Deep
theorem joinedR {w : World} {a : Option Addr} {n : Nat} {zs R : List Int} {p0 p1 p2 p3 p4 p5 p6 p7 q0 q1 q2 q3 q4 q5 q6 q7 s : Int} (c : Nat) (h : Ints w a n zs) (F : FitW zs [p0, p1, p2, p3, p4, p5, p6, p7] [q0, q1, q2, q3, q4, q5, q6, q7]) (hr : joinM zs [p0, p1, p2, p3, p4, p5, p6, p7] [q0, q1, q2, q3, q4, q5, q6, q7] = R) (hs : joinS zs [p0, p1, p2, p3, p4, p5, p6, p7] [q0, q1, q2, q3, q4, q5, q6, q7] = s) :
    Calls Try.prog 138 #[.slice a n c,.agg #[.int .u8 p0,.int .u8 p1,.int .u8 p2,.int .u8 p3,.int .u8 p4,.int .u8 p5,.int .u8 p6,.int .u8 p7],.agg #[.int .u8 q0,.int .u8 q1,.int .u8 q2,.int .u8 q3,.int .u8 q4,.int .u8 q5,.int .u8 q6,.int .u8 q7]] w fun e w'=>e=.returned (.tuple #[.agg (mcells R).toArray,.int .i64 s])∧Below w.heap.size w w':=by
 have:=l01Joined_w c h F
 rw [hr,hs] at this
 exact this
theorem shiftT_append (zs:List Int) (t:Tm):∀xs ys:List Tm,shiftT zs t (xs++ys)=shiftT zs t xs++shiftT zs t ys
 | [],ys=>rfl
 | x :: xs, ys => by
   have ih:=shiftT_append zs t xs ys;rw [List.cons_append];by_cases h:joinS zs t.m x.m=0
   · rw [shiftT_no h,shiftT_no h,ih]
   · rw [shiftT_yes h,shiftT_yes h,ih];rfl
theorem shiftT_take_no {zs:List Int} {t u:Tm} {gs:List Tm} {j:Nat} (h:gs[j]? = some u) (hs:joinS zs t.m u.m=0):shiftT zs t (gs.take (j+1))=shiftT zs t (gs.take j):=by
 rw [List.take_add_one,h,shiftT_append,Option.toList_some,shiftT_no hs,shiftT,List.append_nil]
theorem shiftT_take_yes {zs:List Int} {t u:Tm} {gs:List Tm} {j:Nat} {s:Int} {r:List Int} (h:gs[j]? = some u) (hs:joinS zs t.m u.m=s) (hr:joinM zs t.m u.m=r) (h0:¬s=0):shiftT zs t (gs.take (j+1))=shiftT zs t (gs.take j)++[⟨r,num (s * t.f * u.f)⟩]:=by
 rw [List.take_add_one,h,shiftT_append,Option.toList_some,shiftT_yes (by rw [hs];exact h0),shiftT,hs,hr]
theorem cellsH5 {w':World} {T0 g1 n c b2 o2 j:Nat} {p0 p1 p2 p3 p4 p5 p6 p7 tf q0 q1 q2 q3 q4 q5 q6 q7 uf:Int} {t1 t2:TypeId} (hT:Own w' T0 t1 #[.int .u8 p0,.int .u8 p1,.int .u8 p2,.int .u8 p3,.int .u8 p4,.int .u8 p5,.int .u8 p6,.int .u8 p7,.int .i64 tf]) (hG:Own w' g1 t2 #[.slice (some ⟨b2,o2,none⟩) n c]) (h2:w'.rangeAt b2 (o2+j * 9) (tcells ⟨[q0,q1,q2,q3,q4,q5,q6,q7],uf⟩)):w'.cell? ⟨T0,0,none⟩=some (.int .u8 p0)∧w'.cell? ⟨T0,1,none⟩=some (.int .u8 p1)∧w'.cell? ⟨T0,2,none⟩=some (.int .u8 p2)∧w'.cell? ⟨T0,3,none⟩=some (.int .u8 p3)∧w'.cell? ⟨T0,4,none⟩=some (.int .u8 p4)∧w'.cell? ⟨T0,5,none⟩=some (.int .u8 p5)∧w'.cell? ⟨T0,6,none⟩=some (.int .u8 p6)∧w'.cell? ⟨T0,7,none⟩=some (.int .u8 p7)∧w'.cell? ⟨g1,0,none⟩=some (.slice (some ⟨b2,o2,none⟩) n c)∧w'.cell? ⟨b2,o2+j * 9,none⟩=some (.int .u8 q0)∧w'.cell? ⟨b2,o2+j * 9+1,none⟩=some (.int .u8 q1)∧w'.cell? ⟨b2,o2+j * 9+2,none⟩=some (.int .u8 q2)∧w'.cell? ⟨b2,o2+j * 9+3,none⟩=some (.int .u8 q3)∧w'.cell? ⟨b2,o2+j * 9+4,none⟩=some (.int .u8 q4)∧w'.cell? ⟨b2,o2+j * 9+5,none⟩=some (.int .u8 q5)∧w'.cell? ⟨b2,o2+j * 9+6,none⟩=some (.int .u8 q6)∧w'.cell? ⟨b2,o2+j * 9+7,none⟩=some (.int .u8 q7):=
 ⟨hT.cell 0,hT.cell 1,hT.cell 2,hT.cell 3,hT.cell 4,hT.cell 5,hT.cell 6,hT.cell 7,hG.cell 0,h2 0 _ rfl,h2 1 _ rfl,h2 2 _ rfl,h2 3 _ rfl,h2 4 _ rfl,h2 5 _ rfl,h2 6 _ rfl,h2 7 _ rfl⟩
theorem cellsH7 {w':World} {T0 g1 g9 n c b2 o2 j:Nat} {p0 p1 p2 p3 p4 p5 p6 p7 tf q0 q1 q2 q3 q4 q5 q6 q7 uf r0 r1 r2 r3 r4 r5 r6 r7:Int} {t1 t2 t3:TypeId} (hT:Own w' T0 t1 #[.int .u8 p0,.int .u8 p1,.int .u8 p2,.int .u8 p3,.int .u8 p4,.int .u8 p5,.int .u8 p6,.int .u8 p7,.int .i64 tf]) (hG:Own w' g1 t2 #[.slice (some ⟨b2,o2,none⟩) n c]) (h2:w'.rangeAt b2 (o2+j * 9) (tcells ⟨[q0,q1,q2,q3,q4,q5,q6,q7],uf⟩)) (hN:Own w' g9 t3 #[.int .u8 r0,.int .u8 r1,.int .u8 r2,.int .u8 r3,.int .u8 r4,.int .u8 r5,.int .u8 r6,.int .u8 r7]):w'.cell? ⟨T0,8,none⟩=some (.int .i64 tf)∧w'.cell? ⟨g1,0,none⟩=some (.slice (some ⟨b2,o2,none⟩) n c)∧w'.cell? ⟨b2,o2+j * 9+8,none⟩=some (.int .i64 uf)∧w'.cell? ⟨g9,0,none⟩=some (.int .u8 r0)∧w'.cell? ⟨g9,1,none⟩=some (.int .u8 r1)∧w'.cell? ⟨g9,2,none⟩=some (.int .u8 r2)∧w'.cell? ⟨g9,3,none⟩=some (.int .u8 r3)∧w'.cell? ⟨g9,4,none⟩=some (.int .u8 r4)∧w'.cell? ⟨g9,5,none⟩=some (.int .u8 r5)∧w'.cell? ⟨g9,6,none⟩=some (.int .u8 r6)∧w'.cell? ⟨g9,7,none⟩=some (.int .u8 r7):=
 ⟨hT.cell 8,hG.cell 0,h2 8 _ rfl,hN.cell 0,hN.cell 1,hN.cell 2,hN.cell 3,hN.cell 4,hN.cell 5,hN.cell 6,hN.cell 7⟩
set_option maxHeartbeats 8000000 in
theorem l01Shift_c {w : World} {da : Option Addr} {dn : Nat} {zs : List Int} {p0 p1 p2 p3 p4 p5 p6 p7 tf : Int} {a : Option Addr} {n : Nat} {gs : List Tm} (dc c : Nat) (hd : Ints w da dn zs) (_hmt : IsMono [p0, p1, p2, p3, p4, p5, p6, p7]) (htf : 1 ≤ tf ∧ tf ≤ 10006) (h2 : Terms w a n gs) (hn : n ≤ 400)
    (hF:∀u∈gs,1≤u.f∧u.f≤10006) (hO:∀u∈gs,FitW zs [p0,p1,p2,p3,p4,p5,p6,p7] u.m) :
    Calls Try.prog 128 #[.slice da dn dc,.agg #[.int .u8 p0,.int .u8 p1,.int .u8 p2,.int .u8 p3,.int .u8 p4,.int .u8 p5,.int .u8 p6,.int .u8 p7,.int .i64 tf],.agg #[.slice a n c]] w fun e w'=>∃v,e=.returned (.agg #[v])∧OwnForm w' w.heap.size v (shiftT zs ⟨[p0,p1,p2,p3,p4,p5,p6,p7],tf⟩ gs)∧Below w.heap.size w w':=by
 have HLt:=Lib.hid h2.len
 have HF:=Lib.hid hF
 have HO2:=Lib.hid hO
 clear hF hO
 obtain ⟨ti,tz,hti,htz,hts,htb,htzs⟩:=Try.info_termA
 have HI:=Lib.hid hti
 have HZ:=Lib.hid htz
 have HS:=Lib.hid hts
 have HBt:=Lib.hid htb
 have HZs:=Lib.hid htzs
 clear hti htz hts htb htzs
 have hT:=(((Own.new w 76 #[.int .u8 p0,.int .u8 p1,.int .u8 p2,.int .u8 p3,.int .u8 p4,.int .u8 p5,.int .u8 p6,.int .u8 p7,.int .i64 tf]).alloc (.cells #[.slice a n c] 47)).alloc (.cells #[.slice none 0 0] 47)).alloc (.cells #[.slice none 0 0] 47)
 have hG:=((Own.new (w.alloc (.cells #[.int .u8 p0,.int .u8 p1,.int .u8 p2,.int .u8 p3,.int .u8 p4,.int .u8 p5,.int .u8 p6,.int .u8 p7,.int .i64 tf] 76)) 47 #[.slice a n c]).alloc (.cells #[.slice none 0 0] 47)).alloc (.cells #[.slice none 0 0] 47)
 have hR:=(Own.new ((w.alloc (.cells #[.int .u8 p0,.int .u8 p1,.int .u8 p2,.int .u8 p3,.int .u8 p4,.int .u8 p5,.int .u8 p6,.int .u8 p7,.int .i64 tf] 76)).alloc (.cells #[.slice a n c] 47)) 47 #[.slice none 0 0]).alloc (.cells #[.slice none 0 0] 47)
 have hV:=Own.new (((w.alloc (.cells #[.int .u8 p0,.int .u8 p1,.int .u8 p2,.int .u8 p3,.int .u8 p4,.int .u8 p5,.int .u8 p6,.int .u8 p7,.int .i64 tf] 76)).alloc (.cells #[.slice a n c] 47)).alloc (.cells #[.slice none 0 0] 47)) 47 #[.slice none 0 0]
 simp only [sAl] at hG hR hV
 have hb:=bTn (bTn (bTn (bA1 w (.cells #[.int .u8 p0,.int .u8 p1,.int .u8 p2,.int .u8 p3,.int .u8 p4,.int .u8 p5,.int .u8 p6,.int .u8 p7,.int .i64 tf] 76)) (bA1 _ (.cells #[.slice a n c] 47))) (bA1 _ (.cells #[.slice none 0 0] 47))) (bA1 _ (.cells #[.slice none 0 0] 47))
 go_enter Try.func128,Try.ntmps128
 go_wp2_with fail
 generalize (((w.alloc (.cells #[.int .u8 p0,.int .u8 p1,.int .u8 p2,.int .u8 p3,.int .u8 p4,.int .u8 p5,.int .u8 p6,.int .u8 p7,.int .i64 tf] 76)).alloc (.cells #[.slice a n c] 47)).alloc (.cells #[.slice none 0 0] 47)).alloc (.cells #[.slice none 0 0] 47)=w0 at *
 generalize hg7:w.heap.size+1+1+1=g7 at *
 generalize hg6:w.heap.size+1+1=g6 at *
 generalize hg1:w.heap.size+1=g1 at *
 go_loopw [8] (fun y wr=>∃(j:Nat) (v:Value),j≤n∧y=.int .i64 j∧Below w.heap.size w wr∧Own wr w.heap.size 76 #[.int .u8 p0,.int .u8 p1,.int .u8 p2,.int .u8 p3,.int .u8 p4,.int .u8 p5,.int .u8 p6,.int .u8 p7,.int .i64 tf]∧Own wr g1 47 #[.slice a n c]∧Own wr g6 47 #[.slice none 0 0]∧Own wr g7 47 #[v]∧OwnForm wr (g7+1) v (shiftT zs ⟨[p0,p1,p2,p3,p4,p5,p6,p7],tf⟩ (gs.take j))) (fun y _=>n - (intOf y).toNat)
 case atStart=>exact ⟨0,.slice none 0 0,Nat.zero_le _,rfl,hb,hT,hG,hR,hV,by rw [List.take_zero];exact ⟨World.ownsRow_nil _ _ _ _,by simp [shiftT]⟩⟩
 case round=>
  clear hb hT hG hR hV;obtain ⟨j,v,hj,rfl,hb,hT,hG,hR,hV,hO⟩:=hrel;obtain ⟨va,vn,vc,rfl⟩:=hO.isSlice;have cG:=hG.cell 0;by_cases hlt:j<n
  · obtain ⟨b2,o2,u,rfl,hbl2,hr20,hu,hy⟩:=h2.at_ hlt;obtain ⟨mu,uf⟩:=u;have hmu:IsMono mu:=hu.1;have huf:1≤uf∧uf≤10006:=HF.out ⟨mu,uf⟩ (List.mem_of_getElem? hy.out);have hou:FitW zs [p0,p1,p2,p3,p4,p5,p6,p7] mu:=HO2.out ⟨mu,uf⟩ (List.mem_of_getElem? hy.out);obtain ⟨q0,q1,q2,q3,q4,q5,q6,q7,rfl⟩:=mono8 hmu;have F:FitW zs [p0,p1,p2,p3,p4,p5,p6,p7] [q0,q1,q2,q3,q4,q5,q6,q7]:=hou;have hRm:IsMono (joinM zs [p0,p1,p2,p3,p4,p5,p6,p7] [q0,q1,q2,q3,q4,q5,q6,q7]):=joinM_monoW F;obtain ⟨R,hRe⟩:∃R,joinM zs [p0,p1,p2,p3,p4,p5,p6,p7] [q0,q1,q2,q3,q4,q5,q6,q7]=R:=⟨_,rfl⟩;obtain ⟨s,hse⟩:∃s,joinS zs [p0,p1,p2,p3,p4,p5,p6,p7] [q0,q1,q2,q3,q4,q5,q6,q7]=s:=⟨_,rfl⟩;have hsb:=joinS_bd zs [p0,p1,p2,p3,p4,p5,p6,p7] [q0,q1,q2,q3,q4,q5,q6,q7];rw [hse] at hsb;rw [hRe] at hRm;have HRE:=Lib.hid hRe;have HSE:=Lib.hid hse;have HRm:=Lib.hid hRm;clear hRe hse;have hdr:=hd.keep hb;have hb2r:b2<wr.heap.size:=Nat.lt_of_lt_of_le hbl2 hb.size;have hr2:=rgK hr20 (hb.block b2 hbl2);have hj0:(0:Int)≤(j:Int):=(by omega);have hjn:(j:Int)<(n:Int):=(by omega);have hgw:=hV.lt;go_upto_region 5 with fail
    clear cG
    go_cut [9,10] from 12 to 52 (fun p y wz=>∃g9,p=.pointer (some ⟨g9,0,none⟩)∧y=.int .i64 s∧Below wr.heap.size wr wz∧wr.heap.size≤g9∧Own wz g9 74 (mcells R).toArray)
    case first=>
     have hbb:Below wr.heap.size wr wr.drew:=(Below.refl _ _).drew
     go_region_held3 (fun w'=>w'.cell? ⟨w.heap.size,0,none⟩=some (.int .u8 p0)∧w'.cell? ⟨w.heap.size,1,none⟩=some (.int .u8 p1)∧w'.cell? ⟨w.heap.size,2,none⟩=some (.int .u8 p2)∧w'.cell? ⟨w.heap.size,3,none⟩=some (.int .u8 p3)∧w'.cell? ⟨w.heap.size,4,none⟩=some (.int .u8 p4)∧w'.cell? ⟨w.heap.size,5,none⟩=some (.int .u8 p5)∧w'.cell? ⟨w.heap.size,6,none⟩=some (.int .u8 p6)∧w'.cell? ⟨w.heap.size,7,none⟩=some (.int .u8 p7)∧w'.cell? ⟨g1,0,none⟩=some (.slice (some ⟨b2,o2,none⟩) n c)∧w'.cell? ⟨b2,o2+j * 9,none⟩=some (.int .u8 q0)∧w'.cell? ⟨b2,o2+j * 9+1,none⟩=some (.int .u8 q1)∧w'.cell? ⟨b2,o2+j * 9+2,none⟩=some (.int .u8 q2)∧w'.cell? ⟨b2,o2+j * 9+3,none⟩=some (.int .u8 q3)∧w'.cell? ⟨b2,o2+j * 9+4,none⟩=some (.int .u8 q4)∧w'.cell? ⟨b2,o2+j * 9+5,none⟩=some (.int .u8 q5)∧w'.cell? ⟨b2,o2+j * 9+6,none⟩=some (.int .u8 q6)∧w'.cell? ⟨b2,o2+j * 9+7,none⟩=some (.int .u8 q7)) ((first | with_reducible exact cellsH5 (hT.keep hbb hT.lt) (hG.keep hbb hG.lt) (rgK hr2 (Below.block hbb b2 hb2r)) | with_reducible exact cellsH5 (hT.keep (below_alw hbb hbb.size _) hT.lt) (hG.keep (below_alw hbb hbb.size _) hG.lt) (rgK hr2 (Below.block (below_alw hbb hbb.size _) b2 hb2r)) | with_reducible exact cellsH5 (hT.keep (below_ahw _ _) hT.lt) (hG.keep (below_ahw _ _) hG.lt) (rgK hr2 (Below.block (below_ahw _ _) b2 hb2r)) | exact cellsH5 ((hT.keep hbb hT.lt).farRow (by have hq:=hbb.size;omega) _) ((hG.keep hbb hG.lt).farRow (by have hq:=hbb.size;omega) _) (rgK hr2 ((setRow_other _ _ _ _ (by have hq:=hbb.size;omega)).trans (Below.block hbb b2 hb2r))) | exact cellsH5 ((hT.keep (below_alw hbb hbb.size _) hT.lt).farRow (by have hq:=hbb.size;omega) _) ((hG.keep (below_alw hbb hbb.size _) hG.lt).farRow (by have hq:=hbb.size;omega) _) (rgK hr2 ((setRow_other _ _ _ _ (by have hq:=hbb.size;omega)).trans (Below.block (below_alw hbb hbb.size _) b2 hb2r)))))
      (first
       | (go_at_call 138;(first | (with_reducible refine (joinedR dc (hdr.keep hbb) F HRE.out HSE.out).mono ?_) | (with_reducible refine (joinedR dc (hdr.keep (below_alw hbb hbb.size _)) F HRE.out HSE.out).mono ?_) | (with_reducible refine (joinedR dc (hdr.keep (below_ahw _ _)) F HRE.out HSE.out).mono ?_));rintro e wS ⟨rfl,hbS⟩;(first | ((have hbb':Below wr.heap.size wr wS:=by with_reducible exact below_pl hbb hbS hbb.size);(try (have oN:=oN.keep hbS oN.lt))) | ((have hbb':Below wr.heap.size wr wS:=by with_reducible exact below_al hbb hbS hbb.size);have oN:=own_al hbS;have hgN:=hbb.size) | ((have hbb':Below wr.heap.size wr wS:=by with_reducible exact below_ah hbS);have oN:=own_ah hbS;have hgN:=Nat.le_refl wr.heap.size));clear hbb;have hbb:=hbb';clear hbb';(have hRl:(mcells R).length=8:=by rw [mcells_length];exact HRm.out.1);(first | (have hst:=storeCells_own oN rfl HRm.out) | (have hst:=storeCells_own (Own.new wS 74 #[Value.int .u8 0,.int .u8 0,.int .u8 0,.int .u8 0,.int .u8 0,.int .u8 0,.int .u8 0,.int .u8 0]) rfl HRm.out))))
     all_goals go_wp2_with fail
     all_goals go_meet
     all_goals (first
      | exact ⟨_,rfl,rfl,below_setRow (below_alw hbb hbb.size _) (by have:=hbb.size;omega) _,hbb.size,(Own.new _ _ _).setRow _⟩
      | exact ⟨_,rfl,rfl,below_setRow hbb hgN _,hgN,oN.setRow _⟩)
    case rest=>
     obtain ⟨g9,rfl,rfl,hbR,hg9,hN⟩:=hcut;replace hb:=bT' hb hbR hb.size;replace hT:=hT.keep hbR hT.lt;replace hG:=hG.keep hbR hG.lt;replace hR:=hR.keep hbR hR.lt;replace hV:=hV.keep hbR hV.lt;have hneT:(Value.slice va vn vc).ownBlock≠some g9:=fun e=>(by have:=(World.ownsRow.lt hO.1 _ e).2;omega);replace hO:=hO.keep hbR;replace hr2:=rgK hr20 (hb.block b2 hbl2);clear hbR hdr;obtain ⟨r0,r1,r2,r3,r4,r5,r6,r7,rfl⟩:=mono8 hRm;replace hN:Own wc g9 74 #[.int .u8 r0,.int .u8 r1,.int .u8 r2,.int .u8 r3,.int .u8 r4,.int .u8 r5,.int .u8 r6,.int .u8 r7]:=hN;by_cases hs0:s=0
     · subst hs0;go_wp2_with fail
       go_roundw
       case rel=>exact ⟨j+1,.slice va vn vc,by omega,by go_num,hb,hT,hG,hR,hV,by rw [shiftT_take_no hy.out HSE.out];exact hO⟩
       case measure=>simp [intOf] <;> omega
     · have hsb0:(s==0)=false:=by simpa using hs0
       have e1:-10006≤s * tf∧s * tf≤10006:=by
        have:s=1∨s=-1:=by omega
        rcases this with h | h <;> rw [h] <;> omega
       have e2:-100120036≤s * tf * uf∧s * tf * uf≤100120036:=by
        have:s=1∨s=-1:=(by omega);have m1:=mul_b (a:=tf) (b:=uf) (by omega) (by omega) (by omega) (by omega)
        rcases this with h | h
        · rw [h,Int.one_mul];omega
        · rw [h,Int.neg_one_mul,Int.neg_mul];omega
       have s1:IntKind.i64.wrap (s * tf)=s * tf:=IntWalk.i64_in _ (by omega);have s2:IntKind.i64.wrap (s * tf * uf)=s * tf * uf:=IntWalk.i64_in _ (by omega);obtain ⟨x,hx0⟩:∃x,num (s * tf * uf)=x:=⟨_,rfl⟩;have HX:=Lib.hid hx0;clear hx0;go_upto_region 7 with fail
       replace hT:Own wc.drew w.heap.size 76 #[.int .u8 p0,.int .u8 p1,.int .u8 p2,.int .u8 p3,.int .u8 p4,.int .u8 p5,.int .u8 p6,.int .u8 p7,.int .i64 tf]:=hT;replace hG:Own wc.drew g1 47 #[.slice (some ⟨b2,o2,none⟩) n c]:=hG;replace hR:Own wc.drew g6 47 #[.slice none 0 0]:=hR;replace hV:Own wc.drew g7 47 #[.slice va vn vc]:=hV;replace hN:Own wc.drew g9 74 #[.int .u8 r0,.int .u8 r1,.int .u8 r2,.int .u8 r3,.int .u8 r4,.int .u8 r5,.int .u8 r6,.int .u8 r7]:=hN;replace hO:OwnForm wc.drew (g7+1) (.slice va vn vc) (shiftT zs ⟨[p0,p1,p2,p3,p4,p5,p6,p7],tf⟩ (gs.take j)):=hO;replace hb:Below w.heap.size w wc.drew:=hb.drew;replace hr2:wc.drew.rangeAt b2 (o2+j * 9) (tcells ⟨[q0,q1,q2,q3,q4,q5,q6,q7],uf⟩):=hr2;generalize hwq:wc=wq at *;clear hwq;have cV:=hV.cell 0
       have hnews:∀z u,([Value.int .u8 r0,.int .u8 r1,.int .u8 r2,.int .u8 r3,.int .u8 r4,.int .u8 r5,.int .u8 r6,.int .u8 r7,.int .i64 x]:List Value)[z]? = some u→(wq.drew.alloc (.cells #[.int .u8 r0,.int .u8 r1,.int .u8 r2,.int .u8 r3,.int .u8 r4,.int .u8 r5,.int .u8 r6,.int .u8 r7,.int .i64 x] 76)).cell? ((⟨wq.heap.size,0,none⟩:Addr).add z)=some u:=fun z u hu=>by
        rw [Addr.add_mid];exact (Own.new wq.drew 76 #[.int .u8 r0,.int .u8 r1,.int .u8 r2,.int .u8 r3,.int .u8 r4,.int .u8 r5,.int .u8 r6,.int .u8 r7,.int .i64 x]).range z u hu
       have hone:∀u∈([Value.int .u8 r0,.int .u8 r1,.int .u8 r2,.int .u8 r3,.int .u8 r4,.int .u8 r5,.int .u8 r6,.int .u8 r7,.int .i64 x]:List Value),u.oneCell'=true:=by simp [Value.oneCell']
       have hpl:(shiftT zs ⟨[p0,p1,p2,p3,p4,p5,p6,p7],tf⟩ (gs.take j)).length≤400:=by
        have h1:=shiftT_len zs ⟨[p0,p1,p2,p3,p4,p5,p6,p7],tf⟩ (gs.take j);rw [List.length_take] at h1;omega
       have HN:=Lib.hid hnews;have HO:=Lib.hid hone;have HP:=Lib.hid hpl;clear hnews hone hpl;refine wp_region_held_drew (S:=(fun w'=>w'.cell? ⟨w.heap.size,8,none⟩=some (.int .i64 tf)∧w'.cell? ⟨g1,0,none⟩=some (.slice (some ⟨b2,o2,none⟩) n c)∧w'.cell? ⟨b2,o2+j * 9+8,none⟩=some (.int .i64 uf)∧w'.cell? ⟨g9,0,none⟩=some (.int .u8 r0)∧w'.cell? ⟨g9,1,none⟩=some (.int .u8 r1)∧w'.cell? ⟨g9,2,none⟩=some (.int .u8 r2)∧w'.cell? ⟨g9,3,none⟩=some (.int .u8 r3)∧w'.cell? ⟨g9,4,none⟩=some (.int .u8 r4)∧w'.cell? ⟨g9,5,none⟩=some (.int .u8 r5)∧w'.cell? ⟨g9,6,none⟩=some (.int .u8 r6)∧w'.cell? ⟨g9,7,none⟩=some (.int .u8 r7))) (by kernel_rfl) ?_ (fun hHeld=>?_)
       · ((try dsimp only);(exact cellsH7 hT hG hr2 hN))
       refine hdT 0 ?_;refine hdT 2 ?_;refine hdT 3 ?_;refine hdT 4 ?_;refine hdT 5 ?_;refine hdT 6 ?_;refine hdT 7 ?_;refine hdT 8 ?_;refine hdT 9 ?_;refine hdT 10 ?_;refine hdT 11 ?_;refine hdT 12 ?_;refine hdT 13 ?_;refine wpAnyH_ready (rs:=[1,14]) (by kernel_rfl) (by simp) ?_;refine AllReadyH.cons (hdAt (i:=1) rfl) (fun K hK=>?_) (AllReadyH.cons (hdAt (i:=14) rfl) (fun K hK=>?_) AllReadyH.nil)
       · (go_simp;try go_wp2_with fail)
         refine hK.out _ _ ?_ (fun _=>?_)
         · ((try dsimp only);(exact cellsH7 hT hG hr2 hN))
         clear hK K
         (try simp only [Act.put,pA,pB,pC])
         refine hdC 14 (fun K hK=>?_)
         (go_simp;(go_at_call 110;refine (l01Mod_c _ _ (by omega) (by omega)).mono ?_;rintro e wM ⟨rfl,rfl⟩;rw [HX.out]);go_wp2_with fail)
         refine hK.out _ _ ?_ (fun _=>?_)
         · ((try dsimp only);(exact cellsH7 hT hG hr2 hN))
         clear hK K
         (try simp only [Act.put,pA,pB,pC])
         refine hdT 15 ?_;refine hdC 16 (fun K hK=>?_)
         (go_simp;try go_wp2_with fail)
         replace hT:=hT.alloc (.cells #[.int .u8 r0,.int .u8 r1,.int .u8 r2,.int .u8 r3,.int .u8 r4,.int .u8 r5,.int .u8 r6,.int .u8 r7,.int .i64 x] 76);replace hG:=hG.alloc (.cells #[.int .u8 r0,.int .u8 r1,.int .u8 r2,.int .u8 r3,.int .u8 r4,.int .u8 r5,.int .u8 r6,.int .u8 r7,.int .i64 x] 76);replace hR:=hR.alloc (.cells #[.int .u8 r0,.int .u8 r1,.int .u8 r2,.int .u8 r3,.int .u8 r4,.int .u8 r5,.int .u8 r6,.int .u8 r7,.int .i64 x] 76);replace hV:=hV.alloc (.cells #[.int .u8 r0,.int .u8 r1,.int .u8 r2,.int .u8 r3,.int .u8 r4,.int .u8 r5,.int .u8 r6,.int .u8 r7,.int .i64 x] 76);replace hN:=hN.alloc (.cells #[.int .u8 r0,.int .u8 r1,.int .u8 r2,.int .u8 r3,.int .u8 r4,.int .u8 r5,.int .u8 r6,.int .u8 r7,.int .i64 x] 76);have hOa:=(hO.keep (bA1 _ (.cells #[.int .u8 r0,.int .u8 r1,.int .u8 r2,.int .u8 r3,.int .u8 r4,.int .u8 r5,.int .u8 r6,.int .u8 r7,.int .i64 x] 76))).1;replace hb:=bT' hb (bA1 _ (.cells #[.int .u8 r0,.int .u8 r1,.int .u8 r2,.int .u8 r3,.int .u8 r4,.int .u8 r5,.int .u8 r6,.int .u8 r7,.int .i64 x] 76)) hb.size;replace hr2:=rgK hr20 (hb.block b2 hbl2);refine hK.out _ _ ?_ (fun _=>?_)
         · ((try dsimp only);(exact cellsH7 hT hG hr2 hN))
         clear hK K
         (try simp only [Act.put,pA,pB,pC])
         refine hdC 17 (fun K hK=>?_);rw [if_pos (by rfl)];refine wp_append_own_wide _ (.tmp 35) (.tmp 50) 45 rfl (g7+1) 76 ti tz 9 16 Try.underlying45 HI.out HZ.out HS.out HBt.out HZs.out (by omega) (.slice va vn vc) _ _ rfl hOa ⟨wq.heap.size,0,none⟩ 1 1 [Value.int .u8 r0,.int .u8 r1,.int .u8 r2,.int .u8 r3,.int .u8 r4,.int .u8 r5,.int .u8 r6,.int .u8 r7,.int .i64 x] rfl rfl HN.out HO.out (by have:=HP.out;simp only [maxLen];omega) (by have:=HP.out;omega) (Nat.succ_le_of_lt hV.lt) (fun v' w' h2 h3 h4=>?_)
         obtain ⟨gg,vk,cp,rfl⟩:∃gg vk cp,v'=.slice gg vk cp:=by
          rcases h2.2 with ⟨h0,_⟩ | ⟨g,cap,cur,hv,_⟩
          · exact ⟨_,_,_,h0⟩
          · exact ⟨_,_,_,hv⟩
         replace hT:=hT.grown h3 (fun e=>by have:=(hOa.lt _ e.symm).1;omega);replace hG:=hG.grown h3 (fun e=>by have:=(hOa.lt _ e.symm).1;omega);replace hR:=hR.grown h3 (fun e=>by have:=(hOa.lt _ e.symm).1;omega);replace hV:=hV.grown h3 (fun e=>by have:=(hOa.lt _ e.symm).1;omega);replace hN:=hN.grown h3 (fun e=>hneT e.symm);replace hb:=grown_below hb h3 (fun q e=>by have:=(hOa.lt q e).1;omega) hb.size;replace hr2:=rgK hr20 (hb.block b2 hbl2);have c7:=hV.cell 0;have f7:=hV.frozen 0;have H2:=Lib.hid h2;have H4:=Lib.hid h4;clear h2 h3 h4 hOa;refine hK.out _ _ ?_ (fun _=>?_)
         · ((try dsimp only);(exact cellsH7 hT hG hr2 hN))
         clear hK K
         (try simp only [Act.put,pA,pB,pC])
         refine hdT 18 ?_;refine hdC 19 (fun K hK=>?_)
         (go_simp;go_wp2_with fail)
         replace hT:=hT.far (p:=⟨g7,0,none⟩) (by dsimp only;omega) (.slice gg vk cp);replace hG:=hG.far (p:=⟨g7,0,none⟩) (by dsimp only;omega) (.slice gg vk cp);replace hR:=hR.far (p:=⟨g7,0,none⟩) (by dsimp only;omega) (.slice gg vk cp);replace hN:=hN.far (p:=⟨g7,0,none⟩) (by dsimp only;omega) (.slice gg vk cp);replace hb:=hb.setCell (p:=⟨g7,0,none⟩) (by dsimp only;omega) (.slice gg vk cp);replace hr2:=rgK hr20 (hb.block b2 hbl2);refine hK.out _ _ ?_ (fun _=>?_)
         · ((try dsimp only);(exact cellsH7 hT hG hr2 hN))
         clear hK K
         (try simp only [Act.put,pA,pB,pC])
         refine wpAnyH_done (by kernel_rfl) ?_ _;go_wp2_with fail
         go_roundw
         case rel=>
          refine ⟨j+1,.slice gg vk cp,by omega,by go_num,hb,hT,hG,hR,hV.set 0 _,?_⟩;rw [shiftT_take_yes hy.out HSE.out HRE.out hs0,HX.out];exact OwnForm.set (p:=⟨g7,0,none⟩) (OwnForm.of H2.out (by simp) (by rw [rcells_append];rfl) ⟨fun e=>absurd (H4.out.1 e).2 (by omega),fun e=>by omega⟩) (by dsimp only;omega) _
         case measure=>simp [intOf] <;> omega
       · (go_simp;(go_at_call 110;refine (l01Mod_c _ _ (by omega) (by omega)).mono ?_;rintro e wM ⟨rfl,rfl⟩;rw [HX.out]);go_wp2_with fail)
         refine hK.out _ _ ?_ (fun _=>?_)
         · ((try dsimp only);(exact cellsH7 hT hG hr2 hN))
         clear hK K
         (try simp only [Act.put,pA,pB,pC])
         refine hdT 15 ?_;refine wpAnyH_ready (rs:=[1,16]) (by kernel_rfl) (by simp) ?_;refine AllReadyH.cons (hdAt (i:=1) rfl) (fun K hK=>?_) (AllReadyH.cons (hdAt (i:=16) rfl) (fun K hK=>?_) AllReadyH.nil)
         · (go_simp;try go_wp2_with fail)
           refine hK.out _ _ ?_ (fun _=>?_)
           · ((try dsimp only);(exact cellsH7 hT hG hr2 hN))
           clear hK K
           (try simp only [Act.put,pA,pB,pC])
           refine hdC 16 (fun K hK=>?_)
           (go_simp;try go_wp2_with fail)
           replace hT:=hT.alloc (.cells #[.int .u8 r0,.int .u8 r1,.int .u8 r2,.int .u8 r3,.int .u8 r4,.int .u8 r5,.int .u8 r6,.int .u8 r7,.int .i64 x] 76);replace hG:=hG.alloc (.cells #[.int .u8 r0,.int .u8 r1,.int .u8 r2,.int .u8 r3,.int .u8 r4,.int .u8 r5,.int .u8 r6,.int .u8 r7,.int .i64 x] 76);replace hR:=hR.alloc (.cells #[.int .u8 r0,.int .u8 r1,.int .u8 r2,.int .u8 r3,.int .u8 r4,.int .u8 r5,.int .u8 r6,.int .u8 r7,.int .i64 x] 76);replace hV:=hV.alloc (.cells #[.int .u8 r0,.int .u8 r1,.int .u8 r2,.int .u8 r3,.int .u8 r4,.int .u8 r5,.int .u8 r6,.int .u8 r7,.int .i64 x] 76);replace hN:=hN.alloc (.cells #[.int .u8 r0,.int .u8 r1,.int .u8 r2,.int .u8 r3,.int .u8 r4,.int .u8 r5,.int .u8 r6,.int .u8 r7,.int .i64 x] 76);have hOa:=(hO.keep (bA1 _ (.cells #[.int .u8 r0,.int .u8 r1,.int .u8 r2,.int .u8 r3,.int .u8 r4,.int .u8 r5,.int .u8 r6,.int .u8 r7,.int .i64 x] 76))).1;replace hb:=bT' hb (bA1 _ (.cells #[.int .u8 r0,.int .u8 r1,.int .u8 r2,.int .u8 r3,.int .u8 r4,.int .u8 r5,.int .u8 r6,.int .u8 r7,.int .i64 x] 76)) hb.size;replace hr2:=rgK hr20 (hb.block b2 hbl2);refine hK.out _ _ ?_ (fun _=>?_)
           · ((try dsimp only);(exact cellsH7 hT hG hr2 hN))
           clear hK K
           (try simp only [Act.put,pA,pB,pC])
           refine hdC 17 (fun K hK=>?_);rw [if_pos (by rfl)];refine wp_append_own_wide _ (.tmp 35) (.tmp 50) 45 rfl (g7+1) 76 ti tz 9 16 Try.underlying45 HI.out HZ.out HS.out HBt.out HZs.out (by omega) (.slice va vn vc) _ _ rfl hOa ⟨wq.heap.size,0,none⟩ 1 1 [Value.int .u8 r0,.int .u8 r1,.int .u8 r2,.int .u8 r3,.int .u8 r4,.int .u8 r5,.int .u8 r6,.int .u8 r7,.int .i64 x] rfl rfl HN.out HO.out (by have:=HP.out;simp only [maxLen];omega) (by have:=HP.out;omega) (Nat.succ_le_of_lt hV.lt) (fun v' w' h2 h3 h4=>?_)
           obtain ⟨gg,vk,cp,rfl⟩:∃gg vk cp,v'=.slice gg vk cp:=by
            rcases h2.2 with ⟨h0,_⟩ | ⟨g,cap,cur,hv,_⟩
            · exact ⟨_,_,_,h0⟩
            · exact ⟨_,_,_,hv⟩
           replace hT:=hT.grown h3 (fun e=>by have:=(hOa.lt _ e.symm).1;omega);replace hG:=hG.grown h3 (fun e=>by have:=(hOa.lt _ e.symm).1;omega);replace hR:=hR.grown h3 (fun e=>by have:=(hOa.lt _ e.symm).1;omega);replace hV:=hV.grown h3 (fun e=>by have:=(hOa.lt _ e.symm).1;omega);replace hN:=hN.grown h3 (fun e=>hneT e.symm);replace hb:=grown_below hb h3 (fun q e=>by have:=(hOa.lt q e).1;omega) hb.size;replace hr2:=rgK hr20 (hb.block b2 hbl2);have c7:=hV.cell 0;have f7:=hV.frozen 0;have H2:=Lib.hid h2;have H4:=Lib.hid h4;clear h2 h3 h4 hOa;refine hK.out _ _ ?_ (fun _=>?_)
           · ((try dsimp only);(exact cellsH7 hT hG hr2 hN))
           clear hK K
           (try simp only [Act.put,pA,pB,pC])
           refine hdT 18 ?_;refine hdC 19 (fun K hK=>?_)
           (go_simp;go_wp2_with fail)
           replace hT:=hT.far (p:=⟨g7,0,none⟩) (by dsimp only;omega) (.slice gg vk cp);replace hG:=hG.far (p:=⟨g7,0,none⟩) (by dsimp only;omega) (.slice gg vk cp);replace hR:=hR.far (p:=⟨g7,0,none⟩) (by dsimp only;omega) (.slice gg vk cp);replace hN:=hN.far (p:=⟨g7,0,none⟩) (by dsimp only;omega) (.slice gg vk cp);replace hb:=hb.setCell (p:=⟨g7,0,none⟩) (by dsimp only;omega) (.slice gg vk cp);replace hr2:=rgK hr20 (hb.block b2 hbl2);refine hK.out _ _ ?_ (fun _=>?_)
           · ((try dsimp only);(exact cellsH7 hT hG hr2 hN))
           clear hK K
           (try simp only [Act.put,pA,pB,pC])
           refine wpAnyH_done (by kernel_rfl) ?_ _;go_wp2_with fail
           go_roundw
           case rel=>
            refine ⟨j+1,.slice gg vk cp,by omega,by go_num,hb,hT,hG,hR,hV.set 0 _,?_⟩;rw [shiftT_take_yes hy.out HSE.out HRE.out hs0,HX.out];exact OwnForm.set (p:=⟨g7,0,none⟩) (OwnForm.of H2.out (by simp) (by rw [rcells_append];rfl) ⟨fun e=>absurd (H4.out.1 e).2 (by omega),fun e=>by omega⟩) (by dsimp only;omega) _
           case measure=>simp [intOf] <;> omega
         · (go_simp;try go_wp2_with fail)
           replace hT:=hT.alloc (.cells #[.int .u8 r0,.int .u8 r1,.int .u8 r2,.int .u8 r3,.int .u8 r4,.int .u8 r5,.int .u8 r6,.int .u8 r7,.int .i64 x] 76);replace hG:=hG.alloc (.cells #[.int .u8 r0,.int .u8 r1,.int .u8 r2,.int .u8 r3,.int .u8 r4,.int .u8 r5,.int .u8 r6,.int .u8 r7,.int .i64 x] 76);replace hR:=hR.alloc (.cells #[.int .u8 r0,.int .u8 r1,.int .u8 r2,.int .u8 r3,.int .u8 r4,.int .u8 r5,.int .u8 r6,.int .u8 r7,.int .i64 x] 76);replace hV:=hV.alloc (.cells #[.int .u8 r0,.int .u8 r1,.int .u8 r2,.int .u8 r3,.int .u8 r4,.int .u8 r5,.int .u8 r6,.int .u8 r7,.int .i64 x] 76);replace hN:=hN.alloc (.cells #[.int .u8 r0,.int .u8 r1,.int .u8 r2,.int .u8 r3,.int .u8 r4,.int .u8 r5,.int .u8 r6,.int .u8 r7,.int .i64 x] 76);have hOa:=(hO.keep (bA1 _ (.cells #[.int .u8 r0,.int .u8 r1,.int .u8 r2,.int .u8 r3,.int .u8 r4,.int .u8 r5,.int .u8 r6,.int .u8 r7,.int .i64 x] 76))).1;replace hb:=bT' hb (bA1 _ (.cells #[.int .u8 r0,.int .u8 r1,.int .u8 r2,.int .u8 r3,.int .u8 r4,.int .u8 r5,.int .u8 r6,.int .u8 r7,.int .i64 x] 76)) hb.size;replace hr2:=rgK hr20 (hb.block b2 hbl2);refine hK.out _ _ ?_ (fun _=>?_)
           · ((try dsimp only);(exact cellsH7 hT hG hr2 hN))
           clear hK K
           (try simp only [Act.put,pA,pB,pC])
           have cGa:(wq.alloc (.cells #[.int .u8 r0,.int .u8 r1,.int .u8 r2,.int .u8 r3,.int .u8 r4,.int .u8 r5,.int .u8 r6,.int .u8 r7,.int .i64 x] 76)).drew.cell? ⟨g7,0,none⟩=some (.slice va vn vc):=hV.cell 0;refine hdC 1 (fun K hK=>?_)
           (go_simp;try go_wp2_with fail)
           refine hK.out _ _ ?_ (fun _=>?_)
           · ((try dsimp only);(exact cellsH7 hT hG hr2 hN))
           clear hK K
           (try simp only [Act.put,pA,pB,pC])
           refine hdC 17 (fun K hK=>?_);rw [if_pos (by rfl)];refine wp_append_own_wide _ (.tmp 35) (.tmp 50) 45 rfl (g7+1) 76 ti tz 9 16 Try.underlying45 HI.out HZ.out HS.out HBt.out HZs.out (by omega) (.slice va vn vc) _ _ rfl hOa ⟨wq.heap.size,0,none⟩ 1 1 [Value.int .u8 r0,.int .u8 r1,.int .u8 r2,.int .u8 r3,.int .u8 r4,.int .u8 r5,.int .u8 r6,.int .u8 r7,.int .i64 x] rfl rfl HN.out HO.out (by have:=HP.out;simp only [maxLen];omega) (by have:=HP.out;omega) (Nat.succ_le_of_lt hV.lt) (fun v' w' h2 h3 h4=>?_)
           obtain ⟨gg,vk,cp,rfl⟩:∃gg vk cp,v'=.slice gg vk cp:=by
            rcases h2.2 with ⟨h0,_⟩ | ⟨g,cap,cur,hv,_⟩
            · exact ⟨_,_,_,h0⟩
            · exact ⟨_,_,_,hv⟩
           replace hT:=hT.grown h3 (fun e=>by have:=(hOa.lt _ e.symm).1;omega);replace hG:=hG.grown h3 (fun e=>by have:=(hOa.lt _ e.symm).1;omega);replace hR:=hR.grown h3 (fun e=>by have:=(hOa.lt _ e.symm).1;omega);replace hV:=hV.grown h3 (fun e=>by have:=(hOa.lt _ e.symm).1;omega);replace hN:=hN.grown h3 (fun e=>hneT e.symm);replace hb:=grown_below hb h3 (fun q e=>by have:=(hOa.lt q e).1;omega) hb.size;replace hr2:=rgK hr20 (hb.block b2 hbl2);have c7:=hV.cell 0;have f7:=hV.frozen 0;have H2:=Lib.hid h2;have H4:=Lib.hid h4;clear h2 h3 h4 hOa;refine hK.out _ _ ?_ (fun _=>?_)
           · ((try dsimp only);(exact cellsH7 hT hG hr2 hN))
           clear hK K
           (try simp only [Act.put,pA,pB,pC])
           refine hdT 18 ?_;refine hdC 19 (fun K hK=>?_)
           (go_simp;go_wp2_with fail)
           replace hT:=hT.far (p:=⟨g7,0,none⟩) (by dsimp only;omega) (.slice gg vk cp);replace hG:=hG.far (p:=⟨g7,0,none⟩) (by dsimp only;omega) (.slice gg vk cp);replace hR:=hR.far (p:=⟨g7,0,none⟩) (by dsimp only;omega) (.slice gg vk cp);replace hN:=hN.far (p:=⟨g7,0,none⟩) (by dsimp only;omega) (.slice gg vk cp);replace hb:=hb.setCell (p:=⟨g7,0,none⟩) (by dsimp only;omega) (.slice gg vk cp);replace hr2:=rgK hr20 (hb.block b2 hbl2);refine hK.out _ _ ?_ (fun _=>?_)
           · ((try dsimp only);(exact cellsH7 hT hG hr2 hN))
           clear hK K
           (try simp only [Act.put,pA,pB,pC])
           refine wpAnyH_done (by kernel_rfl) ?_ _;go_wp2_with fail
           go_roundw
           case rel=>
            refine ⟨j+1,.slice gg vk cp,by omega,by go_num,hb,hT,hG,hR,hV.set 0 _,?_⟩;rw [shiftT_take_yes hy.out HSE.out HRE.out hs0,HX.out];exact OwnForm.set (p:=⟨g7,0,none⟩) (OwnForm.of H2.out (by simp) (by rw [rcells_append];rfl) ⟨fun e=>absurd (H4.out.1 e).2 (by omega),fun e=>by omega⟩) (by dsimp only;omega) _
           case measure=>simp [intOf] <;> omega
  · have he:j=n:=(by omega);subst he;have c3:=hV.cell 0;have cR:=hR.cell 0;have fR:=hR.frozen 0;go_wp2_with fail
    have q:=hR.set 0 (.slice va vn vc);refine bodyPost_ret (results_cell_row rfl _ _ g6 47 #[.slice va vn vc] (0,0) _ rfl q Try.underlying47 rfl Try.info_form) rfl ⟨.slice va vn vc,rfl,?_,hb.setCell (p:=⟨g6,0,none⟩) (by dsimp only;omega) _⟩;rw [List.take_of_length_le (Nat.le_of_eq HLt.out)] at hO;exact (hO.set (p:=⟨g6,0,none⟩) (by dsimp only;omega) _).weaken (by omega)
end Go.Proofs.Ytndnkeijddagiaa
