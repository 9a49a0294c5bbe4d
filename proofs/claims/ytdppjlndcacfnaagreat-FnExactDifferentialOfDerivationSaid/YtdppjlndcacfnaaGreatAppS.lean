
import Derived.Test.YtdppjlndcacfnaaGreatApm
import Derived.Test.YtdppjlndcacfnaaGreatSglC
import Derived.Test.YtdppjlndcacfnaaGreatDiffD
import Derived.Test.YtdppjlndcacfnaaGreatDerR
namespace Go.Proofs.YtdppjlndcacfnaaGreat
set_option maxRecDepth 100000
open Go.RowKit Go.Deep
theorem ownR_farT {w:World} {B g:Nat} {v:Value} {ts:List Tm} {p:Addr} {t:TypeId} {os:Array Value} (h:OwnR w B v ts) (ho:Own w g t os) (ht:t≠94) (hp:p.block=g) (u:Value):OwnR (w.setCell p u) B v ts:=
 h.far (fun e=>own_ne_row ho h ht (by rw [e,hp])) u
theorem rowI_set {m:List Int} {i:Nat} {v:Int} (hl:m.length=8) (hi:i<8):(rowI m i).set i v=(rowI m (i+1)).set i v:=by
 rw [←rowI_clear hl hi,List.set_set]
theorem wtTo_step {zs m:List Int} {i:Nat} {z y:Int} (hz:zs[i]? = some z) (hy:m[i]? = some y):wtTo zs m (i+1)=wtTo zs m i+z * y:=by
 rw [wtTo,List.getD_eq_getElem?_getD,List.getD_eq_getElem?_getD,hz,hy];rfl
theorem monoT_zero {zs:List Int} {gss:List (List Tm)} {k:Int} {m:List Int} {i:Nat} (h:m[i]? = some 0):monoT zs gss k m (i+1)=monoT zs gss k m i:=by
 rw [monoT,if_pos (by rw [List.getD_eq_getElem?_getD,h];rfl)]
theorem monoT_pos {zs:List Int} {gss:List (List Tm)} {k:Int} {m:List Int} {i:Nat} {y:Int} (h:m.getD i 0=y) (hy:0<y):monoT zs gss k m (i+1)=addT 1 (monoT zs gss k m i) (piece zs gss k m i):=by
 rw [monoT,if_neg (by omega)]
set_option maxHeartbeats 16000000 in
theorem l09Mono_c {w : World} {da : Option Addr} {dn : Nat} {zs : List Int} {a : Option Addr} {n : Nat} {a2 : Option Addr} {gss : List (List Tm)} {p0 p1 p2 p3 p4 p5 p6 p7 : Int} (dc c : Nat) (k : Int) (c2 : Nat) (hd : Ints w da dn zs) (hF2 : Frms w a2 dn gss) (HA : AlgOk zs gss) (hmild : Mild zs) (hk : 0 ≤ k ∧ k ≤ 12) (hm : IsMono [p0, p1, p2, p3, p4, p5, p6, p7]) (ok : monoOk zs [p0, p1, p2, p3, p4, p5, p6, p7] = true) :
    Calls Tryz.prog 59 #[.agg #[.slice da dn dc,.slice a n c],.agg #[.int .i64 k,.slice a2 dn c2],.agg #[.int .u8 p0,.int .u8 p1,.int .u8 p2,.int .u8 p3,.int .u8 p4,.int .u8 p5,.int .u8 p6,.int .u8 p7]] w fun e w'=>∃v,e=.returned (.agg #[v])∧OwnR w' w.heap.size v (monoT zs gss k [p0,p1,p2,p3,p4,p5,p6,p7] zs.length)∧Below w.heap.size w w':=by
 have HDL:=Lib.hid hd.len
 have HD:=Lib.hid hd
 have HF2:=Lib.hid hF2
 have HAO:=Lib.hid HA
 have HMI:=Lib.hid hmild
 have HP:=Lib.hid hm
 have HOK:=Lib.hid ok
 have hk0:=hk.1
 have hk1:=hk.2
 have h8:dn≤8:=by have:=HA.h8;have:=hd.len;omega
 clear HA hmild ok
 have hA:=(((Own.new w 36 #[.slice da dn dc,.slice a n c]).alloc (.cells #[.int .i64 k,.slice a2 dn c2] 32)).alloc (.cells #[.int .u8 p0,.int .u8 p1,.int .u8 p2,.int .u8 p3,.int .u8 p4,.int .u8 p5,.int .u8 p6,.int .u8 p7] 92)).alloc (.cells #[.slice none 0 0] 59)
 have hT:=((Own.new (w.alloc (.cells #[.slice da dn dc,.slice a n c] 36)) 32 #[.int .i64 k,.slice a2 dn c2]).alloc (.cells #[.int .u8 p0,.int .u8 p1,.int .u8 p2,.int .u8 p3,.int .u8 p4,.int .u8 p5,.int .u8 p6,.int .u8 p7] 92)).alloc (.cells #[.slice none 0 0] 59)
 have hP:=(Own.new ((w.alloc (.cells #[.slice da dn dc,.slice a n c] 36)).alloc (.cells #[.int .i64 k,.slice a2 dn c2] 32)) 92 #[.int .u8 p0,.int .u8 p1,.int .u8 p2,.int .u8 p3,.int .u8 p4,.int .u8 p5,.int .u8 p6,.int .u8 p7]).alloc (.cells #[.slice none 0 0] 59)
 have hR:=Own.new (((w.alloc (.cells #[.slice da dn dc,.slice a n c] 36)).alloc (.cells #[.int .i64 k,.slice a2 dn c2] 32)).alloc (.cells #[.int .u8 p0,.int .u8 p1,.int .u8 p2,.int .u8 p3,.int .u8 p4,.int .u8 p5,.int .u8 p6,.int .u8 p7] 92)) 59 #[.slice none 0 0]
 simp only [sAl] at hT hP hR
 have hb:=bTn (bTn (bTn (bA1 w (.cells #[.slice da dn dc,.slice a n c] 36)) (bA1 _ (.cells #[.int .i64 k,.slice a2 dn c2] 32))) (bA1 _ (.cells #[.int .u8 p0,.int .u8 p1,.int .u8 p2,.int .u8 p3,.int .u8 p4,.int .u8 p5,.int .u8 p6,.int .u8 p7] 92))) (bA1 _ (.cells #[.slice none 0 0] 59))
 go_enter Tryz.func59,Tryz.ntmps59
 go_upto_region 1 with fail
 generalize (((w.alloc (.cells #[.slice da dn dc,.slice a n c] 36)).alloc (.cells #[.int .i64 k,.slice a2 dn c2] 32)).alloc (.cells #[.int .u8 p0,.int .u8 p1,.int .u8 p2,.int .u8 p3,.int .u8 p4,.int .u8 p5,.int .u8 p6,.int .u8 p7] 92)).alloc (.cells #[.slice none 0 0] 59)=w0 at *
 generalize hg3:w.heap.size+1+1+1=g3 at *
 generalize hg2:w.heap.size+1+1=g2 at *
 generalize hg1:w.heap.size+1=g1 at *
 generalize hg0:w.heap.size=g0 at *
 have HG:=Lib.hid hg0
 have e1:=hg1
 have e2:=hg2
 have e3:=hg3
 clear hg0 hg1 hg2 hg3
 have hlR:=hR.lt
 have hV:=(Own.new w0 59 #[.slice none 0 0]).alloc (.cells #[.int .u8 0,.int .u8 0,.int .u8 0,.int .u8 0,.int .u8 0,.int .u8 0,.int .u8 0,.int .u8 0] 92)
 have hB:=Own.new (w0.alloc (.cells #[.slice none 0 0] 59)) 92 #[.int .u8 0,.int .u8 0,.int .u8 0,.int .u8 0,.int .u8 0,.int .u8 0,.int .u8 0,.int .u8 0]
 rw [sAl] at hB
 have hbX:=bTn (bA1 w0 (.cells #[.slice none 0 0] 59)) (bA1 _ (.cells #[.int .u8 0,.int .u8 0,.int .u8 0,.int .u8 0,.int .u8 0,.int .u8 0,.int .u8 0,.int .u8 0] 92))
 replace hb:=bT' hb hbX (by have:=hA.lt;omega)
 replace hA:=hA.keep hbX hA.lt
 replace hT:=hT.keep hbX hT.lt
 replace hP:=hP.keep hbX hP.lt
 replace hR:=hR.keep hbX hR.lt
 clear hbX
 go_upto_region 2 with fail
 generalize (w0.alloc (.cells #[.slice none 0 0] 59)).alloc (.cells #[.int .u8 0,.int .u8 0,.int .u8 0,.int .u8 0,.int .u8 0,.int .u8 0,.int .u8 0,.int .u8 0] 92)=w1 at *
 generalize hg5:w0.heap.size+1=g5 at *
 generalize w0.heap.size=g4 at *
 have hBz:(mcells (frontM [p0,p1,p2,p3,p4,p5,p6,p7] 0)).toArray=#[.int .u8 0,.int .u8 0,.int .u8 0,.int .u8 0,.int .u8 0,.int .u8 0,.int .u8 0,.int .u8 0]:=rfl
 rw [←hBz] at hB
 clear hBz
 go_upto_region 3 with fail
 go_loopw [9,10] (fun o y wr=>∃(i:Nat) (v:Value),i≤dn∧y=.int .i64 i∧o=.int .i64 (wtTo zs [p0,p1,p2,p3,p4,p5,p6,p7] i)∧Below g0 w wr∧Own wr g0 36 #[.slice da dn dc,.slice a n c]∧Own wr g1 32 #[.int .i64 k,.slice a2 dn c2]∧Own wr g2 92 #[.int .u8 p0,.int .u8 p1,.int .u8 p2,.int .u8 p3,.int .u8 p4,.int .u8 p5,.int .u8 p6,.int .u8 p7]∧Own wr g3 59 #[.slice none 0 0]∧Own wr g4 59 #[v]∧Own wr g5 92 (mcells (frontM [p0,p1,p2,p3,p4,p5,p6,p7] i)).toArray∧Hid (OwnR wr g0 v (monoT zs gss k [p0,p1,p2,p3,p4,p5,p6,p7] i))) (fun _ y _=>dn - (intOf y).toNat)
 case atStart=>exact ⟨0,.slice none 0 0,Nat.zero_le _,rfl,rfl,hb,hA,hT,hP,hR,hV,hB,Lib.hid (World.ownsRow_nil _ _ _ _)⟩
 case round=>
  clear hb hA hT hP hR hV hB;obtain ⟨i,v,hi,rfl,rfl,hb,hA,hT,hP,hR,hV,hB,HO⟩:=hrel;have c0:=hA.cell 0;by_cases hlt:i<dn
  · have hi8:i<8:=(by omega);obtain ⟨y,hy0,hy1,hy,HY⟩:=mono_at HP.out hi8;have hy20:y≤20:=mono20 HOK.out hi8 HY.out;have hgd:Hid (([p0,p1,p2,p3,p4,p5,p6,p7]).getD i 0=y):=Lib.hid (by rw [List.getD_eq_getElem?_getD,HY.out];rfl)
    have HCP:Hid (∀wx:World,Own wx g2 92 #[.int .u8 p0,.int .u8 p1,.int .u8 p2,.int .u8 p3,.int .u8 p4,.int .u8 p5,.int .u8 p6,.int .u8 p7]→wx.cell? ⟨g2,i,none⟩=some (.int .u8 y)):=by
     refine Lib.hid (fun wx hx=>?_);rw [hx.cell i];show (mcells [p0,p1,p2,p3,p4,p5,p6,p7]).toArray[i]? = _
     rw [List.getElem?_toArray];exact hy
    obtain ⟨bd,od,z,rfl,hbd,hcd0,hz⟩:=HD.out.at_ hlt;have hzm:-100≤z∧z≤100:=HMI.out z (List.mem_of_getElem? hz.out);obtain ⟨W,hW⟩:∃W,wtTo zs [p0,p1,p2,p3,p4,p5,p6,p7] i=W:=⟨_,rfl⟩;have hWb:=wtTo_bd HMI.out HP.out i;rw [hW] at hWb
    try rw [hW]
    have HW:=Lib.hid hW;clear hW hy;have hi0:(0:Int)≤(i:Int):=(by omega);have hin:(i:Int)<(dn:Int):=(by omega);have hi8':(i:Int)<8:=by omega
    have hzy:-2000≤z * y∧z * y≤2000:=by
     have h1:=Int.mul_le_mul_of_nonneg_right hzm.2 hy0;have h2:=Int.mul_le_mul_of_nonneg_right hzm.1 hy0;omega
    have x0:IntKind.i64.wrap y=y:=IntWalk.i64_in _ (by omega);have x1:IntKind.i64.wrap (z * y)=z * y:=IntWalk.i64_in _ (by omega);have x2:IntKind.i64.wrap (W+z * y)=W+z * y:=IntWalk.i64_in _ (by omega);have HCD:=Lib.hid hcd0;clear hcd0;by_cases hy00:y=0
    · subst hy00;have cP:=HCP.out _ hP;go_upto_region 17 with fail
      clear cP c0;have cP:=HCP.out _ hP;obtain ⟨ob,cB⟩:=hB.has (i:=i) (by simp [mcells_length,frontM_len HP.out.1 (show i≤8 by omega)];omega);have fB:=hB.frozen i;go_upto_region 18 with fail
      have hB2:=hB.set i (.int .u8 0);rw [mcells_set,frontM_row,rowS_step HP.out.1 hi8 HY.out,←frontM_row] at hB2;have hA2:=hA.far (p:=⟨g5,i,none⟩) (own_neR hA hB (by decide)) (.int .u8 0);have hT2:=hT.far (p:=⟨g5,i,none⟩) (own_neR hT hB (by decide)) (.int .u8 0);have hR2:=hR.far (p:=⟨g5,i,none⟩) (own_neR hR hB (by decide)) (.int .u8 0);have hV2:=hV.far (p:=⟨g5,i,none⟩) (own_neR hV hB (by decide)) (.int .u8 0);have hP2:=hP.far (p:=⟨g5,i,none⟩) (by dsimp only;omega) (.int .u8 0);have HO2:=Lib.hid (ownR_farT (p:=⟨g5,i,none⟩) HO.out hB (by decide) rfl (.int .u8 0));have hb2:=hb.setCell (p:=⟨g5,i,none⟩) (by dsimp only;omega) (.int .u8 0);clear hA hT hP hR hV hB HO hb cP cB fB;generalize (World.setCell _ ⟨g5,i,none⟩ (.int .u8 0))=w5 at *;have cP:=HCP.out _ hP2;have c0:=hA2.cell 0;have hcd:=(World.cell?_of_block (a:=⟨bd,od+i,none⟩) (hb2.block bd (by rw [←HG.out];exact hbd))).trans HCD.out
      go_quiet (fail)
      have hbq:=below_drewN (Below.refl w5.heap.size w5) nq;have hb3:=bT' hb2 hbq (by have:=hA2.lt;omega);have hA3:=hA2.keep hbq hA2.lt;have hT3:=hT2.keep hbq hT2.lt;have hP3:=hP2.keep hbq hP2.lt;have hR3:=hR2.keep hbq hR2.lt;have hV3:=hV2.keep hbq hV2.lt;have hB3:=hB2.keep hbq hB2.lt;have HO3:=Lib.hid (HO2.out.keep hbq);clear hA2 hT2 hP2 hR2 hV2 hB2 HO2 hb2 cP c0 hcd hbq;generalize w5.drewN nq=w6 at *
      try go_wp2_with fail
      go_roundw
      case rel=>exact ⟨i+1,v,by omega,by go_num,by rw [wtTo_step hz.out HY.out,HW.out,Int.mul_zero,Int.add_zero],hb3,hA3,hT3,hP3,hR3,hV3,hB3,by rw [monoT_zero HY.out];exact HO3⟩
      case measure=>simp [intOf] <;> omega
    · have hyp:0<y:=(by omega);have hyb:y > 0:=hyp;clear hy00;have cP:=HCP.out _ hP;have q0:=hP.cell 0;have q1:=hP.cell 1;have q2:=hP.cell 2;have q3:=hP.cell 3;have q4:=hP.cell 4;have q5:=hP.cell 5;have q6:=hP.cell 6;have q7:=hP.cell 7;go_upto_region 7 with fail
      clear cP c0 q0 q1 q2 q3 q4 q5 q6 q7;have hWn:=Own.new wr 92 #[.int .u8 p0,.int .u8 p1,.int .u8 p2,.int .u8 p3,.int .u8 p4,.int .u8 p5,.int .u8 p6,.int .u8 p7];have hbX:=bA1 wr (.cells #[.int .u8 p0,.int .u8 p1,.int .u8 p2,.int .u8 p3,.int .u8 p4,.int .u8 p5,.int .u8 p6,.int .u8 p7] 92);have hbW:=hbX;have hg5l:=hB.lt;have hgRl:=hR.lt;generalize wr.alloc (.cells #[.int .u8 p0,.int .u8 p1,.int .u8 p2,.int .u8 p3,.int .u8 p4,.int .u8 p5,.int .u8 p6,.int .u8 p7] 92)=wu at *;generalize hgW:wr.heap.size=gW at *;have HGW:=Lib.hid hgW;clear hgW;go_upto_region 8 with fail
      have hWz:#[.int .u8 p0,.int .u8 p1,.int .u8 p2,.int .u8 p3,.int .u8 p4,.int .u8 p5,.int .u8 p6,.int .u8 p7]=(mcells (rowI [p0,p1,p2,p3,p4,p5,p6,p7] 0)).toArray:=rfl;rw [hWz] at hWn;clear hWz
      go_loopw [12] (fun y wx=>∃j:Nat,j≤i∧y=.int .i64 j∧Below gW wr wx∧Own wx gW 92 (mcells (rowI [p0,p1,p2,p3,p4,p5,p6,p7] j)).toArray) (fun y _=>i - (intOf y).toNat)
      case atStart=>exact ⟨0,Nat.zero_le _,rfl,hbW,hWn⟩
      case round=>
       clear hbW hWn hbX;obtain ⟨j,hj,rfl,hbW,hWn⟩:=hrel;by_cases hji:j<i
       · have hj0:(0:Int)≤(j:Int):=(by omega);have hj8:(j:Int)<8:=(by omega);have hji2:(j:Int)<(i:Int):=(by omega);obtain ⟨oj,cj⟩:=hWn.has (i:=j) (by simp [mcells_length,rowI,HP.out.1];omega);have fj:=hWn.frozen j;have hW2:=hWn.set j (.int .u8 0);rw [mcells_set,rowI_clear HP.out.1 (by omega)] at hW2;have hb2:=hbW.setCell (p:=⟨gW,j,none⟩) (Nat.le_refl _) (.int .u8 0);go_wp2_with fail
         go_roundw
         case rel=>exact ⟨j+1,by omega,by go_num,hb2,hW2⟩
         case measure=>simp [intOf] <;> omega
       · have he:j=i:=(by omega);subst he;have hi0:(0:Int)≤(j:Int):=(by omega);have hbX:=hbW;rw [←HGW.out] at hbX;replace hb:=bT' hb hbX (by have:=hA.lt;omega);replace hA:=hA.keep hbX hA.lt;replace hT:=hT.keep hbX hT.lt;replace hP:=hP.keep hbX hP.lt;replace hR:=hR.keep hbX hR.lt;replace hV:=hV.keep hbX hV.lt;replace hB:=hB.keep hbX hB.lt;replace HO:=Lib.hid (HO.out.keep hbX);clear hbX hbW;obtain ⟨oi,ci⟩:=hWn.has (i:=j) (by simp [mcells_length,rowI,HP.out.1];omega)
         have cW:wr.cell? ⟨gW,j,none⟩=some (.int .u8 y):=by
          rw [hWn.cell j,List.getElem?_toArray];have h1:(rowI [p0,p1,p2,p3,p4,p5,p6,p7] j)[j]? = some y:=(by rw [rowI,List.getElem?_append_right (by rw [List.length_replicate];omega),List.length_replicate,Nat.sub_self,List.getElem?_drop,Nat.add_zero];exact HY.out);simp [mcells,h1]
         clear oi ci;have fW:=hWn.frozen j;have w8:IntKind.u8.wrap (y - 1)=y - 1:=(by simp only [IntKind.wrap,IntKind.signed,IntKind.bits];simp;omega);go_upto_region 12 with fail
         have hW2:=hWn.set j (.int .u8 (y - 1));rw [mcells_set,rowI_set HP.out.1 hi8,←backM_row] at hW2;have hRs:(backM [p0,p1,p2,p3,p4,p5,p6,p7] j).set j (y - 1)=restM [p0,p1,p2,p3,p4,p5,p6,p7] j:=(by rw [restM,hgd.out]);rw [hRs] at hW2;replace hA:=hA.far (p:=⟨gW,j,none⟩) (own_neR hA hWn (by decide)) (.int .u8 (y - 1));replace hT:=hT.far (p:=⟨gW,j,none⟩) (own_neR hT hWn (by decide)) (.int .u8 (y - 1));replace hR:=hR.far (p:=⟨gW,j,none⟩) (own_neR hR hWn (by decide)) (.int .u8 (y - 1));replace hV:=hV.far (p:=⟨gW,j,none⟩) (own_neR hV hWn (by decide)) (.int .u8 (y - 1));replace hP:=hP.far (p:=⟨gW,j,none⟩) (by dsimp only;omega) (.int .u8 (y - 1));replace hB:=hB.far (p:=⟨gW,j,none⟩) (by dsimp only;omega) (.int .u8 (y - 1));replace HO:=Lib.hid (ownR_farT (p:=⟨gW,j,none⟩) HO.out hWn (by decide) rfl (.int .u8 (y - 1)));replace hb:=hb.setCell (p:=⟨gW,j,none⟩) (by dsimp only;omega) (.int .u8 (y - 1));clear hWn cW fW w8 hRs;generalize wr.setCell ⟨gW,j,none⟩ (.int .u8 (y - 1))=wv at *;have cP:=HCP.out _ hP;have cT:=hT.cell 0;obtain ⟨X,hX⟩:∃X,pcs k zs [p0,p1,p2,p3,p4,p5,p6,p7] j=X:=⟨_,rfl⟩;have HX:=Lib.hid hX;have hXn:=pcs_nz (k:=k) HP.out HOK.out hi8 (by rw [hgd.out];exact hyp);rw [hX] at hXn;clear hX;obtain ⟨cc,hcc⟩:∃cc,num X=cc:=⟨_,rfl⟩;rw [hcc] at hXn;have HCC:=Lib.hid hcc;clear hcc;obtain ⟨M,hM⟩:∃M,W * k=M:=⟨_,rfl⟩
         have hMb:-3000000≤M∧M≤3000000:=by
          rw [←hM];have hWa:-204000≤W∧W≤204000:=(by omega);have h1:=Int.mul_le_mul_of_nonneg_right hWa.2 hk0;have h2:=Int.mul_le_mul_of_nonneg_right hWa.1 hk0;omega
         have xm:IntKind.i64.wrap (W * k)=M:=(by rw [hM];exact IntWalk.i64_in _ (by omega));have HM:=Lib.hid hM;clear hM;have nw:IntKind.i64.wrap (-y)=-y:=IntWalk.i64_in _ (by omega)
         have hXv:X=if odd M=true then -y else y:=by
          rw [←HX.out,pcs,HW.out,HM.out,hgd.out];by_cases h:M % 2=0
          · rw [if_pos h,if_neg (by simp [odd,h])]
          · rw [if_neg h,if_pos (by simp [odd,h])]
         have hXb:-20≤X∧X≤20:=by rw [hXv];split <;> omega
         go_upto_if 50 with fail
         go_cut [13] from 17 to 88 (fun z wz=>z=.int .i64 X∧wz=wv)
         case first=>
          cases ho:odd M with
          | false =>
            rw [ho,if_neg (by decide)] at hXv;have hq:(M.tmod 2 != 0)=false:=(by rw [odd_bne];exact ho);have hq2:M.tmod 2=0:=(by simpa using hq);clear ho;go_wp2_with fail
            go_meet
            exact ⟨by rw [hXv],rfl⟩
          | true =>
            rw [ho,if_pos rfl] at hXv;have hq:(M.tmod 2 != 0)=true:=(by rw [odd_bne];exact ho);have hq2:¬M.tmod 2=0:=(by simpa using hq);clear ho;go_wp2_with fail
            go_meet
            exact ⟨by rw [hXv],rfl⟩
         case rest=>
          obtain ⟨rfl,rfl⟩:=hcut;clear cP cT xm nw hXv;obtain ⟨b2,o2,im,ai,ni,ci,rfl,hb2,hci,hTi,hni,hxi⟩:=HF2.out.at_ hlt;have hgi:gss.getD j []=im:=(by rw [List.getD_eq_getElem?_getD,hxi.out];rfl);have a1:=(HAO.out.at_ j).1;rw [hgi] at a1;have hni4:ni≤400:=(by have:=hTi.len;omega);have hjz:j<zs.length:=(by have:=HDL.out;omega);have hFm:=front_monoA (i:=j) HP.out HOK.out hi8;have hRm:=rest_mono (i:=j) HP.out HOK.out hi8 (by rw [hgd.out];exact hyp);have T1:=two_front (k:=k) HAO.out HP.out HOK.out hjz (by rw [hgd.out];exact hyp);have T2:=two_rest (k:=k) HAO.out HP.out HOK.out hjz (by rw [hgd.out];exact hyp);have HPO:Hid (pieceO zs gss k [p0,p1,p2,p3,p4,p5,p6,p7] j=timesT zs im [] [⟨frontM [p0,p1,p2,p3,p4,p5,p6,p7] j,cc⟩]):=Lib.hid (by rw [pieceO,hgi,HX.out,HCC.out]);have HPI:Hid (piece zs gss k [p0,p1,p2,p3,p4,p5,p6,p7] j=timesT zs [⟨restM [p0,p1,p2,p3,p4,p5,p6,p7] j,1⟩] [] (pieceO zs gss k [p0,p1,p2,p3,p4,p5,p6,p7] j)):=Lib.hid rfl;have hpol:=pieceO_len (zs:=zs) (gss:=gss) (k:=k) (m:=[p0,p1,p2,p3,p4,p5,p6,p7]) (i:=j);have hpil:=piece_len (zs:=zs) (gss:=gss) (k:=k) (m:=[p0,p1,p2,p3,p4,p5,p6,p7]) (i:=j);rw [hgi] at hpol hpil;rw [hgi,HX.out,HCC.out] at T1;obtain ⟨V1,hV1⟩:∃V1,pieceO zs gss k [p0,p1,p2,p3,p4,p5,p6,p7] j=V1:=⟨_,rfl⟩;rw [hV1] at HPO HPI hpol T2;obtain ⟨V2,hV2⟩:∃V2,piece zs gss k [p0,p1,p2,p3,p4,p5,p6,p7] j=V2:=⟨_,rfl⟩;rw [hV2] at HPI hpil;have HMT:Hid (monoT zs gss k [p0,p1,p2,p3,p4,p5,p6,p7] (j+1)=addT 1 (monoT zs gss k [p0,p1,p2,p3,p4,p5,p6,p7] j) V2):=Lib.hid (by rw [monoT_pos hgd.out hyp,hV2]);have HST:=Lib.hid (mono9 (k:=k) HAO.out HP.out HOK.out j (by omega));have H9:=Lib.hid (piece9 (k:=k) HAO.out HP.out HOK.out hjz (by rw [hgd.out];exact hyp));rw [hV2] at H9;generalize hTj:monoT zs gss k [p0,p1,p2,p3,p4,p5,p6,p7] j=Tj at *;obtain ⟨f0,f1,f2,f3,f4,f5,f6,f7,hFe⟩:=mono8 hFm;obtain ⟨r0,r1,r2,r3,r4,r5,r6,r7,hRe⟩:=mono8 hRm;have HFE:=Lib.hid hFe;rw [hFe] at hFm T1 HPO hB;rw [hRe] at hRm T2 HPI hW2;have HT1:=Lib.hid T1;have HT2:=Lib.hid T2;clear hgi hV1 hV2 hTj hRe hFe T1 T2;replace hB:Own wc g5 92 #[.int .u8 f0,.int .u8 f1,.int .u8 f2,.int .u8 f3,.int .u8 f4,.int .u8 f5,.int .u8 f6,.int .u8 f7]:=hB;replace hW2:Own wc gW 92 #[.int .u8 r0,.int .u8 r1,.int .u8 r2,.int .u8 r3,.int .u8 r4,.int .u8 r5,.int .u8 r6,.int .u8 r7]:=hW2;have HTI:=Lib.hid hTi;have HCI:=Lib.hid hci;clear hTi hci;go_upto_region 15 with fail
          go_cut [14] from 17 to 88 (fun p wz=>∃(wy:World) (g14:Nat) (oa:Option Addr) (on oc:Nat),wy=wz∧p=.pointer (some ⟨g14,0,none⟩)∧Below wc.heap.size wc wz∧wc.heap.size≤g14∧Own wz g14 59 #[.slice oa on oc]∧OwnR wz wc.heap.size (.slice oa on oc) V1)
          case first=>
           have hC:Below wc.heap.size wc wc.drew:=(Below.refl _ _).drew;clear hP hR hV hW2 HO;replace hA:Own wc.drew g0 36 #[.slice (some ⟨bd,od,none⟩) dn dc,.slice a n c]:=hA;replace hT:Own wc.drew g1 32 #[.int .i64 k,.slice (some ⟨b2,o2,none⟩) dn c2]:=hT;replace hB:Own wc.drew g5 92 #[.int .u8 f0,.int .u8 f1,.int .u8 f2,.int .u8 f3,.int .u8 f4,.int .u8 f5,.int .u8 f6,.int .u8 f7]:=hB;replace hb:Below w.heap.size w wc.drew:=(by rw [HG.out];exact hb.drew);refine wp_region_held_drew (S:=(fun w'=>w'.cell? ⟨g0,0,none⟩=some (.slice (some ⟨bd,od,none⟩) dn dc)∧w'.cell? ⟨g5,0,none⟩=some (.int .u8 f0)∧w'.cell? ⟨g5,1,none⟩=some (.int .u8 f1)∧w'.cell? ⟨g5,2,none⟩=some (.int .u8 f2)∧w'.cell? ⟨g5,3,none⟩=some (.int .u8 f3)∧w'.cell? ⟨g5,4,none⟩=some (.int .u8 f4)∧w'.cell? ⟨g5,5,none⟩=some (.int .u8 f5)∧w'.cell? ⟨g5,6,none⟩=some (.int .u8 f6)∧w'.cell? ⟨g5,7,none⟩=some (.int .u8 f7)∧w'.cell? ⟨g1,1,none⟩=some (.slice (some ⟨b2,o2,none⟩) dn c2)∧w'.cell? ⟨b2,o2+j,none⟩=some (.slice ai ni ci))) (by kernel_rfl) ?_ (fun _=>?_)
           · ((try dsimp only);(exact ⟨hA.cell 0,hB.cell 0,hB.cell 1,hB.cell 2,hB.cell 3,hB.cell 4,hB.cell 5,hB.cell 6,hB.cell 7,hT.cell 1,(World.cell?_of_block (a:=⟨b2,o2+j,none⟩) (hb.block b2 hb2)).trans HCI.out⟩))
           generalize wc.drew=Wd at *;refine hdT 0 ?_;refine hdT 1 ?_;refine hdT 2 ?_;refine hdT 3 ?_;refine hdT 5 ?_;refine hdT 6 ?_;refine hdT 7 ?_;refine hdT 8 ?_;refine hdT 9 ?_;refine wpAnyH_ready (rs:=[4,11]) (by kernel_rfl) (by simp) ?_;refine AllReadyH.cons (hdAt (i:=4) rfl) (fun K hK=>?_) (AllReadyH.cons (hdAt (i:=11) rfl) (fun K hK=>?_) AllReadyH.nil)
           · skip
             (go_simp;(go_at_call 87;refine (l01SingleC_c X cc ⟨by omega,by omega⟩ HCC.out hXn hFm).mono ?_;rintro e W1 ⟨gs1,rfl,hgs1,hS,hbX⟩);go_wp2_with fail)
             replace hA:=hA.keep hbX hA.lt;replace hT:=hT.keep hbX hT.lt;replace hB:=hB.keep hbX hB.lt;replace hb:=bT' hb hbX hb.size;replace hC:=bT' hC hbX hC.size;clear hbX hgs1;refine hK.out _ _ ?_ (fun _=>?_)
             · ((try dsimp only);(exact ⟨hA.cell 0,hB.cell 0,hB.cell 1,hB.cell 2,hB.cell 3,hB.cell 4,hB.cell 5,hB.cell 6,hB.cell 7,hT.cell 1,(World.cell?_of_block (a:=⟨b2,o2+j,none⟩) (hb.block b2 hb2)).trans HCI.out⟩))
             clear hK K
             (try simp only [Act.put,pA,pB,pC])
             refine wpAnyH_ready (rs:=[10,11]) (by kernel_rfl) (by simp) ?_;refine AllReadyH.cons (hdAt (i:=10) rfl) (fun K hK=>?_) (AllReadyH.cons (hdAt (i:=11) rfl) (fun K hK=>?_) AllReadyH.nil)
             · skip
               have hbs:=hC.size
               (go_simp;(go_at_call 86;refine (l01Times_c dc 1 ci (HD.out.keep hb) hS (by omega) (HTI.out.keep hb) hni4 HT1.out).mono ?_;rintro e W2 ⟨vT,rfl,hOT,hbX⟩;rw [←HPO.out] at hOT;obtain ⟨oa,on,oc,rfl⟩:=hOT.r.isSlice);go_wp2_with fail)
               replace hA:=hA.keep hbX hA.lt;replace hT:=hT.keep hbX hT.lt;replace hB:=hB.keep hbX hB.lt;replace hb:=bT' hb hbX hb.size;replace hC:=bT' hC hbX hC.size;have hOV:=hOT.r.weaken hbs;clear hOT hbX hbs hS;refine hK.out _ _ ?_ (fun _=>?_)
               · ((try dsimp only);(exact ⟨hA.cell 0,hB.cell 0,hB.cell 1,hB.cell 2,hB.cell 3,hB.cell 4,hB.cell 5,hB.cell 6,hB.cell 7,hT.cell 1,(World.cell?_of_block (a:=⟨b2,o2+j,none⟩) (hb.block b2 hb2)).trans HCI.out⟩))
               clear hK K
               (try simp only [Act.put,pA,pB,pC])
               refine hdC 11 (fun K hK=>?_)
               (go_simp;try go_wp2_with fail)
               have hN:=Own.new W2 59 #[.slice none 0 0];have HGb:=Lib.hid hb.size;have HGC:=Lib.hid hC.size;have hbX:=bA1 W2 (.cells #[.slice none 0 0] 59);replace hA:=hA.keep hbX hA.lt;replace hT:=hT.keep hbX hT.lt;replace hB:=hB.keep hbX hB.lt;replace hb:=bT' hb hbX hb.size;replace hC:=bT' hC hbX hC.size;replace hOV:=hOV.keep hbX;generalize W2.alloc (.cells #[.slice none 0 0] 59)=W3 at *;generalize hgN:W2.heap.size=gN at *;clear hbX hgN;refine hK.out _ _ ?_ (fun _=>?_)
               · ((try dsimp only);(exact ⟨hA.cell 0,hB.cell 0,hB.cell 1,hB.cell 2,hB.cell 3,hB.cell 4,hB.cell 5,hB.cell 6,hB.cell 7,hT.cell 1,(World.cell?_of_block (a:=⟨b2,o2+j,none⟩) (hb.block b2 hb2)).trans HCI.out⟩))
               clear hK K
               (try simp only [Act.put,pA,pB,pC])
               refine hdC 12 (fun K hK=>?_);have s0:=hN.cell 0;have u0:=hN.frozen 0
               (go_simp;go_wp2_with fail)
               clear s0 u0;replace hb:=hb.setCell (p:=⟨gN,0,none⟩) HGb.out (.slice oa on oc);replace hC:=hC.setCell (p:=⟨gN,0,none⟩) HGC.out (.slice oa on oc);replace hA:=hA.far (p:=⟨gN,0,none⟩) (own_neR hA hN (by decide)) (.slice oa on oc);replace hT:=hT.far (p:=⟨gN,0,none⟩) (own_neR hT hN (by decide)) (.slice oa on oc);replace hB:=hB.far (p:=⟨gN,0,none⟩) (own_neR hB hN (by decide)) (.slice oa on oc);replace hOV:=ownR_farT (p:=⟨gN,0,none⟩) hOV hN (by decide) rfl (.slice oa on oc);replace hN:=hN.set 0 (.slice oa on oc);generalize W3.setCell ⟨gN,0,none⟩ (.slice oa on oc)=W4 at *;refine hK.out _ _ ?_ (fun _=>?_)
               · ((try dsimp only);(exact ⟨hA.cell 0,hB.cell 0,hB.cell 1,hB.cell 2,hB.cell 3,hB.cell 4,hB.cell 5,hB.cell 6,hB.cell 7,hT.cell 1,(World.cell?_of_block (a:=⟨b2,o2+j,none⟩) (hb.block b2 hb2)).trans HCI.out⟩))
               clear hK K
               (try simp only [Act.put,pA,pB,pC])
               refine wpAnyH_done (by kernel_rfl) ?_ _;go_wp2_with fail
               go_meet
               exact ⟨_,gN,oa,on,oc,rfl,rfl,hC,HGC.out,hN,hOV⟩
             · skip
               (go_simp;try go_wp2_with fail)
               have hN:=Own.new W1 59 #[.slice none 0 0];have HGb:=Lib.hid hb.size;have HGC:=Lib.hid hC.size;have hbX:=bA1 W1 (.cells #[.slice none 0 0] 59);replace hA:=hA.keep hbX hA.lt;replace hT:=hT.keep hbX hT.lt;replace hB:=hB.keep hbX hB.lt;replace hb:=bT' hb hbX hb.size;replace hC:=bT' hC hbX hC.size;replace hS:=hS.keep hbX;generalize W1.alloc (.cells #[.slice none 0 0] 59)=W5 at *;generalize hgN:W1.heap.size=gN at *;clear hbX hgN;refine hK.out _ _ ?_ (fun _=>?_)
               · ((try dsimp only);(exact ⟨hA.cell 0,hB.cell 0,hB.cell 1,hB.cell 2,hB.cell 3,hB.cell 4,hB.cell 5,hB.cell 6,hB.cell 7,hT.cell 1,(World.cell?_of_block (a:=⟨b2,o2+j,none⟩) (hb.block b2 hb2)).trans HCI.out⟩))
               clear hK K
               (try simp only [Act.put,pA,pB,pC])
               refine hdC 10 (fun K hK=>?_);have hbs:=hC.size
               (go_simp;(go_at_call 86;refine (l01Times_c dc 1 ci (HD.out.keep hb) hS (by omega) (HTI.out.keep hb) hni4 HT1.out).mono ?_;rintro e W6 ⟨vT,rfl,hOT,hbX⟩;rw [←HPO.out] at hOT;obtain ⟨oa,on,oc,rfl⟩:=hOT.r.isSlice);go_wp2_with fail)
               replace hA:=hA.keep hbX hA.lt;replace hT:=hT.keep hbX hT.lt;replace hB:=hB.keep hbX hB.lt;replace hb:=bT' hb hbX hb.size;replace hC:=bT' hC hbX hC.size;replace hN:=hN.keep hbX hN.lt;have hOV:=hOT.r.weaken hbs;clear hOT hbX hbs hS;refine hK.out _ _ ?_ (fun _=>?_)
               · ((try dsimp only);(exact ⟨hA.cell 0,hB.cell 0,hB.cell 1,hB.cell 2,hB.cell 3,hB.cell 4,hB.cell 5,hB.cell 6,hB.cell 7,hT.cell 1,(World.cell?_of_block (a:=⟨b2,o2+j,none⟩) (hb.block b2 hb2)).trans HCI.out⟩))
               clear hK K
               (try simp only [Act.put,pA,pB,pC])
               refine hdC 12 (fun K hK=>?_);have s0:=hN.cell 0;have u0:=hN.frozen 0
               (go_simp;go_wp2_with fail)
               clear s0 u0;replace hb:=hb.setCell (p:=⟨gN,0,none⟩) HGb.out (.slice oa on oc);replace hC:=hC.setCell (p:=⟨gN,0,none⟩) HGC.out (.slice oa on oc);replace hA:=hA.far (p:=⟨gN,0,none⟩) (own_neR hA hN (by decide)) (.slice oa on oc);replace hT:=hT.far (p:=⟨gN,0,none⟩) (own_neR hT hN (by decide)) (.slice oa on oc);replace hB:=hB.far (p:=⟨gN,0,none⟩) (own_neR hB hN (by decide)) (.slice oa on oc);replace hOV:=ownR_farT (p:=⟨gN,0,none⟩) hOV hN (by decide) rfl (.slice oa on oc);replace hN:=hN.set 0 (.slice oa on oc);generalize W6.setCell ⟨gN,0,none⟩ (.slice oa on oc)=W7 at *;refine hK.out _ _ ?_ (fun _=>?_)
               · ((try dsimp only);(exact ⟨hA.cell 0,hB.cell 0,hB.cell 1,hB.cell 2,hB.cell 3,hB.cell 4,hB.cell 5,hB.cell 6,hB.cell 7,hT.cell 1,(World.cell?_of_block (a:=⟨b2,o2+j,none⟩) (hb.block b2 hb2)).trans HCI.out⟩))
               clear hK K
               (try simp only [Act.put,pA,pB,pC])
               refine wpAnyH_done (by kernel_rfl) ?_ _;go_wp2_with fail
               go_meet
               exact ⟨_,gN,oa,on,oc,rfl,rfl,hC,HGC.out,hN,hOV⟩
           · skip
             (go_simp;try go_wp2_with fail)
             have hN:=Own.new Wd 59 #[.slice none 0 0];have HGb:=Lib.hid hb.size;have HGC:=Lib.hid hC.size;have hbX:=bA1 Wd (.cells #[.slice none 0 0] 59);replace hA:=hA.keep hbX hA.lt;replace hT:=hT.keep hbX hT.lt;replace hB:=hB.keep hbX hB.lt;replace hb:=bT' hb hbX hb.size;replace hC:=bT' hC hbX hC.size;generalize Wd.alloc (.cells #[.slice none 0 0] 59)=W8 at *;generalize hgN:Wd.heap.size=gN at *;clear hbX hgN;refine hK.out _ _ ?_ (fun _=>?_)
             · ((try dsimp only);(exact ⟨hA.cell 0,hB.cell 0,hB.cell 1,hB.cell 2,hB.cell 3,hB.cell 4,hB.cell 5,hB.cell 6,hB.cell 7,hT.cell 1,(World.cell?_of_block (a:=⟨b2,o2+j,none⟩) (hb.block b2 hb2)).trans HCI.out⟩))
             clear hK K
             (try simp only [Act.put,pA,pB,pC])
             refine hdC 4 (fun K hK=>?_)
             (go_simp;(go_at_call 87;refine (l01SingleC_c X cc ⟨by omega,by omega⟩ HCC.out hXn hFm).mono ?_;rintro e W9 ⟨gs1,rfl,hgs1,hS,hbX⟩);go_wp2_with fail)
             replace hA:=hA.keep hbX hA.lt;replace hT:=hT.keep hbX hT.lt;replace hB:=hB.keep hbX hB.lt;replace hb:=bT' hb hbX hb.size;replace hC:=bT' hC hbX hC.size;replace hN:=hN.keep hbX hN.lt;clear hbX hgs1;refine hK.out _ _ ?_ (fun _=>?_)
             · ((try dsimp only);(exact ⟨hA.cell 0,hB.cell 0,hB.cell 1,hB.cell 2,hB.cell 3,hB.cell 4,hB.cell 5,hB.cell 6,hB.cell 7,hT.cell 1,(World.cell?_of_block (a:=⟨b2,o2+j,none⟩) (hb.block b2 hb2)).trans HCI.out⟩))
             clear hK K
             (try simp only [Act.put,pA,pB,pC])
             refine hdC 10 (fun K hK=>?_);have hbs:=hC.size
             (go_simp;(go_at_call 86;refine (l01Times_c dc 1 ci (HD.out.keep hb) hS (by omega) (HTI.out.keep hb) hni4 HT1.out).mono ?_;rintro e W10 ⟨vT,rfl,hOT,hbX⟩;rw [←HPO.out] at hOT;obtain ⟨oa,on,oc,rfl⟩:=hOT.r.isSlice);go_wp2_with fail)
             replace hA:=hA.keep hbX hA.lt;replace hT:=hT.keep hbX hT.lt;replace hB:=hB.keep hbX hB.lt;replace hb:=bT' hb hbX hb.size;replace hC:=bT' hC hbX hC.size;replace hN:=hN.keep hbX hN.lt;have hOV:=hOT.r.weaken hbs;clear hOT hbX hbs hS;refine hK.out _ _ ?_ (fun _=>?_)
             · ((try dsimp only);(exact ⟨hA.cell 0,hB.cell 0,hB.cell 1,hB.cell 2,hB.cell 3,hB.cell 4,hB.cell 5,hB.cell 6,hB.cell 7,hT.cell 1,(World.cell?_of_block (a:=⟨b2,o2+j,none⟩) (hb.block b2 hb2)).trans HCI.out⟩))
             clear hK K
             (try simp only [Act.put,pA,pB,pC])
             refine hdC 12 (fun K hK=>?_);have s0:=hN.cell 0;have u0:=hN.frozen 0
             (go_simp;go_wp2_with fail)
             clear s0 u0;replace hb:=hb.setCell (p:=⟨gN,0,none⟩) HGb.out (.slice oa on oc);replace hC:=hC.setCell (p:=⟨gN,0,none⟩) HGC.out (.slice oa on oc);replace hA:=hA.far (p:=⟨gN,0,none⟩) (own_neR hA hN (by decide)) (.slice oa on oc);replace hT:=hT.far (p:=⟨gN,0,none⟩) (own_neR hT hN (by decide)) (.slice oa on oc);replace hB:=hB.far (p:=⟨gN,0,none⟩) (own_neR hB hN (by decide)) (.slice oa on oc);replace hOV:=ownR_farT (p:=⟨gN,0,none⟩) hOV hN (by decide) rfl (.slice oa on oc);replace hN:=hN.set 0 (.slice oa on oc);generalize W10.setCell ⟨gN,0,none⟩ (.slice oa on oc)=W11 at *;refine hK.out _ _ ?_ (fun _=>?_)
             · ((try dsimp only);(exact ⟨hA.cell 0,hB.cell 0,hB.cell 1,hB.cell 2,hB.cell 3,hB.cell 4,hB.cell 5,hB.cell 6,hB.cell 7,hT.cell 1,(World.cell?_of_block (a:=⟨b2,o2+j,none⟩) (hb.block b2 hb2)).trans HCI.out⟩))
             clear hK K
             (try simp only [Act.put,pA,pB,pC])
             refine wpAnyH_done (by kernel_rfl) ?_ _;go_wp2_with fail
             go_meet
             exact ⟨_,gN,oa,on,oc,rfl,rfl,hC,HGC.out,hN,hOV⟩
          case rest=>
           obtain ⟨wz,g14,oa,on,oc,rfl,rfl,hbX,hg14,hN,hOV⟩:=hcut;have hgl3:=hR.lt;have hgl4:=hV.lt;replace hb:=bT' hb hbX (by have:=hA.lt;omega);replace hA:=hA.keep hbX hA.lt;replace hT:=hT.keep hbX hT.lt;replace hP:=hP.keep hbX hP.lt;replace hR:=hR.keep hbX hR.lt;replace hV:=hV.keep hbX hV.lt;replace hB:=hB.keep hbX hB.lt;replace hW2:=hW2.keep hbX hW2.lt;replace HO:=Lib.hid (HO.out.keep hbX);clear hbX;obtain ⟨va,vn,vc,rfl⟩:=HO.out.isSlice;have hon:on≤400:=(by have:=(hOV.read HT2.out.t1).len;omega);have HOT:=Lib.hid (hOV.read HT2.out.t1);clear hOV;have hvn:vn≤100000:=(by have:=(HO.out.read HST.out.tm).len;have:=HST.out.len;omega);have HOVV:=Lib.hid (HO.out.read HST.out.tm);have h91:=Lib.hid H9.out.bd;have h92:=Lib.hid HST.out.bd;have h93:=Lib.hid H9.out.tm;go_upto_region 16 with fail
           go_cut [7] from 17 to 88 (fun p wq=>∃(wy:World) (xa:Option Addr) (xn xc:Nat),wy=wq∧p=.pointer (some ⟨g4,0,none⟩)∧Below w.heap.size w wq∧Own wq g0 36 #[.slice (some ⟨bd,od,none⟩) dn dc,.slice a n c]∧Own wq g1 32 #[.int .i64 k,.slice (some ⟨b2,o2,none⟩) dn c2]∧Own wq g2 92 #[.int .u8 p0,.int .u8 p1,.int .u8 p2,.int .u8 p3,.int .u8 p4,.int .u8 p5,.int .u8 p6,.int .u8 p7]∧Own wq g3 59 #[.slice none 0 0]∧Own wq g4 59 #[.slice xa xn xc]∧Own wq g5 92 #[.int .u8 f0,.int .u8 f1,.int .u8 f2,.int .u8 f3,.int .u8 f4,.int .u8 f5,.int .u8 f6,.int .u8 f7]∧OwnR wq g0 (.slice xa xn xc) (addT 1 Tj V2))
           case first=>
            replace hA:Own wz.drew g0 36 #[.slice (some ⟨bd,od,none⟩) dn dc,.slice a n c]:=hA;replace hT:Own wz.drew g1 32 #[.int .i64 k,.slice (some ⟨b2,o2,none⟩) dn c2]:=hT;replace hP:Own wz.drew g2 92 #[.int .u8 p0,.int .u8 p1,.int .u8 p2,.int .u8 p3,.int .u8 p4,.int .u8 p5,.int .u8 p6,.int .u8 p7]:=hP;replace hR:Own wz.drew g3 59 #[.slice none 0 0]:=hR;replace hV:Own wz.drew g4 59 #[.slice va vn vc]:=hV;replace hB:Own wz.drew g5 92 #[.int .u8 f0,.int .u8 f1,.int .u8 f2,.int .u8 f3,.int .u8 f4,.int .u8 f5,.int .u8 f6,.int .u8 f7]:=hB;replace hW2:Own wz.drew gW 92 #[.int .u8 r0,.int .u8 r1,.int .u8 r2,.int .u8 r3,.int .u8 r4,.int .u8 r5,.int .u8 r6,.int .u8 r7]:=hW2;replace hN:Own wz.drew g14 59 #[.slice oa on oc]:=hN;replace hb:Below w.heap.size w wz.drew:=(by rw [HG.out];exact hb.drew);replace HOT:=Lib.hid (HOT.out.keep ((Below.refl _ _).drew:Below wz.heap.size wz wz.drew));replace HOVV:=Lib.hid (HOVV.out.keep ((Below.refl _ _).drew:Below wz.heap.size wz wz.drew));clear HO;have hga:w.heap.size≤g0:=Nat.le_of_eq HG.out;have hgb:g0≤w.heap.size:=Nat.le_of_eq HG.out.symm;have hC:Below wz.heap.size wz wz.drew:=(Below.refl _ _).drew;have hz4:g3<wz.heap.size:=hR.lt;refine wp_region_held_drew (S:=(fun w'=>w'.cell? ⟨g0,0,none⟩=some (.slice (some ⟨bd,od,none⟩) dn dc)∧w'.cell? ⟨g14,0,none⟩=some (.slice oa on oc)∧w'.cell? ⟨gW,0,none⟩=some (.int .u8 r0)∧w'.cell? ⟨gW,1,none⟩=some (.int .u8 r1)∧w'.cell? ⟨gW,2,none⟩=some (.int .u8 r2)∧w'.cell? ⟨gW,3,none⟩=some (.int .u8 r3)∧w'.cell? ⟨gW,4,none⟩=some (.int .u8 r4)∧w'.cell? ⟨gW,5,none⟩=some (.int .u8 r5)∧w'.cell? ⟨gW,6,none⟩=some (.int .u8 r6)∧w'.cell? ⟨gW,7,none⟩=some (.int .u8 r7))) (by kernel_rfl) ?_ (fun _=>?_)
            · ((try dsimp only);(exact ⟨hA.cell 0,hN.cell 0,hW2.cell 0,hW2.cell 1,hW2.cell 2,hW2.cell 3,hW2.cell 4,hW2.cell 5,hW2.cell 6,hW2.cell 7⟩))
            generalize wz.drew=We at *;refine hdT 1 ?_;refine hdT 2 ?_;refine hdT 3 ?_;refine hdT 4 ?_;refine wpAnyH_ready (rs:=[0,5]) (by kernel_rfl) (by simp) ?_;refine AllReadyH.cons (hdAt (i:=0) rfl) (fun K hK=>?_) (AllReadyH.cons (hdAt (i:=5) rfl) (fun K hK=>?_) AllReadyH.nil)
            · skip
              have cV:=hV.cell 0
              (go_simp;try go_wp2_with fail)
              clear cV;refine hK.out _ _ ?_ (fun _=>?_)
              · ((try dsimp only);(exact ⟨hA.cell 0,hN.cell 0,hW2.cell 0,hW2.cell 1,hW2.cell 2,hW2.cell 3,hW2.cell 4,hW2.cell 5,hW2.cell 6,hW2.cell 7⟩))
              clear hK K
              (try simp only [Act.put,pA,pB,pC])
              refine hdC 5 (fun K hK=>?_)
              (go_simp;(go_at_call 87;refine (l01Single_c hRm).mono ?_;rintro e W1 ⟨gs2,rfl,hgs2,hS,hbX⟩);go_wp2_with fail)
              replace hA:=hA.keep hbX hA.lt;replace hT:=hT.keep hbX hT.lt;replace hP:=hP.keep hbX hP.lt;replace hR:=hR.keep hbX hR.lt;replace hV:=hV.keep hbX hV.lt;replace hB:=hB.keep hbX hB.lt;replace hW2:=hW2.keep hbX hW2.lt;replace hN:=hN.keep hbX hN.lt;replace hb:=bT' hb hbX hb.size;replace hC:=bT' hC hbX hC.size;replace HOT:=Lib.hid (HOT.out.keep hbX);replace HOVV:=Lib.hid (HOVV.out.keep hbX);clear hbX hgs2;refine hK.out _ _ ?_ (fun _=>?_)
              · ((try dsimp only);(exact ⟨hA.cell 0,hN.cell 0,hW2.cell 0,hW2.cell 1,hW2.cell 2,hW2.cell 3,hW2.cell 4,hW2.cell 5,hW2.cell 6,hW2.cell 7⟩))
              clear hK K
              (try simp only [Act.put,pA,pB,pC])
              refine hdC 6 (fun K hK=>?_)
              (go_simp;(go_at_call 86;refine (l01Times_c dc oc 1 (HD.out.keep hb) HOT.out hon hS (by omega) HT2.out).mono ?_;rintro e W2 ⟨vT,rfl,hOT2,hbX⟩;rw [←HPI.out] at hOT2;obtain ⟨ta,tn,tc,rfl⟩:=hOT2.r.isSlice);go_wp2_with fail)
              replace hA:=hA.keep hbX hA.lt;replace hT:=hT.keep hbX hT.lt;replace hP:=hP.keep hbX hP.lt;replace hR:=hR.keep hbX hR.lt;replace hV:=hV.keep hbX hV.lt;replace hB:=hB.keep hbX hB.lt;replace hW2:=hW2.keep hbX hW2.lt;replace hN:=hN.keep hbX hN.lt;replace hb:=bT' hb hbX hb.size;replace hC:=bT' hC hbX hC.size;replace HOVV:=Lib.hid (HOVV.out.keep hbX);have hTM:=hOT2.r.read h93.out;have htn:tn≤400:=(by have:=hTM.len;omega);clear hOT2 hbX hS;refine hK.out _ _ ?_ (fun _=>?_)
              · ((try dsimp only);(exact ⟨hA.cell 0,hN.cell 0,hW2.cell 0,hW2.cell 1,hW2.cell 2,hW2.cell 3,hW2.cell 4,hW2.cell 5,hW2.cell 6,hW2.cell 7⟩))
              clear hK K
              (try simp only [Act.put,pA,pB,pC])
              refine hdC 7 (fun K hK=>?_);have hbs:g0≤_:=Nat.le_of_lt hA.lt
              (go_simp;(go_at_call 30;refine (l01Add_c vc tc 1 (by omega) (by omega) HOVV.out hTM (by omega) h92.out h91.out).mono ?_;rintro e W3 ⟨v3,rfl,hAd,hbX⟩;obtain ⟨xa,xn,xc,rfl⟩:=hAd.isSlice);go_wp2_with fail)
              replace hA:=hA.keep hbX hA.lt;replace hT:=hT.keep hbX hT.lt;replace hP:=hP.keep hbX hP.lt;replace hR:=hR.keep hbX hR.lt;replace hV:=hV.keep hbX hV.lt;replace hB:=hB.keep hbX hB.lt;replace hW2:=hW2.keep hbX hW2.lt;replace hN:=hN.keep hbX hN.lt;replace hb:=bT' hb hbX hb.size;replace hC:=bT' hC hbX hC.size;have hAD:=hAd.r.weaken hbs;clear hAd hbX hbs hTM;refine hK.out _ _ ?_ (fun _=>?_)
              · ((try dsimp only);(exact ⟨hA.cell 0,hN.cell 0,hW2.cell 0,hW2.cell 1,hW2.cell 2,hW2.cell 3,hW2.cell 4,hW2.cell 5,hW2.cell 6,hW2.cell 7⟩))
              clear hK K
              (try simp only [Act.put,pA,pB,pC])
              refine hdC 8 (fun K hK=>?_);have cV:=hV.cell 0;have fV:=hV.frozen 0
              (go_simp;go_wp2_with fail)
              clear cV fV;replace hb:=hb.setCell (p:=⟨g4,0,none⟩) (by dsimp only;omega) (.slice xa xn xc);replace hA:=hA.far (p:=⟨g4,0,none⟩) (own_neR hA hV (by decide)) (.slice xa xn xc);replace hT:=hT.far (p:=⟨g4,0,none⟩) (own_neR hT hV (by decide)) (.slice xa xn xc);replace hP:=hP.far (p:=⟨g4,0,none⟩) (own_neR hP hV (by decide)) (.slice xa xn xc);replace hB:=hB.far (p:=⟨g4,0,none⟩) (own_neR hB hV (by decide)) (.slice xa xn xc);replace hW2:=hW2.far (p:=⟨g4,0,none⟩) (own_neR hW2 hV (by decide)) (.slice xa xn xc);replace hR:=hR.far (p:=⟨g4,0,none⟩) (by dsimp only;omega) (.slice xa xn xc);replace hN:=hN.far (p:=⟨g4,0,none⟩) (by dsimp only;omega) (.slice xa xn xc);replace hAD:=ownR_farT (p:=⟨g4,0,none⟩) hAD hV (by decide) rfl (.slice xa xn xc);replace hV:=hV.set 0 (.slice xa xn xc);generalize W3.setCell ⟨g4,0,none⟩ (.slice xa xn xc)=W4 at *;clear hC;refine hK.out _ _ ?_ (fun _=>?_)
              · ((try dsimp only);(exact ⟨hA.cell 0,hN.cell 0,hW2.cell 0,hW2.cell 1,hW2.cell 2,hW2.cell 3,hW2.cell 4,hW2.cell 5,hW2.cell 6,hW2.cell 7⟩))
              clear hK K
              (try simp only [Act.put,pA,pB,pC])
              refine wpAnyH_done (by kernel_rfl) ?_ _;go_wp2_with fail
              go_meet
              exact ⟨_,xa,xn,xc,rfl,rfl,hb,hA,hT,hP,hR,hV,hB,hAD⟩
            · skip
              (go_simp;(go_at_call 87;refine (l01Single_c hRm).mono ?_;rintro e W5 ⟨gs2,rfl,hgs2,hS,hbX⟩);go_wp2_with fail)
              replace hA:=hA.keep hbX hA.lt;replace hT:=hT.keep hbX hT.lt;replace hP:=hP.keep hbX hP.lt;replace hR:=hR.keep hbX hR.lt;replace hV:=hV.keep hbX hV.lt;replace hB:=hB.keep hbX hB.lt;replace hW2:=hW2.keep hbX hW2.lt;replace hN:=hN.keep hbX hN.lt;replace hb:=bT' hb hbX hb.size;replace hC:=bT' hC hbX hC.size;replace HOT:=Lib.hid (HOT.out.keep hbX);replace HOVV:=Lib.hid (HOVV.out.keep hbX);clear hbX hgs2;refine hK.out _ _ ?_ (fun _=>?_)
              · ((try dsimp only);(exact ⟨hA.cell 0,hN.cell 0,hW2.cell 0,hW2.cell 1,hW2.cell 2,hW2.cell 3,hW2.cell 4,hW2.cell 5,hW2.cell 6,hW2.cell 7⟩))
              clear hK K
              (try simp only [Act.put,pA,pB,pC])
              refine wpAnyH_ready (rs:=[0,6]) (by kernel_rfl) (by simp) ?_;refine AllReadyH.cons (hdAt (i:=0) rfl) (fun K hK=>?_) (AllReadyH.cons (hdAt (i:=6) rfl) (fun K hK=>?_) AllReadyH.nil)
              · skip
                have cV:=hV.cell 0
                (go_simp;try go_wp2_with fail)
                clear cV;refine hK.out _ _ ?_ (fun _=>?_)
                · ((try dsimp only);(exact ⟨hA.cell 0,hN.cell 0,hW2.cell 0,hW2.cell 1,hW2.cell 2,hW2.cell 3,hW2.cell 4,hW2.cell 5,hW2.cell 6,hW2.cell 7⟩))
                clear hK K
                (try simp only [Act.put,pA,pB,pC])
                refine hdC 6 (fun K hK=>?_)
                (go_simp;(go_at_call 86;refine (l01Times_c dc oc 1 (HD.out.keep hb) HOT.out hon hS (by omega) HT2.out).mono ?_;rintro e W6 ⟨vT,rfl,hOT2,hbX⟩;rw [←HPI.out] at hOT2;obtain ⟨ta,tn,tc,rfl⟩:=hOT2.r.isSlice);go_wp2_with fail)
                replace hA:=hA.keep hbX hA.lt;replace hT:=hT.keep hbX hT.lt;replace hP:=hP.keep hbX hP.lt;replace hR:=hR.keep hbX hR.lt;replace hV:=hV.keep hbX hV.lt;replace hB:=hB.keep hbX hB.lt;replace hW2:=hW2.keep hbX hW2.lt;replace hN:=hN.keep hbX hN.lt;replace hb:=bT' hb hbX hb.size;replace hC:=bT' hC hbX hC.size;replace HOVV:=Lib.hid (HOVV.out.keep hbX);have hTM:=hOT2.r.read h93.out;have htn:tn≤400:=(by have:=hTM.len;omega);clear hOT2 hbX hS;refine hK.out _ _ ?_ (fun _=>?_)
                · ((try dsimp only);(exact ⟨hA.cell 0,hN.cell 0,hW2.cell 0,hW2.cell 1,hW2.cell 2,hW2.cell 3,hW2.cell 4,hW2.cell 5,hW2.cell 6,hW2.cell 7⟩))
                clear hK K
                (try simp only [Act.put,pA,pB,pC])
                refine hdC 7 (fun K hK=>?_);have hbs:g0≤_:=Nat.le_of_lt hA.lt
                (go_simp;(go_at_call 30;refine (l01Add_c vc tc 1 (by omega) (by omega) HOVV.out hTM (by omega) h92.out h91.out).mono ?_;rintro e W7 ⟨v3,rfl,hAd,hbX⟩;obtain ⟨xa,xn,xc,rfl⟩:=hAd.isSlice);go_wp2_with fail)
                replace hA:=hA.keep hbX hA.lt;replace hT:=hT.keep hbX hT.lt;replace hP:=hP.keep hbX hP.lt;replace hR:=hR.keep hbX hR.lt;replace hV:=hV.keep hbX hV.lt;replace hB:=hB.keep hbX hB.lt;replace hW2:=hW2.keep hbX hW2.lt;replace hN:=hN.keep hbX hN.lt;replace hb:=bT' hb hbX hb.size;replace hC:=bT' hC hbX hC.size;have hAD:=hAd.r.weaken hbs;clear hAd hbX hbs hTM;refine hK.out _ _ ?_ (fun _=>?_)
                · ((try dsimp only);(exact ⟨hA.cell 0,hN.cell 0,hW2.cell 0,hW2.cell 1,hW2.cell 2,hW2.cell 3,hW2.cell 4,hW2.cell 5,hW2.cell 6,hW2.cell 7⟩))
                clear hK K
                (try simp only [Act.put,pA,pB,pC])
                refine hdC 8 (fun K hK=>?_);have cV:=hV.cell 0;have fV:=hV.frozen 0
                (go_simp;go_wp2_with fail)
                clear cV fV;replace hb:=hb.setCell (p:=⟨g4,0,none⟩) (by dsimp only;omega) (.slice xa xn xc);replace hA:=hA.far (p:=⟨g4,0,none⟩) (own_neR hA hV (by decide)) (.slice xa xn xc);replace hT:=hT.far (p:=⟨g4,0,none⟩) (own_neR hT hV (by decide)) (.slice xa xn xc);replace hP:=hP.far (p:=⟨g4,0,none⟩) (own_neR hP hV (by decide)) (.slice xa xn xc);replace hB:=hB.far (p:=⟨g4,0,none⟩) (own_neR hB hV (by decide)) (.slice xa xn xc);replace hW2:=hW2.far (p:=⟨g4,0,none⟩) (own_neR hW2 hV (by decide)) (.slice xa xn xc);replace hR:=hR.far (p:=⟨g4,0,none⟩) (by dsimp only;omega) (.slice xa xn xc);replace hN:=hN.far (p:=⟨g4,0,none⟩) (by dsimp only;omega) (.slice xa xn xc);replace hAD:=ownR_farT (p:=⟨g4,0,none⟩) hAD hV (by decide) rfl (.slice xa xn xc);replace hV:=hV.set 0 (.slice xa xn xc);generalize W7.setCell ⟨g4,0,none⟩ (.slice xa xn xc)=W8 at *;clear hC;refine hK.out _ _ ?_ (fun _=>?_)
                · ((try dsimp only);(exact ⟨hA.cell 0,hN.cell 0,hW2.cell 0,hW2.cell 1,hW2.cell 2,hW2.cell 3,hW2.cell 4,hW2.cell 5,hW2.cell 6,hW2.cell 7⟩))
                clear hK K
                (try simp only [Act.put,pA,pB,pC])
                refine wpAnyH_done (by kernel_rfl) ?_ _;go_wp2_with fail
                go_meet
                exact ⟨_,xa,xn,xc,rfl,rfl,hb,hA,hT,hP,hR,hV,hB,hAD⟩
              · skip
                (go_simp;(go_at_call 86;refine (l01Times_c dc oc 1 (HD.out.keep hb) HOT.out hon hS (by omega) HT2.out).mono ?_;rintro e W9 ⟨vT,rfl,hOT2,hbX⟩;rw [←HPI.out] at hOT2;obtain ⟨ta,tn,tc,rfl⟩:=hOT2.r.isSlice);go_wp2_with fail)
                replace hA:=hA.keep hbX hA.lt;replace hT:=hT.keep hbX hT.lt;replace hP:=hP.keep hbX hP.lt;replace hR:=hR.keep hbX hR.lt;replace hV:=hV.keep hbX hV.lt;replace hB:=hB.keep hbX hB.lt;replace hW2:=hW2.keep hbX hW2.lt;replace hN:=hN.keep hbX hN.lt;replace hb:=bT' hb hbX hb.size;replace hC:=bT' hC hbX hC.size;replace HOVV:=Lib.hid (HOVV.out.keep hbX);have hTM:=hOT2.r.read h93.out;have htn:tn≤400:=(by have:=hTM.len;omega);clear hOT2 hbX hS;refine hK.out _ _ ?_ (fun _=>?_)
                · ((try dsimp only);(exact ⟨hA.cell 0,hN.cell 0,hW2.cell 0,hW2.cell 1,hW2.cell 2,hW2.cell 3,hW2.cell 4,hW2.cell 5,hW2.cell 6,hW2.cell 7⟩))
                clear hK K
                (try simp only [Act.put,pA,pB,pC])
                refine hdC 0 (fun K hK=>?_);have cV:=hV.cell 0
                (go_simp;try go_wp2_with fail)
                clear cV;refine hK.out _ _ ?_ (fun _=>?_)
                · ((try dsimp only);(exact ⟨hA.cell 0,hN.cell 0,hW2.cell 0,hW2.cell 1,hW2.cell 2,hW2.cell 3,hW2.cell 4,hW2.cell 5,hW2.cell 6,hW2.cell 7⟩))
                clear hK K
                (try simp only [Act.put,pA,pB,pC])
                refine hdC 7 (fun K hK=>?_);have hbs:g0≤_:=Nat.le_of_lt hA.lt
                (go_simp;(go_at_call 30;refine (l01Add_c vc tc 1 (by omega) (by omega) HOVV.out hTM (by omega) h92.out h91.out).mono ?_;rintro e W10 ⟨v3,rfl,hAd,hbX⟩;obtain ⟨xa,xn,xc,rfl⟩:=hAd.isSlice);go_wp2_with fail)
                replace hA:=hA.keep hbX hA.lt;replace hT:=hT.keep hbX hT.lt;replace hP:=hP.keep hbX hP.lt;replace hR:=hR.keep hbX hR.lt;replace hV:=hV.keep hbX hV.lt;replace hB:=hB.keep hbX hB.lt;replace hW2:=hW2.keep hbX hW2.lt;replace hN:=hN.keep hbX hN.lt;replace hb:=bT' hb hbX hb.size;replace hC:=bT' hC hbX hC.size;have hAD:=hAd.r.weaken hbs;clear hAd hbX hbs hTM;refine hK.out _ _ ?_ (fun _=>?_)
                · ((try dsimp only);(exact ⟨hA.cell 0,hN.cell 0,hW2.cell 0,hW2.cell 1,hW2.cell 2,hW2.cell 3,hW2.cell 4,hW2.cell 5,hW2.cell 6,hW2.cell 7⟩))
                clear hK K
                (try simp only [Act.put,pA,pB,pC])
                refine hdC 8 (fun K hK=>?_);have cV:=hV.cell 0;have fV:=hV.frozen 0
                (go_simp;go_wp2_with fail)
                clear cV fV;replace hb:=hb.setCell (p:=⟨g4,0,none⟩) (by dsimp only;omega) (.slice xa xn xc);replace hA:=hA.far (p:=⟨g4,0,none⟩) (own_neR hA hV (by decide)) (.slice xa xn xc);replace hT:=hT.far (p:=⟨g4,0,none⟩) (own_neR hT hV (by decide)) (.slice xa xn xc);replace hP:=hP.far (p:=⟨g4,0,none⟩) (own_neR hP hV (by decide)) (.slice xa xn xc);replace hB:=hB.far (p:=⟨g4,0,none⟩) (own_neR hB hV (by decide)) (.slice xa xn xc);replace hW2:=hW2.far (p:=⟨g4,0,none⟩) (own_neR hW2 hV (by decide)) (.slice xa xn xc);replace hR:=hR.far (p:=⟨g4,0,none⟩) (by dsimp only;omega) (.slice xa xn xc);replace hN:=hN.far (p:=⟨g4,0,none⟩) (by dsimp only;omega) (.slice xa xn xc);replace hAD:=ownR_farT (p:=⟨g4,0,none⟩) hAD hV (by decide) rfl (.slice xa xn xc);replace hV:=hV.set 0 (.slice xa xn xc);generalize W10.setCell ⟨g4,0,none⟩ (.slice xa xn xc)=W11 at *;clear hC;refine hK.out _ _ ?_ (fun _=>?_)
                · ((try dsimp only);(exact ⟨hA.cell 0,hN.cell 0,hW2.cell 0,hW2.cell 1,hW2.cell 2,hW2.cell 3,hW2.cell 4,hW2.cell 5,hW2.cell 6,hW2.cell 7⟩))
                clear hK K
                (try simp only [Act.put,pA,pB,pC])
                refine wpAnyH_done (by kernel_rfl) ?_ _;go_wp2_with fail
                go_meet
                exact ⟨_,xa,xn,xc,rfl,rfl,hb,hA,hT,hP,hR,hV,hB,hAD⟩
           case rest=>
            obtain ⟨wq,xa,xn,xc,rfl,rfl,hb,hA,hT,hP,hR,hV,hB,hAD⟩:=hcut;clear hN hW2;have HO:=Lib.hid hAD;rw [HG.out] at hb;replace hB:Own wq g5 92 (mcells (frontM [p0,p1,p2,p3,p4,p5,p6,p7] j)).toArray:=(by rw [HFE.out];exact hB);clear hAD;go_upto_region 17 with fail
            have cP:=HCP.out _ hP;obtain ⟨ob,cB⟩:=hB.has (i:=j) (by simp [mcells_length,frontM_len HP.out.1 (show j≤8 by omega)];omega);have fB:=hB.frozen j;go_upto_region 18 with fail
            have hB2:=hB.set j (.int .u8 y);rw [mcells_set,frontM_row,rowS_step HP.out.1 hi8 HY.out,←frontM_row] at hB2;have hA2:=hA.far (p:=⟨g5,j,none⟩) (own_neR hA hB (by decide)) (.int .u8 y);have hT2:=hT.far (p:=⟨g5,j,none⟩) (own_neR hT hB (by decide)) (.int .u8 y);have hR2:=hR.far (p:=⟨g5,j,none⟩) (own_neR hR hB (by decide)) (.int .u8 y);have hV2:=hV.far (p:=⟨g5,j,none⟩) (own_neR hV hB (by decide)) (.int .u8 y);have hP2:=hP.far (p:=⟨g5,j,none⟩) (by dsimp only;omega) (.int .u8 y);have HO2:=Lib.hid (ownR_farT (p:=⟨g5,j,none⟩) HO.out hB (by decide) rfl (.int .u8 y));have hb2:=hb.setCell (p:=⟨g5,j,none⟩) (by dsimp only;omega) (.int .u8 y);clear hA hT hP hR hV hB HO hb cP cB fB;generalize (World.setCell _ ⟨g5,j,none⟩ (.int .u8 y))=w5 at *;have cP:=HCP.out _ hP2;have c0:=hA2.cell 0;have hcd:=(World.cell?_of_block (a:=⟨bd,od+j,none⟩) (hb2.block bd (by rw [←HG.out];exact hbd))).trans HCD.out
            go_quiet (fail)
            have hbq:=below_drewN (Below.refl w5.heap.size w5) nq;have hb3:=bT' hb2 hbq (by have:=hA2.lt;omega);have hA3:=hA2.keep hbq hA2.lt;have hT3:=hT2.keep hbq hT2.lt;have hP3:=hP2.keep hbq hP2.lt;have hR3:=hR2.keep hbq hR2.lt;have hV3:=hV2.keep hbq hV2.lt;have hB3:=hB2.keep hbq hB2.lt;have HO3:=Lib.hid (HO2.out.keep hbq);clear hA2 hT2 hP2 hR2 hV2 hB2 HO2 hb2 cP c0 hcd hbq;generalize w5.drewN nq=w6 at *
            try go_wp2_with fail
            go_roundw
            case rel=>exact ⟨j+1,.slice xa xn xc,by omega,by go_num,by rw [wtTo_step hz.out HY.out,HW.out],hb3,hA3,hT3,hP3,hR3,hV3,hB3,by rw [HMT.out];exact HO3⟩
            case measure=>simp [intOf] <;> omega
  · have he:i=dn:=(by omega);subst he;obtain ⟨va,vn,vc,rfl⟩:=HO.out.isSlice;have k0:=hV.cell 0;have r0:=hR.cell 0;have f0:=hR.frozen 0;go_wp2_with fail
    have q:=hR.set 0 (.slice va vn vc);have qb:=hb.setCell (p:=⟨g3,0,none⟩) (by dsimp only;omega) (.slice va vn vc);have qo:=ownR_farT (p:=⟨g3,0,none⟩) HO.out hR (by decide) rfl (.slice va vn vc);exact bodyPost_ret (results_cell_row rfl _ _ g3 59 #[.slice va vn vc] (0,0) _ rfl q Tryz.underlying59 rfl Tryz.info_form) rfl ⟨.slice va vn vc,rfl,by rw [HG.out,HDL.out];exact qo,by rw [HG.out];exact qb⟩
end Go.Proofs.YtdppjlndcacfnaaGreat
