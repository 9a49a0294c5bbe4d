
import Derived.Test.YtndnkeijddagiaaDiffS
namespace Go.Proofs.Ytndnkeijddagiaa
set_option maxRecDepth 100000
open Go.RowKit Go.Deep Go.Maps
theorem ints_cell {w:World} {b o n i:Nat} {zs:List Int} {z:Int} (h:Ints w (some ⟨b,o,none⟩) n zs) (hi:i<n) (hz:zs[i]? = some z):w.cell? ⟨b,o+i,none⟩=some (.int .i64 z):=by
 obtain ⟨b',o',z',he,_,hc,hz'⟩:=h.at_ hi
 injection he with he
 injection he with e1 e2
 subst e1 e2
 rw [hc]
 have:=hz'.out
 rw [hz] at this
 injection this with e
 rw [e]
theorem sgnTo_pm (zs m:List Int):∀i:Nat,sgnTo zs m i=1∨sgnTo zs m i=-1
 | 0=>Or.inl rfl
 | i + 1 => by
   rw [sgnTo];have:=sgnTo_pm zs m i;split <;> omega
theorem sgnO_pm (o:Bool) (zs m:List Int) (i:Nat):sgnO o zs m i=1∨sgnO o zs m i=-1:=by
 rw [sgnO]
 split
 · exact sgnTo_pm zs m i
 · exact Or.inl rfl
theorem sgnO_succ {o:Bool} {zs m:List Int} {i:Nat} {z y:Int} (hz:zs[i]? = some z) (hy:m.getD i 0=y):sgnO o zs m (i+1)=if o=true∧odd z=true∧y=1 then - sgnO o zs m i else sgnO o zs m i:=by
 have e:zs.getD i 0=z:=by rw [List.getD_eq_getElem?_getD,hz];rfl
 subst hy
 cases o with
 | false=>simp [sgnO]
 | true =>
   simp only [sgnO,sgnTo,e,if_true,true_and]
theorem sgn_zero {o:Bool} {zs m:List Int} {i:Nat} (h:m[i]? = some 0):sgnO o zs m (i+1)=sgnO o zs m i:=by
 rw [sgnO,sgnO,sgnTo,if_neg (c:=odd (zs.getD i 0)=true∧m.getD i 0=1)]
 intro hh
 have:=hh.2
 rw [List.getD_eq_getElem?_getD,h] at this
 simp at this
theorem termR_zero {o:Bool} {zs:List Int} {ims:List (List Tm)} {t:Tm} {S:List Int→Int} {i:Nat} (h:t.m[i]? = some 0):termR o zs ims t S (i+1)=termR o zs ims t S i:=by
 rw [termR,if_neg]
 rw [List.getD_eq_getElem?_getD,h]
 simp
theorem termR_bd {o:Bool} {zs:List Int} {ims:List (List Tm)} {t:Tm} {S:List Int→Int} (h:∀m,0≤S m∧S m≤10006):∀i m,0≤termR o zs ims t S i m∧termR o zs ims t S i m≤10006
 | 0,m=>h m
 | i + 1, m => by
   rw [termR];split
   · exact addP_bd (fun m=>termR_bd h i m) m
   · exact termR_bd h i m
theorem diffR_bd {o:Bool} {k:Int} {zs:List Int} {ims:List (List Tm)}:∀{fs:List Tm} {S:List Int→Int},(∀m,0≤S m∧S m≤10006)→∀m,0≤diffR o zs ims k S fs m∧diffR o zs ims k S fs m≤10006
 | [],_,h=>h
 | t::fs,S,h=>diffR_bd (fs:=fs) (S:=termR o zs ims ⟨t.m,k * t.f⟩ S ims.length) (termR_bd h _)
theorem diffR_take {o:Bool} {k:Int} {zs:List Int} {ims:List (List Tm)} {t:Tm} {S:List Int→Int} {fs:List Tm} {i:Nat} (h:fs[i]? = some t):diffR o zs ims k S (fs.take (i+1))=termR o zs ims ⟨t.m,k * t.f⟩ (diffR o zs ims k S (fs.take i)) ims.length:=by
 rw [diffR,diffR,List.take_add_one,h,List.foldl_append];rfl
set_option maxHeartbeats 8000000 in
theorem addTerm_c {w : World} (o : Bool) {b N : Nat} {S : List Int → Int} {da : Option Addr} {dn : Nat} {zs : List Int} {a : Option Addr} {n : Nat} {ims : List (List Tm)} {p0 p1 p2 p3 p4 p5 p6 p7 f : Int} (dc c : Nat) (hM : MapIs w b N S) (hN : N ≤ 2560000) (hSb : ∀ m, 0 ≤ S m ∧ S m ≤ 10006) (hd : Ints w da dn zs) (hF : Frms w a n ims) (hnd : n = dn) (h8 : n ≤ 8)
    (hP:IsMono [p0,p1,p2,p3,p4,p5,p6,p7]) (ok:monoOk zs [p0,p1,p2,p3,p4,p5,p6,p7]=true) (hf:-10006≤f∧f≤10006) (h400:∀im∈ims,im.length≤400) (hIM:∀im∈ims,∀u∈im,IsMono u.m∧monoOk zs u.m=true∧1≤u.f∧u.f≤10006) :
    Calls Try.prog 133 #[.agg #[.slice da dn dc,.slice a n c,.bool o],.map (some b),.agg #[.int .u8 p0,.int .u8 p1,.int .u8 p2,.int .u8 p3,.int .u8 p4,.int .u8 p5,.int .u8 p6,.int .u8 p7,.int .i64 f]] w fun e w'=>e=.returned (.tuple #[])∧MapIs w' b (N+n * 400) (termR o zs ims ⟨[p0,p1,p2,p3,p4,p5,p6,p7],f⟩ S n)∧w.grownBy w' (some b):=by
 have HL:=Lib.hid hd.len
 have HD:=Lib.hid hd
 have HFF:=Lib.hid hF
 have HMM:=Lib.hid hM
 have HSB:=Lib.hid hSb
 have HI:=Lib.hid hIM
 have H4:=Lib.hid h400
 have HP:=Lib.hid hP
 have HO:=Lib.hid ok
 have HND:=Lib.hid hnd
 clear hSb hIM h400 ok hnd
 have hA:=((Own.new w 128 #[.slice da dn dc,.slice a n c,.bool o]).alloc (.cells #[.int .u8 p0,.int .u8 p1,.int .u8 p2,.int .u8 p3,.int .u8 p4,.int .u8 p5,.int .u8 p6,.int .u8 p7,.int .i64 f] 76)).alloc (.cells #[.int .u8 0,.int .u8 0,.int .u8 0,.int .u8 0,.int .u8 0,.int .u8 0,.int .u8 0,.int .u8 0] 74)
 have hT:=(Own.new (w.alloc (.cells #[.slice da dn dc,.slice a n c,.bool o] 128)) 76 #[.int .u8 p0,.int .u8 p1,.int .u8 p2,.int .u8 p3,.int .u8 p4,.int .u8 p5,.int .u8 p6,.int .u8 p7,.int .i64 f]).alloc (.cells #[.int .u8 0,.int .u8 0,.int .u8 0,.int .u8 0,.int .u8 0,.int .u8 0,.int .u8 0,.int .u8 0] 74)
 have hH:=Own.new ((w.alloc (.cells #[.slice da dn dc,.slice a n c,.bool o] 128)).alloc (.cells #[.int .u8 p0,.int .u8 p1,.int .u8 p2,.int .u8 p3,.int .u8 p4,.int .u8 p5,.int .u8 p6,.int .u8 p7,.int .i64 f] 76)) 74 #[.int .u8 0,.int .u8 0,.int .u8 0,.int .u8 0,.int .u8 0,.int .u8 0,.int .u8 0,.int .u8 0]
 simp only [sAl] at hT hH
 have hb:=bTn (bTn (bA1 w (.cells #[.slice da dn dc,.slice a n c,.bool o] 128)) (bA1 _ (.cells #[.int .u8 p0,.int .u8 p1,.int .u8 p2,.int .u8 p3,.int .u8 p4,.int .u8 p5,.int .u8 p6,.int .u8 p7,.int .i64 f] 76))) (bA1 _ (.cells #[.int .u8 0,.int .u8 0,.int .u8 0,.int .u8 0,.int .u8 0,.int .u8 0,.int .u8 0,.int .u8 0] 74))
 replace hM:=hM.keep hb
 have hg:w.grownBy _ (some b):=grown_bel (World.grownBy.refl _ _) hb
 clear hb
 have hg01:w.heap.size<w.heap.size+1:=by omega
 have hg12:w.heap.size+1<w.heap.size+1+1:=by omega
 generalize hg2:w.heap.size+1+1=g2 at *
 generalize hg1:w.heap.size+1=g1 at *
 generalize hg0:w.heap.size=g0 at *
 go_enter Try.func133,Try.ntmps133
 go_upto_region 2 with fail
 generalize ((w.alloc (.cells #[.slice da dn dc,.slice a n c,.bool o] 128)).alloc (.cells #[.int .u8 p0,.int .u8 p1,.int .u8 p2,.int .u8 p3,.int .u8 p4,.int .u8 p5,.int .u8 p6,.int .u8 p7,.int .i64 f] 76)).alloc (.cells #[.int .u8 0,.int .u8 0,.int .u8 0,.int .u8 0,.int .u8 0,.int .u8 0,.int .u8 0,.int .u8 0] 74)=wz at *
 try simp only [hg0,hg1,hg2]
 have t0:=hT.cell 0
 have t1:=hT.cell 1
 have t2:=hT.cell 2
 have t3:=hT.cell 3
 have t4:=hT.cell 4
 have t5:=hT.cell 5
 have t6:=hT.cell 6
 have t7:=hT.cell 7
 go_upto_region 3 with fail
 clear t0 t1 t2 t3 t4 t5 t6 t7
 have hba:=bA1 wz (.cells #[.int .u8 p0,.int .u8 p1,.int .u8 p2,.int .u8 p3,.int .u8 p4,.int .u8 p5,.int .u8 p6,.int .u8 p7] 74)
 have hB:=Own.new wz 74 #[.int .u8 p0,.int .u8 p1,.int .u8 p2,.int .u8 p3,.int .u8 p4,.int .u8 p5,.int .u8 p6,.int .u8 p7]
 have hlH:=hH.lt
 replace hA:=hA.keep hba hA.lt
 replace hT:=hT.keep hba hT.lt
 replace hH:=hH.keep hba hH.lt
 replace hM:=hM.keep hba
 replace hg:=grown_bel hg hba
 clear hba
 have cA:=hA.cell 1
 generalize hw:wz.alloc (.cells #[.int .u8 p0,.int .u8 p1,.int .u8 p2,.int .u8 p3,.int .u8 p4,.int .u8 p5,.int .u8 p6,.int .u8 p7] 74)=w1 at *
 generalize hg3:wz.heap.size=g3 at *
 clear hw
 have hgw:g2<g3:=hlH
 have hgb:b<g0:=by have:=HMM.out.lt;omega
 go_wp2_with fail
 clear cA
 go_loopw [8,17] (fun s x wr=>∃i:Nat,i≤n∧x=.int .i64 i∧s=.int .i64 (sgnO o zs [p0,p1,p2,p3,p4,p5,p6,p7] i)∧w.grownBy wr (some b)∧Own wr g0 128 #[.slice da dn dc,.slice a n c,.bool o]∧Own wr g1 76 #[.int .u8 p0,.int .u8 p1,.int .u8 p2,.int .u8 p3,.int .u8 p4,.int .u8 p5,.int .u8 p6,.int .u8 p7,.int .i64 f]∧Own wr g2 74 (mcells (rowS [p0,p1,p2,p3,p4,p5,p6,p7] i)).toArray∧Own wr g3 74 (mcells (rowI [p0,p1,p2,p3,p4,p5,p6,p7] i)).toArray∧MapIs wr b (N+i * 400) (termR o zs ims ⟨[p0,p1,p2,p3,p4,p5,p6,p7],f⟩ S i)) (fun _ x _=>n - (intOf x).toNat)
 case atStart=>exact ⟨0,Nat.zero_le _,rfl,by cases o <;> rfl,hg,hA,hT,by rw [rowS_zero];exact hH,hB,hM.mono (by omega)⟩
 case round=>
  clear hg hA hT hH hB hM;obtain ⟨i,hi,rfl,rfl,hg,hA,hT,hH,hB,hM⟩:=hrel;by_cases hi1:i<n
  · have hFr:=HFF.out;have hDr:=HD.out.grown HMM.out hg;obtain ⟨b1,o1,im,ai,ni,ci,rfl,hbl1,hc1,hTi,hni,hx⟩:=hFr.at_ hi1;have hTi0:=Lib.hid hTi;replace hc1:=(World.cell?_of_block (a:=⟨b1,o1+i,none⟩) (hg.block b1 hbl1 (by intro e;cases e;rw [HMM.out.nocell] at hc1;cases hc1))).trans hc1;replace hTi:=hTi.grown HMM.out hg;obtain ⟨bd,od,z,rfl,hbd,hcd,hz⟩:=HD.out.at_ (show i<dn by have:=HND.out;omega);have hi8:i<8:=(by omega);obtain ⟨y,hy0,hy1,hy,HY⟩:=mono_at HP.out hi8;have hy20:y≤20:=mono20 HO.out hi8 HY.out
    have hbT:wr.cell? ⟨g1,i,none⟩=some (.int .u8 y):=by
     rw [hT.cell i];show ((mcells [p0,p1,p2,p3,p4,p5,p6,p7]++[Value.int .i64 f]).toArray)[i]? = _
     rw [List.getElem?_toArray,List.getElem?_append_left (by rw [mcells_length];exact hi8)];exact hy
    obtain ⟨s,hs⟩:∃s,sgnO o zs [p0,p1,p2,p3,p4,p5,p6,p7] i=s:=⟨_,rfl⟩;have hba:=bA1 wr (.cells #[.slice ai ni ci] 47);have hE:=Own.new wr 47 #[.slice ai ni ci];have cb:=hbT;have hlT:=hT.lt;have HLB:=Lib.hid hB.lt;replace hbT:=(World.cell?_of_block (a:=⟨g1,i,none⟩) (hba.block g1 hT.lt)).trans hbT;replace hTi:=hTi.keep hba;replace hDr:=hDr.keep hba;replace hA:=hA.keep hba hA.lt;replace hT:=hT.keep hba hT.lt;replace hH:=hH.keep hba hH.lt;replace hB:=hB.keep hba hB.lt;replace hM:=hM.keep hba;replace hg:=grown_bel hg hba;clear hba hFr cb;have hi0:(0:Int)≤(i:Int):=(by omega);have hin:(i:Int)<(n:Int):=(by omega);have hi8':(i:Int)<8:=(by omega);have hidn:(i:Int)<(dn:Int):=(by have:=HND.out;omega);obtain ⟨ob,cB⟩:=hB.has (i:=i) (by simp [mcells_length,rowI,HP.out.1];omega);have fB:=hB.frozen i;rw [hs];by_cases hy00:y=0
    · subst hy00;have hHs:(mcells (rowS [p0,p1,p2,p3,p4,p5,p6,p7] i)).toArray.size=8:=(by simp [mcells_length,rowS_len HP.out.1 (show i≤8 by omega)]);go_upto_region 9 with fail
      generalize hwu:wr.alloc (.cells #[.slice ai ni ci] 47)=wu at *;clear hwu;generalize hge:wr.heap.size=gE at *;clear hge;have hA2:=hA.far (p:=⟨g3,i,none⟩) (by dsimp only;omega) (.int .u8 0);have hT2:=hT.far (p:=⟨g3,i,none⟩) (by dsimp only;omega) (.int .u8 0);have hH2:=hH.far (p:=⟨g3,i,none⟩) (by dsimp only;omega) (.int .u8 0);have hB2:=hB.set i (.int .u8 0);have hM2:=hM.far (p:=⟨g3,i,none⟩) (by dsimp only;omega) (.int .u8 0);have hg2':=grown_set (i:=i) (u:=.int .u8 0) hg (show w.heap.size≤g3 by omega);have hE2:=hE.far (p:=⟨g3,i,none⟩) (by dsimp only;have:=HLB.out;omega) (.int .u8 0);have hD2:=ints_cell (HD.out.grown HMM.out hg2') (show i<dn by have:=HND.out;omega) hz.out;generalize hw2:wu.setCell ⟨g3,i,none⟩ (.int .u8 0)=w2 at *;clear hw2;obtain ⟨oh,cH⟩:=hH2.has (i:=i) (by omega);have fH:=hH2.frozen i;have cA0:=hA2.cell 0;have hA3:=hA2.far (p:=⟨g2,i,none⟩) (by dsimp only;omega) (.int .u8 0);have hT3:=hT2.far (p:=⟨g2,i,none⟩) (by dsimp only;omega) (.int .u8 0);have hB3:=hB2.far (p:=⟨g2,i,none⟩) (by dsimp only;omega) (.int .u8 0);have hH3:=hH2.set i (.int .u8 0);have hM3:=hM2.far (p:=⟨g2,i,none⟩) (by dsimp only;omega) (.int .u8 0);have hg3':=grown_set (i:=i) (u:=.int .u8 0) hg2' (show w.heap.size≤g2 by omega);have hD3:=ints_cell (HD.out.grown HMM.out hg3') (show i<dn by have:=HND.out;omega) hz.out;have cA3:=hA3.cell 0;have cO3:=hA3.cell 2;go_upto_region 13 with fail
      generalize hw3:w2.setCell ⟨g2,i,none⟩ (.int .u8 0)=w3 at *;clear hw3 cH fH cA0 hD2;cases o
      · go_wp2_with fail
        go_roundw
        case rel=>exact ⟨i+1,by omega,by go_num,by rw [sgn_zero HY.out,hs],hg3',hA3,hT3,by rw [←rowS_step HP.out.1 hi8 HY.out,←mcells_set];exact hH3,by rw [←rowI_clear HP.out.1 hi8,←mcells_set];exact hB3,by rw [termR_zero HY.out];exact hM3.mono (by omega)⟩
        case measure=>simp [intOf] <;> omega
      · cases ho:odd z
        all_goals
         go_wp2_with (go_at_call 65;refine (isOdd_c _ _).mono ?_;rintro e w' ⟨rfl,rfl⟩;rw [ho])
         go_roundw
         case rel=>exact ⟨i+1,by omega,by go_num,by rw [sgn_zero HY.out,hs],hg3',hA3,hT3,by rw [←rowS_step HP.out.1 hi8 HY.out,←mcells_set];exact hH3,by rw [←rowI_clear HP.out.1 hi8,←mcells_set];exact hB3,by rw [termR_zero HY.out];exact hM3.mono (by omega)⟩
         case measure=>simp [intOf] <;> omega
    · have hyp:0<y:=(by omega);have hHs:(mcells (rowS [p0,p1,p2,p3,p4,p5,p6,p7] i)).toArray.size=8:=(by simp [mcells_length,rowS_len HP.out.1 (show i≤8 by omega)]);go_upto_region 9 with fail
      generalize hwu:wr.alloc (.cells #[.slice ai ni ci] 47)=wu at *;clear hwu;generalize hge:wr.heap.size=gE at *;clear hge;have hA2:=hA.far (p:=⟨g3,i,none⟩) (by dsimp only;omega) (.int .u8 0);have hT2:=hT.far (p:=⟨g3,i,none⟩) (by dsimp only;omega) (.int .u8 0);have hH2:=hH.far (p:=⟨g3,i,none⟩) (by dsimp only;omega) (.int .u8 0);have hB2:=hB.set i (.int .u8 0);have hM2:=hM.far (p:=⟨g3,i,none⟩) (by dsimp only;omega) (.int .u8 0);have hg2':=grown_set (i:=i) (u:=.int .u8 0) hg (show w.heap.size≤g3 by omega);have hE2:=hE.far (p:=⟨g3,i,none⟩) (by dsimp only;have:=HLB.out;omega) (.int .u8 0);have hD2:=ints_cell (HD.out.grown HMM.out hg2') (show i<dn by have:=HND.out;omega) hz.out;generalize hw2:wu.setCell ⟨g3,i,none⟩ (.int .u8 0)=w2 at *;clear hw2;have hz8:i<zs.length:=(by have:=HL.out;have:=HND.out;omega);have hgd:[p0,p1,p2,p3,p4,p5,p6,p7].getD i 0=y:=(by rw [List.getD_eq_getElem?_getD,HY.out];rfl);have hLi:=(left_in (ok_in HP.out HO.out) (by omega) (show i < [p0,p1,p2,p3,p4,p5,p6,p7].length by rw [HP.out.1];omega) (by rw [hgd];exact hyp):In 20 (leftM [p0,p1,p2,p3,p4,p5,p6,p7] i)).isMono (leftM_len HP.out.1 (by omega)) (by omega);have hKi:=(back_in (i:=i) (ok_in HP.out HO.out) (by omega):In 20 (backM [p0,p1,p2,p3,p4,p5,p6,p7] i)).isMono (backM_len HP.out.1 hi8) (by omega);obtain ⟨l0,l1,l2,l3,l4,l5,l6,l7,hLe⟩:=mono8 hLi;obtain ⟨k0,k1,k2,k3,k4,k5,k6,k7,hKe⟩:=mono8 hKi;have hLs:(rowS [p0,p1,p2,p3,p4,p5,p6,p7] i).set i (y - 1)=[l0,l1,l2,l3,l4,l5,l6,l7]:=(by rw [←hLe,leftM,frontM_row,hgd]);have hKs:rowI [p0,p1,p2,p3,p4,p5,p6,p7] (i+1)=[k0,k1,k2,k3,k4,k5,k6,k7]:=(by rw [←hKe,backM_row]);rw [mcells_set,rowI_clear HP.out.1 hi8,hKs] at hB2;obtain ⟨oh,cH⟩:=hH2.has (i:=i) (by omega);have fH:=hH2.frozen i;have w8:IntKind.u8.wrap (y - 1)=y - 1:=(by simp only [IntKind.wrap,IntKind.signed,IntKind.bits];simp;omega);have hA3:=hA2.far (p:=⟨g2,i,none⟩) (by dsimp only;omega) (.int .u8 (y - 1));have hT3:=hT2.far (p:=⟨g2,i,none⟩) (by dsimp only;omega) (.int .u8 (y - 1));have hB3:=hB2.far (p:=⟨g2,i,none⟩) (by dsimp only;omega) (.int .u8 (y - 1));have hH3:=hH2.set i (.int .u8 (y - 1));rw [mcells_set,hLs] at hH3;have hM3:=hM2.far (p:=⟨g2,i,none⟩) (by dsimp only;omega) (.int .u8 (y - 1));have hg3':=grown_set (i:=i) (u:=.int .u8 (y - 1)) hg2' (show w.heap.size≤g2 by omega);have hE3:=hE2.far (p:=⟨g2,i,none⟩) (by dsimp only;have:=HLB.out;omega) (.int .u8 (y - 1));go_upto_region 11 with fail
      generalize hw3:w2.setCell ⟨g2,i,none⟩ (.int .u8 (y - 1))=w3 at *;clear hw3 cH fH hA hT hH hB hM hg hE hA2 hT2 hH2 hB2 hM2 hg2' hE2 hbT cB fB hcd hD2 hTi hDr;have hsb:s=1∨s=-1:=(by rw [←hs];exact sgnO_pm o zs [p0,p1,p2,p3,p4,p5,p6,p7] i);have e1:-20≤s * y∧s * y≤20:=by rcases hsb with h | h <;> subst h <;> omega
      have e2:-10000000≤s * y * f∧s * y * f≤10000000:=by
       have m1:-200120≤y * f∧y * f≤200120:=by
        by_cases h:0≤f
        · have a:=Int.mul_nonneg (show 0≤y by omega) h;have:=Int.mul_le_mul (a:=y) (b:=f) (c:=20) (d:=10006) (by omega) (by omega) h (by omega);omega
        · have a:=Int.mul_nonneg (show 0≤y by omega) (show 0≤-f by omega);have:=Int.mul_le_mul (a:=y) (b:=-f) (c:=20) (d:=10006) (by omega) (by omega) (by omega) (by omega);rw [Int.mul_neg] at a this;omega
       rcases hsb with h | h
       · subst h;rw [Int.one_mul];omega
       · subst h;rw [Int.neg_one_mul,Int.neg_mul];omega
      have x0:IntKind.i64.wrap y=y:=IntWalk.i64_in _ (by omega);have x1:IntKind.i64.wrap (s * y)=s * y:=IntWalk.i64_in _ (by omega);have x2:IntKind.i64.wrap (s * y * f)=s * y * f:=IntWalk.i64_in _ (by omega);have hTi3:=hTi0.out.grown HMM.out hg3';have hmem:=List.mem_of_getElem? hx.out;have hl4:=H4.out _ hmem;have hlen:=hTi3.len;have cA0:=hA3.cell 0;have cT8:=hT3.cell 8;have cE0:=hE3.cell 0;replace hH3:Own w3 g2 74 #[.int .u8 l0,.int .u8 l1,.int .u8 l2,.int .u8 l3,.int .u8 l4,.int .u8 l5,.int .u8 l6,.int .u8 l7]:=hH3;replace hB3:Own w3 g3 74 #[.int .u8 k0,.int .u8 k1,.int .u8 k2,.int .u8 k3,.int .u8 k4,.int .u8 k5,.int .u8 k6,.int .u8 k7]:=hB3;have q0:=hH3.cell 0;have r0:=hB3.cell 0;have q1:=hH3.cell 1;have r1:=hB3.cell 1;have q2:=hH3.cell 2;have r2:=hB3.cell 2;have q3:=hH3.cell 3;have r3:=hB3.cell 3;have q4:=hH3.cell 4;have r4:=hB3.cell 4;have q5:=hH3.cell 5;have r5:=hB3.cell 5;have q6:=hH3.cell 6;have r6:=hB3.cell 6;have q7:=hH3.cell 7;have r7:=hB3.cell 7;go_wp2_with fail
      have hfit:∀u∈im,FitW zs [l0,l1,l2,l3,l4,l5,l6,l7] u.m∧FitW zs (joinM zs [l0,l1,l2,l3,l4,l5,l6,l7] u.m) [k0,k1,k2,k3,k4,k5,k6,k7]:=fun u hu=>by
       have hI:=HI.out im hmem u hu;have:=around_fit (by have:=HL.out;have:=HND.out;omega) HP.out HO.out hI.1 hI.2.1 hz8 (by rw [hgd];exact hyp);rw [hLe,hKe] at this;exact this
      refine (addProducts_c dc ci hM3 (by omega) (fun m=>termR_bd HSB.out i m) (HD.out.grown HMM.out hg3') hTi3 (by omega) (fun u hu=>(HI.out im hmem u hu).2.2) (fun u hu=>(hfit u hu).1) (fun u hu=>(hfit u hu).2)).mono ?_;rintro e wz2 ⟨rfl,hM4,hgr⟩;have hA4:=hA3.grownM hM3 hgr;have hT4:=hT3.grownM hM3 hgr;have hH4:=hH3.grownM hM3 hgr;have hB4:=hB3.grownM hM3 hgr;have hg4:=grown_trans hg3' hgr;clear q0 r0 q1 r1 q2 r2 q3 r3 q4 r4 q5 r5 q6 r6 q7 r7 cA0 cT8 cE0 hA3 hT3 hH3 hB3 hM3 hg3' hE3 hTi3 hfit x0 x1 x2 hgr;obtain ⟨ol,cH⟩:=hH4.has (i:=i) (by simp;omega);have fH:=hH4.frozen i;have hA5:=hA4.far (p:=⟨g2,i,none⟩) (by dsimp only;omega) (.int .u8 y);have hT5:=hT4.far (p:=⟨g2,i,none⟩) (by dsimp only;omega) (.int .u8 y);have hB5:=hB4.far (p:=⟨g2,i,none⟩) (by dsimp only;omega) (.int .u8 y);have hH5:Own (wz2.setCell ⟨g2,i,none⟩ (.int .u8 y)) g2 74 ((mcells [l0,l1,l2,l3,l4,l5,l6,l7]).toArray.setIfInBounds i (.int .u8 y)):=hH4.set i (.int .u8 y);have hls:=left_set HP.out.1 hi8;rw [hgd] at hls;rw [mcells_set,←hLe,hls] at hH5;have hM5:=hM4.far (p:=⟨g2,i,none⟩) (by dsimp only;omega) (.int .u8 y);have hg5:=grown_set (i:=i) (u:=.int .u8 y) hg4 (show w.heap.size≤g2 by omega);have hD5:=ints_cell (HD.out.grown HMM.out hg5) (show i<dn by have:=HND.out;omega) hz.out;have cA5:=hA5.cell 0;have cO5:=hA5.cell 2
      have hTS:termR o zs ims ⟨[p0,p1,p2,p3,p4,p5,p6,p7],f⟩ S (i+1)=addP zs [l0,l1,l2,l3,l4,l5,l6,l7] [k0,k1,k2,k3,k4,k5,k6,k7] (s * y * f) (termR o zs ims ⟨[p0,p1,p2,p3,p4,p5,p6,p7],f⟩ S i) im:=by
       rw [termR,if_pos (by show 0 < [p0,p1,p2,p3,p4,p5,p6,p7].getD i 0;rw [hgd];exact hyp)];show addP zs (leftM [p0,p1,p2,p3,p4,p5,p6,p7] i) (backM [p0,p1,p2,p3,p4,p5,p6,p7] i) (sgnO o zs [p0,p1,p2,p3,p4,p5,p6,p7] i * [p0,p1,p2,p3,p4,p5,p6,p7].getD i 0 * f) _ (ims.getD i [])=_
       rw [hLe,hKe,hgd,hs,List.getD_eq_getElem?_getD,hx.out];rfl
      have hSG:sgnO o zs [p0,p1,p2,p3,p4,p5,p6,p7] (i+1)=if o=true∧odd z=true∧y=1 then -s else s:=by
       rw [sgnO_succ hz.out hgd,hs]
      have HTS:=Lib.hid hTS;have HSG:=Lib.hid hSG;clear hTS hSG;have nw:IntKind.i64.wrap (-s)=-s:=IntWalk.i64_in _ (by omega);go_upto_region 13 with fail
      generalize hw5:wz2.setCell ⟨g2,i,none⟩ (.int .u8 y)=w5 at *;clear hw5 cH fH
      cases o with
      | false =>
        go_wp2_with fail
        go_roundw
        case rel=>exact ⟨i+1,by omega,by go_num,by rw [HSG.out];simp,hg5,hA5,hT5,hH5,by rw [hKs];exact hB5,by rw [HTS.out];exact hM5.mono (by omega)⟩
        case measure=>simp [intOf] <;> omega
      | true =>
        cases ho:odd z with
        | false =>
          go_wp2_with (go_at_call 65;refine (isOdd_c _ _).mono ?_;rintro e w' ⟨rfl,rfl⟩;rw [ho])
          go_roundw
          case rel=>exact ⟨i+1,by omega,by go_num,by rw [HSG.out,ho];simp,hg5,hA5,hT5,hH5,by rw [hKs];exact hB5,by rw [HTS.out];exact hM5.mono (by omega)⟩
          case measure=>simp [intOf] <;> omega
        | true =>
          by_cases hy1':y=1
          · subst hy1';go_wp2_with (go_at_call 65;refine (isOdd_c _ _).mono ?_;rintro e w' ⟨rfl,rfl⟩;rw [ho])
            go_roundw
            case rel=>exact ⟨i+1,by omega,by go_num,by rw [HSG.out,ho];simp,hg5,hA5,hT5,hH5,by rw [hKs];exact hB5,by rw [HTS.out];exact hM5.mono (by omega)⟩
            case measure=>simp [intOf] <;> omega
          · have hyb:(y==1)=false:=(by simpa using hy1');go_wp2_with (go_at_call 65;refine (isOdd_c _ _).mono ?_;rintro e w' ⟨rfl,rfl⟩;rw [ho])
            go_roundw
            case rel=>exact ⟨i+1,by omega,by go_num,by rw [HSG.out,if_neg (fun h=>hy1' h.2.2)],hg5,hA5,hT5,hH5,by rw [hKs];exact hB5,by rw [HTS.out];exact hM5.mono (by omega)⟩
            case measure=>simp [intOf] <;> omega
  · have he:i=n:=(by omega);subst he;go_wp2_with fail
    go_end0
    exact ⟨rfl,hM,hg⟩
set_option maxHeartbeats 8000000 in
theorem ruleAdd_c {w : World} (o : Bool) (k : Int) {b N : Nat} {S : List Int → Int} {da : Option Addr} {dn : Nat} {zs : List Int} {a : Option Addr} {n : Nat} {ims : List (List Tm)} {a2 : Option Addr} {n2 : Nat} {fs : List Tm} (dc c c2 : Nat) (hM : MapIs w b N S) (hN : N ≤ 1280000) (hSb : ∀ m, 0 ≤ S m ∧ S m ≤ 10006) (hd : Ints w da dn zs) (hF : Frms w a n ims) (hnd : n = dn) (h8 : n ≤ 8)
    (h:Terms w a2 n2 fs) (h42:n2≤400) (hok:∀t∈fs,monoOk zs t.m=true) (hf:∀t∈fs,1≤t.f∧t.f≤10006) (hk:k=1∨k=-1) (h400:∀im∈ims,im.length≤400) (hIM:∀im∈ims,∀u∈im,IsMono u.m∧monoOk zs u.m=true∧1≤u.f∧u.f≤10006) :
    Calls Try.prog 115 #[.agg #[.slice da dn dc,.slice a n c,.bool o],.map (some b),.int .i64 k,.agg #[.slice a2 n2 c2]] w fun e w'=>e=.returned (.tuple #[])∧MapIs w' b (N+n2 * 3200) (diffR o zs ims k S fs)∧w.grownBy w' (some b):=by
 have hl2:=h.len
 have HLF:=Lib.hid hF.len
 have HT:=Lib.hid h
 have HD:=Lib.hid hd
 have HFF:=Lib.hid hF
 have HMM:=Lib.hid hM
 have HSB:=Lib.hid hSb
 have HI:=Lib.hid hIM
 have H4:=Lib.hid h400
 have HO:=Lib.hid hok
 have HFB:=Lib.hid hf
 have HK:=Lib.hid hk
 have HND:=Lib.hid hnd
 clear hSb hIM h400 hok hf hk hnd
 have hA:=(Own.new w 128 #[.slice da dn dc,.slice a n c,.bool o]).alloc (.cells #[.slice a2 n2 c2] 47)
 have hG:=Own.new (w.alloc (.cells #[.slice da dn dc,.slice a n c,.bool o] 128)) 47 #[.slice a2 n2 c2]
 simp only [sAl] at hG
 have hb:=bTn (bA1 w (.cells #[.slice da dn dc,.slice a n c,.bool o] 128)) (bA1 _ (.cells #[.slice a2 n2 c2] 47))
 replace hM:=hM.keep hb
 have hg:w.grownBy _ (some b):=grown_bel (World.grownBy.refl _ _) hb
 have hgb:b<w.heap.size:=HMM.out.lt
 clear hb
 generalize hg1:w.heap.size+1=gG at *
 generalize hg0:w.heap.size=gA at *
 go_enter Try.func115,Try.ntmps115
 go_upto_region 1 with fail
 generalize (w.alloc (.cells #[.slice da dn dc,.slice a n c,.bool o] 128)).alloc (.cells #[.slice a2 n2 c2] 47)=w0 at *
 try simp only [hg0,hg1]
 have cG:=hG.cell 0
 go_wp2_with fail
 clear cG hG
 go_loopw [13] (fun x wr=>∃i:Nat,i≤n2∧x=.int .i64 i∧w.grownBy wr (some b)∧Own wr gA 128 #[.slice da dn dc,.slice a n c,.bool o]∧MapIs wr b (N+i * 3200) (diffR o zs ims k S (fs.take i))) (fun x _=>n2 - (intOf x).toNat)
 case atStart=>exact ⟨0,Nat.zero_le _,rfl,hg,hA,by rw [List.take_zero];exact hM.mono (by omega)⟩
 case round=>
  clear hg hA hM;obtain ⟨i,hi,rfl,hg,hA,hM⟩:=hrel;by_cases hi1:i<n2
  · obtain ⟨b1,o1,t,rfl,hbl1,hr10,ht,hx⟩:=(HT.out.grown HMM.out hg).at_ hi1;obtain ⟨mt,tf⟩:=t;have hmt:IsMono mt:=ht.1;obtain ⟨p0,p1,p2,p3,p4,p5,p6,p7,rfl⟩:=mono8 hmt;obtain ⟨y0,y1,y2,y3,y4,y5,y6,y7,y8⟩:=nine hr10;have hmem:=List.mem_of_getElem? hx.out;have hT:=Own.new wr 76 #[.int .u8 p0,.int .u8 p1,.int .u8 p2,.int .u8 p3,.int .u8 p4,.int .u8 p5,.int .u8 p6,.int .u8 p7,.int .i64 tf];have hba:=bA1 wr (.cells #[.int .u8 p0,.int .u8 p1,.int .u8 p2,.int .u8 p3,.int .u8 p4,.int .u8 p5,.int .u8 p6,.int .u8 p7,.int .i64 tf] 76);replace hA:=hA.keep hba hA.lt;replace hM:=hM.keep hba;replace hg:=grown_bel hg hba;have cA0:=hA.cell 0;have cA1:=hA.cell 1;have cA2:=hA.cell 2;have c0:=hT.cell 0;have c1:=hT.cell 1;have c2':=hT.cell 2;have c3:=hT.cell 3;have c4:=hT.cell 4;have c5:=hT.cell 5;have c6:=hT.cell 6;have c7:=hT.cell 7;have c8:=hT.cell 8;have hi0:(0:Int)≤(i:Int):=(by omega);have hin:(i:Int)<(n2:Int):=(by omega);have hfb:=HFB.out _ hmem
    have hkb:-10006≤k * tf∧k * tf≤10006:=by
     dsimp only at hfb
     rcases HK.out with e | e
     · rw [e,Int.one_mul];omega
     · rw [e,Int.neg_one_mul];omega
    have hkw:IntKind.i64.wrap (k * tf)=k * tf:=IntWalk.i64_in _ (by omega);go_wp2_with fail
    clear y0 y1 y2 y3 y4 y5 y6 y7 y8 cA0 cA1 cA2 c0 c1 c2' c3 c4 c5 c6 c7 c8 hba hT;generalize wr.alloc (.cells #[.int .u8 p0,.int .u8 p1,.int .u8 p2,.int .u8 p3,.int .u8 p4,.int .u8 p5,.int .u8 p6,.int .u8 p7,.int .i64 tf] 76)=wt at *;have hsb:∀m,0≤diffR o zs ims k S (fs.take i) m∧diffR o zs ims k S (fs.take i) m≤10006:=diffR_bd HSB.out;refine (addTerm_c o dc c hM (by omega) hsb (HD.out.grown HMM.out hg) (HFF.out.grown HMM.out hg) HND.out h8 hmt (HO.out _ hmem) hkb H4.out HI.out).mono ?_;rintro e wz ⟨rfl,hM2,hgr⟩;replace hA:=hA.grownM hM hgr;replace hg:=grown_trans hg hgr;go_wp2_with fail
    go_roundw
    case rel=>exact ⟨i+1,by omega,by go_num,hg,hA,by rw [diffR_take hx.out,HLF.out];exact hM2.mono (by omega)⟩
    case measure=>simp [intOf] <;> omega
  · have he:i=n2:=(by omega);subst he;rw [List.take_of_length_le (Nat.le_of_eq hl2)] at hM;go_wp2_with fail
    go_end0
    exact ⟨rfl,hM,hg⟩
end Go.Proofs.Ytndnkeijddagiaa
