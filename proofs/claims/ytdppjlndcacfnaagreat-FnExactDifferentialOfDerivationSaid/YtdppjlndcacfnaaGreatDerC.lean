
import Derived.Test.YtdppjlndcacfnaaGreatDerS
namespace Go.Proofs.YtdppjlndcacfnaaGreat
set_option maxRecDepth 100000
open Go.RowKit Go.Deep
def Ders (w:World) (b off:Nat) (L:List (Int × List (List Tm))):Prop:=
 b<w.heap.size∧∀(i:Nat) x,L[i]? = some x→∃ai ni ci,w.cell? ⟨b,off+i * 2,none⟩=some (.int .i64 x.1)∧w.cell? ⟨b,off+i * 2+1,none⟩=some (.slice ai ni ci)∧Frms w ai ni x.2∧ni≤1048576
theorem Ders.keep {w w':World} {b off:Nat} {L:List (Int × List (List Tm))} (h:Ders w b off L) (hb:Below w.heap.size w w'):Ders w' b off L:=
 ⟨Nat.lt_of_lt_of_le h.1 hb.size,fun i x hx=>by
  obtain ⟨ai,ni,ci,h1,h2,h3,h4⟩:=h.2 i x hx
  exact ⟨ai,ni,ci,(World.cell?_of_block (a:=⟨b,off+i * 2,none⟩) (hb.block b h.1)).trans h1,(World.cell?_of_block (a:=⟨b,off+i * 2+1,none⟩) (hb.block b h.1)).trans h2,h3.keep hb,h4⟩⟩
def derL (zs:List Int) (x:Int × List (List Tm)):Bool:=decide (0≤x.1∧x.1≤12) && (decide (x.2.length=zs.length) && derF zs x.1 x.2)
def dersB (zs:List Int) (ims:List (List Tm)) (L:List (Int × List (List Tm))):Bool:=isAlg zs ims && L.all (derL zs)
theorem dersB_one {zs:List Int} {ims:List (List Tm)} {k:Int} {gss:List (List Tm)}:dersB zs ims [(k,gss)]=derB zs ims k gss:=by simp [dersB,derB,derL]
theorem dersB_two {zs:List Int} {ims:List (List Tm)} {k k2:Int} {gss gss2:List (List Tm)}:dersB zs ims [(k,gss),(k2,gss2)]=(derB zs ims k gss && derB zs ims k2 gss2):=by
 cases h:isAlg zs ims <;> simp [dersB,derB,derL,h]
theorem derL_no {zs:List Int} {ims:List (List Tm)} {L:List (Int × List (List Tm))} {i:Nat} {x:Int × List (List Tm)} (hx:L[i]? = some x) (h:derL zs x=false):dersB zs ims L=false:=by
 rw [dersB]
 cases ha:L.all (derL zs) with
 | false=>simp
 | true =>
   have:=List.all_eq_true.1 ha x (List.mem_of_getElem? hx);rw [h] at this;cases this
theorem derL_no1 {zs:List Int} {x:Int × List (List Tm)} (h:¬(0≤x.1∧x.1≤12)):derL zs x=false:=by rw [derL,decide_eq_false h];rfl
theorem derL_no2 {zs:List Int} {x:Int × List (List Tm)} (h:¬x.2.length=zs.length):derL zs x=false:=by rw [derL,decide_eq_false h];simp
theorem derL_no3 {zs:List Int} {x:Int × List (List Tm)} {j:Nat} (hj:j<x.2.length) (h:derAt zs x.1 x.2 j=false):derL zs x=false:=by
 rw [derL,show derF zs x.1 x.2=false from range_all_no hj h];simp
theorem derL_yes {zs:List Int} {x:Int × List (List Tm)} (h1:0≤x.1∧x.1≤12) (h2:x.2.length=zs.length) (h3:derF zs x.1 x.2=true):derL zs x=true:=by rw [derL,decide_eq_true h1,decide_eq_true h2,h3];rfl
theorem all_take {L:List (Int × List (List Tm))} {i:Nat} {x:Int × List (List Tm)} {f:Int × List (List Tm)→Bool} (h:(L.take i).all f=true) (hx:L[i]? = some x) (hf:f x=true):(L.take (i+1)).all f=true:=by
 rw [List.take_add_one,List.all_append,h,hx];simp [hf]
set_option maxHeartbeats 8000000 in
theorem areDerivations_c {w : World} {da : Option Addr} {dn : Nat} {zs : List Int} {a : Option Addr} {n : Nat} {ims : List (List Tm)} {b2 m : Nat} {L : List (Int × List (List Tm))} (dc c c2 : Nat) (hd : Ints w da dn zs) (hdn : dn ≤ 1048576) (hF : Frms w a n ims) (hn : n ≤ 1048576) (hL : ∀ im ∈ ims, (im.length : Int) ≤ 1048576) (hDs : Ders w b2 0 L) (hm : L.length = m) (hm2 : m ≤ 1048576) (hL2 : ∀ x ∈ L, ∀ im ∈ x.2, (im.length : Int) ≤ 1048576) :
    Calls Tryz.prog 36 #[.agg #[.slice da dn dc,.slice a n c],.slice (some ⟨b2,0,none⟩) m c2] w fun e w'=>e=.returned (.bool (dersB zs ims L))∧Below w.heap.size w w':=by
 have HL:=Lib.hid hd.len
 have HD:=Lib.hid hd
 have HDS:=Lib.hid hDs
 have HLL:=Lib.hid hL
 have HLL2:=Lib.hid hL2
 have HM:=Lib.hid hm
 clear hL hL2 hm
 have hb0:=bA1 w (.cells #[.slice da dn dc,.slice a n c] 36)
 have hA0:=Own.new w 36 #[.slice da dn dc,.slice a n c]
 have c0:=hA0.cell 0
 have c1:=hA0.cell 1
 go_enter Tryz.func36,Tryz.ntmps36
 go_upto_region 1 with fail
 generalize w.alloc (.cells #[.slice da dn dc,.slice a n c] 36)=w0 at *
 obtain ⟨g0,hg0⟩:∃g,w.heap.size=g:=⟨_,rfl⟩
 rw [hg0] at hA0 hb0 c0 c1 ⊢
 try rw [hg0]
 have HG:=Lib.hid hg0
 clear hg0
 go_wp2_with fail
 refine (IsAlgebra_c dc c (hd.keep (by rw [HG.out];exact hb0)) hdn (hF.keep (by rw [HG.out];exact hb0)) hn HLL.out).mono ?_
 rintro e w1 ⟨rfl,hb1⟩
 have hA1:=hA0.keep hb1 hA0.lt
 have hb2:=bT' hb0 hb1 (Nat.le_of_lt hA0.lt)
 clear hA0 hb0 hb1 c0 c1
 cases hal:isAlg zs ims
 · have HA:=Lib.hid hal;clear hal;go_wp2_with fail
   go_ret
   exact ⟨ret_b (show dersB zs ims L=false by rw [dersB,HA.out];rfl).symm,by rw [HG.out];exact hb2⟩
 · have HA:=Lib.hid hal;clear hal
   have hdg:degsOk zs=true:=by
    have:=HA.out;simp only [isAlg,Bool.and_eq_true] at this;exact this.1
   have h8:dn≤8:=(by have:=degsOk_len hdg;have:=HL.out;omega);have HDG:=Lib.hid hdg;clear hdg;go_wp2_with fail
   go_loopw [14] (fun y wr=>∃i:Nat,i≤m∧y=.int .i64 i∧Below g0 w wr∧Own wr g0 36 #[.slice da dn dc,.slice a n c]∧Hid ((L.take i).all (derL zs)=true)) (fun y _=>m - (intOf y).toNat)
   case atStart=>exact ⟨0,Nat.zero_le _,rfl,hb2,hA1,Lib.hid rfl⟩
   case round=>
    clear hb2 hA1;obtain ⟨i,hi,rfl,hb,hA,H⟩:=hrel;have hbw:Below w.heap.size w wr:=(by rw [HG.out];exact hb);by_cases hlt:i<m
    · obtain ⟨⟨k,gss⟩,hx⟩:∃x,L[i]? = some x:=⟨_,List.getElem?_eq_getElem (by rw [HM.out];exact hlt)⟩;obtain ⟨ai,ni,ci,e1,e2,hT0,hni⟩:=HDS.out.2 i _ hx;have hds:=HDS.out.1;dsimp only at e1 hT0;replace e1:=(World.cell?_of_block (a:=⟨b2,0+i * 2,none⟩) (hbw.block b2 hds)).trans e1;replace e2:=(World.cell?_of_block (a:=⟨b2,0+i * 2+1,none⟩) (hbw.block b2 hds)).trans e2;simp only [Nat.zero_add] at e1 e2;have HX:=Lib.hid hx;have HT0:=Lib.hid hT0;have HG2:=Lib.hid (show ∀im∈gss,(im.length:Int)≤1048576 from HLL2.out _ (List.mem_of_getElem? hx));have HGL:=Lib.hid hT0.len;clear hx hT0 hds;have hba:=bA1 wr (.cells #[.int .i64 k,.slice ai ni ci] 32);have hT:=Own.new wr 32 #[.int .i64 k,.slice ai ni ci];have hgT:g0<wr.heap.size:=hA.lt;have hi0:(0:Int)≤(i:Int):=(by omega);have hin:(i:Int)<(m:Int):=(by omega);go_upto_region 6 with fail
      clear e1 e2;replace hA:=hA.keep hba hA.lt;replace hb:=bT' hb hba (by omega);clear hba hbw;generalize wr.alloc (.cells #[.int .i64 k,.slice ai ni ci] 32)=wt at *;generalize wr.heap.size=gT at *;have c0:=hA.cell 0;have t0:=hT.cell 0;have t1:=hT.cell 1;by_cases hk1:k<0
      · go_wp2_with fail
        go_ret
        exact ⟨ret_b (derL_no HX.out (derL_no1 (by dsimp only;omega))).symm,by rw [HG.out];exact hb⟩
      · by_cases hk2:k > 12
        · go_wp2_with fail
          go_ret
          exact ⟨ret_b (derL_no HX.out (derL_no1 (by dsimp only;omega))).symm,by rw [HG.out];exact hb⟩
        · by_cases hnd:ni=dn
          · subst hnd;have hnn:((ni:Int) != (ni:Int))=false:=(by simp);go_upto_region 8 with fail
            go_wp2_with fail
            clear hnn c0 t0 t1
            go_loopw [38] (fun y wx=>∃j:Nat,j≤ni∧y=.int .i64 j∧Below g0 w wx∧Own wx g0 36 #[.slice da ni dc,.slice a n c]∧Own wx gT 32 #[.int .i64 k,.slice ai ni ci]∧Hid ((List.range j).all (derAt zs k gss)=true)) (fun y _=>ni - (intOf y).toNat)
            case atStart=>exact ⟨0,Nat.zero_le _,rfl,hb,hA,hT,Lib.hid rfl⟩
            case round=>
             clear hb hA hT;obtain ⟨j,hj,rfl,hb,hA,hT,HJ⟩:=hrel;have hbw:Below w.heap.size w wr:=(by rw [HG.out];exact hb);by_cases hjn:j<ni
             · obtain ⟨b,off,ts,af,nf,cf,rfl,hbl,hc,hTs,hnf,hx⟩:=(HT0.out.keep hbw).at_ hjn;obtain ⟨bd,od,z,rfl,hbd,hcd,hz⟩:=(HD.out.keep hbw).at_ hjn;have hz1:=(degsOk_at HDG.out hz.out).1;have hz2:=(degsOk_at HDG.out hz.out).2;have hsum:IntKind.i64.wrap (z - k)=z - k:=IntWalk.i64_in _ (by omega);have hnf2:nf≤1048576:=(by have:=HG2.out ts (List.mem_of_getElem? hx.out);have:=hTs.len;omega);have hE:=Own.new wr 59 #[.slice af nf cf];have hba:=bA1 wr (.cells #[.slice af nf cf] 59);have hj0:(0:Int)≤(j:Int):=(by omega);have hjn2:(j:Int)<(ni:Int):=(by omega);go_upto_region 11 with fail
               replace hcd:=(World.cell?_of_block (a:=⟨bd,od+j,none⟩) (hba.block bd hbd)).trans hcd;replace hTs:=hTs.keep hba;have hgw:g0≤wr.heap.size:=Nat.le_of_lt hA.lt;replace hA:=hA.keep hba hA.lt;replace hT:=hT.keep hba hT.lt;replace hb:=bT' hb hba hgw;have hDn:=(HD.out.keep hbw).keep hba;generalize wr.alloc (.cells #[.slice af nf cf] 59)=wu at *;generalize hge:wr.heap.size=gE at *;clear hge hba hc hbl hbd hbw;replace hE:Own wu.drew gE 59 #[.slice af nf cf]:=hE;replace hA:Own wu.drew g0 36 #[.slice (some ⟨bd,od,none⟩) ni dc,.slice a n c]:=hA;replace hT:Own wu.drew gT 32 #[.int .i64 k,.slice (some ⟨b,off,none⟩) ni ci]:=hT;replace hcd:wu.drew.cell? ⟨bd,od+j,none⟩=some (.int .i64 z):=hcd;replace hTs:=hTs.keep ((Below.refl _ _).drew:Below wu.heap.size wu wu.drew);replace hDn:=hDn.keep ((Below.refl _ _).drew:Below wu.heap.size wu wu.drew);replace hb:Below g0 w wu.drew:=hb.drew;cases hq:zeroOr zs ts (z - k)
               all_goals
                have HQ:=Lib.hid hq;clear hq
                go_region_held3 (fun w'=>w'.cell? ⟨g0,0,none⟩=some (.slice (some ⟨bd,od,none⟩) ni dc)∧w'.cell? ⟨gE,0,none⟩=some (.slice af nf cf)∧w'.cell? ⟨gT,0,none⟩=some (.int .i64 k)∧w'.cell? ⟨bd,od+j,none⟩=some (.int .i64 z)) (exact ⟨hA.cell 0,hE.cell 0,hT.cell 0,hcd⟩)
                 (first | (go_at_call 62;refine (isZeroOrOfDegree_c dc cf hDn (by omega) hTs hnf2).mono ?_;rintro e wv ⟨rfl,hbv⟩;rw [HQ.out];have hA':=hA.keep hbv hA.lt;have hT':=hT.keep hbv hT.lt;have hb':=bT' hb hbv (Nat.le_of_lt hA.lt);have hE':=hE.keep hbv hE.lt;have hcd':=(World.cell?_of_block (a:=⟨bd,od+j,none⟩) (hbv.block bd (World.block_lt_of_cell? _ _ hcd))).trans hcd;clear hA hT hb hE hcd;have hA:=hA';have hT:=hT';have hb:=hb';have hE:=hE';have hcd:=hcd'))
               · go_wp2_with fail
                 go_ret
                 exact ⟨ret_b (derL_no HX.out (derL_no3 (by dsimp only;rw [HGL.out];exact hjn) (derAt_of hz.out hx.out HQ.out))).symm,by rw [HG.out];exact hb⟩
               · go_wp2_with fail
                 go_roundw
                 case rel=>exact ⟨j+1,by omega,by go_num,hb,hA,hT,Lib.hid (range_all_step HJ.out (derAt_of hz.out hx.out HQ.out))⟩
                 case measure=>simp [intOf] <;> omega
             · have he:j=ni:=(by omega);subst he;go_wp2_with fail
               go_roundw
               case rel=>exact ⟨i+1,by omega,by go_num,hb,hA,Lib.hid (all_take H.out HX.out (derL_yes (by dsimp only;omega) (by dsimp only;rw [HGL.out,HL.out]) (by dsimp only;rw [derF,HGL.out];exact HJ.out)))⟩
               case measure=>simp [intOf] <;> omega
          · have hnb:((ni:Int) != (dn:Int))=true:=(by simp;omega);go_wp2_with fail
            go_ret
            exact ⟨ret_b (derL_no HX.out (derL_no2 (by dsimp only;rw [HGL.out,HL.out];exact hnd))).symm,by rw [HG.out];exact hb⟩
    · have he:i=m:=(by omega);subst he;have HH:=H.out;rw [List.take_of_length_le (Nat.le_of_eq HM.out)] at HH;have HR:=Lib.hid HH;clear HH;go_wp2_with fail
      go_ret
      exact ⟨ret_b (show dersB zs ims L=true by rw [dersB,HA.out,HR.out];rfl).symm,by rw [HG.out];exact hb⟩
end Go.Proofs.YtdppjlndcacfnaaGreat
