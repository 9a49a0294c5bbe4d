
import Derived.Test.YtndnkeijddagiaaSubG
import Derived.Test.YtndnkeijddagiaaAlgS
import Derived.Test.YtndnkeijddagiaaTbl
namespace Go.Proofs.Ytndnkeijddagiaa
set_option maxRecDepth 100000
open Go.RowKit Go.Deep
def saB (ims:List (List Tm)) (k n:Nat):Bool:=(List.range n).any (fun j=>decide (k≤j) && anyG (ims.take k) j)
def saE (zs:List Int) (ims:List (List Tm)) (k:Int):Int:=if isAlg zs ims=false then 1 else if k<0∨(zs.length:Int)<k then 2 else if saB ims k.toNat zs.length=true then 5 else 0
def saD (zs:List Int) (ims:List (List Tm)) (k:Int):List Int:=if saE zs ims k=0 then zs.take k.toNat else []
def saI (zs:List Int) (ims:List (List Tm)) (k:Int):List (List Tm):=if saE zs ims k=0 then ims.take k.toNat else []
theorem sa_ne {zs:List Int} {ims:List (List Tm)} {k E:Int} (h:saE zs ims k=E) (h0:¬E=0):saE zs ims k=E∧saD zs ims k=[]∧saI zs ims k=[]:=by
 refine ⟨h,?_,?_⟩
 · rw [saD,h,if_neg h0]
 · rw [saI,h,if_neg h0]
theorem sa_no {zs:List Int} {ims:List (List Tm)} {k:Int} (h:isAlg zs ims=false):saE zs ims k=1:=by rw [saE,if_pos h]
theorem sa_range {zs:List Int} {ims:List (List Tm)} {k:Int} (h:isAlg zs ims=true) (h1:k<0∨(zs.length:Int)<k):saE zs ims k=2:=by rw [saE,if_neg (by simp [h]),if_pos h1]
theorem sa_state {zs:List Int} {ims:List (List Tm)} {k:Int} (h:isAlg zs ims=true) (h1:¬(k<0∨(zs.length:Int)<k)) (h2:saB ims k.toNat zs.length=true):saE zs ims k=5:=by rw [saE,if_neg (by simp [h]),if_neg h1,if_pos h2]
theorem sa_fine {zs:List Int} {ims:List (List Tm)} {k:Int} (h:isAlg zs ims=true) (h1:¬(k<0∨(zs.length:Int)<k)) (h2:saB ims k.toNat zs.length=false):saE zs ims k=0:=by rw [saE,if_neg (by simp [h]),if_neg h1,if_neg (by simp [h2])]
theorem saB_yes {ims:List (List Tm)} {k n j:Nat} (h1:k≤j) (h2:j<n) (h:anyG (ims.take k) j=true):saB ims k n=true:=by
 rw [saB,List.any_eq_true]
 exact ⟨j,List.mem_range.2 h2,by simp [h1,h]⟩
theorem saB_no {ims:List (List Tm)} {k n:Nat} (h:∀j,k≤j→j<n→anyG (ims.take k) j=false):saB ims k n=false:=by
 rw [saB,List.any_eq_false]
 intro j hj
 by_cases h1:k≤j
 · simp [h j h1 (List.mem_range.1 hj)]
 · simp [h1]
theorem Frms.take {w:World} {a:Option Addr} {n k:Nat} {fss:List (List Tm)} (h:Frms w a n fss) (hk:k≤n):Frms w a k (fss.take k):=
 ⟨by rw [List.length_take,h.1];omega,fun h0=>by
  obtain ⟨b,off,ha,hb,hc⟩:=h.2 (by omega)
  exact ⟨b,off,ha,hb,fun i ts hi=>hc i ts (by
   rw [List.getElem?_take] at hi;split at hi
   · exact hi
   · cases hi)⟩⟩
theorem FrmsN.frmsS {w:World} {a:Option Addr} {n:Nat} {fss:List (List Tm)} (h:FrmsN w a n fss) (hL:∀ts∈fss,(ts.length:Int)≤1048576):Frms w a n fss:=
 ⟨h.1,fun hn=>by
  obtain ⟨b,off,ha,hlt,hc⟩:=h.2 hn;refine ⟨b,off,ha,hlt,fun i ts hi=>?_⟩;obtain ⟨ai,ni,ci,h1,h2,-⟩:=hc i ts hi
  exact ⟨ai,ni,ci,h1,h2,by have:=hL ts (List.mem_of_getElem? hi);have:=h2.len;omega⟩⟩
theorem FrmsN.take {w:World} {a:Option Addr} {n k:Nat} {fss:List (List Tm)} (h:FrmsN w a n fss) (hk:k≤n):FrmsN w a k (fss.take k):=
 ⟨by rw [List.length_take,h.1];omega,fun h0=>by
  obtain ⟨b,off,ha,hb,hc⟩:=h.2 (by omega)
  exact ⟨b,off,ha,hb,fun i ts hi=>hc i ts (by
   rw [List.getElem?_take] at hi;split at hi
   · exact hi
   · cases hi)⟩⟩
theorem Ints.take {w:World} {a:Option Addr} {n k:Nat} {zs:List Int} (h:Ints w a n zs) (hk:k≤n):Ints w a k (zs.take k):=
 ⟨by rw [List.length_take,h.1];omega,fun h0=>by
  obtain ⟨b,off,ha,hb,hc⟩:=h.2 (by omega);refine ⟨b,off,ha,hb,fun i hi=>?_⟩;have:=hc i (by omega)
  rwa [show (zs.take k).getD i 0=zs.getD i 0 by rw [List.getD_eq_getElem?_getD,List.getD_eq_getElem?_getD,List.getElem?_take,if_pos hi]]⟩
theorem isAlg_lenS {zs:List Int} {ims:List (List Tm)} (h:isAlg zs ims=true):ims.length=zs.length:=by
 simp only [isAlg,Bool.and_eq_true,decide_eq_true_eq] at h
 exact h.2.1
def gensV (n:Nat):List Int:=(List.range n).map (fun i:Nat=>(i:Int))
theorem gensV_row (n:Nat):gensL n=(gensV n).map (Value.int .i64):=by simp [gensL,gensV]
theorem gensV_get {n i:Nat} (h:i<n):(gensV n).getD i 0=(i:Int):=by simp [gensV,List.getD_eq_getElem?_getD,h]
theorem Try.sizeI64:∀w,(Go.sizeOf 2).run Try.prog w=.ok 1 w:=fun w=>by kernel_rfl
theorem Try.sizeFm:∀w,(Go.sizeOf 47).run Try.prog w=.ok 1 w:=fun w=>by kernel_rfl
theorem sliceL_run (a : Option Addr) (n c k : Nat) (h : k ≤ n) (w : World) :
    (Instr.slice 22 (.slice a n c) (some (.int .i64 (k:Int))) none none).run Try.prog w=.ok (.slice (if c=k then a else a.map (·.add k)) (n - k) (c - k)) w:=by
 have he:Try.prog.elem 22=2:=by kernel_rfl
 have hu:Try.prog.underlying 22=some (.slice (Try.prog.elem 22)):=by rw [he];exact Try.underlying22
 have h:=run_slice_l (P:=Try.prog) w 22 a n c hu .i64 (k:Int) (by omega) (by omega)
 rw [h]
 have hs:=Try.sizeI64 w
 rw [he,hs]
 simp [Result.andThen,sliced]
theorem sliceH_run (g o n c k : Nat) (h : k ≤ c) (w : World) :
    (Instr.slice 22 (.slice (some ⟨g,o,none⟩) n c) none (some (.int .i64 (k:Int))) none).run Try.prog w=.ok (.slice (some ⟨g,o,none⟩) k c) w:=by
 have he:Try.prog.elem 22=2:=by kernel_rfl
 have hu:Try.prog.underlying 22=some (.slice (Try.prog.elem 22)):=by rw [he];exact Try.underlying22
 have h:=run_slice_h (P:=Try.prog) w 22 (some ⟨g,o,none⟩) n c hu .i64 (k:Int) (by omega) (by omega)
 rw [h]
 have hs:=Try.sizeI64 w
 rw [he,hs]
 simp [Result.andThen,sliced,Addr.add]
theorem sliceF_run (g o n c k : Nat) (h : k ≤ c) (w : World) :
    (Instr.slice 27 (.slice (some ⟨g,o,none⟩) n c) none (some (.int .i64 (k:Int))) none).run Try.prog w=.ok (.slice (some ⟨g,o,none⟩) k c) w:=by
 have he:Try.prog.elem 27=47:=by kernel_rfl
 have hu:Try.prog.underlying 27=some (.slice (Try.prog.elem 27)):=by rw [he];exact Try.underlying27
 have h:=run_slice_h (P:=Try.prog) w 27 (some ⟨g,o,none⟩) n c hu .i64 (k:Int) (by omega) (by omega)
 rw [h]
 have hs:=Try.sizeFm w
 rw [he,hs]
 simp [Result.andThen,sliced,Addr.add]
set_option maxHeartbeats 4000000 in
theorem SubAlgebra_c {w : World} {gd od dn gi oi n : Nat} {zs : List Int} {ims : List (List Tm)} (dc c : Nat) (k : Int) (hdc : dn ≤ dc) (hnc : n ≤ c) (hd : Ints w (some ⟨gd, od, none⟩) dn zs) (hdn : dn ≤ 1048576) (hN : FrmsN w (some ⟨gi, oi, none⟩) n ims) (hn : n ≤ 1048576) (hL : ∀ im ∈ ims, (im.length : Int) ≤ 1048576) (hT : ∀ ts ∈ ims, ∀ t ∈ ts, IsTm t) (hS : sumLen ims ≤ 1048576) :
    Calls Try.prog 50 #[.agg #[.slice (some ⟨gd,od,none⟩) dn dc,.slice (some ⟨gi,oi,none⟩) n c],.int .i64 k] w fun e w'=>∃a an ac b bn bc,e=.returned (.tuple #[.agg #[.slice a an ac,.slice b bn bc],.int .i64 (saE zs ims k)])∧OwnV w' w.heap.size w'.heap.size a an (saD zs ims k)∧OwnF w' w.heap.size w'.heap.size b bn (saI zs ims k)∧Below w.heap.size w w':=by
 have HLL:=Lib.hid hL
 have HTT:=Lib.hid hT
 have HSS:=Lib.hid hS
 have HNN:=Lib.hid hN
 have HLn:=Lib.hid hN.1
 have HFF:=Lib.hid (hN.frmsS hL)
 have HDD:=Lib.hid hd
 have HDL:=Lib.hid hd.len
 clear hL hT hS hN hd
 have hA:=(Own.new w 29 #[.slice (some ⟨gd,od,none⟩) dn dc,.slice (some ⟨gi,oi,none⟩) n c]).alloc (.cells #[.slice none 0 0,.slice none 0 0] 29)
 have hR:=Own.new (w.alloc (.cells #[.slice (some ⟨gd,od,none⟩) dn dc,.slice (some ⟨gi,oi,none⟩) n c] 29)) 29 #[.slice none 0 0,.slice none 0 0]
 rw [sAl] at hR
 have hb:=bTn (bA1 w (.cells #[.slice (some ⟨gd,od,none⟩) dn dc,.slice (some ⟨gi,oi,none⟩) n c] 29)) (bA1 _ (.cells #[.slice none 0 0,.slice none 0 0] 29))
 go_enter Try.func50,Try.ntmps50
 go_upto_region 1 with fail
 generalize (w.alloc (.cells #[.slice (some ⟨gd,od,none⟩) dn dc,.slice (some ⟨gi,oi,none⟩) n c] 29)).alloc (.cells #[.slice none 0 0,.slice none 0 0] 29)=w0 at *
 have hlR:=hR.lt
 have c0:=hA.cell 0
 have c1:=hA.cell 1
 cases hal:isAlg zs ims
 · have HE:=Lib.hid (sa_ne (k:=k) (sa_no hal) (by omega));have HA:=Lib.hid hal;clear hal;go_wp2_with fail
   refine (IsAlgebra_c dc c (HDD.out.keep hb) hdn (HFF.out.keep hb) hn HLL.out).mono ?_;rintro e w1 ⟨rfl,hb1⟩;rw [HA.out];replace hR:=hR.keep hb1 hR.lt;replace hb:=bT' hb hb1 hb.size;clear hb1 c0 c1 hA;have r0:=hR.cell 0;have r1:=hR.cell 1;have f0:=hR.frozen 0;have f1:=hR.frozen 1;go_wp2_with fail
   have q:=(hR.set 0 (.slice none 0 0)).set 1 (.slice none 0 0);exact bodyPost_ret (results_row2 rfl _ _ (w.heap.size+1) 29 #[.slice none 0 0,.slice none 0 0] (0,0) _ rfl q Try.underlying29 rfl Try.info_alg) rfl ⟨none,0,0,none,0,0,by rw [HE.out.1];rfl,by rw [HE.out.2.1];exact OwnV.none_,by rw [HE.out.2.2];exact OwnF.none_,(hb.setCell (p:=⟨w.heap.size+1,0,none⟩) (by dsimp only;omega) _).setCell (p:=⟨w.heap.size+1,1,none⟩) (by dsimp only;omega) _⟩
 · have HA:=Lib.hid hal;obtain rfl:dn=n:=(by have:=isAlg_lenS hal;have:=HLn.out;have:=HDL.out;omega);have h8:dn≤8:=(by have:=degsOk_len (isAlg_degs hal);have:=HDL.out;omega);clear hal;go_wp2_with fail
   refine (IsAlgebra_c dc c (HDD.out.keep hb) hdn (HFF.out.keep hb) hn HLL.out).mono ?_;rintro e w1 ⟨rfl,hb1⟩;rw [HA.out];replace hA:=hA.keep hb1 hA.lt;replace hR:=hR.keep hb1 hR.lt;replace hb:=bT' hb hb1 hb.size;clear hb1 c0 c1 hlR;have hlR:=hR.lt;have c0:=hA.cell 0;by_cases hk0:k<0
   · have HE:=Lib.hid (sa_ne (sa_range HA.out (Or.inl hk0)) (by omega));have r0:=hR.cell 0;have r1:=hR.cell 1;have f0:=hR.frozen 0;have f1:=hR.frozen 1;go_wp2_with fail
     have q:=(hR.set 0 (.slice none 0 0)).set 1 (.slice none 0 0);exact bodyPost_ret (results_row2 rfl _ _ (w.heap.size+1) 29 #[.slice none 0 0,.slice none 0 0] (0,0) _ rfl q Try.underlying29 rfl Try.info_alg) rfl ⟨none,0,0,none,0,0,by rw [HE.out.1];rfl,by rw [HE.out.2.1];exact OwnV.none_,by rw [HE.out.2.2];exact OwnF.none_,(hb.setCell (p:=⟨w.heap.size+1,0,none⟩) (by dsimp only;omega) _).setCell (p:=⟨w.heap.size+1,1,none⟩) (by dsimp only;omega) _⟩
   · by_cases hkd:(dn:Int)<k
     · have HE:=Lib.hid (sa_ne (sa_range HA.out (Or.inr (by rw [HDL.out];exact hkd))) (by omega));have r0:=hR.cell 0;have r1:=hR.cell 1;have f0:=hR.frozen 0;have f1:=hR.frozen 1;go_wp2_with fail
       have q:=(hR.set 0 (.slice none 0 0)).set 1 (.slice none 0 0);exact bodyPost_ret (results_row2 rfl _ _ (w.heap.size+1) 29 #[.slice none 0 0,.slice none 0 0] (0,0) _ rfl q Try.underlying29 rfl Try.info_alg) rfl ⟨none,0,0,none,0,0,by rw [HE.out.1];rfl,by rw [HE.out.2.1];exact OwnV.none_,by rw [HE.out.2.2];exact OwnF.none_,(hb.setCell (p:=⟨w.heap.size+1,0,none⟩) (by dsimp only;omega) _).setCell (p:=⟨w.heap.size+1,1,none⟩) (by dsimp only;omega) _⟩
     · have hin:¬(k<0∨(zs.length:Int)<k):=(by rw [HDL.out];omega);obtain ⟨kk,rfl⟩:∃kk:Nat,k=kk:=⟨k.toNat,by omega⟩;have HIN:=Lib.hid hin;clear hin;replace hkd:kk≤dn:=(by omega);have hkc:kk≤c:=(by omega);have hkdc:kk≤dc:=(by omega);have c1:=hA.cell 1;go_wp2_with fail
       refine (generatorsOf_c h8).mono ?_;rintro e w2 ⟨gA,gc,rfl,hG,hb2⟩;have hgc:=row_cap hG;have hbs:=hb.size;obtain ⟨g2,c2,hge,hGV⟩:=OwnV.of_row (V:=gensV dn) (by rw [←gensV_row];exact hG);simp only [Value.slice.injEq] at hge;obtain ⟨rfl,-,rfl⟩:=hge;replace hA:=hA.keep hb2 hA.lt;replace hR:=hR.keep hb2 hR.lt;replace hb:=bT' hb hb2 hb.size;have HG:=Lib.hid hGV;clear hG hGV hb2 c0 c1;have hsl:=sliceL_run gA dn gc kk hkd;obtain ⟨gS,hgS⟩:∃gS,(if gc=kk then gA else gA.map (·.add kk))=gS:=⟨_,rfl⟩;rw [hgS] at hsl;have HGS:=Lib.hid hgS;clear hgS;go_upto_region 6 with fail
       clear hsl
       go_loopw [27] (fun y wr=>∃q:Nat,q≤dn - kk∧y=.int .i64 q∧Below w.heap.size w wr∧Below w2.heap.size w2 wr∧Own wr w.heap.size 29 #[.slice (some ⟨gd,od,none⟩) dn dc,.slice (some ⟨gi,oi,none⟩) dn c]∧Own wr (w.heap.size+1) 29 #[.slice none 0 0,.slice none 0 0]∧Hid (∀p,p<q→anyG (ims.take kk) (kk+p)=false)) (fun y _=>dn - kk - (intOf y).toNat)
       case atStart=>exact ⟨0,Nat.zero_le _,rfl,hb,Below.refl _ _,hA,hR,Lib.hid (fun p hp=>absurd hp (by omega))⟩
       case round=>
        clear hb hA hR hlR;obtain ⟨q,hq,rfl,hb,hb2,hA,hR,HN⟩:=hrel;have hlR:=hR.lt;have hq0:(0:Int)≤(q:Int):=(by omega);by_cases hqn:q<dn - kk
        · have hqi:(q:Int)<(((dn - kk:Nat):Int)):=(by omega);obtain ⟨bG,csG,hga,hg1,hg2,hgo,hgs,hgg⟩:=(HG.out.keep hb2).2 (by omega);subst hga
          obtain rfl:gS=some ⟨bG,kk,none⟩:=by
           rw [←HGS.out,if_neg (by omega)];show some ((⟨bG,0,none⟩:Addr).add kk)=_
           rw [Addr.add_mid];simp
          obtain ⟨jj,hjj⟩:∃jj:Nat,jj=kk+q:=⟨_,rfl⟩
          have hgc1:wr.cell? ⟨bG,kk+q,none⟩=some (.int .i64 (jj:Int)):=by
           have:=hgo.cell (kk+q);rw [hgg (kk+q) (by omega),gensV_get (by omega)] at this;rw [this,hjj]
          have HJJ:=Lib.hid hjj;have hj8:jj<8:=(by omega);clear hjj;have hJ:=Own.new wr 2 #[.int .i64 (jj:Int)];have hba:=bA1 wr (.cells #[.int .i64 (jj:Int)] 2);replace hb:=bT' hb hba hb.size;replace hb2:=bT' hb2 hba hb2.size;replace hA:=hA.keep hba hA.lt;replace hR:=hR.keep hba hR.lt;go_upto_region 8 with fail
          generalize wr.alloc (.cells #[.int .i64 (jj:Int)] 2)=w3 at *;generalize wr.heap.size=gJ at *;clear hba hgc1 hgo hgg;have c1:=hA.cell 1;have cJ:=hJ.cell 0;have hsl:=sliceF_run gi oi dn c kk hkc;have hmf:∀(fn:Fn) (first cap:Array Value) (w:World),(Instr.makeFunc fn first cap).run Try.prog w=.ok (.func fn first cap) w:=fun _ _ _ _=>rfl;go_wp2_with fail
          refine (containsF_c c ((HFF.out.keep hb).take hkd) (by omega) (fun im him=>HLL.out im (List.mem_of_mem_take him)) (j:=jj) hj8 cJ).mono ?_;rintro e w4 ⟨rfl,hb4⟩;replace hA:=hA.keep hb4 hA.lt;replace hR:=hR.keep hb4 hR.lt;replace hb:=bT' hb hb4 hb.size;replace hb2:=bT' hb2 hb4 hb2.size;clear hb4 c1 cJ hsl hmf hJ;cases hany:anyG (ims.take kk) jj
          · have HY:=Lib.hid hany;clear hany;go_wp2_with fail
            go_roundw
            case rel=>
             refine ⟨q+1,by omega,by go_num,hb,hb2,hA,hR,Lib.hid (fun p hp=>?_)⟩;by_cases e:p=q
             · rw [e,←HJJ.out];exact HY.out
             · exact HN.out p (by omega)
            case measure=>simp [intOf] <;> omega
          · have HE:=Lib.hid (sa_ne (sa_state HA.out HIN.out (saB_yes (j:=jj) (by have:=HJJ.out;simp;omega) (by have:=HJJ.out;rw [HDL.out];omega) (by simpa using hany))) (by omega));clear hany;have r0:=hR.cell 0;have r1:=hR.cell 1;have f0:=hR.frozen 0;have f1:=hR.frozen 1;go_wp2_with fail
            have q:=(hR.set 0 (.slice none 0 0)).set 1 (.slice none 0 0);exact bodyPost_ret (results_row2 rfl _ _ (w.heap.size+1) 29 #[.slice none 0 0,.slice none 0 0] (0,0) _ rfl q Try.underlying29 rfl Try.info_alg) rfl ⟨none,0,0,none,0,0,by rw [HE.out.1];rfl,by rw [HE.out.2.1];exact OwnV.none_,by rw [HE.out.2.2];exact OwnF.none_,(hb.setCell (p:=⟨w.heap.size+1,0,none⟩) (by dsimp only;omega) _).setCell (p:=⟨w.heap.size+1,1,none⟩) (by dsimp only;omega) _⟩
        · have he:q=dn - kk:=(by omega);subst he
          have hfine:saE zs ims (kk:Int)=0:=sa_fine HA.out HIN.out (saB_no (fun j h1 h2=>by
           have:=HN.out (j - kk) (by rw [HDL.out] at h2;simp at h1;omega);rw [show kk+(j - kk)=j by simp at h1;omega] at this
           simpa using this))
          have HE:Hid (saE zs ims (kk:Int)=0∧saD zs ims (kk:Int)=zs.take kk∧saI zs ims (kk:Int)=ims.take kk):=Lib.hid ⟨hfine,by rw [saD,hfine,if_pos rfl];simp,by rw [saI,hfine,if_pos rfl];simp⟩;have HTK:=Lib.hid (fun ts (hts:ts∈ims.take kk)=>HTT.out ts (List.mem_of_mem_take hts));have HSK:=Lib.hid (Nat.le_trans (sumLen_le ims kk) HSS.out);clear hfine;have hslD:=sliceH_run gd od dn dc kk hkdc;have hslF:=sliceF_run gi oi dn c kk hkc;go_upto_region 11 with fail
          replace hA:Own wr.drew w.heap.size 29 #[.slice (some ⟨gd,od,none⟩) dn dc,.slice (some ⟨gi,oi,none⟩) dn c]:=hA;replace hR:Own wr.drew (w.heap.size+1) 29 #[.slice none 0 0,.slice none 0 0]:=hR;replace hb:Below w.heap.size w wr.drew:=hb.drew;clear hb2;refine wp_region_held_drew (S:=(fun w'=>w'.cell? ⟨w.heap.size,0,none⟩=some (.slice (some ⟨gd,od,none⟩) dn dc)∧w'.cell? ⟨w.heap.size,1,none⟩=some (.slice (some ⟨gi,oi,none⟩) dn c))) (by kernel_rfl) ?_ (fun _=>?_)
          · ((try dsimp only);(exact ⟨hA.cell 0,hA.cell 1⟩))
          generalize wr.drew=W0d at *;refine hdT 0 ?_;refine hdT 1 ?_;refine hdT 2 ?_;refine hdT 3 ?_;refine hdT 4 ?_;refine hdT 5 ?_;refine hdT 6 ?_;refine hdT 7 ?_;refine hdC 8 (fun K hK=>?_);have hBs:=hR.lt
          (go_simp;(go_at_call 59;refine (newAlgebra_c dc c ((HDD.out.keep hb).take hkd) (by omega) ((HNN.out.keep hb).take hkd) (by omega) HTK.out HSK.out).mono ?_;rintro e W1 ⟨ra,rac,rb,rfl,hV,hVF,hbX⟩);go_wp2_with fail)
          replace hA:=hA.keep hbX hA.lt;replace hR:=hR.keep hbX hR.lt;replace hb:=bT' hb hbX hb.size;replace hV:=hV.weaken (lo':=w.heap.size+2) (by omega) (Nat.le_refl _);replace hVF:=hVF.weaken (lo':=w.heap.size+2) (by omega) (Nat.le_refl _);clear hBs;clear hbX;refine hK.out _ _ ?_ (fun _=>?_)
          · ((try dsimp only);(exact ⟨hA.cell 0,hA.cell 1⟩))
          clear hK K
          (try simp only [Act.put,pA,pB,pC])
          refine hdC 9 (fun K hK=>?_);have r0:=hR.cell 0;have r1:=hR.cell 1;have f0:=hR.frozen 0;have f1:=hR.frozen 1
          (go_simp;go_wp2_with fail)
          have hTo:Touch (fun k=>k=w.heap.size+1) W1 ((W1.setCell ⟨w.heap.size+1,0,none⟩ (.slice ra kk rac)).setCell ⟨w.heap.size+1,1,none⟩ (.slice rb kk kk)):=Touch.of_only (((Only.refl (w.heap.size+1) W1).set 0 _).set 1 _);replace hR:=(hR.set 0 (.slice ra kk rac)).set 1 (.slice rb kk kk);replace hA:=hTo.own hA (by omega)
          skip
          replace hV:=(hV.touch hTo (fun q h1 h2=>by omega)).weaken (Nat.le_refl _) hTo.below.size;replace hVF:=(hVF.touch hTo (fun q h1 h2=>by omega)).weaken (Nat.le_refl _) hTo.below.size;replace hb:=(hb.setCell (p:=⟨w.heap.size+1,0,none⟩) (by dsimp only;omega) (.slice ra kk rac)).setCell (p:=⟨w.heap.size+1,1,none⟩) (by dsimp only;omega) (.slice rb kk kk);clear hTo r0 r1 f0 f1;generalize (W1.setCell ⟨w.heap.size+1,0,none⟩ (.slice ra kk rac)).setCell ⟨w.heap.size+1,1,none⟩ (.slice rb kk kk)=W2 at *;refine hK.out _ _ ?_ (fun _=>?_)
          · ((try dsimp only);(exact ⟨hA.cell 0,hA.cell 1⟩))
          clear hK K
          (try simp only [Act.put,pA,pB,pC])
          refine hdT 10 ?_;refine wpAnyH_done (by kernel_rfl) ?_ _;go_wp2_with fail
          exact bodyPost_ret (results_row2 rfl _ _ (w.heap.size+1) 29 #[.slice ra kk rac,.slice rb kk kk] (0,0) _ rfl hR Try.underlying29 rfl Try.info_alg) rfl ⟨ra,kk,rac,rb,kk,kk,by rw [HE.out.1];rfl,by rw [HE.out.2.1];exact hV.weaken (by omega) (Nat.le_refl _),by rw [HE.out.2.2];exact hVF.weaken (by omega) (Nat.le_refl _),hb⟩
end Go.Proofs.Ytndnkeijddagiaa
