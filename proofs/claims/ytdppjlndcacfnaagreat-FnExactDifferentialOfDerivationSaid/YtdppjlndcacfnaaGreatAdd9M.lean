
import Derived.Test.YtdppjlndcacfnaaGreatDerC
import Derived.Test.YtdppjlndcacfnaaGreatDerR
import Derived.Test.YtdppjlndcacfnaaGreatAddS
import Derived.Test.YtdppjlndcacfnaaGreatAddM
import Derived.Test.YtdppjlndcacfnaaGreatResult
import Derived.Test.YtdppjlndcacfnaaGreatTerm
import Derived.Laws.MakeOwn
import Derived.BigQuiet
import Derived.Stop.BytesEq
import Derived.Test.YtdppjlndcacfnaaGreatSumK
namespace Go.Proofs.YtdppjlndcacfnaaGreat
set_option maxRecDepth 100000
open Go.RowKit Go.Deep
section
variable {zs:List Int} {ims gss hss:List (List Tm)} {k k2:Int}
theorem derB_len (h:derB zs ims k gss=true):gss.length=zs.length:=by
 simp only [derB,Bool.and_eq_true,decide_eq_true_eq] at h
 exact h.2.2.1
theorem derB_alg (h:derB zs ims k gss=true):isAlg zs ims=true:=by
 simp only [derB,Bool.and_eq_true,decide_eq_true_eq] at h
 exact h.1
theorem derB_k (h:derB zs ims k gss=true):0≤k∧k≤12:=by
 simp only [derB,Bool.and_eq_true,decide_eq_true_eq] at h
 exact h.2.1
theorem derB_form (h:derB zs ims k gss=true) {i:Nat} {ts:List Tm} (hi:gss[i]? = some ts):isForm zs ts=true:=by
 simp only [derB,Bool.and_eq_true,decide_eq_true_eq] at h
 have h1:=h.2.2.2
 rw [derF,List.all_eq_true] at h1
 have h2:=h1 i (by simpa using (List.getElem?_eq_some_iff.1 hi).1)
 rw [derAt,List.getD_eq_getElem?_getD,hi] at h2
 exact zeroOr_form h2
def isF (zs:List Int) (ts:List Tm):Bool:=listOk zs ts && decide (ts.length≤400)
end
theorem sumLen_bd9:∀{V:List (List Tm)},(∀ts∈V,ts.length≤400)→sumLen V≤V.length * 400
 | [],_=>by simp [sumLen]
 | ts :: V, h => by
   have h1:=h ts (by simp);have h2:=sumLen_bd9 (V:=V) (fun x hx=>h x (by simp [hx]));have e:sumLen (ts::V)=ts.length+sumLen V:=(by simp [sumLen]);rw [e,List.length_cons];omega
set_option maxHeartbeats 8000000 in
theorem l09Told_bigB {w : World} {da : Option Addr} {dn : Nat} {zs : List Int} {a : Option Addr} {n : Nat} {a2 : Option Addr} {n2 : Nat} {V : List (List Tm)} (dc c : Nat) (k : Int) (c2 : Nat) (hd : Ints w da dn zs) (hdn : dn ≤ 1048576) (hF2 : Frms w a2 n2 V) (hn2 : n2 ≤ 1048576) (hL2 : ∀ im ∈ V, (im.length : Int) ≤ 4000000) (hk : 12 < k) :
    Calls Tryz.prog 33 #[.agg #[.slice da dn dc,.slice a n c],.agg #[.int .i64 k,.slice a2 n2 c2]] w fun e w'=>e=.returned (.tuple #[.agg #[.int .i64 0,.slice none 0 0],.int .i64 3])∧Below w.heap.size w w':=by
 have HLL2:=Lib.hid hL2
 have HLn:=Lib.hid hF2.len
 have HD:=Lib.hid hd
 have HFF:=Lib.hid hF2
 clear hL2
 obtain ⟨hA,hT,hR,hb⟩:=own3' w 36 32 32 #[.slice da dn dc,.slice a n c] #[.int .i64 k,.slice a2 n2 c2] #[.int .i64 0,.slice none 0 0]
 go_enter Tryz.func33,Tryz.ntmps33
 go_upto_region 1 with fail
 generalize ((w.alloc (.cells #[.slice da dn dc,.slice a n c] 36)).alloc (.cells #[.int .i64 k,.slice a2 n2 c2] 32)).alloc (.cells #[.int .i64 0,.slice none 0 0] 32)=w0 at *
 generalize hg2:w.heap.size+1+1=g2 at *
 generalize hg1:w.heap.size+1=g1 at *
 generalize hg0:w.heap.size=g0 at *
 have HG:=Lib.hid hg0
 have e1:=hg1
 have e2:=hg2
 clear hg0 hg1 hg2
 have t0:=hT.cell 0
 have hk1:k > 12:=hk
 have r0:=hR.cell 0
 have r1:=hR.cell 1
 have f0:=hR.frozen 0
 have f1:=hR.frozen 1
 go_wp2_with fail
 have q:=(hR.set 0 (.int .i64 0)).set 1 (.slice none 0 0)
 have qb:=(hb.setCell (p:=⟨g2,0,none⟩) (by dsimp only;omega) (.int .i64 0)).setCell (p:=⟨g2,1,none⟩) (by dsimp only;omega) (.slice none 0 0)
 exact bodyPost_ret (results_row2 rfl _ _ g2 32 #[.int .i64 0,.slice none 0 0] (0,0) _ rfl q Tryz.underlying32 rfl Tryz.info_der) rfl ⟨rfl,by rw [HG.out];exact qb⟩
set_option maxHeartbeats 8000000 in
theorem l09Told_yesB {w : World} {da : Option Addr} {dn : Nat} {zs : List Int} {a : Option Addr} {n : Nat} {a2 : Option Addr} {n2 : Nat} {V : List (List Tm)} (dc c : Nat) (k : Int) (c2 : Nat) (hd : Ints w da dn zs) (hdn : dn ≤ 1048576) (hF2 : Frms w a2 n2 V) (hn2 : n2 ≤ 1048576) (hL2 : ∀ im ∈ V, (im.length : Int) ≤ 4000000) (hk : k ≤ 12) (hB : ∀ (i : Nat) ts, V[i]? = some ts → isF zs ts = true) :
    Calls Tryz.prog 33 #[.agg #[.slice da dn dc,.slice a n c],.agg #[.int .i64 k,.slice a2 n2 c2]] w fun e w'=>e=.returned (.tuple #[.agg #[.int .i64 k,.slice a2 n2 c2],.int .i64 0])∧Below w.heap.size w w':=by
 have HLL2:=Lib.hid hL2
 have HLn:=Lib.hid hF2.len
 have HD:=Lib.hid hd
 have HFF:=Lib.hid hF2
 clear hL2
 obtain ⟨hA,hT,hR,hb⟩:=own3' w 36 32 32 #[.slice da dn dc,.slice a n c] #[.int .i64 k,.slice a2 n2 c2] #[.int .i64 0,.slice none 0 0]
 go_enter Tryz.func33,Tryz.ntmps33
 go_upto_region 1 with fail
 generalize ((w.alloc (.cells #[.slice da dn dc,.slice a n c] 36)).alloc (.cells #[.int .i64 k,.slice a2 n2 c2] 32)).alloc (.cells #[.int .i64 0,.slice none 0 0] 32)=w0 at *
 generalize hg2:w.heap.size+1+1=g2 at *
 generalize hg1:w.heap.size+1=g1 at *
 generalize hg0:w.heap.size=g0 at *
 have HG:=Lib.hid hg0
 have e1:=hg1
 have e2:=hg2
 clear hg0 hg1 hg2
 have t0:=hT.cell 0
 have HB:=Lib.hid hB
 clear hB
 have hk1:¬k > 12:=by omega
 go_wp2_with fail
 clear t0
 go_loopw [6] (fun y wr=>∃i:Nat,i≤n2∧y=.int .i64 i∧Below g0 w wr∧Own wr g0 36 #[.slice da dn dc,.slice a n c]∧Own wr g1 32 #[.int .i64 k,.slice a2 n2 c2]∧Own wr g2 32 #[.int .i64 0,.slice none 0 0]) (fun y _=>n2 - (intOf y).toNat)
 case atStart=>exact ⟨0,Nat.zero_le _,rfl,hb,hA,hT,hR⟩
 case round=>
  clear hb hA hT hR;obtain ⟨i,hi,rfl,hb,hA,hT,hR⟩:=hrel;have hbw:Below w.heap.size w wr:=(by rw [HG.out];exact hb);have t1:=hT.cell 1;by_cases hlt:i<n2
  · obtain ⟨b,off,ts,ai,ni,ci,rfl,hbl,hc,hTs,hni,hx⟩:=(HFF.out.keep hbw).at_ hlt;have hni2:ni≤4000000:=(by have:=HLL2.out ts (List.mem_of_getElem? hx.out);have:=hTs.len;omega);have hi0:(0:Int)≤(i:Int):=(by omega);have hin:(i:Int)<(n2:Int):=(by omega);go_upto_region 6 with fail
    clear t1;have hDn:=HD.out.keep hbw;replace hA:Own wr.drew g0 36 #[.slice da dn dc,.slice a n c]:=hA;replace hT:Own wr.drew g1 32 #[.int .i64 k,.slice (some ⟨b,off,none⟩) n2 c2]:=hT;replace hR:Own wr.drew g2 32 #[.int .i64 0,.slice none 0 0]:=hR;replace hc:wr.drew.cell? ⟨b,off+i,none⟩=some (.slice ai ni ci):=hc;replace hTs:=hTs.keep ((Below.refl _ _).drew:Below wr.heap.size wr wr.drew);replace hDn:=hDn.keep ((Below.refl _ _).drew:Below wr.heap.size wr wr.drew);replace hb:Below g0 w wr.drew:=hb.drew;clear hbw;have HQ:Hid ((listOk zs ts && decide (ts.length≤400))=true):=Lib.hid (HB.out i ts hx.out)
    go_region_held3 (fun w' => w'.cell? ⟨g0, 0, none⟩ = some (.slice da dn dc) ∧ w'.cell? ⟨g1, 1, none⟩ = some (.slice (some ⟨b, off, none⟩) n2 c2) ∧ w'.cell? ⟨b, off + i, none⟩ = some (.slice ai ni ci)) (exact ⟨hA.cell 0, hT.cell 1, hc⟩)
        (first | (go_at_call 56;refine (l01Is_cB dc ci hDn hdn hTs hni2).mono ?_;rintro e wv ⟨rfl,hbv⟩;rw [HQ.out];have hA':=hA.keep hbv hA.lt;have hT':=hT.keep hbv hT.lt;have hR':=hR.keep hbv hR.lt;have hb':=bT' hb hbv (Nat.le_of_lt hA.lt);have hc':=(World.cell?_of_block (a:=⟨b,off+i,none⟩) (hbv.block b (World.block_lt_of_cell? _ _ hc))).trans hc;clear hA hT hR hb hc;have hA:=hA';have hT:=hT';have hR:=hR';have hb:=hb';have hc:=hc'))
    go_wp2_with fail
    go_roundw
    case rel=>exact ⟨i+1,by omega,by go_num,hb,hA,hT,hR⟩
    case measure=>simp [intOf] <;> omega
  · have he:i=n2:=(by omega);subst he;have t0:=hT.cell 0;have r0:=hR.cell 0;have r1:=hR.cell 1;have f0:=hR.frozen 0;have f1:=hR.frozen 1;go_wp2_with fail
    have q:=(hR.set 0 (.int .i64 k)).set 1 (.slice a2 i c2);have qb:=(hb.setCell (p:=⟨g2,0,none⟩) (by dsimp only;omega) (.int .i64 k)).setCell (p:=⟨g2,1,none⟩) (by dsimp only;omega) (.slice a2 i c2);exact bodyPost_ret (results_row2 rfl _ _ g2 32 #[.int .i64 k,.slice a2 i c2] (0,0) _ rfl q Tryz.underlying32 rfl Tryz.info_der) rfl ⟨rfl,by rw [HG.out];exact qb⟩
set_option maxHeartbeats 8000000 in
theorem l09Told_noB {w : World} {da : Option Addr} {dn : Nat} {zs : List Int} {a : Option Addr} {n : Nat} {a2 : Option Addr} {n2 : Nat} {V : List (List Tm)} (dc c : Nat) (k : Int) (c2 : Nat) (hd : Ints w da dn zs) (hdn : dn ≤ 1048576) (hF2 : Frms w a2 n2 V) (hn2 : n2 ≤ 1048576) (hL2 : ∀ im ∈ V, (im.length : Int) ≤ 4000000) (hk : k ≤ 12) (hB : V.all (isF zs) = false) :
    Calls Tryz.prog 33 #[.agg #[.slice da dn dc,.slice a n c],.agg #[.int .i64 k,.slice a2 n2 c2]] w fun e w'=>e=.returned (.tuple #[.agg #[.int .i64 0,.slice none 0 0],.int .i64 3])∧Below w.heap.size w w':=by
 have HLL2:=Lib.hid hL2
 have HLn:=Lib.hid hF2.len
 have HD:=Lib.hid hd
 have HFF:=Lib.hid hF2
 clear hL2
 obtain ⟨hA,hT,hR,hb⟩:=own3' w 36 32 32 #[.slice da dn dc,.slice a n c] #[.int .i64 k,.slice a2 n2 c2] #[.int .i64 0,.slice none 0 0]
 go_enter Tryz.func33,Tryz.ntmps33
 go_upto_region 1 with fail
 generalize ((w.alloc (.cells #[.slice da dn dc,.slice a n c] 36)).alloc (.cells #[.int .i64 k,.slice a2 n2 c2] 32)).alloc (.cells #[.int .i64 0,.slice none 0 0] 32)=w0 at *
 generalize hg2:w.heap.size+1+1=g2 at *
 generalize hg1:w.heap.size+1=g1 at *
 generalize hg0:w.heap.size=g0 at *
 have HG:=Lib.hid hg0
 have e1:=hg1
 have e2:=hg2
 clear hg0 hg1 hg2
 have t0:=hT.cell 0
 have HB:=Lib.hid hB
 clear hB
 have hk1:¬k > 12:=by omega
 go_wp2_with fail
 clear t0
 go_loopw [6] (fun y wr=>∃i:Nat,i≤n2∧y=.int .i64 i∧Below g0 w wr∧Own wr g0 36 #[.slice da dn dc,.slice a n c]∧Own wr g1 32 #[.int .i64 k,.slice a2 n2 c2]∧Own wr g2 32 #[.int .i64 0,.slice none 0 0]∧Hid (∀(j:Nat) ts,j<i→V[j]? = some ts→isF zs ts=true)) (fun y _=>n2 - (intOf y).toNat)
 case atStart=>exact ⟨0,Nat.zero_le _,rfl,hb,hA,hT,hR,Lib.hid (fun j _ h=>absurd h (by omega))⟩
 case round=>
  clear hb hA hT hR;obtain ⟨i,hi,rfl,hb,hA,hT,hR,HJ⟩:=hrel;have hbw:Below w.heap.size w wr:=(by rw [HG.out];exact hb);have t1:=hT.cell 1;by_cases hlt:i<n2
  · obtain ⟨b,off,ts,ai,ni,ci,rfl,hbl,hc,hTs,hni,hx⟩:=(HFF.out.keep hbw).at_ hlt;have hni2:ni≤4000000:=(by have:=HLL2.out ts (List.mem_of_getElem? hx.out);have:=hTs.len;omega);have hi0:(0:Int)≤(i:Int):=(by omega);have hin:(i:Int)<(n2:Int):=(by omega);go_upto_region 6 with fail
    clear t1;have hDn:=HD.out.keep hbw;replace hA:Own wr.drew g0 36 #[.slice da dn dc,.slice a n c]:=hA;replace hT:Own wr.drew g1 32 #[.int .i64 k,.slice (some ⟨b,off,none⟩) n2 c2]:=hT;replace hR:Own wr.drew g2 32 #[.int .i64 0,.slice none 0 0]:=hR;replace hc:wr.drew.cell? ⟨b,off+i,none⟩=some (.slice ai ni ci):=hc;replace hTs:=hTs.keep ((Below.refl _ _).drew:Below wr.heap.size wr wr.drew);replace hDn:=hDn.keep ((Below.refl _ _).drew:Below wr.heap.size wr wr.drew);replace hb:Below g0 w wr.drew:=hb.drew;clear hbw;cases hq:isF zs ts
    · have HQ:Hid ((listOk zs ts && decide (ts.length≤400))=false):=Lib.hid hq;clear hq
      go_region_held3 (fun w'=>w'.cell? ⟨g0,0,none⟩=some (.slice da dn dc)∧w'.cell? ⟨g1,1,none⟩=some (.slice (some ⟨b,off,none⟩) n2 c2)∧w'.cell? ⟨b,off+i,none⟩=some (.slice ai ni ci)) (exact ⟨hA.cell 0,hT.cell 1,hc⟩)
       (first | (go_at_call 56;refine (l01Is_cB dc ci hDn hdn hTs hni2).mono ?_;rintro e wv ⟨rfl,hbv⟩;rw [HQ.out];have hA':=hA.keep hbv hA.lt;have hT':=hT.keep hbv hT.lt;have hR':=hR.keep hbv hR.lt;have hb':=bT' hb hbv (Nat.le_of_lt hA.lt);have hc':=(World.cell?_of_block (a:=⟨b,off+i,none⟩) (hbv.block b (World.block_lt_of_cell? _ _ hc))).trans hc;clear hA hT hR hb hc;have hA:=hA';have hT:=hT';have hR:=hR';have hb:=hb';have hc:=hc'))
      have r0:=hR.cell 0;have r1:=hR.cell 1;have f0:=hR.frozen 0;have f1:=hR.frozen 1;go_wp2_with fail
      have q:=(hR.set 0 (.int .i64 0)).set 1 (.slice none 0 0);have qb:=(hb.setCell (p:=⟨g2,0,none⟩) (by dsimp only;omega) (.int .i64 0)).setCell (p:=⟨g2,1,none⟩) (by dsimp only;omega) (.slice none 0 0);exact bodyPost_ret (results_row2 rfl _ _ g2 32 #[.int .i64 0,.slice none 0 0] (0,0) _ rfl q Tryz.underlying32 rfl Tryz.info_der) rfl ⟨rfl,by rw [HG.out];exact qb⟩
    · have HQ:Hid ((listOk zs ts && decide (ts.length≤400))=true):=Lib.hid hq;clear hq
      go_region_held3 (fun w'=>w'.cell? ⟨g0,0,none⟩=some (.slice da dn dc)∧w'.cell? ⟨g1,1,none⟩=some (.slice (some ⟨b,off,none⟩) n2 c2)∧w'.cell? ⟨b,off+i,none⟩=some (.slice ai ni ci)) (exact ⟨hA.cell 0,hT.cell 1,hc⟩)
       (first | (go_at_call 56;refine (l01Is_cB dc ci hDn hdn hTs hni2).mono ?_;rintro e wv ⟨rfl,hbv⟩;rw [HQ.out];have hA':=hA.keep hbv hA.lt;have hT':=hT.keep hbv hT.lt;have hR':=hR.keep hbv hR.lt;have hb':=bT' hb hbv (Nat.le_of_lt hA.lt);have hc':=(World.cell?_of_block (a:=⟨b,off+i,none⟩) (hbv.block b (World.block_lt_of_cell? _ _ hc))).trans hc;clear hA hT hR hb hc;have hA:=hA';have hT:=hT';have hR:=hR';have hb:=hb';have hc:=hc'))
      go_wp2_with fail
      go_roundw
      case rel=>
       refine ⟨i+1,by omega,by go_num,hb,hA,hT,hR,Lib.hid (fun j us hj hu=>?_)⟩;by_cases e:j=i
       · rw [e,hx.out] at hu;rw [←Option.some.inj hu];exact HQ.out
       · exact HJ.out j us (by omega) hu
      case measure=>simp [intOf] <;> omega
  · have he:i=n2:=(by omega);subst he;exfalso
    have h1:=HB.out
    have h2:V.all (isF zs)=true:=by
     rw [List.all_eq_true];intro ts hts;obtain ⟨j,hj,rfl⟩:=List.mem_iff_getElem.1 hts;exact HJ.out j _ (by rw [←HLn.out];exact hj) (List.getElem?_eq_getElem hj)
    rw [h1] at h2;cases h2
end Go.Proofs.YtdppjlndcacfnaaGreat
