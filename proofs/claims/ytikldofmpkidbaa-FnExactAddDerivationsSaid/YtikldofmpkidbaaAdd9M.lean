
import Derived.Test.YtikldofmpkidbaaDerC
import Derived.Test.YtikldofmpkidbaaDerR
import Derived.Test.YtikldofmpkidbaaAddF
namespace Go.Proofs.Ytikldofmpkidbaa
set_option maxRecDepth 100000
open Go.RowKit Go.Deep
def sumAt (gss hss:List (List Tm)) (i:Nat):List Tm:=addT 1 (gss.getD i []) (hss.getD i [])
def sums (gss hss:List (List Tm)) (n:Nat):List (List Tm):=(List.range n).map (sumAt gss hss)
def okSums (gss hss:List (List Tm)) (n:Nat):Bool:=(List.range n).all fun i=>decide ((sumAt gss hss i).length≤400)
def ad9E (zs:List Int) (ims:List (List Tm)) (k:Int) (gss:List (List Tm)) (k2:Int) (hss:List (List Tm)):Int:=
 if derB zs ims k gss=true∧derB zs ims k2 hss=true then (if k=k2 then (if okSums gss hss zs.length=true then 0 else 3) else 2) else 1
def ad9D (zs:List Int) (ims:List (List Tm)) (k:Int) (gss:List (List Tm)) (k2:Int) (hss:List (List Tm)):Int:=if ad9E zs ims k gss k2 hss=0 then k else 0
def ad9I (zs:List Int) (ims:List (List Tm)) (k:Int) (gss:List (List Tm)) (k2:Int) (hss:List (List Tm)):List (List Tm):=if ad9E zs ims k gss k2 hss=0 then sums gss hss zs.length else []
section
variable {zs:List Int} {ims gss hss:List (List Tm)} {k k2:Int}
theorem ad9_ne {e:Int} (h:ad9E zs ims k gss k2 hss=e) (he:e≠0):ad9E zs ims k gss k2 hss=e∧ad9D zs ims k gss k2 hss=0∧ad9I zs ims k gss k2 hss=[]:=by
 refine ⟨h,?_,?_⟩
 · rw [ad9D,h,if_neg he]
 · rw [ad9I,h,if_neg he]
theorem ad9_1 (h:derB zs ims k gss=false∨derB zs ims k2 hss=false):ad9E zs ims k gss k2 hss=1:=by
 rw [ad9E,if_neg (fun hh=>by rcases h with h | h <;> simp [h] at hh)]
theorem ad9_2 (h1:derB zs ims k gss=true) (h2:derB zs ims k2 hss=true) (hk:¬k=k2):ad9E zs ims k gss k2 hss=2:=by rw [ad9E,if_pos ⟨h1,h2⟩,if_neg hk]
theorem ad9_3 (h1:derB zs ims k gss=true) (h2:derB zs ims k hss=true) (h:okSums gss hss zs.length=false):ad9E zs ims k gss k hss=3:=by rw [ad9E,if_pos ⟨h1,h2⟩,if_pos rfl,h];rfl
theorem ad9_0 (h1:derB zs ims k gss=true) (h2:derB zs ims k hss=true) (h:okSums gss hss zs.length=true):ad9E zs ims k gss k hss=0∧ad9D zs ims k gss k hss=k∧ad9I zs ims k gss k hss=sums gss hss zs.length:=by
 have e:ad9E zs ims k gss k hss=0:=by rw [ad9E,if_pos ⟨h1,h2⟩,if_pos rfl,h];rfl
 exact ⟨e,by rw [ad9D,if_pos e],by rw [ad9I,if_pos e]⟩
theorem derB_len (h:derB zs ims k gss=true):gss.length=zs.length:=by
 simp only [derB,Bool.and_eq_true,decide_eq_true_eq] at h
 exact h.2.2.1
theorem derB_alg (h:derB zs ims k gss=true):isAlg zs ims=true:=by
 simp only [derB,Bool.and_eq_true,decide_eq_true_eq] at h
 exact h.1
theorem derB_k (h:derB zs ims k gss=true):0≤k∧k≤12:=by
 simp only [derB,Bool.and_eq_true,decide_eq_true_eq] at h
 exact h.2.1
theorem derB_form (h:derB zs ims k gss=true) {i:Nat} {ts:List Tm} (hi:gss[i]? = some ts):isForm zs ts=true:=by
 simp only [derB,Bool.and_eq_true,decide_eq_true_eq] at h
 have h1:=h.2.2.2
 rw [derF,List.all_eq_true] at h1
 have h2:=h1 i (by simpa using (List.getElem?_eq_some_iff.1 hi).1)
 rw [derAt,List.getD_eq_getElem?_getD,hi] at h2
 exact zeroOr_form h2
theorem sums_len (n:Nat):(sums gss hss n).length=n:=by simp [sums]
theorem sums_succ (n:Nat):sums gss hss (n+1)=sums gss hss n++[sumAt gss hss n]:=by simp [sums,List.range_succ]
theorem sumAt_of {i:Nat} {fs gs:List Tm} (h1:gss[i]? = some fs) (h2:hss[i]? = some gs):sumAt gss hss i=addT 1 fs gs:=by
 rw [sumAt,List.getD_eq_getElem?_getD,List.getD_eq_getElem?_getD,h1,h2];rfl
theorem sums_tm {n:Nat} (h1:∀ts∈gss,∀t∈ts,IsTm t) (h2:∀ts∈hss,∀t∈ts,IsTm t):∀ts∈sums gss hss n,∀t∈ts,IsTm t:=by
 have hg:∀{V:List (List Tm)},(∀ts∈V,∀t∈ts,IsTm t)→∀i,∀t∈V.getD i [],IsTm t:=fun {V} hV i t ht=>by
  by_cases hi:i<V.length
  · rw [List.getD_eq_getElem?_getD,List.getElem?_eq_getElem hi] at ht;exact hV _ (List.getElem_mem hi) t ht
  · rw [List.getD_eq_getElem?_getD,List.getElem?_eq_none (by omega)] at ht;simp at ht
 intro ts hts
 obtain ⟨i,-,rfl⟩:=List.mem_map.1 hts
 exact addT_tm (hg h1 i) (hg h2 i)
def isF (zs:List Int) (ts:List Tm):Bool:=listOk zs ts && decide (ts.length≤400)
theorem isForm_lo9 {ts:List Tm} (h:isForm zs ts=true):listOk zs ts=true:=by
 simp only [isForm,Bool.and_eq_true] at h
 exact h.2.1
theorem isF_sum {i:Nat} {fs gs:List Tm} (h1:gss[i]? = some fs) (h2:hss[i]? = some gs) (t1:∀t∈fs,IsTm t) (t2:∀t∈gs,IsTm t) (f1:isForm zs fs=true) (f2:isForm zs gs=true):isF zs (sumAt gss hss i)=decide ((sumAt gss hss i).length≤400):=by
 rw [isF,sumAt_of h1 h2,addT_listOk t1 t2 (isForm_lo9 f1) (isForm_lo9 f2),Bool.true_and]
theorem sums_all {n:Nat} (hg:gss.length=n) (hh:hss.length=n) (t1:∀ts∈gss,∀t∈ts,IsTm t) (t2:∀ts∈hss,∀t∈ts,IsTm t) (f1:∀(i:Nat) ts,gss[i]? = some ts→isForm zs ts=true) (f2:∀(i:Nat) ts,hss[i]? = some ts→isForm zs ts=true):(sums gss hss n).all (isF zs)=okSums gss hss n:=by
 have:∀m,m≤n→(sums gss hss m).all (isF zs)=okSums gss hss m:=by
  intro m
  induction m with
  | zero=>intro _;rfl
  | succ m ih =>
    intro hm;have e1:gss[m]? = some gss[m]:=List.getElem?_eq_getElem (by omega);have e2:hss[m]? = some hss[m]:=List.getElem?_eq_getElem (by omega);rw [sums_succ,List.all_append,ih (by omega),okSums,okSums,List.range_succ,List.all_append];simp only [List.all_cons,List.all_nil,Bool.and_true];rw [isF_sum e1 e2 (t1 _ (List.getElem_mem _)) (t2 _ (List.getElem_mem _)) (f1 m _ e1) (f2 m _ e2)]
 exact this n (Nat.le_refl _)
theorem okSums_at {n i:Nat} (h:okSums gss hss n=true) (hi:i<n):(sumAt gss hss i).length≤400:=by
 rw [okSums,List.all_eq_true] at h
 simpa using h i (by simpa using hi)
theorem okSums_no {n i:Nat} (hi:i<n) (h:¬(sumAt gss hss i).length≤400):okSums gss hss n=false:=range_all_no hi (by simpa using h)
theorem okSums_yes {n:Nat} (h:∀i,i<n→(sumAt gss hss i).length≤400):okSums gss hss n=true:=by
 rw [okSums,List.all_eq_true]
 intro i hi
 simpa using h i (by simpa using hi)
theorem ad9I_bd:(∀ts∈ad9I zs ims k gss k2 hss,ts.length≤400)∧(ad9I zs ims k gss k2 hss).length≤8:=by
 rw [ad9I]
 split
 · rename_i h
   have hh:derB zs ims k gss=true∧derB zs ims k2 hss=true:=by
    apply Decidable.byContradiction
    intro hc;rw [ad9E,if_neg hc] at h;cases h
   rw [ad9E,if_pos hh] at h
   have hk:k=k2:=by
    apply Decidable.byContradiction
    intro hc;rw [if_neg hc] at h;cases h
   rw [if_pos hk] at h
   have ho:okSums gss hss zs.length=true:=by
    apply Decidable.byContradiction
    intro hc;rw [if_neg hc] at h;cases h
   refine ⟨fun ts hts=>?_,?_⟩
   · obtain ⟨i,hi,rfl⟩:=List.mem_map.1 hts;exact okSums_at ho (by simpa using hi)
   · rw [sums_len];have:=derB_alg hh.1;simp only [isAlg,Bool.and_eq_true] at this;exact degsOk_len this.1
 · exact ⟨by simp,by simp⟩
end
theorem sumLen_bd9:∀{V:List (List Tm)},(∀ts∈V,ts.length≤400)→sumLen V≤V.length * 400
 | [],_=>by simp [sumLen]
 | ts :: V, h => by
   have h1:=h ts (by simp);have h2:=sumLen_bd9 (V:=V) (fun x hx=>h x (by simp [hx]));have e:sumLen (ts::V)=ts.length+sumLen V:=(by simp [sumLen]);rw [e,List.length_cons];omega
set_option maxHeartbeats 8000000 in
theorem l09Told_yes {w : World} {da : Option Addr} {dn : Nat} {zs : List Int} {a : Option Addr} {n : Nat} {a2 : Option Addr} {n2 : Nat} {V : List (List Tm)} (dc c : Nat) (k : Int) (c2 : Nat) (hd : Ints w da dn zs) (hdn : dn ≤ 1048576) (hF2 : Frms w a2 n2 V) (hn2 : n2 ≤ 1048576) (hL2 : ∀ im ∈ V, (im.length : Int) ≤ 1048576) (hk : k ≤ 12) (hB : ∀ (i : Nat) ts, V[i]? = some ts → isF zs ts = true) :
    Calls Try.prog 71 #[.agg #[.slice da dn dc,.slice a n c],.agg #[.int .i64 k,.slice a2 n2 c2]] w fun e w'=>e=.returned (.tuple #[.agg #[.int .i64 k,.slice a2 n2 c2],.int .i64 0])∧Below w.heap.size w w':=by
 have HLL2:=Lib.hid hL2
 have HLn:=Lib.hid hF2.len
 have HD:=Lib.hid hd
 have HFF:=Lib.hid hF2
 clear hL2
 obtain ⟨hA,hT,hR,hb⟩:=own3' w 33 36 36 #[.slice da dn dc,.slice a n c] #[.int .i64 k,.slice a2 n2 c2] #[.int .i64 0,.slice none 0 0]
 go_enter Try.func71,Try.ntmps71
 go_upto_region 1 with fail
 generalize ((w.alloc (.cells #[.slice da dn dc,.slice a n c] 33)).alloc (.cells #[.int .i64 k,.slice a2 n2 c2] 36)).alloc (.cells #[.int .i64 0,.slice none 0 0] 36)=w0 at *
 generalize hg2:w.heap.size+1+1=g2 at *
 generalize hg1:w.heap.size+1=g1 at *
 generalize hg0:w.heap.size=g0 at *
 have HG:=Lib.hid hg0
 have e1:=hg1
 have e2:=hg2
 clear hg0 hg1 hg2
 have t0:=hT.cell 0
 have HB:=Lib.hid hB
 clear hB
 have hk1:¬k > 12:=by omega
 go_wp2_with fail
 clear t0
 go_loopw [6] (fun y wr=>∃i:Nat,i≤n2∧y=.int .i64 i∧Below g0 w wr∧Own wr g0 33 #[.slice da dn dc,.slice a n c]∧Own wr g1 36 #[.int .i64 k,.slice a2 n2 c2]∧Own wr g2 36 #[.int .i64 0,.slice none 0 0]) (fun y _=>n2 - (intOf y).toNat)
 case atStart=>exact ⟨0,Nat.zero_le _,rfl,hb,hA,hT,hR⟩
 case round=>
  clear hb hA hT hR;obtain ⟨i,hi,rfl,hb,hA,hT,hR⟩:=hrel;have hbw:Below w.heap.size w wr:=(by rw [HG.out];exact hb);have t1:=hT.cell 1;by_cases hlt:i<n2
  · obtain ⟨b,off,ts,ai,ni,ci,rfl,hbl,hc,hTs,hni,hx⟩:=(HFF.out.keep hbw).at_ hlt;have hni2:ni≤1048576:=(by have:=HLL2.out ts (List.mem_of_getElem? hx.out);have:=hTs.len;omega);have hi0:(0:Int)≤(i:Int):=(by omega);have hin:(i:Int)<(n2:Int):=(by omega);go_upto_region 6 with fail
    clear t1;have hDn:=HD.out.keep hbw;replace hA:Own wr.drew g0 33 #[.slice da dn dc,.slice a n c]:=hA;replace hT:Own wr.drew g1 36 #[.int .i64 k,.slice (some ⟨b,off,none⟩) n2 c2]:=hT;replace hR:Own wr.drew g2 36 #[.int .i64 0,.slice none 0 0]:=hR;replace hc:wr.drew.cell? ⟨b,off+i,none⟩=some (.slice ai ni ci):=hc;replace hTs:=hTs.keep ((Below.refl _ _).drew:Below wr.heap.size wr wr.drew);replace hDn:=hDn.keep ((Below.refl _ _).drew:Below wr.heap.size wr wr.drew);replace hb:Below g0 w wr.drew:=hb.drew;clear hbw;have HQ:Hid ((listOk zs ts && decide (ts.length≤400))=true):=Lib.hid (HB.out i ts hx.out)
    go_region_held3 (fun w' => w'.cell? ⟨g0, 0, none⟩ = some (.slice da dn dc) ∧ w'.cell? ⟨g1, 1, none⟩ = some (.slice (some ⟨b, off, none⟩) n2 c2) ∧ w'.cell? ⟨b, off + i, none⟩ = some (.slice ai ni ci)) (exact ⟨hA.cell 0, hT.cell 1, hc⟩)
        (first | (go_at_call 100;refine (l01Is_c dc ci hDn hdn hTs hni2).mono ?_;rintro e wv ⟨rfl,hbv⟩;rw [HQ.out];have hA':=hA.keep hbv hA.lt;have hT':=hT.keep hbv hT.lt;have hR':=hR.keep hbv hR.lt;have hb':=bT' hb hbv (Nat.le_of_lt hA.lt);have hc':=(World.cell?_of_block (a:=⟨b,off+i,none⟩) (hbv.block b (World.block_lt_of_cell? _ _ hc))).trans hc;clear hA hT hR hb hc;have hA:=hA';have hT:=hT';have hR:=hR';have hb:=hb';have hc:=hc'))
    go_wp2_with fail
    go_roundw
    case rel=>exact ⟨i+1,by omega,by go_num,hb,hA,hT,hR⟩
    case measure=>simp [intOf] <;> omega
  · have he:i=n2:=(by omega);subst he;have t0:=hT.cell 0;have r0:=hR.cell 0;have r1:=hR.cell 1;have f0:=hR.frozen 0;have f1:=hR.frozen 1;go_wp2_with fail
    have q:=(hR.set 0 (.int .i64 k)).set 1 (.slice a2 i c2);have qb:=(hb.setCell (p:=⟨g2,0,none⟩) (by dsimp only;omega) (.int .i64 k)).setCell (p:=⟨g2,1,none⟩) (by dsimp only;omega) (.slice a2 i c2);exact bodyPost_ret (results_row2 rfl _ _ g2 36 #[.int .i64 k,.slice a2 i c2] (0,0) _ rfl q Try.underlying36 rfl Try.info_der) rfl ⟨rfl,by rw [HG.out];exact qb⟩
set_option maxHeartbeats 8000000 in
theorem l09Told_no {w : World} {da : Option Addr} {dn : Nat} {zs : List Int} {a : Option Addr} {n : Nat} {a2 : Option Addr} {n2 : Nat} {V : List (List Tm)} (dc c : Nat) (k : Int) (c2 : Nat) (hd : Ints w da dn zs) (hdn : dn ≤ 1048576) (hF2 : Frms w a2 n2 V) (hn2 : n2 ≤ 1048576) (hL2 : ∀ im ∈ V, (im.length : Int) ≤ 1048576) (hk : k ≤ 12) (hB : V.all (isF zs) = false) :
    Calls Try.prog 71 #[.agg #[.slice da dn dc,.slice a n c],.agg #[.int .i64 k,.slice a2 n2 c2]] w fun e w'=>e=.returned (.tuple #[.agg #[.int .i64 0,.slice none 0 0],.int .i64 3])∧Below w.heap.size w w':=by
 have HLL2:=Lib.hid hL2
 have HLn:=Lib.hid hF2.len
 have HD:=Lib.hid hd
 have HFF:=Lib.hid hF2
 clear hL2
 obtain ⟨hA,hT,hR,hb⟩:=own3' w 33 36 36 #[.slice da dn dc,.slice a n c] #[.int .i64 k,.slice a2 n2 c2] #[.int .i64 0,.slice none 0 0]
 go_enter Try.func71,Try.ntmps71
 go_upto_region 1 with fail
 generalize ((w.alloc (.cells #[.slice da dn dc,.slice a n c] 33)).alloc (.cells #[.int .i64 k,.slice a2 n2 c2] 36)).alloc (.cells #[.int .i64 0,.slice none 0 0] 36)=w0 at *
 generalize hg2:w.heap.size+1+1=g2 at *
 generalize hg1:w.heap.size+1=g1 at *
 generalize hg0:w.heap.size=g0 at *
 have HG:=Lib.hid hg0
 have e1:=hg1
 have e2:=hg2
 clear hg0 hg1 hg2
 have t0:=hT.cell 0
 have HB:=Lib.hid hB
 clear hB
 have hk1:¬k > 12:=by omega
 go_wp2_with fail
 clear t0
 go_loopw [6] (fun y wr=>∃i:Nat,i≤n2∧y=.int .i64 i∧Below g0 w wr∧Own wr g0 33 #[.slice da dn dc,.slice a n c]∧Own wr g1 36 #[.int .i64 k,.slice a2 n2 c2]∧Own wr g2 36 #[.int .i64 0,.slice none 0 0]∧Hid (∀(j:Nat) ts,j<i→V[j]? = some ts→isF zs ts=true)) (fun y _=>n2 - (intOf y).toNat)
 case atStart=>exact ⟨0,Nat.zero_le _,rfl,hb,hA,hT,hR,Lib.hid (fun j _ h=>absurd h (by omega))⟩
 case round=>
  clear hb hA hT hR;obtain ⟨i,hi,rfl,hb,hA,hT,hR,HJ⟩:=hrel;have hbw:Below w.heap.size w wr:=(by rw [HG.out];exact hb);have t1:=hT.cell 1;by_cases hlt:i<n2
  · obtain ⟨b,off,ts,ai,ni,ci,rfl,hbl,hc,hTs,hni,hx⟩:=(HFF.out.keep hbw).at_ hlt;have hni2:ni≤1048576:=(by have:=HLL2.out ts (List.mem_of_getElem? hx.out);have:=hTs.len;omega);have hi0:(0:Int)≤(i:Int):=(by omega);have hin:(i:Int)<(n2:Int):=(by omega);go_upto_region 6 with fail
    clear t1;have hDn:=HD.out.keep hbw;replace hA:Own wr.drew g0 33 #[.slice da dn dc,.slice a n c]:=hA;replace hT:Own wr.drew g1 36 #[.int .i64 k,.slice (some ⟨b,off,none⟩) n2 c2]:=hT;replace hR:Own wr.drew g2 36 #[.int .i64 0,.slice none 0 0]:=hR;replace hc:wr.drew.cell? ⟨b,off+i,none⟩=some (.slice ai ni ci):=hc;replace hTs:=hTs.keep ((Below.refl _ _).drew:Below wr.heap.size wr wr.drew);replace hDn:=hDn.keep ((Below.refl _ _).drew:Below wr.heap.size wr wr.drew);replace hb:Below g0 w wr.drew:=hb.drew;clear hbw;cases hq:isF zs ts
    · have HQ:Hid ((listOk zs ts && decide (ts.length≤400))=false):=Lib.hid hq;clear hq
      go_region_held3 (fun w'=>w'.cell? ⟨g0,0,none⟩=some (.slice da dn dc)∧w'.cell? ⟨g1,1,none⟩=some (.slice (some ⟨b,off,none⟩) n2 c2)∧w'.cell? ⟨b,off+i,none⟩=some (.slice ai ni ci)) (exact ⟨hA.cell 0,hT.cell 1,hc⟩)
       (first | (go_at_call 100;refine (l01Is_c dc ci hDn hdn hTs hni2).mono ?_;rintro e wv ⟨rfl,hbv⟩;rw [HQ.out];have hA':=hA.keep hbv hA.lt;have hT':=hT.keep hbv hT.lt;have hR':=hR.keep hbv hR.lt;have hb':=bT' hb hbv (Nat.le_of_lt hA.lt);have hc':=(World.cell?_of_block (a:=⟨b,off+i,none⟩) (hbv.block b (World.block_lt_of_cell? _ _ hc))).trans hc;clear hA hT hR hb hc;have hA:=hA';have hT:=hT';have hR:=hR';have hb:=hb';have hc:=hc'))
      have r0:=hR.cell 0;have r1:=hR.cell 1;have f0:=hR.frozen 0;have f1:=hR.frozen 1;go_wp2_with fail
      have q:=(hR.set 0 (.int .i64 0)).set 1 (.slice none 0 0);have qb:=(hb.setCell (p:=⟨g2,0,none⟩) (by dsimp only;omega) (.int .i64 0)).setCell (p:=⟨g2,1,none⟩) (by dsimp only;omega) (.slice none 0 0);exact bodyPost_ret (results_row2 rfl _ _ g2 36 #[.int .i64 0,.slice none 0 0] (0,0) _ rfl q Try.underlying36 rfl Try.info_der) rfl ⟨rfl,by rw [HG.out];exact qb⟩
    · have HQ:Hid ((listOk zs ts && decide (ts.length≤400))=true):=Lib.hid hq;clear hq
      go_region_held3 (fun w'=>w'.cell? ⟨g0,0,none⟩=some (.slice da dn dc)∧w'.cell? ⟨g1,1,none⟩=some (.slice (some ⟨b,off,none⟩) n2 c2)∧w'.cell? ⟨b,off+i,none⟩=some (.slice ai ni ci)) (exact ⟨hA.cell 0,hT.cell 1,hc⟩)
       (first | (go_at_call 100;refine (l01Is_c dc ci hDn hdn hTs hni2).mono ?_;rintro e wv ⟨rfl,hbv⟩;rw [HQ.out];have hA':=hA.keep hbv hA.lt;have hT':=hT.keep hbv hT.lt;have hR':=hR.keep hbv hR.lt;have hb':=bT' hb hbv (Nat.le_of_lt hA.lt);have hc':=(World.cell?_of_block (a:=⟨b,off+i,none⟩) (hbv.block b (World.block_lt_of_cell? _ _ hc))).trans hc;clear hA hT hR hb hc;have hA:=hA';have hT:=hT';have hR:=hR';have hb:=hb';have hc:=hc'))
      go_wp2_with fail
      go_roundw
      case rel=>
       refine ⟨i+1,by omega,by go_num,hb,hA,hT,hR,Lib.hid (fun j us hj hu=>?_)⟩;by_cases e:j=i
       · rw [e,hx.out] at hu;rw [←Option.some.inj hu];exact HQ.out
       · exact HJ.out j us (by omega) hu
      case measure=>simp [intOf] <;> omega
  · have he:i=n2:=(by omega);subst he;exfalso
    have h1:=HB.out
    have h2:V.all (isF zs)=true:=by
     rw [List.all_eq_true];intro ts hts;obtain ⟨j,hj,rfl⟩:=List.mem_iff_getElem.1 hts;exact HJ.out j _ (by rw [←HLn.out];exact hj) (List.getElem?_eq_getElem hj)
    rw [h1] at h2;cases h2
end Go.Proofs.Ytikldofmpkidbaa
