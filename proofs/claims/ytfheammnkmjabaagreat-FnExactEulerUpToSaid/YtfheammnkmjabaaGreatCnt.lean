
import Derived.Test.YtfheammnkmjabaaGreatMatD
import Derived.Test.YtfheammnkmjabaaGreatResult
namespace Go.Proofs.YtfheammnkmjabaaGreat
set_option maxRecDepth 100000
open Go.RowKit Go.Deep
theorem Tryz.info_rowsC:(Tryz.prog.info? 22).map (fun i=>(i.zero,i.size,i.bytes))=some (some (.slice none 0 0),1,24):=by kernel_rfl
theorem make_rowsC (n : Nat) (hn : n ≤ 1000) (w : World) :
    (Instr.makeSlice 64 (.int .i64 ((n:Int)+1)) (.int .i64 ((n:Int)+1))).run Tryz.prog w=.ok (.slice (some ⟨w.heap.size,0,none⟩) (n+1) (n+1)) (w.alloc (.cells (Array.replicate (n+1) (Value.slice none 0 0)) 22)):=by
 have h:=run_make_row' (P:=Tryz.prog) 64 22 (.slice none 0 0) 24 Tryz.underlying64 Tryz.info_rowsC rfl .i64 .i64 (n+1) (by omega) (by omega) w
 rw [Int.natCast_add] at h
 rwa [show madeCells #[Value.slice none 0 0] (n+1)=Array.replicate (n+1) (Value.slice none 0 0) by (apply Array.ext';rw [toList_madeCells_one];simp)] at h
theorem make_intsC (n : Nat) (hn : n ≤ 1000) (w : World) :
    (Instr.makeSlice 22 (.int .i64 ((n:Int)+1)) (.int .i64 ((n:Int)+1))).run Tryz.prog w=.ok (.slice (some ⟨w.heap.size,0,none⟩) (n+1) (n+1)) (w.alloc (.cells (Array.replicate (n+1) (Value.int .i64 0)) 2)):=by
 have h:=run_make_row' (P:=Tryz.prog) 22 2 (.int .i64 0) 8 Tryz.underlying22 Tryz.info_int64 rfl .i64 .i64 (n+1) (by omega) (by omega) w
 rw [Int.natCast_add] at h
 rwa [show madeCells #[Value.int .i64 0] (n+1)=Array.replicate (n+1) (Value.int .i64 0) by (apply Array.ext';rw [toList_madeCells_one];simp)] at h
def tabC (gf:Nat→Nat) (lo n r:Nat):List Value:=(List.range (n+1)).map fun j=>if lo≤j then Value.slice (some ⟨gf j,0,none⟩) (r+1) (r+1) else .slice none 0 0
def ofI (zs:List Int):Array Value:=(zs.map (Value.int .i64)).toArray
theorem ofI_set {zs:List Int} {i:Nat} {x:Int}:(ofI zs).setIfInBounds i (.int .i64 x)=ofI (zs.set i x):=by simp [ofI,List.map_set]
theorem ofI_rep (n:Nat):Array.replicate n (Value.int .i64 0)=ofI (List.replicate n 0):=by simp [ofI]
theorem ofI_get {zs:List Int} {i:Nat} {x:Int} (h:zs[i]? = some x):(ofI zs)[i]? = some (.int .i64 x):=by simp [ofI,h]
def upd (gf:Nat→Nat) (i q:Nat) (j:Nat):Nat:=if j=i then q else gf j
theorem tabC_get {gf:Nat→Nat} {lo n r j:Nat} (h1:lo≤j) (h2:j≤n):(tabC gf lo n r).toArray[j]? = some (.slice (some ⟨gf j,0,none⟩) (r+1) (r+1)):=by
 rw [List.getElem?_toArray,tabC,List.getElem?_map,List.getElem?_range (by omega)]
 simp [h1]
theorem tabC_len (gf:Nat→Nat) (lo n r:Nat):(tabC gf lo n r).length=n+1:=by simp [tabC]
theorem tabC_none (gf:Nat→Nat) (n r:Nat):Array.replicate (n+1) (Value.slice none 0 0)=(tabC gf (n+1) n r).toArray:=by
 apply Array.ext'
 simp only [Array.toList_replicate,tabC]
 apply List.ext_getElem?
 intro j
 by_cases h:j<n+1
 · rw [List.getElem?_map,List.getElem?_range h,List.getElem?_replicate,if_pos h];simp only [Option.map_some];rw [if_neg (by omega)]
 · rw [List.getElem?_eq_none (by simp;omega),List.getElem?_eq_none (by simp;omega)]
theorem tabC_set {gf:Nat→Nat} {lo n r q:Nat} (h:lo≤n):(tabC gf (lo+1) n r).toArray.setIfInBounds lo (.slice (some ⟨q,0,none⟩) (r+1) (r+1))=(tabC (upd gf lo q) lo n r).toArray:=by
 rw [List.setIfInBounds_toArray]
 congr 1
 apply List.ext_getElem?
 intro j
 rw [List.getElem?_set,tabC_len]
 by_cases hj:lo=j
 · subst hj;rw [if_pos rfl,if_pos (by omega),tabC,List.getElem?_map,List.getElem?_range (by omega)];simp [upd]
 · rw [if_neg hj,tabC,tabC,List.getElem?_map,List.getElem?_map]
   have hu:upd gf lo q j=gf j:=by
    rw [upd,if_neg];exact fun e=>hj e.symm
   by_cases h2:j<n+1
   · rw [List.getElem?_range h2];simp only [Option.map_some,hu];by_cases h3:lo≤j
     · rw [if_pos h3,if_pos (show lo+1≤j by omega)]
     · rw [if_neg h3,if_neg (show ¬lo+1≤j by omega)]
   · rw [List.getElem?_eq_none (by simp;omega)];rfl
theorem far_cell {w:World} {g i:Nat} {p:Addr} {u v:Value} (h:w.cell? ⟨g,i,none⟩=some v) (hp:g≠p.block):(w.setCell p u).cell? ⟨g,i,none⟩=some v:=
 (World.cell?_of_block (a:=⟨g,i,none⟩) (Below.heap_setCell w p u g hp)).trans h
structure CntT (w:World) (g:Nat) (gf:Nat→Nat) (lo n r:Nat) (zs:List Int):Prop where
 own:Own w g 22 (tabC gf lo n r).toArray
 row:∀j,lo≤j→j≤n→Own w (gf j) 2 (ofI (cntR (zs.drop j) r))
theorem own_neC {w:World} {g g':Nat} {t t':TypeId} {cs cs':Array Value} (h:Own w g t cs) (h':Own w g' t' cs') (hne:t≠t'):g≠g':=fun e=>by
 subst e
 have:=h.symm.trans h'
 simp only [Option.some.injEq,Obj.cells.injEq] at this
 exact hne this.2.1
theorem CntT.keep {w w':World} {g:Nat} {gf:Nat→Nat} {lo n r:Nat} {zs:List Int} (h:CntT w g gf lo n r zs) (hb:Below w.heap.size w w'):CntT w' g gf lo n r zs:=
 ⟨h.own.keep hb h.own.lt,fun j h1 h2=>(h.row j h1 h2).keep hb (h.row j h1 h2).lt⟩
theorem CntT.put {w:World} {g q:Nat} {gf:Nat→Nat} {lo n r:Nat} {zs:List Int} (h:CntT w g gf (lo+1) n r zs) (hn:lo≤n) (hq:∀j,lo+1≤j→j≤n→gf j≠q) (ho:Own w q 2 (ofI (cntR (zs.drop lo) r))) (hO:Own w g 22 (tabC (upd gf lo q) lo n r).toArray):CntT w g (upd gf lo q) lo n r zs:=by
 refine ⟨hO,fun j h1 h2=>?_⟩
 by_cases e:j=lo
 · subst e;simpa [upd] using ho
 · have:upd gf lo q j=gf j:=(by simp [upd,e]);rw [this];exact h.row j (by omega) h2
theorem degs_at {zs:List Int} {i:Nat} {d:Int} (h:degsOk zs=true) (hz:zs[i]? = some d):1≤d∧d≤12:=by
 unfold degsOk at h
 simp only [Bool.and_eq_true,List.all_eq_true] at h
 have:=h.1 d (List.mem_of_getElem? hz)
 simpa [okDeg] using this
set_option maxHeartbeats 4000000 in
theorem countMonomials_c {w : World} {a : Option Addr} {n r : Nat} {zs : List Int} (c : Nat) (h : Ints w a n zs) (hz : degsOk zs = true) (hr : r ≤ 900) :
    Calls Tryz.prog 76 #[.slice a n c,.int .i64 r] w fun e w'=>∃g gf,e=.returned (.slice (some ⟨g,0,none⟩) (n+1) (n+1))∧w.heap.size≤g∧(∀j,j≤n→g<gf j)∧CntT w' g gf 0 n r zs∧Below w.heap.size w w':=by
 have HL:=Lib.hid h.len
 have h8:n≤8:=by have:=degsOk_len hz;have:=HL.out;omega
 have HZ:=Lib.hid hz
 have HH:=Lib.hid h
 clear h hz
 have hmk:=make_rowsC n (by omega) w
 have hT:=Own.new w 22 (Array.replicate (n+1) (Value.slice none 0 0))
 have hb:=bA1 w (.cells (Array.replicate (n+1) (Value.slice none 0 0)) 22)
 rw [tabC_none (fun _=>0) n r] at hT hb hmk
 have hn0:(0:Int)≤(n:Int):=by omega
 have hnn:(n:Int)<(n:Int)+1:=by omega
 go_enter Tryz.func76,Tryz.ntmps76
 go_upto_region 2 with fail
 generalize w.alloc (.cells (tabC (fun _=>0) (n+1) n r).toArray 22)=w0 at *
 generalize hg:w.heap.size=g at *
 have HG:=Lib.hid hg
 clear hmk hg
 have hmk:=make_intsC r (by omega) w0
 have hq:=Own.new w0 2 (Array.replicate (r+1) (Value.int .i64 0))
 have hba:=bA1 w0 (.cells (Array.replicate (r+1) (Value.int .i64 0)) 2)
 have HGQ:=Lib.hid hT.lt
 replace hT:=hT.keep hba hT.lt
 replace hb:=bT' hb hba (Nat.le_of_lt HGQ.out)
 have fz:=hT.frozen n
 obtain ⟨ov,hov⟩:=hT.has (i:=n) (by rw [List.size_toArray,tabC_len];omega)
 go_upto_region 3 with fail
 have hgq:=HGQ.out
 clear HGQ
 generalize hq0:w0.heap.size=q at *
 generalize w0.alloc (.cells (Array.replicate (r+1) (Value.int .i64 0)) 2)=wa at *
 have hT2:=hT.set n (.slice (some ⟨q,0,none⟩) (r+1) (r+1))
 rw [tabC_set (Nat.le_refl n)] at hT2
 have hq2:=hq.far (p:=⟨g,n,none⟩) (by dsimp only;omega) (.slice (some ⟨q,0,none⟩) (r+1) (r+1))
 have hb2:=hb.setCell (p:=⟨g,n,none⟩) (by dsimp only;omega) (.slice (some ⟨q,0,none⟩) (r+1) (r+1))
 generalize wa.setCell ⟨g,n,none⟩ (.slice (some ⟨q,0,none⟩) (r+1) (r+1))=w1 at *
 clear hT hq hb hba hmk fz hov hq0
 rw [ofI_rep] at hq2
 have c1:=hT2.cell n
 rw [tabC_get (Nat.le_refl _) (Nat.le_refl _),upd,if_pos rfl] at c1
 have f2:=hq2.frozen 0
 obtain ⟨o2,ho2⟩:=hq2.has (i:=0) (by simp [ofI])
 go_upto_region 5 with fail
 have hq3:=hq2.set 0 (.int .i64 1)
 rw [ofI_set,cntR_nil] at hq3
 have hT3:=hT2.far (p:=⟨q,0,none⟩) (by dsimp only;omega) (.int .i64 1)
 have hb3:=hb2.setCell (p:=⟨q,0,none⟩) (by dsimp only;omega) (.int .i64 1)
 generalize w1.setCell ⟨q,0,none⟩ (.int .i64 1)=w2 at *
 clear hT2 hq2 hb2 c1 f2 ho2
 have hC:CntT w2 g (upd (fun _=>0) n q) n n r zs:=⟨hT3,fun j h1 h2=>by
  have e:j=n:=(by omega);subst e;rw [upd,if_pos rfl,List.drop_of_length_le (Nat.le_of_eq HL.out)]
  exact hq3⟩
 have hgf:∀j,n≤j→j≤n→g<upd (fun _=>0) n q j:=fun j h1 h2=>by
  have e:j=n:=(by omega);subst e;rw [upd,if_pos rfl];exact hgq
 have HC:=Lib.hid hC
 have HGF:=Lib.hid hgf
 clear hT3 hq3 hC hgf
 go_loopw [6] (fun i wr=>∃(lo:Nat) (x:Int) (gf:Nat→Nat),lo≤n∧i=.int .i64 x∧Hid (x=(lo:Int) - 1)∧Hid (CntT wr g gf lo n r zs)∧Hid (∀j,lo≤j→j≤n→g<gf j)∧Below g w wr) (fun i _=>(intOf i+1).toNat)
 case atStart=>exact ⟨n,(n:Int) - 1,_,Nat.le_refl _,rfl,Lib.hid rfl,HC,HGF,hb3⟩
 case round=>
  clear HC HGF hb3;obtain ⟨lo,x,gf,hlo,rfl,hx,HC,HGF,hb⟩:=hrel
  rcases Nat.eq_zero_or_pos lo with rfl | hpos
  · obtain rfl:x=-1:=(by have:=hx.out;omega);go_wp2_with fail
    go_ret
    exact ⟨g,gf,rfl,by rw [HG.out];exact Nat.le_refl _,fun j hj=>HGF.out j (Nat.zero_le _) hj,HC.out,by rw [HG.out];exact hb⟩
  obtain ⟨k,rfl⟩:∃k,lo=k+1:=⟨lo - 1,by omega⟩;obtain rfl:x=(k:Int):=(by have:=hx.out;omega);clear hx hpos;obtain ⟨b,off,d,ha,hbl,hcd,hxd⟩:=(HH.out).at_ (k:=k) (by omega);have hdd:=degs_at HZ.out hxd.out;obtain ⟨D,rfl⟩:∃D:Nat,d=(D:Int):=⟨d.toNat,by omega⟩;obtain ⟨hD1,hD2⟩:1≤D∧D≤12:=(by omega);have HDR:=Lib.hid (drop_at hxd.out);have HCAP:=Lib.hid (capAt_gx hxd.out);have HDT:Hid ((D:Int).toNat=D):=Lib.hid (by omega);obtain ⟨Z,hZ⟩:∃Z,zs.drop (k+1)=Z:=⟨_,rfl⟩;have HZL:Hid (Z.length≤7):=Lib.hid (by rw [←hZ,List.length_drop,HL.out];omega);rw [hZ] at HDR;have HZZ:=Lib.hid hZ;clear hZ hdd;subst ha;have hcdw:wr.cell? ⟨b,off+k,none⟩=some (.int .i64 D):=(World.cell?_of_block (a:=⟨b,off+k,none⟩) (hb.block b (by rw [←HG.out];exact hbl))).trans hcd;have hT:=HC.out.own;have hRow:=HC.out.row;have hmk:=make_intsC r (by omega) wr;have hq:=Own.new wr 2 (Array.replicate (r+1) (Value.int .i64 0));have hba:=bA1 wr (.cells (Array.replicate (r+1) (Value.int .i64 0)) 2);have HGQ:=Lib.hid hT.lt;have HLT:Hid (∀j,k+1≤j→j≤n→gf j≠wr.heap.size):=Lib.hid (fun j h1 h2 e=>by have:=(hRow j h1 h2).lt;omega);have HRW:Hid (∀j,k+1≤j→j≤n→Own (wr.alloc (.cells (Array.replicate (r+1) (Value.int .i64 0)) 2)) (gf j) 2 (ofI (cntR (zs.drop j) r))):=Lib.hid (fun j h1 h2=>(hRow j h1 h2).alloc _);replace hT:=hT.keep hba hT.lt;replace hb:=bT' hb hba (Nat.le_of_lt HGQ.out);have fz:=hT.frozen k;obtain ⟨ov,hov⟩:=hT.has (i:=k) (by rw [List.size_toArray,tabC_len];omega);have hk0:(0:Int)≤(k:Int):=(by omega);have hkn:(k:Int)<(n:Int)+1:=(by omega);have hkn':(k:Int)<(n:Int):=(by omega);clear HC hRow;go_upto_region 8 with fail
  have hgq:=HGQ.out;clear HGQ;generalize hq0:wr.heap.size=q at *;generalize wr.alloc (.cells (Array.replicate (r+1) (Value.int .i64 0)) 2)=wa at *;have hT2:=hT.set k (.slice (some ⟨q,0,none⟩) (r+1) (r+1));rw [tabC_set (by omega)] at hT2;have hq2:=hq.far (p:=⟨g,k,none⟩) (by dsimp only;omega) (.slice (some ⟨q,0,none⟩) (r+1) (r+1));have hb2:=hb.setCell (p:=⟨g,k,none⟩) (by dsimp only;omega) (.slice (some ⟨q,0,none⟩) (r+1) (r+1));have HRW2:Hid (∀j,k+1≤j→j≤n→Own (wa.setCell ⟨g,k,none⟩ (.slice (some ⟨q,0,none⟩) (r+1) (r+1))) (gf j) 2 (ofI (cntR (zs.drop j) r))):=Lib.hid (fun j h1 h2=>(HRW.out j h1 h2).far (p:=⟨g,k,none⟩) (by have:=HGF.out j h1 h2;dsimp only;omega) _);generalize wa.setCell ⟨g,k,none⟩ (.slice (some ⟨q,0,none⟩) (r+1) (r+1))=w1 at *;rw [ofI_rep,←mixR_zero (D:Int) Z r] at hq2;clear hT hq hb hba hmk fz hov HRW hcdw;go_upto_region 9 with fail
  go_loopw [7] (fun e wr=>∃(e':Nat),e'≤gx (D:Int)+1∧e=.int .i64 e'∧Own wr g 22 (tabC (upd gf k q) k n r).toArray∧Own wr q 2 (ofI ((List.range (r+1)).map fun s=>(cpart (D:Int) Z e' s:Int)))∧Hid (∀j,k+1≤j→j≤n→Own wr (gf j) 2 (ofI (cntR (zs.drop j) r)))∧Below g w wr) (fun e _=>(gx (D:Int)+1) - (intOf e).toNat)
  case atStart=>exact ⟨0,Nat.zero_le _,rfl,hT2,hq2,HRW2,hb2⟩
  case round=>
   clear hT2 hq2 HRW2 hb2;obtain ⟨e,he,rfl,hT,hq,HRW,hb⟩:=hrel;have hgx:=gx_le (D:Int);have HI:=Lib.hid (HH.out.keep (show Below w.heap.size w _ by rw [HG.out];exact hb));obtain ⟨G,hG⟩:∃G,gx (D:Int)=G:=⟨_,rfl⟩;rw [hG] at hgx he;have s3:IntKind.i64.wrap (G:Int)=(G:Int):=IntWalk.i64_in _ (by omega);rw [hG] at HCAP;have HGG:=Lib.hid hG;clear hG;by_cases hlt:e≤G
   · have hle:(e:Int)≤(G:Int):=(by omega);obtain ⟨P,hP⟩:∃P,e * D=P:=⟨_,rfl⟩;have hPD:(e:Int) * (D:Int)=(P:Int):=(by rw [←hP,Int.natCast_mul]);have hP2:P≤240:=(by rw [←hP];exact Nat.le_trans (Nat.mul_le_mul (show e≤20 by omega) hD2) (by omega));have s1:IntKind.i64.wrap ((e:Int) * (D:Int))=(P:Int):=(by rw [hPD];exact IntWalk.i64_in _ (by omega));have HP:=Lib.hid hP;have s1p:IntKind.i64.wrap (P:Int)=(P:Int):=IntWalk.i64_in _ (by omega);clear hP hPD;have hcdw:wr.cell? ⟨b,off+k,none⟩=some (.int .i64 D):=(World.cell?_of_block (a:=⟨b,off+k,none⟩) (hb.block b (by rw [←HG.out];exact hbl))).trans hcd;go_wp2_with fail
     refine (greatestExponent_c c k HI.out (by omega) (by omega)).mono ?_;rintro e1 w3 ⟨rfl,rfl⟩;rw [HCAP.out];go_upto_region 12 with fail
     clear hcdw
     have hq1:Own wr q 2 (ofI (mixR (D:Int) Z r e P)):=by
      rw [←HP.out];have:=mixR_start (D:Int) Z r e;rw [HDT.out] at this;rw [this];exact hq
     clear hq
     go_loopw [8] (fun t wr=>∃(t':Nat),P≤t'∧t'≤2000∧t=.int .i64 t'∧Own wr g 22 (tabC (upd gf k q) k n r).toArray∧Own wr q 2 (ofI (mixR (D:Int) Z r e t'))∧Hid (∀j,k+1≤j→j≤n→Own wr (gf j) 2 (ofI (cntR (zs.drop j) r)))∧Below g w wr) (fun t _=>(r+1) - (intOf t).toNat)
     case atStart=>exact ⟨P,Nat.le_refl _,by omega,rfl,hT,hq1,HRW,hb⟩
     case round=>
      clear hT hq1 HRW hb;obtain ⟨t,ht0,ht2,rfl,hT,hq,HRW,hb⟩:=hrel;by_cases htr:t≤r
      · have htr':(t:Int)≤(r:Int):=(by omega);obtain ⟨u,hu⟩:∃u,t - P=u:=⟨_,rfl⟩;have hu2:u≤r:=(by omega);have s4:(t:Int) - (P:Int)=(u:Int):=(by omega);have s2:IntKind.i64.wrap (u:Int)=(u:Int):=IntWalk.i64_in _ (by omega);have ht0':(0:Int)≤(t:Int):=(by omega);have ht1':(t:Int)<(r:Int)+1:=(by omega);have hu0':(0:Int)≤(u:Int):=(by omega);have hu1':(u:Int)<(r:Int)+1:=(by omega);obtain ⟨X,hX⟩:∃X:Nat,cpart (D:Int) Z e t=X:=⟨_,rfl⟩;obtain ⟨Y,hY⟩:∃Y:Nat,cnt Z u=Y:=⟨_,rfl⟩;have hpow:21 ^ Z.length≤21 ^ 7:=Nat.pow_le_pow_right (by omega) HZL.out;have hXb:X≤20 * 21 ^ 7:=(by rw [←hX];exact Nat.le_trans (cpart_le _ _ _ _) (Nat.mul_le_mul (by omega) hpow));have hYb:Y≤21 ^ 7:=(by rw [←hY];exact Nat.le_trans (cnt_le _ _) hpow);clear hpow;have s5:IntKind.i64.wrap ((X:Int)+(Y:Int))=(X:Int)+(Y:Int):=IntWalk.i64_in _ (by omega);have k1:=hT.cell k;rw [tabC_get (Nat.le_refl _) (by omega),upd,if_pos rfl] at k1;have k2:=hT.cell (k+1);rw [tabC_get (by omega) (by omega),upd,if_neg (by omega)] at k2;have k3:=hq.cell t;rw [ofI_get (mixR_get htr),hX] at k3;have hr1:=HRW.out (k+1) (Nat.le_refl _) (by omega);rw [HZZ.out] at hr1;have k4:=hr1.cell u;rw [ofI_get (cntR_get hu2),hY] at k4;have k5:wr.cell? ⟨b,off+k,none⟩=some (.int .i64 D):=(World.cell?_of_block (a:=⟨b,off+k,none⟩) (hb.block b (by rw [←HG.out];exact hbl))).trans hcd;have f3:=hq.frozen t;have hkk:(k:Int)+1<(n:Int)+1:=(by omega);have hk1:(0:Int)≤(k:Int)+1:=(by omega);have s6:IntKind.i64.wrap ((k:Int)+1)=(k:Int)+1:=IntWalk.i64_in _ (by omega);have s7:((k:Int)+1).toNat=k+1:=(by omega);obtain ⟨gk,hgk⟩:∃gk,gf (k+1)=gk:=⟨_,rfl⟩;rw [hgk] at k2 k4;have HGKQ:Hid (gk≠q):=Lib.hid (by rw [←hgk];exact HLT.out (k+1) (Nat.le_refl _) (by omega))
        have HST:Hid ((mixR (D:Int) Z r e t).set t ((X:Int)+(Y:Int))=mixR (D:Int) Z r e (t+1)):=Lib.hid (by
         rw [←hX,←hY,←hu,←HP.out];have:=mixR_step (d:=(D:Int)) (zs:=Z) (r:=r) (e:=e) htr (by rw [HDT.out,HP.out];exact ht0)
         rwa [HDT.out] at this)
        have HST2:=Lib.hid hu;clear hX hY hu hr1 hgk;go_upto_region 14 with fail
        replace hq:=hq.drew;replace hT:=hT.drew;replace hb:Below g w wr.drew:=hb.drew;have HRW0:Hid (∀j,k+1≤j→j≤n→Own wr.drew (gf j) 2 (ofI (cntR (zs.drop j) r))):=HRW;clear HRW;have HRW:=HRW0;clear HRW0;replace k3:wr.drew.cell? ⟨q,t,none⟩=some (.int .i64 X):=k3;clear f3;have f3:=hq.frozen t;replace k1:wr.drew.cell? ⟨g,k,none⟩=some (.slice (some ⟨q,0,none⟩) (r+1) (r+1)):=k1;replace k2:wr.drew.cell? ⟨g,k+1,none⟩=some (.slice (some ⟨gk,0,none⟩) (r+1) (r+1)):=k2;replace k4:wr.drew.cell? ⟨gk,u,none⟩=some (.int .i64 Y):=k4;replace k5:wr.drew.cell? ⟨b,off+k,none⟩=some (.int .i64 D):=k5;refine wp_region_held_drew (S:=(fun w'=>w'.cell? ⟨g,k,none⟩=some (.slice (some ⟨q,0,none⟩) (r+1) (r+1))∧w'.cell? ⟨g,k+1,none⟩=some (.slice (some ⟨gk,0,none⟩) (r+1) (r+1))∧w'.cell? ⟨gk,u,none⟩=some (.int .i64 Y)∧w'.cell? ⟨b,off+k,none⟩=some (.int .i64 D))) (by kernel_rfl) ?_ (fun _=>?_)
        · ((try dsimp only);(exact ⟨k1,k2,k4,k5⟩))
        generalize wr.drew=Wd at *;refine hdT 0 ?_;refine hdT 1 ?_;refine hdT 2 ?_;refine hdT 3 ?_;refine hdT 4 ?_;refine hdT 5 ?_;refine hdT 7 ?_;refine hdT 8 ?_;refine hdT 9 ?_;refine hdT 10 ?_;refine hdT 11 ?_;refine hdT 12 ?_;refine hdT 13 ?_;refine hdT 14 ?_;refine hdT 15 ?_;refine hdT 16 ?_;refine hdT 17 ?_;refine hdT 18 ?_;refine hdT 19 ?_;refine hdT 20 ?_;refine hdT 21 ?_;refine hdC 6 (fun K hK=>?_)
        (go_simp;try go_wp2_with fail)
        refine hK.out _ _ ?_ (fun _=>?_)
        · ((try dsimp only);(exact ⟨k1,k2,k4,k5⟩))
        clear hK K
        (try simp only [Act.put,pA,pB,pC])
        refine hdT 22 ?_;refine hdT 23 ?_;refine hdC 24 (fun K hK=>?_)
        (go_simp;go_wp2_with fail)
        have hq':=hq.set t (.int .i64 ((X:Int)+(Y:Int)));rw [ofI_set] at hq';have hT':=hT.far (p:=⟨q,t,none⟩) (by dsimp only;omega) (.int .i64 ((X:Int)+(Y:Int)));have HRW':Hid (∀j,k+1≤j→j≤n→Own (Wd.setCell ⟨q,t,none⟩ (.int .i64 ((X:Int)+(Y:Int)))) (gf j) 2 (ofI (cntR (zs.drop j) r))):=Lib.hid (fun j h1 h2=>(HRW.out j h1 h2).far (p:=⟨q,t,none⟩) (HLT.out j h1 h2) _);have hb':=hb.setCell (p:=⟨q,t,none⟩) (by dsimp only;omega) (.int .i64 ((X:Int)+(Y:Int)));replace k1:(Wd.setCell ⟨q,t,none⟩ (.int .i64 ((X:Int)+(Y:Int)))).cell? ⟨g,k,none⟩=some (.slice (some ⟨q,0,none⟩) (r+1) (r+1)):=far_cell k1 (by dsimp only;omega);replace k2:(Wd.setCell ⟨q,t,none⟩ (.int .i64 ((X:Int)+(Y:Int)))).cell? ⟨g,k+1,none⟩=some (.slice (some ⟨gk,0,none⟩) (r+1) (r+1)):=far_cell k2 (by dsimp only;omega);replace k4:(Wd.setCell ⟨q,t,none⟩ (.int .i64 ((X:Int)+(Y:Int)))).cell? ⟨gk,u,none⟩=some (.int .i64 Y):=far_cell k4 HGKQ.out;replace k5:(Wd.setCell ⟨q,t,none⟩ (.int .i64 ((X:Int)+(Y:Int)))).cell? ⟨b,off+k,none⟩=some (.int .i64 D):=far_cell k5 (by have:=HG.out;dsimp only;omega);generalize Wd.setCell ⟨q,t,none⟩ (.int .i64 ((X:Int)+(Y:Int)))=W1 at *;refine hK.out _ _ ?_ (fun _=>?_)
        · ((try dsimp only);(exact ⟨k1,k2,k4,k5⟩))
        clear hK K
        (try simp only [Act.put,pA,pB,pC])
        refine wpAnyH_done (by kernel_rfl) ?_ _;go_wp2_with fail
        go_roundw
        case rel=>exact ⟨t+1,by omega,by omega,by go_num,hT',by rw [←HST.out];exact hq',HRW',hb'⟩
        case measure=>simp [intOf] <;> omega
      · go_wp2_with fail
        go_roundw
        case rel=>
         refine ⟨e+1,by have:=HGG.out;omega,by go_num,hT,?_,HRW,hb⟩;have:=mixR_end (d:=(D:Int)) (zs:=Z) (r:=r) (e:=e) (t:=t) (by omega);rw [←this];exact hq
        case measure=>have:=HGG.out;simp [intOf] <;> omega
   · have hle:¬(e:Int)≤(G:Int):=(by omega);go_wp2_with fail
     refine (greatestExponent_c c k HI.out (by omega) (by omega)).mono ?_;rintro e1 w3 ⟨rfl,rfl⟩;rw [HCAP.out];go_wp2_with fail
     go_roundw
     case rel=>
      obtain rfl:e=G+1:=(by omega);have hdn:=mixR_done (d:=(D:Int)) (zs:=Z) (r:=r) (by omega);rw [HGG.out] at hdn;rw [hdn] at hq;refine ⟨k,(k:Int) - 1,upd gf k q,by omega,by go_num,Lib.hid rfl,Lib.hid ⟨hT,fun j h1 h2=>?_⟩,Lib.hid (fun j h1 h2=>?_),hb⟩
      · by_cases e:j=k
        · subst e;rw [upd,if_pos rfl,HDR.out];exact hq
        · rw [upd,if_neg e];exact HRW.out j (by omega) h2
      · by_cases e:j=k
        · rw [upd,if_pos e];exact hgq
        · rw [upd,if_neg e];exact HGF.out j (by omega) h2
     case measure=>simp [intOf] <;> omega
end Go.Proofs.YtfheammnkmjabaaGreat
