
import Derived.Test.YtifcfoijcodjbaaGreatElimC
import Derived.Test.YtifcfoijcodjbaaGreatTabOf
import Derived.Test.YtifcfoijcodjbaaGreatCode3
import Derived.Test.YtifcfoijcodjbaaGreatRref
import Derived.Test.YtifcfoijcodjbaaGreatSingle
import Derived.Test.YtifcfoijcodjbaaGreatRows3
namespace Go.Proofs.YtifcfoijcodjbaaGreat
set_option maxRecDepth 100000
open Go.RowKit Go.Deep
def mtE (zs:List Int) (ims:List (List Tm)) (n:Int):Int:=code3 zs ims (low1 n) n
theorem flat3_get {zs:List Int} {ims:List (List Tm)} {V:List (List Int)}:∀{U:List (List Int)} {i:Nat} {u:List Int},U[i]? = some u→∀(j:Nat) x,(dRow zs ims V u)[j]? = some x→(flat3 zs ims V U)[i * V.length+j]? = some x
 | [],i,u,h,_,_,_=>by simp at h
 | v :: U, 0, u, h, j, x, hx => by
   simp only [List.getElem?_cons_zero,Option.some.injEq] at h;subst h;rw [flat3,List.flatMap_cons,Nat.zero_mul,Nat.zero_add,List.getElem?_append_left (List.getElem?_eq_some_iff.1 hx).1];exact hx
 | v :: U, i + 1, u, h, j, x, hx => by
   rw [List.getElem?_cons_succ] at h;have ih:=flat3_get h j x hx;have hl:(dRow zs ims V v).length=V.length:=(by rw [dRow,rowT_len]);rw [flat3,List.flatMap_cons,List.getElem?_append_right (by rw [hl,Nat.succ_mul];omega),hl,show (i+1) * V.length+j - V.length=i * V.length+j by rw [Nat.succ_mul];omega];exact ih
theorem degs_one {zs:List Int} (h:degsOk zs=true):∀z∈zs,1≤z:=by
 intro z hz
 obtain ⟨i,hi,rfl⟩:=List.mem_iff_getElem.1 hz
 exact (degs_at h (List.getElem?_eq_getElem hi)).1
theorem code3_zero {zs:List Int} {ims:List (List Tm)} {n:Int} (h:code3 zs ims (low1 n) n=0):isAlg zs ims=true∧0≤n∧n≤20∧cnt zs n.toNat≤120∧cnt zs (n.toNat+1)≤120:=by
 unfold code3 at h
 split at h
 · omega
 · rename_i h1;split at h
   · omega
   · rename_i h2;split at h
     · omega
     · rename_i h3
       have h2':0≤n∧n≤20:=by
        by_cases hh:0≤n∧n≤20
        · exact hh
        · exact absurd hh h2
       have hg:gmx zs (low1 n) (n.toNat+1 - low1 n)≤120:=by
        by_cases hh:120<gmx zs (low1 n) (n.toNat+1 - low1 n)
        · exact absurd (by rw [many];exact decide_eq_true hh) h3
        · omega
       have hle:=gmx_le.1 hg;have hl:low1 n≤n.toNat:=(by unfold low1;omega);have q1:=hle (n.toNat - low1 n) (by omega);have q2:=hle (n.toNat+1 - low1 n) (by omega);rw [show low1 n+(n.toNat - low1 n)=n.toNat by omega] at q1;rw [show low1 n+(n.toNat+1 - low1 n)=n.toNat+1 by omega] at q2;exact ⟨by simpa using h1,h2'.1,h2'.2,by omega,by omega⟩
theorem basisOf0_c {w : World} (a : Option Addr) (c : Nat) :
    Calls Tryz.prog 135 #[.slice a 0 c] w fun e w'=>e=.returned (.agg #[.slice none 0 0,.slice none 0 0])∧Below w.heap.size w w':=by
 have hQ:=(Own.new w 86 #[.slice none 0 0,.slice none 0 0]).alloc (.cells #[.slice none 0 0,.slice none 0 0] 86)
 have hB:=Own.new (w.alloc (.cells #[.slice none 0 0,.slice none 0 0] 86)) 86 #[.slice none 0 0,.slice none 0 0]
 rw [sAl] at hB
 have hb:=bTn (bA1 w (.cells #[.slice none 0 0,.slice none 0 0] 86)) (bA1 _ (.cells #[.slice none 0 0,.slice none 0 0] 86))
 go_enter Tryz.func135,Tryz.ntmps135
 go_wp2_with fail
 go_step3
 go_upto_region 2 with fail
 generalize (w.alloc (.cells #[.slice none 0 0,.slice none 0 0] 86)).alloc (.cells #[.slice none 0 0,.slice none 0 0] 86)=w0 at *
 have b0:=hB.cell 0
 have b1:=hB.cell 1
 have r0:=hQ.cell 0
 have r1:=hQ.cell 1
 have q0:=hQ.frozen 0
 have q1:=hQ.frozen 1
 go_wp2_with fail
 (try rw [Exit.noGoto_ret])
 have s2:=(hQ.set 0 (.slice none 0 0)).set 1 (.slice none 0 0)
 exact bodyPost_ret (results_cell_row rfl _ _ w.heap.size 86 #[.slice none 0 0,.slice none 0 0] (0,0) _ rfl s2 Tryz.underlying86 rfl Tryz.info_basis) rfl ⟨rfl,(hb.setCell (p:=⟨w.heap.size,0,none⟩) (Nat.le_refl _) _).setCell (p:=⟨w.heap.size,1,none⟩) (Nat.le_refl _) _⟩
theorem dRow_ok {zs:List Int} {ims:List (List Tm)} (h:AlgOk zs ims) (V:List (List Int)) {u:List Int} (hm:IsMono u) (ok:monoOk zs u=true):RowOk V.length (dRow zs ims V u):=⟨by rw [dRow,rowT_len],fun x hx=>by
 rw [dRow,rowT] at hx
 obtain ⟨m,-,rfl⟩:=List.mem_map.1 hx
 have hs:=h.diff [⟨u,1⟩] [] 0 (fun t ht=>by
  obtain rfl:t=⟨u,1⟩:=by simpa using ht
  exact ⟨hm,by dsimp only;omega,by dsimp only;omega⟩) (fun t ht=>by
  obtain rfl:t=⟨u,1⟩:=by simpa using ht
  exact ok) sum9_nil
 exact coef_bd hs.bd⟩
def fmR (V:List (List Int)) (R:List Int):List Tm:=(V.zip R).filterMap (fun p=>if p.2=0 then none else some ⟨p.1,p.2⟩)
theorem fmR_zero (V:List (List Int)) (R:List Int):fmR (V.take 0) (R.take 0)=[]:=rfl
theorem fmR_yes {V:List (List Int)} {R:List Int} {k:Nat} {m:List Int} {x:Int} (hm:V[k]? = some m) (hx:R[k]? = some x) (h0:¬x=0):fmR (V.take (k+1)) (R.take (k+1))=fmR (V.take k) (R.take k)++[⟨m,x⟩]:=by
 obtain ⟨h1,rfl⟩:=List.getElem?_eq_some_iff.1 hm
 obtain ⟨h2,rfl⟩:=List.getElem?_eq_some_iff.1 hx
 rw [fmR,List.take_succ_eq_append_getElem h1,List.take_succ_eq_append_getElem h2,List.zip_append (by simp;omega),List.filterMap_append,fmR]
 simp [h0]
theorem fmR_no {V:List (List Int)} {R:List Int} {k:Nat} {m:List Int} (hm:V[k]? = some m) (hx:R[k]? = some 0):fmR (V.take (k+1)) (R.take (k+1))=fmR (V.take k) (R.take k):=by
 obtain ⟨h1,rfl⟩:=List.getElem?_eq_some_iff.1 hm
 obtain ⟨h2,e⟩:=List.getElem?_eq_some_iff.1 hx
 rw [fmR,List.take_succ_eq_append_getElem h1,List.take_succ_eq_append_getElem h2,List.zip_append (by simp;omega),List.filterMap_append,fmR,e]
 simp
theorem fmR_len (V:List (List Int)) (R:List Int):(fmR V R).length≤V.length:=by
 have h1:=List.length_filterMap_le (fun p:List Int × Int=>if p.2=0 then none else some (⟨p.1,p.2⟩:Tm)) (V.zip R)
 rw [List.length_zip] at h1
 rw [fmR]
 omega
theorem fmR_tm {V:List (List Int)} {R:List Int} (hV:∀m∈V,IsMono m) (hR:∀x∈R,0≤x∧x≤10006):∀t∈fmR V R,IsTm t:=fun t ht=>by
 rw [fmR,List.mem_filterMap] at ht
 obtain ⟨p,hp,e⟩:=ht
 have h1:=(List.of_mem_zip hp).1
 have h2:=hR _ (List.of_mem_zip hp).2
 split at e
 · simp at e
 · simp only [Option.some.injEq] at e;subst e;exact ⟨hV _ h1,by dsimp only;omega,by dsimp only;omega⟩
def unitsTo (n:Nat):Nat→List Int
 | 0=>List.replicate (n * n) 0
 | k+1=>(unitsTo n k).set (k * n+k) 1
theorem unitsTo_len (n:Nat):∀k,(unitsTo n k).length=n * n
 | 0=>by rw [unitsTo,List.length_replicate]
 | k+1=>by rw [unitsTo,List.length_set,unitsTo_len n k]
theorem unitsTo_get {n:Nat}:∀{k:Nat},k≤n→∀i c,i<n→c<n→(unitsTo n k)[i * n+c]? = some (if i=c∧i<k then 1 else 0)
 | 0, _, i, c, hi, hc => by
   have:=mul_fit (W:=n) hi;rw [unitsTo,List.getElem?_replicate,if_pos (by omega),if_neg (by omega)]
 | k + 1, hk, i, c, hi, hc => by
   have ih:=unitsTo_get (k:=k) (by omega) i c hi hc;have h1:=mul_fit (W:=n) (show k<n by omega);rw [unitsTo];by_cases e:i=k
   · by_cases e2:c=k
     · rw [e,e2,List.getElem?_set_self (by rw [unitsTo_len];omega),if_pos ⟨rfl,by omega⟩]
     · rw [List.getElem?_set_ne (by rw [e];omega),ih,if_neg (by omega),if_neg (by omega)]
   · have hne : ¬ k * n + k = i * n + c := by
       rcases apart_rows (W:=n) (i:=k) (j:=i) (fun h=>e h.symm) hc with h | h <;> omega
     rw [List.getElem?_set_ne hne,ih];by_cases e3:i=c∧i<k
     · rw [if_pos e3,if_pos ⟨e3.1,by omega⟩]
     · rw [if_neg e3,if_neg (by omega)]
theorem unitR_get {n i c:Nat} (_hi:i<n) (hc:c<n):(unitR n i)[c]? = some (if i=c then 1 else 0):=by
 rw [unitR]
 by_cases e:i=c
 · rw [e,List.getElem?_set_self (by rw [List.length_replicate];exact hc),if_pos rfl]
 · rw [List.getElem?_set_ne e,List.getElem?_replicate,if_pos hc,if_neg e]
theorem unitsTo_row {n i c:Nat} {x:Int} (hi:i<n) (h:(unitR n i)[c]? = some x):(unitsTo n n)[i * n+c]? = some x:=by
 have hc:c<n:=by have:=(List.getElem?_eq_some_iff.1 h).1;rw [unitR_len] at this;exact this
 rw [unitR_get hi hc] at h
 rw [unitsTo_get (Nat.le_refl _) i c hi hc,←h]
 by_cases e:i=c
 · rw [if_pos ⟨e,by omega⟩,if_pos e]
 · rw [if_neg (by omega),if_neg e]
set_option maxHeartbeats 1000000 in
theorem unitRows_c {w : World} {N : Nat} (hN : N ≤ 1000) :
    Calls Tryz.prog 207 #[.int .i64 N] w fun e w'=>e=.returned (.slice (some ⟨w.heap.size+1,0,none⟩) N N)∧Own w' w.heap.size 173 (ofI (unitsTo N N))∧Own w' (w.heap.size+1) 82 (rows3 w.heap.size N N N).toArray∧Below w.heap.size w w':=by
 go_enter Tryz.func207,Tryz.ntmps207
 go_wp2_with fail
 refine (newRows_c hN hN).mono ?_
 rintro e w1 ⟨rfl,hg,hr,hb⟩
 have h0:Own w1 w.heap.size 173 (ofI (unitsTo N 0)):=hg
 clear hg
 go_upto_region 3 with fail
 go_loopw [10] (fun y wr=>∃k:Nat,k≤N∧y=.int .i64 k∧Below w.heap.size w wr∧Own wr (w.heap.size+1) 82 (rows3 w.heap.size N N N).toArray∧Own wr w.heap.size 173 (ofI (unitsTo N k))) (fun y _=>N - (intOf y).toNat)
 case atStart=>exact ⟨0,Nat.zero_le _,rfl,hb,hr,h0⟩
 case round=>
  clear hb hr h0;obtain ⟨k,hk,rfl,hb,hr,hg⟩:=hrel;have hk0:(0:Int)≤(k:Int):=(by omega);by_cases hkn:k<N
  · have hki:(k:Int)<(N:Int):=(by omega);have hcr:=hr.cell k;rw [rows3_get hkn] at hcr;have hfit:=mul_fit (W:=N) hkn;obtain ⟨ov,hcv⟩:=hg.has (i:=k * N+k) (by simp [ofI,unitsTo_len];omega);have hfz:=hg.frozen (k * N+k);clear hfit;go_wp2_with fail
    go_roundw
    case rel=>
     refine ⟨k+1,by omega,by go_num,hb.setCell (p:=⟨w.heap.size,k * N+k,none⟩) (by dsimp only;omega) _,hr.far (by dsimp only;omega) _,?_⟩;rw [unitsTo,←ofI_set];exact hg.set (k * N+k) (.int .i64 1)
    case measure=>simp [intOf] <;> omega
  · have he:k=N:=(by omega);subst he;go_wp2_with fail
    go_ret
    exact ⟨rfl,hg,hr,hb⟩
abbrev It:=(Nat × Nat) × List Int
def isB (W:Nat) (e:It):Bool:=decide (fstN e.2<W)
def bP (W:Nat) (I:List It):List Value:=(I.filter (isB W)).map (fun e=>.slice (some ⟨e.1.1,0,none⟩) W W)
def pP (W N:Nat) (I:List It):List Value:=(I.filter (isB W)).map (fun e=>.slice (some ⟨e.1.1,W,none⟩) N N)
def cP (W N:Nat) (I:List It):List Value:=(I.filter (fun e=>!isB W e)).map (fun e=>.slice (some ⟨e.1.1,W,none⟩) N N)
def bF (W:Nat) (I:List It):List Value:=(I.filter (isB W)).map (fun e=>.int .i64 (fstN e.2:Nat))
def cF (W:Nat) (I:List It):List Value:=(I.filter (fun e=>!isB W e)).map (fun e=>.int .i64 ((fstN e.2:Nat) - (W:Nat):Int))
def bI (W:Nat) (I:List It):Nat:=(I.filter (isB W)).length
def cI (W:Nat) (I:List It):Nat:=(I.filter (fun e=>!isB W e)).length
section
variable {W N k:Nat} {I:List It} {e:It}
theorem spl_yes (h:I[k]? = some e) (hb:fstN e.2<W):bI W (I.take (k+1))=bI W (I.take k)+1∧bP W (I.take (k+1))=bP W (I.take k)++[.slice (some ⟨e.1.1,0,none⟩) W W]∧pP W N (I.take (k+1))=pP W N (I.take k)++[.slice (some ⟨e.1.1,W,none⟩) N N]∧bF W (I.take (k+1))=bF W (I.take k)++[.int .i64 (fstN e.2:Nat)]∧cI W (I.take (k+1))=cI W (I.take k)∧cP W N (I.take (k+1))=cP W N (I.take k)∧cF W (I.take (k+1))=cF W (I.take k):=by
 obtain ⟨h1,rfl⟩:=List.getElem?_eq_some_iff.1 h
 have h2:isB W I[k]=true:=by rw [isB];simpa using hb
 simp only [bI,bP,pP,bF,cI,cP,cF,List.take_succ_eq_append_getElem h1,List.filter_append,List.map_append,List.length_append]
 simp [h2]
theorem spl_no (h:I[k]? = some e) (hb:¬fstN e.2<W):cI W (I.take (k+1))=cI W (I.take k)+1∧cP W N (I.take (k+1))=cP W N (I.take k)++[.slice (some ⟨e.1.1,W,none⟩) N N]∧cF W (I.take (k+1))=cF W (I.take k)++[.int .i64 ((fstN e.2:Nat) - (W:Nat):Int)]∧bI W (I.take (k+1))=bI W (I.take k)∧bP W (I.take (k+1))=bP W (I.take k)∧pP W N (I.take (k+1))=pP W N (I.take k)∧bF W (I.take (k+1))=bF W (I.take k):=by
 obtain ⟨h1,rfl⟩:=List.getElem?_eq_some_iff.1 h
 have h2:isB W I[k]=false:=by rw [isB];simpa using hb
 simp only [bI,bP,pP,bF,cI,cP,cF,List.take_succ_eq_append_getElem h1,List.filter_append,List.map_append,List.length_append]
 simp [h2]
end
def RwsV (w:World) (lo:Nat) (v:Value) (W:Nat) (R:List (List Int)):Prop:=
 ∃a c,v=.slice a R.length c∧∀(i:Nat) r,R[i]? = some r→∃g p off cap,a=some ⟨g,0,none⟩∧lo≤g∧g<w.heap.size∧w.cell? ⟨g,i,none⟩=some (.slice (some ⟨p,off,none⟩) W cap)∧lo≤p∧p<w.heap.size∧RdAt w p off r
theorem RdAt.block {w w':World} {p off:Nat} {r:List Int} (h:RdAt w p off r) (hb:w'.heap[p]? = w.heap[p]?):RdAt w' p off r:=fun j x hx=>(World.cell?_of_block (a:=⟨p,off+j,none⟩) hb).trans (h j x hx)
theorem RwsV.keep {w w':World} {lo W:Nat} {v:Value} {R:List (List Int)} (h:RwsV w lo v W R) (hb:Below w.heap.size w w'):RwsV w' lo v W R:=by
 obtain ⟨a,c,hv,h1⟩:=h
 refine ⟨a,c,hv,fun i r hr=>?_⟩
 obtain ⟨g,p,off,cap,e1,e2,e3,e4,e5,e6,e7⟩:=h1 i r hr
 exact ⟨g,p,off,cap,e1,e2,Nat.lt_of_lt_of_le e3 hb.size,(World.cell?_of_block (a:=⟨g,i,none⟩) (hb.block g e3)).trans e4,e5,Nat.lt_of_lt_of_le e6 hb.size,e7.block (hb.block p e6)⟩
theorem RwsV.touch {w w':World} {lo W:Nat} {v:Value} {R:List (List Int)} {q:Nat→Prop} (h:RwsV w lo v W R) (ht:Touch q w w') (hq:∀k,lo≤k→k<w.heap.size→¬q k):RwsV w' lo v W R:=by
 obtain ⟨a,c,hv,h1⟩:=h
 refine ⟨a,c,hv,fun i r hr=>?_⟩
 obtain ⟨g,p,off,cap,e1,e2,e3,e4,e5,e6,e7⟩:=h1 i r hr
 exact ⟨g,p,off,cap,e1,e2,Nat.lt_of_lt_of_le e3 ht.below.size,(World.cell?_of_block (a:=⟨g,i,none⟩) (ht.other g e3 (hq g e2 e3))).trans e4,e5,Nat.lt_of_lt_of_le e6 ht.below.size,e7.block (ht.other p e6 (hq p e5 e6))⟩
theorem RwsV.weaken {w:World} {lo lo' W:Nat} {v:Value} {R:List (List Int)} (h:RwsV w lo v W R) (hl:lo'≤lo):RwsV w lo' v W R:=by
 obtain ⟨a,c,hv,h1⟩:=h
 refine ⟨a,c,hv,fun i r hr=>?_⟩
 obtain ⟨g,p,off,cap,e1,e2,e3,e4,e5,e6,e7⟩:=h1 i r hr
 exact ⟨g,p,off,cap,e1,by omega,e3,e4,by omega,e6,e7⟩
theorem RwsV.nil (w:World) (lo W:Nat):RwsV w lo (.slice none 0 0) W []:=⟨none,0,rfl,by simp⟩
theorem RwsV.of {w : World} {B lo n W off L : Nat} {v : Value} {I J : List It} {f : It → Value} {h : It → List Int} (hr : w.ownsRow B 82 1 v n (J.map f)) (hlo : lo ≤ B)
    (hJ:∀e∈J,e∈I) (hI:∀e∈I,RowAt w e.1.1 e.2∧lo≤e.1.1∧e.2.length=L) (hf:∀e,∃cap,f e=.slice (some ⟨e.1.1,off,none⟩) W cap) (hh:∀e∈I,∀(j:Nat) x,(h e)[j]? = some x→e.2[off+j]? = some x):RwsV w lo v W (J.map h):=by
 have hl:n=J.length:=by have:=hr.1;rw [List.length_map] at this;omega
 rcases hr.2 with ⟨h0,hn⟩ | ⟨g,cap,cur,hv,hB,hg,hnc,hcm,hcs,htk⟩
 · have:J=[]:=List.eq_nil_of_length_eq_zero (by omega);subst this;rw [h0];exact RwsV.nil w lo W
 · refine ⟨some ⟨g,0,none⟩,cap,by rw [hv,List.length_map,hl],fun i r hi=>?_⟩;rw [List.getElem?_map] at hi
   cases he:J[i]? with
   | none=>rw [he] at hi;simp at hi
   | some e =>
     rw [he,Option.map_some,Option.some.injEq] at hi;subst hi;have hm:=hJ e (List.mem_of_getElem? he);obtain ⟨h1,h2,h3⟩:=hI e hm;obtain ⟨cp,hfe⟩:=hf e;have hO:Own w g 82 cur:=hg;refine ⟨g,e.1.1,off,cp,rfl,by omega,hO.lt,?_,h2,h1.lt,h1.rd off (hh e hm)⟩;rw [hO.cell i,←hfe];have hx:(J.map f)[i]? = some (f e):=(by rw [List.getElem?_map,he];rfl);rw [←htk,List.getElem?_take] at hx;split at hx
     · simpa using hx
     · simp at hx
theorem zip_filter_snd {α β:Type} (p:β→Bool):∀{A:List α} {B:List β},A.length=B.length→((A.zip B).filter (fun e=>p e.2)).map (·.2)=B.filter p
 | [],[],_=>rfl
 | a :: A, b :: B, h => by
   have ih:=zip_filter_snd p (A:=A) (B:=B) (by simpa using h);simp only [List.zip_cons_cons,List.filter_cons];split <;> simp [ih]
theorem bndR_zip {W:Nat} {ps:List (Nat × Nat)} {L:List (List Int)} (h:ps.length=L.length):((ps.zip L).filter (isB W)).map (fun e=>e.2.take W)=bndR W L:=by
 have:=congrArg (List.map (List.take W)) (zip_filter_snd (fun r:List Int=>decide (fstN r<W)) h)
 rw [List.map_map] at this
 exact this
theorem cloR_zip {W:Nat} {ps:List (Nat × Nat)} {L:List (List Int)} (h:ps.length=L.length):((ps.zip L).filter (fun e=>!isB W e)).map (fun e=>e.2.drop W)=cloR W L:=by
 have:=congrArg (List.map (List.drop W)) (zip_filter_snd (fun r:List Int=>!decide (fstN r<W)) h)
 rw [List.map_map] at this
 exact this
def priR (W:Nat) (L:List (List Int)):List (List Int):=(L.filter (fun r=>decide (fstN r<W))).map (List.drop W)
theorem priR_zip {W:Nat} {ps:List (Nat × Nat)} {L:List (List Int)} (h:ps.length=L.length):((ps.zip L).filter (isB W)).map (fun e=>e.2.drop W)=priR W L:=by
 have:=congrArg (List.map (List.drop W)) (zip_filter_snd (fun r:List Int=>decide (fstN r<W)) h)
 rw [List.map_map] at this
 exact this
theorem mix_set {α:Type} {A B:List α} {k:Nat} {x:α} (hA:A.length=k) (hk:k<B.length):(A++B.drop k).set k x=A++[x]++B.drop (k+1):=by
 rw [List.set_append_right _ _ (by omega),hA,Nat.sub_self,List.drop_eq_getElem_cons hk,List.set_cons_zero,List.append_assoc]
 rfl
theorem Rws.snoc {w:World} {ps:List (Nat × Nat)} {R:List (List Int)} {p:Nat × Nat} {r:List Int} (h:Rws w ps R) (hr:RowAt w p.1 r) (hp:¬InP ps p.1):Rws w (ps++[p]) (R++[r]):=by
 have hl:=h.len
 have hget:∀{i:Nat} {q:Nat × Nat},(ps++[p])[i]? = some q→(i<ps.length∧ps[i]? = some q)∨(i=ps.length∧q=p):=fun {i q} hi=>by
  by_cases e:i<ps.length
  · rw [List.getElem?_append_left e] at hi;exact Or.inl ⟨e,hi⟩
  · rw [List.getElem?_append_right (by omega)] at hi;obtain ⟨h1,h2⟩:=List.getElem?_eq_some_iff.1 hi;simp at h1 h2
    exact Or.inr ⟨by omega,h2.symm⟩
 refine ⟨by simp [hl],fun i j q s hi hj e=>?_,fun i q s hi hs=>?_⟩
 · rcases hget hi with ⟨h1,h2⟩ | ⟨h1,rfl⟩ <;> rcases hget hj with ⟨h3,h4⟩ | ⟨h3,rfl⟩
   · exact h.nd i j q s h2 h4 e
   · exact absurd ⟨q,List.mem_of_getElem? h2,e⟩ hp
   · exact absurd ⟨s,List.mem_of_getElem? h4,e.symm⟩ hp
   · omega
 · rcases hget hi with ⟨h1,h2⟩ | ⟨h1,rfl⟩
   · rw [List.getElem?_append_left (by omega)] at hs;exact h.at_ i q s h2 hs
   · rw [h1,hl,List.getElem?_append_right (Nat.le_refl _),Nat.sub_self] at hs;simp at hs
     subst hs;exact hr
theorem InP.snoc {ps:List (Nat × Nat)} {p:Nat × Nat} {k:Nat} (h:InP (ps++[p]) k):InP ps k∨k=p.1:=by
 obtain ⟨q,hq,rfl⟩:=h
 rw [List.mem_append] at hq
 rcases hq with hq | hq
 · exact Or.inl ⟨q,hq,rfl⟩
 · obtain rfl:q=p:=(by simpa using hq);exact Or.inr rfl
theorem row_at {w:World} {B n:Nat} {v:Value} {R:List Int} (h:w.ownsRow B 173 1 v n (R.map (Value.int .i64))) (hn:0<n):∃g c,v=.slice (some ⟨g,0,none⟩) n c∧B≤g∧g<w.heap.size∧RowAt w g R:=by
 rcases h.2 with ⟨h0,e⟩ | ⟨g,cap,cur,hv,hB,hg,hnc,hcm,hcs,htk⟩
 · omega
 · have hO:Own w g 173 cur:=hg;refine ⟨g,cap,hv,hB,hO.lt,cur,hO,fun j x hx=>?_⟩;have hx2:(R.map (Value.int .i64))[j]? = some (.int .i64 x):=(by rw [List.getElem?_map,hx];rfl);rw [←htk,List.getElem?_take] at hx2;split at hx2
   · simpa using hx2
   · simp at hx2
theorem FG2.belowB {w w1:World} {u v u1 v1:Value} {B:Nat} (h:FG2 w w1 u v u1 v1) (h1:∀q,u.ownBlock=some q→B≤q) (h2:∀q,v.ownBlock=some q→B≤q) (hB:B≤w.heap.size):Below B w w1:=
 ⟨h.b.os,h.b.tape,h.b.output,h.b.size,fun k hk=>h.k k (by omega) (fun e=>by have:=h1 k e;omega) (fun e=>by have:=h2 k e;omega)⟩
end Go.Proofs.YtifcfoijcodjbaaGreat
