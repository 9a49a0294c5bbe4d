
import Derived.Test.YtifcfoijcodjbaaGreatSplP
import Derived.BigQuiet
namespace Go.Proofs.YtifcfoijcodjbaaGreat
set_option maxRecDepth 100000
open Go.RowKit Go.Deep
theorem Tryz.info_numR:∃i z,Tryz.prog.info? 173=some i∧i.zero=some z∧i.size=1∧i.bytes=8∧z.cells.size=1:=by
 have h:(Tryz.prog.info? 173).map (fun i=>(i.zero,i.size,i.bytes))=some (some (.int .i64 0),1,8):=by kernel_rfl
 obtain ⟨i,hi,hzz⟩:=Option.map_eq_some_iff.1 h
 simp only [Prod.mk.injEq] at hzz
 obtain ⟨hz,hs,hb⟩:=hzz
 exact ⟨i,_,hi,hz,hs,hb,rfl⟩
theorem Tryz.info_split:(Tryz.prog.info? 101).map (·.size)=some 5:=by kernel_rfl
theorem row_capB {w:World} {B n g c:Nat} {t:TypeId} {xs:List Value} (h:w.ownsRow B t 1 (.slice (some ⟨g,0,none⟩) n c) n xs) (_hn:0<n):n≤c:=by
 rcases h.2 with ⟨h0,_⟩ | ⟨g',cap,cur,hv,_,_,hnc,_⟩
 · simp at h0
 · simp only [Value.slice.injEq] at hv;omega
theorem row_cellA {w:World} {B n i:Nat} {a:Option Addr} {c:Nat} {t:TypeId} {xs:List Value} {u:Value} (h:w.ownsRow B t 1 (.slice a n c) n xs) (hu:xs[i]? = some u):∃g,a=some ⟨g,0,none⟩∧g<w.heap.size∧w.cell? ⟨g,i,none⟩=some u:=by
 rcases h.2 with ⟨h0,hn⟩ | ⟨g,cap,cur,hv,_,hg,_,_,_,htk⟩
 · have:=h.1;have h2:=(List.getElem?_eq_some_iff.1 hu).1;omega
 · simp only [Value.slice.injEq] at hv;have hO:Own w g t cur:=hg;refine ⟨g,hv.1,hO.lt,?_⟩;rw [hO.cell i];rw [←htk,List.getElem?_take] at hu;split at hu
   · simpa using hu
   · simp at hu
def bPk (W:Nat) (I:List It) (k:Nat):List Value:=bP W (I.take k)
def pPk (W N:Nat) (I:List It) (k:Nat):List Value:=pP W N (I.take k)
def cPk (W N:Nat) (I:List It) (k:Nat):List Value:=cP W N (I.take k)
def bFk (W:Nat) (I:List It) (k:Nat):List Value:=bF W (I.take k)
def cFk (W:Nat) (I:List It) (k:Nat):List Value:=cF W (I.take k)
structure Five (w:World) (B:Nat) (vc vf vb ve vp:Value) (nc nb np:Nat) (lc lf lb le lp:List Value):Prop where
 c:w.ownsRow B 82 1 vc nc lc
 f:w.ownsRow B 3 1 vf nc lf
 b:w.ownsRow B 82 1 vb nb lb
 e:w.ownsRow B 3 1 ve nb le
 p:w.ownsRow B 82 1 vp np lp
 cb:Apt vc vb
 cp:Apt vc vp
 bp:Apt vb vp
 fe:Apt vf ve
section
variable {w w':World} {B nc nb np n':Nat} {vc vf vb ve vp x y:Value} {lc lf lb le lp l1 l2:List Value}
theorem Five.far (h:Five w B vc vf vb ve vp nc nb np lc lf lb le lp) {p:Addr} {t':TypeId} {os:Array Value} (ho:Own w p.block t' os) (h1:t'≠82) (h2:t'≠3) (u:Value):Five (w.setCell p u) B vc vf vb ve vp nc nb np lc lf lb le lp:=
 ⟨row_farE h.c ho h1 u,row_farE h.f ho h2 u,row_farE h.b ho h1 u,row_farE h.e ho h2 u,row_farE h.p ho h1 u,h.cb,h.cp,h.bp,h.fe⟩
theorem Five.keep (h:Five w B vc vf vb ve vp nc nb np lc lf lb le lp) (hb:Below w.heap.size w w'):Five w' B vc vf vb ve vp nc nb np lc lf lb le lp:=
 ⟨row_keep h.c hb,row_keep h.f hb,row_keep h.b hb,row_keep h.e hb,row_keep h.p hb,h.cb,h.cp,h.bp,h.fe⟩
theorem Five.start:Five w B (.slice none 0 0) (.slice none 0 0) (.slice none 0 0) (.slice none 0 0) (.slice none 0 0) 0 0 0 [] [] [] [] []:=
 ⟨World.ownsRow_nil _ _ _ _,World.ownsRow_nil _ _ _ _,World.ownsRow_nil _ _ _ _,World.ownsRow_nil _ _ _ _,World.ownsRow_nil _ _ _ _,fun q h=>by simp [Value.ownBlock] at h,fun q h=>by simp [Value.ownBlock] at h,fun q h=>by simp [Value.ownBlock] at h,fun q h=>by simp [Value.ownBlock] at h⟩
theorem Five.withB (h:Five w B vc vf vb ve vp nc nb np lc lf lb le lp) (h1:w'.ownsRow B 82 1 x n' l1) (h2:w'.ownsRow B 3 1 y n' l2) (hG:FG2 w w' vb ve x y):Five w' B vc vf x y vp nc n' np lc lf l1 l2 lp:=
 ⟨hG.row h.c h.cb (Apt.types h.c h.e (by decide)),hG.row h.f (Apt.types h.f h.b (by decide)) h.fe,h1,h2,hG.row h.p h.bp.symm (Apt.types h.p h.e (by decide)),hG.apt1 h.c h.cb,h.cp,(hG.apt1 h.p h.bp.symm).symm,hG.apt2 h.f h.fe⟩
theorem Five.withC (h:Five w B vc vf vb ve vp nc nb np lc lf lb le lp) (h1:w'.ownsRow B 82 1 x n' l1) (h2:w'.ownsRow B 3 1 y n' l2) (hG:FG2 w w' vc vf x y):Five w' B x y vb ve vp n' nb np l1 l2 lb le lp:=
 ⟨h1,h2,hG.row h.b h.cb.symm (Apt.types h.b h.f (by decide)),hG.row h.e (Apt.types h.e h.c (by decide)) h.fe.symm,hG.row h.p h.cp.symm (Apt.types h.p h.f (by decide)),(hG.apt1 h.b h.cb.symm).symm,(hG.apt1 h.p h.cp.symm).symm,h.bp,(hG.apt2 h.e h.fe.symm).symm⟩
theorem Five.appP (h:Five w B vc vf vb ve vp nc nb np lc lf lb le lp) (h1:w'.ownsRow B 82 1 x n' l1) (hG:FG2 w w' vp vp x vp):Five w' B vc vf vb ve x nc nb n' lc lf lb le l1:=
 ⟨hG.row h.c h.cp h.cp,hG.row h.f (Apt.types h.f h.p (by decide)) (Apt.types h.f h.p (by decide)),hG.row h.b h.bp h.bp,hG.row h.e (Apt.types h.e h.p (by decide)) (Apt.types h.e h.p (by decide)),h1,h.cb,hG.apt1 h.c h.cp,hG.apt1 h.b h.bp,h.fe⟩
end
theorem news1s (w:World) (v:Value) (t:TypeId):∀j u,([v]:List Value)[j]? = some u→(w.alloc (.cells #[v] t)).cell? ((⟨w.heap.size,0,none⟩:Addr).add j)=some u:=fun j u hu=>by
 rw [Addr.add_mid]
 exact (Own.new w t #[v]).range j u hu
theorem spk_yes {W N k:Nat} {I:List It} {e:It} (h:I[k]? = some e) (hb:fstN e.2<W):bPk W I (k+1)=bPk W I k++[.slice (some ⟨e.1.1,0,none⟩) W W]∧pPk W N I (k+1)=pPk W N I k++[.slice (some ⟨e.1.1,W,none⟩) N N]∧bFk W I (k+1)=bFk W I k++[.int .i64 (fstN e.2:Nat)]∧cPk W N I (k+1)=cPk W N I k∧cFk W I (k+1)=cFk W I k:=by
 obtain ⟨-,h2,h3,h4,-,h6,h7⟩:=spl_yes (N:=N) h hb
 exact ⟨h2,h3,h4,h6,h7⟩
theorem spk_no {W N k:Nat} {I:List It} {e:It} (h:I[k]? = some e) (hb:¬fstN e.2<W):cPk W N I (k+1)=cPk W N I k++[.slice (some ⟨e.1.1,W,none⟩) N N]∧cFk W I (k+1)=cFk W I k++[.int .i64 ((fstN e.2:Nat) - (W:Nat):Int)]∧bPk W I (k+1)=bPk W I k∧pPk W N I (k+1)=pPk W N I k∧bFk W I (k+1)=bFk W I k:=by
 obtain ⟨-,h2,h3,-,h5,h6,h7⟩:=spl_no (N:=N) h hb
 exact ⟨h2,h3,h5,h6,h7⟩
def SplitV (w:World) (lo:Nat) (e:Value) (W N:Nat) (L:List (List Int)):Prop:=
 ∃vc vcf vb vbf vp,e=.agg #[vc,vcf,vb,vbf,vp]∧RwsV w lo vc N (cloR W L)∧RwsV w lo vb W (bndR W L)∧RwsV w lo vp N (priR W L)∧(∃B n,lo≤B∧w.ownsRow B 3 1 vbf n ((bndR W L).map (fun r=>Value.int .i64 (fstN r:Nat))))∧(∃B n,lo≤B∧w.ownsRow B 3 1 vcf n ((cloR W L).map (fun r=>Value.int .i64 (fstN r:Nat))))
theorem SplitV.touch {w w':World} {lo W N:Nat} {e:Value} {L:List (List Int)} {q:Nat→Prop} (h:SplitV w lo e W N L) (ht:Touch q w w') (hq:∀k,lo≤k→¬q k):SplitV w' lo e W N L:=by
 obtain ⟨vc,vcf,vb,vbf,vp,rfl,h1,h2,h3,⟨B,n,hB,h4⟩,⟨B',n',hB',h5⟩⟩:=h
 exact ⟨vc,vcf,vb,vbf,vp,rfl,h1.touch ht (fun k hk _=>hq k hk),h2.touch ht (fun k hk _=>hq k hk),h3.touch ht (fun k hk _=>hq k hk),⟨B,n,hB,row_touch h4 ht (fun k hk=>hq k (by omega))⟩,⟨B',n',hB',row_touch h5 ht (fun k hk=>hq k (by omega))⟩⟩
theorem SplitV.weaken {w:World} {lo lo' W N:Nat} {e:Value} {L:List (List Int)} (h:SplitV w lo e W N L) (hl:lo'≤lo):SplitV w lo' e W N L:=by
 obtain ⟨vc,vcf,vb,vbf,vp,rfl,h1,h2,h3,⟨B,n,hB,h4⟩,⟨B',n',hB',h5⟩⟩:=h
 exact ⟨vc,vcf,vb,vbf,vp,rfl,h1.weaken hl,h2.weaken hl,h3.weaken hl,⟨B,n,by omega,h4⟩,⟨B',n',by omega,h5⟩⟩
theorem SplitV.nil (w:World) (lo W N:Nat):SplitV w lo (.agg #[.slice none 0 0,.slice none 0 0,.slice none 0 0,.slice none 0 0,.slice none 0 0]) W N []:=
 ⟨_,_,_,_,_,rfl,RwsV.nil _ _ _,RwsV.nil _ _ _,RwsV.nil _ _ _,⟨lo,0,Nat.le_refl _,World.ownsRow_nil _ _ _ _⟩,⟨lo,0,Nat.le_refl _,World.ownsRow_nil _ _ _ _⟩⟩
def mixP (g W N L:Nat) (ps:List (Nat × Nat)) (k:Nat):Array Value:=(slp L ps++(rows3 g W N N).drop k).toArray
theorem mixP_zero (g W N L:Nat):mixP g W N L [] 0=(rows3 g W N N).toArray:=by simp [mixP,slp]
theorem mixP_end {g W N L:Nat} (ps:List (Nat × Nat)):mixP g W N L ps N=(slp L ps).toArray:=by
 rw [mixP,List.drop_of_length_le (by rw [rows3_len];exact Nat.le_refl _),List.append_nil]
theorem mixP_get {g W N L k:Nat} {ps:List (Nat × Nat)} (hp:ps.length=k) (hk:k<N):(mixP g W N L ps k)[k]? = some (.slice (some ⟨g,k * W,none⟩) W W):=by
 rw [mixP,List.getElem?_toArray,List.getElem?_append_right (by simp [slp,hp]),List.getElem?_drop]
 have:=rows3_get (g:=g) (W:=W) hk
 rw [List.getElem?_toArray] at this
 rw [show k+(k - (slp L ps).length)=k by simp [slp,hp]]
 exact this
theorem mixP_set {g W N L k:Nat} {ps:List (Nat × Nat)} {p:Nat × Nat} (hp:ps.length=k) (hk:k<N):(mixP g W N L ps k).setIfInBounds k (ptrW L p)=mixP g W N L (ps++[p]) (k+1):=by
 rw [mixP,List.setIfInBounds_toArray,mix_set (by simp [slp,hp]) (by rw [rows3_len];exact hk),mixP,slp,slp,List.map_append]
 rfl
set_option maxHeartbeats 4000000 in
theorem splitRows_c {w : World} {g gr W N : Nat} {Fl : List Int} {M : List (List Int)} (hO : Own w g 173 (ofI Fl)) (hR : Own w gr 82 (rows3 g W N N).toArray) (hMl : M.length = N) (hM : ∀ r ∈ M, RowOk W r) (hFl : ∀ (i : Nat) r, M[i]? = some r → ∀ (j : Nat) x, r[j]? = some x → Fl[i * W + j]? = some x) (hN : N ≤ 120) (hW : W ≤ 120) :
    Calls Tryz.prog 171 #[.slice (some ⟨gr,0,none⟩) N N,.int .i64 W] w fun e w'=>∃v,e=.returned v∧SplitV w' w.heap.size v W N (redR (longR M))∧Touch (fun k=>k=gr) w w':=by
 obtain ⟨ti,tz,hti,htz,hts,htb,htzs⟩:=Tryz.info_numR
 have HI:=Lib.hid hti
 have HZ:=Lib.hid htz
 have HS:=Lib.hid hts
 have HBt:=Lib.hid htb
 have HZs:=Lib.hid htzs
 clear hti htz hts htb htzs
 obtain ⟨tiR,tzR,hti,htz,hts,htb,htzs⟩:=Tryz.info_rowR
 have HIR:=Lib.hid hti
 have HZR:=Lib.hid htz
 have HSR:=Lib.hid hts
 have HBtR:=Lib.hid htb
 have HZsR:=Lib.hid htzs
 clear hti htz hts htb htzs
 have HM:=Lib.hid hM
 have HML:=Lib.hid hMl
 have HFL:=Lib.hid hFl
 have hgl:=hO.lt
 have hgrl:=hR.lt
 have hgg:¬g=gr:=fun e=>by
  subst e;have:=hO.symm.trans hR;simp only [Option.some.injEq,Obj.cells.injEq] at this;exact absurd this.2.1 (by decide)
 have hQ:=Own.new w 101 #[.slice none 0 0,.slice none 0 0,.slice none 0 0,.slice none 0 0,.slice none 0 0]
 have hba:=bA1 w (.cells #[.slice none 0 0,.slice none 0 0,.slice none 0 0,.slice none 0 0,.slice none 0 0] 101)
 replace hO:=hO.keep hba hgl
 replace hR:=hR.keep hba hgrl
 clear hM hMl hFl
 go_enter Tryz.func171,Tryz.ntmps171
 go_upto_region 1 with fail
 have hs0:(w.alloc (.cells #[.slice none 0 0,.slice none 0 0,.slice none 0 0,.slice none 0 0,.slice none 0 0] 101)).heap.size=w.heap.size+1:=sAl _ _
 generalize w.alloc (.cells #[.slice none 0 0,.slice none 0 0,.slice none 0 0,.slice none 0 0,.slice none 0 0] 101)=w0 at *
 have hun:=unitRows_c (w:=w0) (N:=N) (by omega)
 rw [hs0] at hun
 go_wp2_with fail
 refine hun.mono ?_
 rintro e w1 ⟨rfl,hU,hUR,hb1⟩
 clear hun
 have hszA:w.heap.size+2<w1.heap.size:=hUR.lt
 replace hO:=hO.keep hb1 (by omega)
 replace hR:=hR.keep hb1 (by omega)
 replace hQ:=hQ.keep hb1 (by omega)
 have ht:Touch (fun k=>k=gr) w w1:=Touch.of_below (hba.trans (hb1.mono (by omega)))
 have HRS0:Hid (Rws w1 [] ((longR M).take 0)∧([]:List (Nat × Nat)).length=0∧(∀k,InP [] k→w.heap.size+3≤k)∧∀p∈([]:List (Nat × Nat)),W+N≤p.2):=Lib.hid ⟨⟨rfl,by simp,by simp⟩,rfl,fun k hk=>by obtain ⟨p,hp,-⟩:=hk;simp at hp,by simp⟩
 have hR0:Own w1 gr 82 (mixP g W N (W+N) [] 0):=by rw [mixP_zero];exact hR
 have hUL:Hid ((w.heap.size+1+1=w.heap.size+2)):=Lib.hid rfl
 clear hba hb1 hs0 hR
 go_upto_region 2 with fail
 go_loopw [18] (fun y wr=>∃(k:Nat) (ps:List (Nat × Nat)),k≤N∧y=.int .i64 k∧Touch (fun k=>k=gr) w wr∧Own wr g 173 (ofI Fl)∧Own wr w.heap.size 101 #[.slice none 0 0,.slice none 0 0,.slice none 0 0,.slice none 0 0,.slice none 0 0]∧Own wr (w.heap.size+1) 173 (ofI (unitsTo N N))∧Own wr (w.heap.size+1+1) 82 (rows3 (w.heap.size+1) N N N).toArray∧Own wr gr 82 (mixP g W N (W+N) ps k)∧Hid (Rws wr ps ((longR M).take k)∧ps.length=k∧(∀k,InP ps k→w.heap.size+3≤k)∧∀p∈ps,W+N≤p.2)) (fun y _=>N - (intOf y).toNat)
 case atStart=>exact ⟨0,[],Nat.zero_le _,rfl,ht,hO,hQ,hU,hUR,hR0,HRS0⟩
 case round=>
  clear ht hO hQ hU hUR hR0 HRS0;obtain ⟨k,ps,hk,rfl,ht,hO,hQ,hU,hUR,hR,HRS⟩:=hrel;have hk0:(0:Int)≤(k:Int):=(by omega);by_cases hkn:k<N
  · have hki:(k:Int)<(N:Int):=(by omega);obtain ⟨r,hr⟩:∃r,M[k]? = some r:=⟨_,List.getElem?_eq_getElem (by rw [HML.out];exact hkn)⟩;have hrok:=HM.out r (List.mem_of_getElem? hr);have hcu:=hUR.cell k;rw [rows3_get hkn] at hcu;have hcr:=hR.cell k;rw [mixP_get HRS.out.2.1 hkn] at hcr
    have HOLD:Hid (∀b,(some (⟨g,k * W,none⟩:Addr))=some b→∀j u,(r.map (Value.int .i64))[j]? = some u→wr.cell? (b.add j)=some u):=Lib.hid (fun b hb j u hu=>by
     simp only [Option.some.injEq] at hb;subst hb;rw [List.getElem?_map] at hu
     cases hx:r[j]? with
     | none=>rw [hx] at hu;simp at hu
     | some x =>
       rw [hx,Option.map_some,Option.some.injEq] at hu;subst hu;have:=hO.cell (k * W+j);rw [ofI_get (HFL.out k r hr j x hx)] at this;rw [Addr.add_lit]
       exact this)
    have HNEW:Hid (∀j u,((unitR N k).map (Value.int .i64))[j]? = some u→wr.cell? ((⟨w.heap.size+1,k * N,none⟩:Addr).add j)=some u):=Lib.hid (fun j u hu=>by
     rw [List.getElem?_map] at hu
     cases hx:(unitR N k)[j]? with
     | none=>rw [hx] at hu;simp at hu
     | some x =>
       rw [hx,Option.map_some,Option.some.injEq] at hu;subst hu;have:=hU.cell (k * N+j);rw [ofI_get (unitsTo_row hkn hx)] at this;rw [Addr.add_lit]
       exact this)
    have HONE:Hid (∀u∈(unitR N k).map (Value.int .i64),u.oneCell'=true):=Lib.hid (fun u hu=>by
     obtain ⟨x,-,rfl⟩:=List.mem_map.1 hu
     rfl)
    have HLO:Hid ((r.map (Value.int .i64)).length=W * 1):=Lib.hid (by rw [List.length_map,hrok.len];omega);have HLN:Hid (((unitR N k).map (Value.int .i64)).length=N * 1):=Lib.hid (by rw [List.length_map,unitR_len];omega)
    have HLG:Hid ((longR M).take (k+1)=(longR M).take k++[r++unitR N k]):=Lib.hid (by
     have h1:=longR_get hr;rw [HML.out] at h1;obtain ⟨h2,h3⟩:=List.getElem?_eq_some_iff.1 h1
     rw [List.take_succ_eq_append_getElem h2,h3])
    have hszr:w.heap.size+3≤wr.heap.size:=hUR.lt;clear hr hrok
    go_wp2_with (refine wpList_append_grows _ rfl (.tmp 28) (.tmp 29) 82 rfl 173 ti tz 1 8 Tryz.underlying82 HI.out HZ.out HS.out HBt.out HZs.out (by omega) (some ⟨g, k * W, none⟩) W W (r.map (Value.int .i64)) rfl (by simp) HLO.out HOLD.out ⟨w.heap.size + 1, k * N, none⟩ N N ((unitR N k).map (Value.int .i64)) rfl HLN.out HNEW.out HONE.out (by omega) (by simp only [maxLen]; omega) (by omega) (fun v' w' h2 h3 => ?_)
                 rw [←List.map_append] at h2;obtain ⟨q,qc,rfl,hq1,hq2,hq3⟩:=row_at h2 (by omega);have hqc:=row_capB h2 (by omega);have hO4:=hO.grown h3 (by simp);have hQ4:=hQ.grown h3 (by simp);have hU4:=hU.grown h3 (by simp);have hUR4:=hUR.grown h3 (by simp);have hR4:=hR.grown h3 (by simp);have HRW4:=Lib.hid (HRS.out.1.grown h3 (by simp));have ht4:Touch (fun k=>k=gr) w w':=ht.trans (Touch.of_below ⟨h3.os,h3.tape,h3.output,h3.size,fun k hk=>h3.block k hk (by simp)⟩);have HNQ:Hid (¬InP ps q):=Lib.hid (fun h=>by have:=HRS.out.1.lt h;omega);have H2:=Lib.hid hq3;have hgrl4:=hR4.lt;have hqgr:¬q=gr:=fun e=>(by have:=hR.lt;omega);clear h2 h3 hO hQ hU hUR hcu hcr ht HOLD HNEW HONE HLO HLN hq3;obtain ⟨ov,hcS⟩:=hR4.has (i:=k) (by have:=HRS.out.2.1;simp [mixP,slp,rows3_len];omega)
                 have hfS:=hR4.frozen k)
    go_roundw
    case rel=>
     have hset:=hR4.set k (.slice (some ⟨q,0,none⟩) (W+N) qc);have e7:=mixP_set (g:=g) (W:=W) (L:=W+N) (p:=(q,qc)) HRS.out.2.1 hkn;rw [ptrW] at e7;rw [e7] at hset;have hgr3:∀k,w.heap.size+3≤k→¬k=gr:=fun k hk=>(by omega);have hnp:=HRS.out.2.2.1;refine ⟨k+1,ps++[(q,qc)],by omega,by go_num,ht4.trans (Touch.of_only ((Only.refl gr _).set k _)),hO4.far (p:=⟨gr,k,none⟩) (by dsimp only;omega) _,hQ4.far (p:=⟨gr,k,none⟩) (by dsimp only;omega) _,hU4.far (p:=⟨gr,k,none⟩) (by dsimp only;omega) _,hUR4.far (p:=⟨gr,k,none⟩) (by dsimp only;omega) _,hset,Lib.hid ⟨?_,by simp [HRS.out.2.1],fun j hj=>?_,fun p hp=>?_⟩⟩
     · rw [HLG.out];refine Rws.snoc (HRW4.out.far (fun h=>hgr3 _ (hnp _ h) rfl) _) (H2.out.far (p:=⟨gr,k,none⟩) (by dsimp only;omega) _) HNQ.out
     · rcases hj.snoc with h | h
       · exact hnp j h
       · dsimp only at h;omega
     · rw [List.mem_append] at hp
       rcases hp with hp | hp
       · exact HRS.out.2.2.2 p hp
       · obtain rfl:p=(q,qc):=(by simpa using hp);exact hqc
    case measure=>simp [intOf] <;> omega
  · have he:k=N:=(by omega);subst he;rw [mixP_end] at hR;have hszr:w.heap.size+3≤wr.heap.size:=hUR.lt;have HRWS:=Lib.hid HRS.out.1;have hln:(longR M).take k=longR M:=List.take_of_length_le (by rw [longR_len,HML.out];exact Nat.le_refl _);have HLOK:Hid (∀r∈longR M,RowOk (W+k) r):=Lib.hid (by have:=longR_ok HM.out;rwa [HML.out] at this);have hgrn:¬InP ps gr:=fun h=>(by have:=HRS.out.2.2.1 gr h;omega);have hRW:=HRS.out.1;rw [hln] at hRW;have hgrl2:=hR.lt;clear hUR hU hln HRWS hO;obtain ⟨L,hL⟩:∃L,redR (longR M)=L:=⟨_,rfl⟩;have HLR:Hid (RedI (W+k) L):=Lib.hid (by rw [←hL];exact (redR_redI HLOK.out).1);by_cases hk00:0<k
    · go_wp2_with fail
      refine (basisOfA_c hRW HRS.out.2.1 HLOK.out (by omega) hk00 (by omega) hgrn hR k (Nat.le_refl _)).mono ?_;rintro e w2 ⟨d,ps1,R1,F,fa,fc,rfl,hM2,hR2,hF2,HP,ht2⟩;rw [hL] at HP;have HLE:=Lib.hid hL;clear hL hRW hR;have hsz2:w.heap.size+3≤w2.heap.size:=Nat.le_trans hszr ht2.below.size
      replace hQ:=ht2.own hQ (fun h=>by
       rcases h with h | h
       · have:=HRS.out.2.2.1 _ h;omega
       · omega)
      have ht3:Touch (fun k=>k=gr) w w2:=⟨ht.below.trans ht2.below,fun q hq hne=>(ht2.other q (Nat.lt_of_lt_of_le hq ht.below.size) (fun h=>by
       rcases h with h | h
       · have:=HRS.out.2.2.1 _ h;omega
       · exact hne h)).trans (ht.other q hq hne)⟩
      clear ht ht2;have hA:=Own.new w2 86 #[.slice (some ⟨gr,0,none⟩) d k,.slice fa d fc];have hb3:=bA1 w2 (.cells #[.slice (some ⟨gr,0,none⟩) d k,.slice fa d fc] 86);go_upto_region 7 with fail
      generalize w2.alloc (.cells #[.slice (some ⟨gr,0,none⟩) d k,.slice fa d fc] 86)=w3 at *;have hM3:=hM2.keep hb3 (fun q hq=>hM2.lt hq);have hR3:=hR2.keep hb3 hR2.lt;have hF3:=row_keep hF2 hb3;replace hQ:=hQ.keep hb3 (by omega);have ht4:=ht3.trans (Touch.of_below (p:=fun k=>k=gr) hb3);have hgA:w2.heap.size<w3.heap.size:=hA.lt;clear hM2 hR2 hF2 hb3 ht3;generalize hgae:w2.heap.size=gA at *;clear hgae;clear w2;have hS:=Own.new w3 101 #[.slice none 0 0,.slice none 0 0,.slice none 0 0,.slice none 0 0,.slice none 0 0];have hba:=bA1 w3 (.cells #[.slice none 0 0,.slice none 0 0,.slice none 0 0,.slice none 0 0,.slice none 0 0] 101);have hszS:w3.heap.size<(w3.alloc (.cells #[.slice none 0 0,.slice none 0 0,.slice none 0 0,.slice none 0 0,.slice none 0 0] 101)).heap.size:=hS.lt;have cA:=(hA.keep hba hA.lt).cell 0;go_upto_region 9 with fail
      clear cA;generalize w3.alloc (.cells #[.slice none 0 0,.slice none 0 0,.slice none 0 0,.slice none 0 0,.slice none 0 0] 101)=w4 at *;obtain ⟨I,hI⟩:∃I,(ps1.take d).zip L=I:=⟨_,rfl⟩;have hLd:L.length=d:=(by rw [←HP.out.2.2.2.2.2.1,List.length_take];have:=HP.out.2.1;have:=HP.out.2.2.2.2.1;have:=hM3.len;omega);have hId:I.length=d:=by rw [←hI,List.length_zip,List.length_take,hLd];have:=HP.out.2.1;have:=HP.out.2.2.2.2.1;omega
      have HI2:Hid (∀(i:Nat) e,I[i]? = some e→ps1[i]? = some e.1∧L[i]? = some e.2∧RowAt w3 e.1.1 e.2∧w.heap.size+3≤e.1.1∧W+k≤e.1.2∧F[i]? = some (fstN e.2)∧e.2.length=W+k∧fstN e.2<W+k):=Lib.hid (fun i e he=>by
       obtain ⟨h1,h2⟩:=List.getElem?_eq_some_iff.1 he;rw [hId] at h1
       have h3:(ps1.take d)[i]? = some e.1∧L[i]? = some e.2:=by
        rw [←hI,List.getElem?_zip_eq_some] at he;exact he
       have h4:ps1[i]? = some e.1:=by
        have:=h3.1
        rwa [List.getElem?_take,if_pos h1] at this
       have h5:R1[i]? = some e.2:=by
        have:=h3.2
        rwa [←HP.out.2.2.2.2.2.1,List.getElem?_take,if_pos h1] at this
       have hmem:=HP.out.1 _ (List.mem_of_getElem? h4);have hml:=List.mem_of_getElem? h3.2;refine ⟨h4,h3.2,hM3.at_ i _ _ h4 h5,HRS.out.2.2.1 _ ⟨_,hmem,rfl⟩,HRS.out.2.2.2 _ hmem,?_,(HLR.out.ok _ hml).len,HLR.out.fst _ hml⟩;rw [←HP.out.2.2.2.2.2.2,List.getElem?_map,h3.2]
       rfl)
      have hFive:=Five.start (w:=w4) (B:=w3.heap.size+1);have HR3:=Lib.hid hR3;have HA3:=Lib.hid hA;have HF3:=Lib.hid hF3;have hgrl3:=hR3.lt
      go_loopw [38] (fun y wr=>∃(i:Nat) (ca fa' ba ea pa:Option Addr) (cc fc' bc ec pc nc nb:Nat),i≤d∧y=.int .i64 i∧Below w3.heap.size w3 wr∧w3.heap.size<wr.heap.size∧Own wr w3.heap.size 101 #[.slice ca nc cc,.slice fa' nc fc',.slice ba nb bc,.slice ea nb ec,.slice pa nb pc]∧Hid (Five wr (w3.heap.size+1) (.slice ca nc cc) (.slice fa' nc fc') (.slice ba nb bc) (.slice ea nb ec) (.slice pa nb pc) nc nb nb (cPk W k I i) (cFk W I i) (bPk W I i) (bFk W I i) (pPk W k I i)∧nc≤i∧nb≤i)) (fun y _=>d - (intOf y).toNat)
      case atStart=>exact ⟨0,none,none,none,none,none,0,0,0,0,0,0,0,Nat.zero_le _,rfl,hba,hszS,hS,Lib.hid ⟨hFive,Nat.le_refl _,Nat.le_refl _⟩⟩
      case round=>
       clear hba hszS hS hFive hM3 hR3 hA hF3;obtain ⟨i,ca,fa',ba,ea,pa,cc,fc',bc,ec,pc,nc,nb,hi,rfl,hb,hszS,hS,HV⟩:=hrel;have hi0:(0:Int)≤(i:Int):=(by omega);by_cases hid:i<d
       · have hii:(i:Int)<(d:Int):=(by omega);obtain ⟨e,he⟩:∃e,I[i]? = some e:=⟨_,List.getElem?_eq_getElem (by rw [hId];exact hid)⟩;obtain ⟨h1,h2,h3,h4,h5,h6,h7,h8⟩:=HI2.out i e he;obtain ⟨⟨gp,cp⟩,r⟩:=e;dsimp only at h1 h2 h3 h4 h5 h6 h7 h8;have hcr:=(HR3.out.keep hb hgrl3).cell i;rw [slp_get h1] at hcr;have hA4:=HA3.out.keep hb hgA;have cA0:=hA4.cell 0;have cA1:=hA4.cell 1;obtain ⟨gf,rfl,hgf,hcf⟩:=row_cellA (row_keep HF3.out hb) (i:=i) (u:=.int .i64 (fstN r:Nat)) (by rw [List.getElem?_map,h6];rfl);obtain ⟨f,hf⟩:∃f,fstN r=f:=⟨_,rfl⟩;rw [hf] at hcf h8;have HX:=Lib.hid he;have HFF:=Lib.hid hf;have hdk:d≤k:=HP.out.2.2.2.2.1;have hk1:¬k=0:=(by omega);clear h1 h2 h3 h6 h7 he hf;by_cases hfw:f<W
         · have hfi:(f:Int)<(W:Int):=(by omega);have HSP:=Lib.hid (spk_yes (N:=k) HX.out (by dsimp only;rw [HFF.out];exact hfw));rw [HFF.out] at HSP;have cS2:=hS.cell 2;have cS3:=hS.cell 3;go_upto_region 11 with fail
           go_quiet (fail)
           go_wp2_with fail
           have hdr:Below wr.heap.size wr (wr.drewN nq):=below_drewN (Below.refl _ _) _;have hV5:=HV.out.1.keep hdr;replace hS:=hS.keep hdr hS.lt;replace hb:=bT' hb hdr hb.size;replace hszS:=Nat.lt_of_lt_of_le hszS hdr.size;have hnb:=HV.out.2.2;have hnc:=HV.out.2.1;clear hdr cS2 cS3 cA0 cA1 hcr hcf;generalize wr.drewN nq=w5 at *;refine (with_c hV5.b hV5.e (by omega) hszS).mono ?_;rintro e w6 ⟨xa1,xc1,xa2,xc2,rfl,hb1,he1,hG⟩;have hV6:=hV5.withB hb1 he1 hG;have hbl:=hG.belowB (fun q hq=>(hV5.b.lt q hq).1) (fun q hq=>(hV5.e.lt q hq).1) hszS;replace hS:=hS.keep hbl (by omega);replace hb:=hb.trans (hbl.mono (by omega));replace hszS:=Nat.lt_of_lt_of_le hszS hbl.size;clear hV5 hb1 he1 hG hbl;have cS2:=hS.cell 2;have cS3:=hS.cell 3;have fS2:=hS.frozen 2;have fS3:=hS.frozen 3;go_upto_region 15 with fail
           clear cS2 cS3 fS2 fS3;have hV7:=(hV6.far (p:=⟨w3.heap.size,2,none⟩) hS (by decide) (by decide) (.slice xa1 (nb+1) xc1)).far (p:=⟨w3.heap.size,3,none⟩) (hS.set 2 (.slice xa1 (nb+1) xc1)) (by decide) (by decide) (.slice xa2 (nb+1) xc2);replace hb:=(hb.setCell (p:=⟨w3.heap.size,2,none⟩) (Nat.le_refl _) (.slice xa1 (nb+1) xc1)).setCell (p:=⟨w3.heap.size,3,none⟩) (Nat.le_refl _) (.slice xa2 (nb+1) xc2);replace hS:=(hS.set 2 (.slice xa1 (nb+1) xc1)).set 3 (.slice xa2 (nb+1) xc2);replace hS:Own ((w6.setCell ⟨w3.heap.size,2,none⟩ (.slice xa1 (nb+1) xc1)).setCell ⟨w3.heap.size,3,none⟩ (.slice xa2 (nb+1) xc2)) w3.heap.size 101 #[.slice ca nc cc,.slice fa' nc fc',.slice xa1 (nb+1) xc1,.slice xa2 (nb+1) xc2,.slice pa nb pc]:=hS;replace hszS:=hS.lt;clear hV6;generalize (w6.setCell ⟨w3.heap.size,2,none⟩ (.slice xa1 (nb+1) xc1)).setCell ⟨w3.heap.size,3,none⟩ (.slice xa2 (nb+1) xc2)=w7 at *;have HN:=Lib.hid (news1s w7 (Value.slice (some ⟨gp,W,none⟩) k k) 82);have HO:=Lib.hid (show ∀u∈([Value.slice (some ⟨gp,W,none⟩) k k]:List Value),u.oneCell'=true by simp [Value.oneCell']);have hba:=bA1 w7 (.cells #[.slice (some ⟨gp,W,none⟩) k k] 82);have HP8:=Lib.hid (hV7.keep hba).p;have hS8:=hS.keep hba hS.lt;have hsz8:=hS8.lt;have cS4:=hS.cell 4
           go_wp2_with (refine wpList_append_fresh _ rfl (.tmp 69) (.tmp 71) 83 rfl (w3.heap.size + 1) 82 tiR tzR 1 24 Tryz.underlying83 HIR.out HZR.out HSR.out HBtR.out HZsR.out (by omega) (.slice pa nb pc) nb _ rfl HP8.out ⟨w7.heap.size, 0, none⟩ 1 1 [Value.slice (some ⟨gp, W, none⟩) k k] rfl rfl HN.out HO.out (by simp only [maxLen]; omega) (by omega) hsz8 (fun v' w8 h2 h3 h4 => ?_)
                        obtain ⟨pa',pc',rfl⟩:=row_slice h2;have hG:=((FG2.refl w7 (.slice pa nb pc) (.slice pa nb pc)).below hba).app1 h3 h4;have hS9:=hS8.grown h3 (own_ne_row hS8 HP8.out (by decide));have HV9:=Lib.hid (hV7.appP h2 hG);have hbl:=hG.belowB (fun q hq=>(hV7.p.lt q hq).1) (fun q hq=>(hV7.p.lt q hq).1) hszS;have hb9:=hb.trans (hbl.mono (by omega));clear h2 h3 h4 hG HN HO hba HP8 hS8 hsz8 cS4 hbl hV7 hS hb;have cS4:=hS9.cell 4
                        have fS4:=hS9.frozen 4)
           go_roundw
           case rel=>
            have hSa:=hS9.set 4 (.slice pa' (nb+1) pc');have hbS:=hb9.setCell (p:=⟨w3.heap.size,4,none⟩) (Nat.le_refl _) (.slice pa' (nb+1) pc');refine ⟨i+1,ca,fa',xa1,xa2,pa',cc,fc',xc1,xc2,pc',nc,nb+1,by omega,by go_num,hbS,hSa.lt,hSa,Lib.hid ⟨?_,by omega,by omega⟩⟩;rw [HSP.out.1,HSP.out.2.1,HSP.out.2.2.1,HSP.out.2.2.2.1,HSP.out.2.2.2.2];exact HV9.out.far (p:=⟨w3.heap.size,4,none⟩) hS9 (by decide) (by decide) (.slice pa' (nb+1) pc')
           case measure=>simp [intOf] <;> omega
         · have hfi:¬(f:Int)<(W:Int):=(by omega);have HSP:=Lib.hid (spk_no (N:=k) HX.out (by dsimp only;rw [HFF.out];exact hfw));have e4:IntKind.i64.wrap ((f:Int) - (W:Int))=(f:Int) - (W:Int):=IntWalk.i64_in _ (by omega);rw [HFF.out] at HSP;have cS0:=hS.cell 0;have cS1:=hS.cell 1;go_upto_region 11 with fail
           go_quiet (fail)
           go_wp2_with fail
           have hdr:Below wr.heap.size wr (wr.drewN nq):=below_drewN (Below.refl _ _) _;have hV5:=HV.out.1.keep hdr;replace hS:=hS.keep hdr hS.lt;replace hb:=bT' hb hdr hb.size;replace hszS:=Nat.lt_of_lt_of_le hszS hdr.size;have hnb:=HV.out.2.2;have hnc:=HV.out.2.1;clear hdr cS0 cS1 cA0 cA1 hcr hcf;generalize wr.drewN nq=w5 at *;refine (with_c hV5.c hV5.f (by omega) hszS).mono ?_;rintro e w6 ⟨xa1,xc1,xa2,xc2,rfl,hb1,he1,hG⟩;have HV6:=Lib.hid (hV5.withC hb1 he1 hG);have hbl:=hG.belowB (fun q hq=>(hV5.c.lt q hq).1) (fun q hq=>(hV5.f.lt q hq).1) hszS;replace hS:=hS.keep hbl (by omega);replace hb:=hb.trans (hbl.mono (by omega));clear hV5 hb1 he1 hG hbl;have cS2:=hS.cell 0;have cS3:=hS.cell 1;have fS2:=hS.frozen 0;have fS3:=hS.frozen 1;go_wp2_with fail
           go_roundw
           case rel=>
            have hSa:=(hS.set 0 (.slice xa1 (nc+1) xc1)).set 1 (.slice xa2 (nc+1) xc2);have hbS:=(hb.setCell (p:=⟨w3.heap.size,0,none⟩) (Nat.le_refl _) (.slice xa1 (nc+1) xc1)).setCell (p:=⟨w3.heap.size,1,none⟩) (Nat.le_refl _) (.slice xa2 (nc+1) xc2);refine ⟨i+1,xa1,xa2,ba,ea,pa,xc1,xc2,bc,ec,pc,nc+1,nb,by omega,by go_num,hbS,hSa.lt,hSa,Lib.hid ⟨?_,by omega,by omega⟩⟩;rw [HSP.out.1,HSP.out.2.1,HSP.out.2.2.1,HSP.out.2.2.2.1,HSP.out.2.2.2.2];exact (HV6.out.far (p:=⟨w3.heap.size,0,none⟩) hS (by decide) (by decide) (.slice xa1 (nc+1) xc1)).far (p:=⟨w3.heap.size,1,none⟩) (hS.set 0 (.slice xa1 (nc+1) xc1)) (by decide) (by decide) (.slice xa2 (nc+1) xc2)
           case measure=>simp [intOf] <;> omega
       · have he:i=d:=(by omega);subst he;have cS0:=hS.cell 0;have cS1:=hS.cell 1;have cS2:=hS.cell 2;have cS3:=hS.cell 3;have cS4:=hS.cell 4;have hQ9:=hQ.keep hb (by have:=hQ.lt;omega);have ht9:Touch (fun k=>k=gr) w wr:=ht4.trans (Touch.of_below hb)
         have hSV:SplitV wr (w.heap.size+1) (.agg #[.slice ca nc cc,.slice fa' nc fc',.slice ba nb bc,.slice ea nb ec,.slice pa nb pc]) W k L:=by
          have hfi:=HV.out.1;have hti:I.take i=I:=List.take_of_length_le (by omega);rw [cPk,cFk,bPk,bFk,pPk,hti] at hfi;have hz:(ps1.take i).length=L.length:=by rw [hLd,List.length_take];have:=HP.out.2.1;have:=HP.out.2.2.2.2.1;omega
          have hIm:∀e∈I,RowAt wr e.1.1 e.2∧w.heap.size+1≤e.1.1∧e.2.length=W+k:=fun e he=>by
           obtain ⟨j,hj,rfl⟩:=List.mem_iff_getElem.1 he;obtain ⟨-,-,h3,h4,-,-,h7,-⟩:=HI2.out j _ (List.getElem?_eq_getElem hj);exact ⟨h3.keep hb h3.lt,by omega,h7⟩
          have hIf:∀e∈I,fstN e.2<e.2.length:=fun e he=>by
           obtain ⟨j,hj,rfl⟩:=List.mem_iff_getElem.1 he;obtain ⟨-,-,-,-,-,-,h7,h8⟩:=HI2.out j _ (List.getElem?_eq_getElem hj);omega
          have hwl:=hQ.lt;refine ⟨_,_,_,_,_,rfl,?_,?_,?_,⟨w3.heap.size+1,nb,by omega,?_⟩,⟨w3.heap.size+1,nc,by omega,?_⟩⟩
          · have:=RwsV.of (I:=I) (lo:=w.heap.size+1) (off:=W) (W:=k) (L:=W+k) (h:=fun e=>e.2.drop W) hfi.c (by omega) (fun e he=>(List.mem_filter.1 he).1) hIm (fun e=>⟨k,rfl⟩) (fun e _ j x hx=>by rw [List.getElem?_drop] at hx;exact hx);rw [←hI,cloR_zip hz] at this;exact this
          · have := RwsV.of (I := I) (lo := w.heap.size + 1) (off := 0) (W := W) (L := W + k) (h := fun e => e.2.take W) hfi.b (by omega) (fun e he => (List.mem_filter.1 he).1) hIm (fun e => ⟨W, rfl⟩) (fun e _ j x hx => by
              rw [List.getElem?_take] at hx;split at hx
              · rw [Nat.zero_add];exact hx
              · simp at hx)
            rw [←hI,bndR_zip hz] at this;exact this
          · have:=RwsV.of (I:=I) (lo:=w.heap.size+1) (off:=W) (W:=k) (L:=W+k) (h:=fun e=>e.2.drop W) hfi.p (by omega) (fun e he=>(List.mem_filter.1 he).1) hIm (fun e=>⟨k,rfl⟩) (fun e _ j x hx=>by rw [List.getElem?_drop] at hx;exact hx);rw [←hI,priR_zip hz] at this;exact this
          · have e1 : (bndR W L).map (fun r => Value.int .i64 (fstN r : Nat)) = bF W I := by
              rw [←bndR_zip hz,List.map_map,bF,hI];apply List.map_congr_left
              intro e he;obtain ⟨h1,h2⟩:=List.mem_filter.1 he;simp only [Function.comp_apply];rw [fstN_take (hIf e h1) (by rw [isB] at h2;simpa using h2)]
            rw [e1];exact hfi.e
          · have e1 : (cloR W L).map (fun r => Value.int .i64 (fstN r : Nat)) = cF W I := by
              rw [←cloR_zip hz,List.map_map,cF,hI];apply List.map_congr_left
              intro e he;obtain ⟨h1,h2⟩:=List.mem_filter.1 he;have h3:W≤fstN e.2:=(by rw [isB] at h2;simpa using h2);simp only [Function.comp_apply];rw [fstN_drop (hIf e h1) h3];congr 1
              omega
            rw [e1];exact hfi.f
         have HSV:=Lib.hid hSV;have cQ0:=hQ9.cell 0;have cQ1:=hQ9.cell 1;have cQ2:=hQ9.cell 2;have cQ3:=hQ9.cell 3;have cQ4:=hQ9.cell 4;have fQ0:=hQ9.frozen 0;have fQ1:=hQ9.frozen 1;have fQ2:=hQ9.frozen 2;have fQ3:=hQ9.frozen 3;have fQ4:=hQ9.frozen 4;clear hSV;go_wp2_with fail
         have hq5:=((((hQ9.set 0 (.slice ca nc cc)).set 1 (.slice fa' nc fc')).set 2 (.slice ba nb bc)).set 3 (.slice ea nb ec)).set 4 (.slice pa nb pc);have hon:=Touch.of_only (((((((Only.refl w.heap.size wr).set 0 (.slice ca nc cc)).set 1 (.slice fa' nc fc')).set 2 (.slice ba nb bc)).set 3 (.slice ea nb ec)).set 4 (.slice pa nb pc)));have hS2:=(HSV.out.touch hon (fun q hq=>by omega)).weaken (lo':=w.heap.size) (by omega);rw [←HLE.out] at hS2;exact bodyPost_ret (results_cell_row rfl _ _ w.heap.size 101 #[.slice ca nc cc,.slice fa' nc fc',.slice ba nb bc,.slice ea nb ec,.slice pa nb pc] (0,0) _ rfl hq5 Tryz.underlying101 rfl Tryz.info_split) rfl ⟨_,rfl,hS2,((((ht9.setNew (b:=w.heap.size) (Nat.le_refl _) 0 _).setNew (b:=w.heap.size) (Nat.le_refl _) 1 _).setNew (b:=w.heap.size) (Nat.le_refl _) 2 _).setNew (b:=w.heap.size) (Nat.le_refl _) 3 _).setNew (b:=w.heap.size) (Nat.le_refl _) 4 _⟩
    · obtain rfl:k=0:=by omega
      have hL0:L=[]:=by
       have hMn:M=[]:=List.eq_nil_of_length_eq_zero HML.out;rw [←hL,hMn];rfl
      have HL0:=Lib.hid hL0;have HLE:=Lib.hid hL;clear hL hL0 hRW;go_wp2_with fail
      refine (basisOf0_c _ _).mono ?_;rintro e w2 ⟨rfl,hb2⟩;have ht2:=ht.trans (Touch.of_below (p:=fun k=>k=gr) hb2);replace hQ:=hQ.keep hb2 hQ.lt;have hA:=Own.new w2 86 #[.slice none 0 0,.slice none 0 0];have hb3:=bA1 w2 (.cells #[.slice none 0 0,.slice none 0 0] 86);go_upto_region 7 with fail
      generalize w2.alloc (.cells #[.slice none 0 0,.slice none 0 0] 86)=w3 at *;replace hQ:=hQ.keep hb3 hQ.lt;have ht3:=ht2.trans (Touch.of_below (p:=fun k=>k=gr) hb3);have hgA:w2.heap.size<w3.heap.size:=hA.lt;clear hb3 ht2 hb2 ht;have hS:=Own.new w3 101 #[.slice none 0 0,.slice none 0 0,.slice none 0 0,.slice none 0 0,.slice none 0 0];have hba:=bA1 w3 (.cells #[.slice none 0 0,.slice none 0 0,.slice none 0 0,.slice none 0 0,.slice none 0 0] 101);have cA:=(hA.keep hba hA.lt).cell 0;go_upto_region 9 with fail
      clear cA;generalize w3.alloc (.cells #[.slice none 0 0,.slice none 0 0,.slice none 0 0,.slice none 0 0,.slice none 0 0] 101)=w4 at *
      go_loopw [38] (fun y wr=>y=.int .i64 0∧Below w3.heap.size w3 wr∧Own wr w3.heap.size 101 #[.slice none 0 0,.slice none 0 0,.slice none 0 0,.slice none 0 0,.slice none 0 0]) (fun y _=>0)
      case atStart=>exact ⟨rfl,hba,hS⟩
      case round=>
       clear hba hS;obtain ⟨rfl,hb,hS⟩:=hrel;have cS0:=hS.cell 0;have cS1:=hS.cell 1;have cS2:=hS.cell 2;have cS3:=hS.cell 3;have cS4:=hS.cell 4;have hQ9:=hQ.keep hb hQ.lt;have ht9:Touch (fun k=>k=gr) w wr:=ht3.trans (Touch.of_below hb);have cQ0:=hQ9.cell 0;have cQ1:=hQ9.cell 1;have cQ2:=hQ9.cell 2;have cQ3:=hQ9.cell 3;have cQ4:=hQ9.cell 4;have fQ0:=hQ9.frozen 0;have fQ1:=hQ9.frozen 1;have fQ2:=hQ9.frozen 2;have fQ3:=hQ9.frozen 3;have fQ4:=hQ9.frozen 4;go_wp2_with fail
       have hq5:=((((hQ9.set 0 (.slice none 0 0)).set 1 (.slice none 0 0)).set 2 (.slice none 0 0)).set 3 (.slice none 0 0)).set 4 (.slice none 0 0);refine bodyPost_ret (results_cell_row rfl _ _ w.heap.size 101 #[.slice none 0 0,.slice none 0 0,.slice none 0 0,.slice none 0 0,.slice none 0 0] (0,0) _ rfl hq5 Tryz.underlying101 rfl Tryz.info_split) rfl ⟨_,rfl,?_,((((ht9.setNew (b:=w.heap.size) (Nat.le_refl _) 0 _).setNew (b:=w.heap.size) (Nat.le_refl _) 1 _).setNew (b:=w.heap.size) (Nat.le_refl _) 2 _).setNew (b:=w.heap.size) (Nat.le_refl _) 3 _).setNew (b:=w.heap.size) (Nat.le_refl _) 4 _⟩;rw [HLE.out,HL0.out];exact SplitV.nil _ _ _ _
end Go.Proofs.YtifcfoijcodjbaaGreat
