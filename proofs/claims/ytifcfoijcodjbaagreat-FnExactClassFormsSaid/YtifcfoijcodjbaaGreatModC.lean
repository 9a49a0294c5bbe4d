
import Derived.Test.YtifcfoijcodjbaaGreatPriP
import Derived.Test.YtifcfoijcodjbaaGreatNewA
namespace Go.Proofs.YtifcfoijcodjbaaGreat
set_option maxRecDepth 100000
open Go.RowKit Go.Deep
theorem eq_nil_row {x:Addr} {n c:Nat} (w:World):(binOp BinOp.eql 82 (.slice (some x) n c) (.slice none 0 0)).run Tryz.prog w=.ok (.bool false) w:=by kernel_rfl
theorem cloneR_c {w : World} {p off W : Nat} {r : List Int} (c : Nat) (hr : r.length = W) (hW : W ≤ 1000) (hR : RdAt w p off r) (hp : p < w.heap.size) :
    Calls Tryz.prog 173 #[.slice (some ⟨p,off,none⟩) W c] w fun e w'=>∃v,e=.returned v∧w'.ownsRow w.heap.size 173 1 v W (r.map (Value.int .i64))∧Below w.heap.size w w':=by
 obtain ⟨ti,tz,hti,htz,hts,htb,htzs⟩:=Tryz.info_numR
 have hnews:∀j u,(r.map (Value.int .i64))[j]? = some u→(w.alloc (.cells #[] 173)).cell? ((⟨p,off,none⟩:Addr).add j)=some u:=fun j u hu=>by
  rw [List.getElem?_map] at hu
  cases hx:r[j]? with
  | none=>rw [hx] at hu;simp at hu
  | some x =>
    rw [hx,Option.map_some,Option.some.injEq] at hu;subst hu;rw [Addr.add_lit];exact (World.cell?_of_block (a:=⟨p,off+j,none⟩) ((bA1 w (.cells #[] 173)).block p hp)).trans (hR j x hx)
 have hone:∀u∈r.map (Value.int .i64),u.oneCell'=true:=by
  intro u hu;obtain ⟨x,-,rfl⟩:=List.mem_map.1 hu;rfl
 have hlen:(r.map (Value.int .i64)).length=W * 1:=by simp [hr]
 have HN:=Lib.hid hnews
 have HO:=Lib.hid hone
 have HI:=Lib.hid hti
 have HZ:=Lib.hid htz
 have HS:=Lib.hid hts
 have HBt:=Lib.hid htb
 have HZs:=Lib.hid htzs
 have HLN:=Lib.hid hlen
 have HEQ:=eq_nil_row (x:=⟨p,off,none⟩) (n:=W) (c:=c) w
 clear hnews hone hti htz hts htb htzs hlen hr hR hp
 go_enter Tryz.func173,Tryz.ntmps173
 go_wp2_with (refine wpList_append_own_wide _ rfl (.tmp 5) (.tmp 6) 82 rfl w.heap.size 173 ti tz 1 8 Tryz.underlying82 HI.out HZ.out HS.out HBt.out HZs.out (by omega) (.slice (some ⟨w.heap.size,0,none⟩) 0 0) 0 [] rfl (empty_rowG w 173 (Nat.le_refl _)) ⟨p,off,none⟩ W c (r.map (Value.int .i64)) rfl HLN.out HN.out HO.out (by simp only [maxLen];omega) (by omega) (by rw [sAl];omega) (fun v' w' h2 h3 h4=>?_))
 rw [Nat.zero_add,List.nil_append] at h2
 have hb:=grown_below (bA1 w (.cells #[] 173)) h3 (fun k e=>by have:w.heap.size=k:=(by simpa [Value.ownBlock] using e);omega) (by rw [sAl];omega)
 clear h3 h4 HEQ
 go_wp2_with fail
 go_ret
 exact ⟨_,rfl,h2,hb⟩
theorem BasV.made {w : World} {lo gr W n d gc : Nat} {ps : List (Nat × Nat)} {R L : List (List Int)} {F : List Nat} {fa : Option Addr} {fc B : Nat} (hM : Rws w ps R) (hgr : Own w gr 82 (slp W ps).toArray) (hf : w.ownsRow B 3 1 (.slice fa d fc) d (F.map (fun f : Nat => Value.int .i64 (f : Int))))
    (hps:ps.length=n) (hd:d≤n) (hF:F.length=d) (hL:R.take d=L) (hLF:L.map fstN=F) (hlo:∀k,InP ps k→lo≤k) (hlg:lo≤gr) (hlB:lo≤B) (hlen:L.length=d) :
    BasV w lo w.heap.size (.agg #[.slice (some ⟨gr,0,none⟩) d gc,.slice fa d fc]) W L:=by
 refine ⟨some ⟨gr,0,none⟩,gc,fa,fc,by rw [hlen],fun i r hi=>?_⟩
 have hid:i<d:=by rw [←hlen];exact (List.getElem?_eq_some_iff.1 hi).1
 have hip:i<ps.length:=by omega
 have hpi:ps[i]? = some ps[i]:=List.getElem?_eq_getElem hip
 have hRi:R[i]? = some r:=by
  rw [←hL,List.getElem?_take,if_pos hid] at hi;exact hi
 have hrow:=hM.at_ i _ r hpi hRi
 have hFi:F[i]? = some (fstN r):=by rw [←hLF,List.getElem?_map,hi];rfl
 obtain ⟨gf,e1,e2,e3⟩:=row_cellA (i:=i) hf (by rw [List.getElem?_map,hFi];rfl)
 have e4:=(hf.lt gf (by rw [e1];rfl)).1
 refine ⟨gr,ps[i].1,0,ps[i].2,gf,rfl,e1,hlg,hgr.lt,hlo _ ⟨_,List.mem_of_getElem? hpi,rfl⟩,hrow.lt,by omega,e2,?_,hrow.rd0,e3⟩
 rw [hgr.cell i]
 exact slp_get hpi
set_option maxHeartbeats 4000000 in
theorem modulo_c {w : World} {lo hi lo2 hi2 W : Nat} {e e2 : Value} {C D : List (List Int)} (hB : BasV w lo hi e W C) (hB2 : BasV w lo2 hi2 e2 W D) (hh : hi ≤ w.heap.size) (hh2 : hi2 ≤ w.heap.size) (hC : RedI W C) (hD : RedI W D) (hW : W ≤ 1000) (hCn : C.length ≤ 1000) (hDn : D.length ≤ 1000) :
    Calls Tryz.prog 119 #[e,e2] w fun e' w'=>∃v,e'=.returned v∧BasV w' w.heap.size w'.heap.size v W (redR (C.map (fun r=>byR r D)))∧Below w.heap.size w w':=by
 have HB2:=Lib.hid hB2
 obtain ⟨a,c,fa,fc,rfl,hE⟩:=hB
 obtain ⟨a2,c2,fa2,fc2,rfl,-⟩:=hB2
 have HE:=Lib.hid hE
 have HCR:=Lib.hid hC
 have HDR:=Lib.hid hD
 have HH:=Lib.hid hh
 have HH2:=Lib.hid hh2
 obtain ⟨N,hN⟩:∃N,C.length=N:=⟨_,rfl⟩
 obtain ⟨N2,hN2⟩:∃N2,D.length=N2:=⟨_,rfl⟩
 rw [hN] at hCn ⊢
 rw [hN2] at hDn HB2 ⊢
 have HN:=Lib.hid hN
 have HN2:=Lib.hid hN2
 obtain ⟨CB,hCB⟩:∃CB,C.map (fun r=>byR r D)=CB:=⟨_,rfl⟩
 rw [hCB]
 have HCB:=Lib.hid hCB
 have HCBl:Hid (CB.length=N):=Lib.hid (by rw [←hCB,List.length_map,hN])
 have hbx:=((Own.new w 86 #[.slice a N c,.slice fa N fc]).alloc (.cells #[.slice a2 N2 c2,.slice fa2 N2 fc2] 86)).alloc (.cells #[.slice none 0 0,.slice none 0 0] 86)
 have hby:=(Own.new (w.alloc (.cells #[.slice a N c,.slice fa N fc] 86)) 86 #[.slice a2 N2 c2,.slice fa2 N2 fc2]).alloc (.cells #[.slice none 0 0,.slice none 0 0] 86)
 have hbq:=Own.new ((w.alloc (.cells #[.slice a N c,.slice fa N fc] 86)).alloc (.cells #[.slice a2 N2 c2,.slice fa2 N2 fc2] 86)) 86 #[.slice none 0 0,.slice none 0 0]
 have hb3:=bTn (bTn (bA1 w (.cells #[.slice a N c,.slice fa N fc] 86)) (bA1 _ (.cells #[.slice a2 N2 c2,.slice fa2 N2 fc2] 86))) (bA1 _ (.cells #[.slice none 0 0,.slice none 0 0] 86))
 have hs3:(((w.alloc (.cells #[.slice a N c,.slice fa N fc] 86)).alloc (.cells #[.slice a2 N2 c2,.slice fa2 N2 fc2] 86)).alloc (.cells #[.slice none 0 0,.slice none 0 0] 86)).heap.size=w.heap.size+3:=by rw [sAl,sAl,sAl]
 rw [sAl] at hby
 rw [sAl,sAl] at hbq
 clear hE hC hD hh hh2 hN hN2 hCB
 go_enter Tryz.func119,Tryz.ntmps119
 go_upto_region 1 with fail
 generalize ((w.alloc (.cells #[.slice a N c,.slice fa N fc] 86)).alloc (.cells #[.slice a2 N2 c2,.slice fa2 N2 fc2] 86)).alloc (.cells #[.slice none 0 0,.slice none 0 0] 86)=w3 at *
 have hmk1:=make_row3 N (by omega) w3
 rw [hs3] at hmk1
 have hF:=Own.new w3 82 (Array.replicate N (Value.slice none 0 0))
 rw [hs3] at hF
 have hba:=bA1 w3 (.cells (Array.replicate N (Value.slice none 0 0)) 82)
 have hb4:=hb3.trans (hba.mono (by omega))
 have hbx4:=hbx.keep hba hbx.lt
 have hby4:=hby.keep hba hby.lt
 have hbq4:=hbq.keep hba hbq.lt
 have cx:=hbx.cell 0
 go_upto_region 2 with fail
 clear hmk1 cx hbx hby hbq hba hb3
 generalize w3.alloc (.cells (Array.replicate N (Value.slice none 0 0)) 82)=w4 at *
 clear hs3
 clear w3
 have cx:=hbx4.cell 0
 obtain ⟨gr,hgr⟩:∃gr,w.heap.size+3=gr:=⟨_,rfl⟩
 try rw [hgr] at hF
 have hF0:Own w4 gr 82 (valCells N (slp W [])).toArray:=by rw [show (valCells N (slp W [])).toArray=Array.replicate N (Value.slice none 0 0) by simp [valCells,slp]];exact hF
 have HRS0:Hid (Rws w4 [] (CB.take 0)∧([]:List (Nat × Nat)).length=0∧(∀k,InP [] k→gr<k)∧∀p∈([]:List (Nat × Nat)),W≤p.2):=Lib.hid ⟨⟨rfl,by simp,by simp⟩,rfl,fun k hk=>by obtain ⟨p,hp,-⟩:=hk;simp at hp,by simp⟩
 clear hF
 go_upto_region 3 with fail
 clear cx
 try rw [hgr]
 have HGR:=Lib.hid hgr
 clear hgr
 go_loopw [15] (fun y wr=>∃(k:Nat) (ps:List (Nat × Nat)),k≤N∧y=.int .i64 k∧Below w.heap.size w wr∧Own wr w.heap.size 86 #[.slice a N c,.slice fa N fc]∧Own wr (w.heap.size+1) 86 #[.slice a2 N2 c2,.slice fa2 N2 fc2]∧Own wr (w.heap.size+1+1) 86 #[.slice none 0 0,.slice none 0 0]∧Own wr gr 82 (valCells N (slp W ps)).toArray∧Hid (Rws wr ps (CB.take k)∧ps.length=k∧(∀k,InP ps k→gr<k)∧∀p∈ps,W≤p.2)) (fun y _=>N - (intOf y).toNat)
 case atStart=>exact ⟨0,[],Nat.zero_le _,rfl,hb4,hbx4,hby4,hbq4,hF0,HRS0⟩
 case round=>
  clear hb4 hbx4 hby4 hbq4 hF0 HRS0;obtain ⟨k,ps,hk,rfl,hb,hbx,hby,hbq,hF,HRS⟩:=hrel;by_cases hin:k<N
  · have hk0:(0:Int)≤(k:Int):=(by omega);have hkn:(k:Int)<(N:Int):=(by omega);obtain ⟨s,hs⟩:∃s,C[k]? = some s:=⟨_,List.getElem?_eq_getElem (by rw [HN.out];exact hin)⟩;have hsm:=List.mem_of_getElem? hs;obtain ⟨g,q,off,cap,gf,rfl,rfl,g1,g2,q1,q2,f1,f2,c1,c2x,c3⟩:=HE.out k s hs;have hhh:=HH.out;have c1':=(World.cell?_of_block (a:=⟨g,k,none⟩) (hb.block g (by omega))).trans c1;have hrd:RdAt wr q off s:=c2x.block (hb.block q (by omega));have hqw:q<wr.heap.size:=(by have:=hb.size;omega);have HSK:=Lib.hid (HCR.out.ok s hsm);have hWp:0<W:=(by have:=HCR.out.fst s hsm;omega);have HCS:Hid (CB[k]? = some (byR s D)):=Lib.hid (by rw [←HCB.out,List.getElem?_map,hs];rfl);clear hs hsm c1 c2x c3 hhh;go_wp2_with fail
    refine (cloneR_c cap HSK.out.len hW hrd hqw).mono ?_;rintro e w5 ⟨v,rfl,hV,hb5⟩;obtain ⟨p,pc,rfl,hp1,hp2,hpr⟩:=row_at hV hWp;have HPC:=Lib.hid (row_capB hV hWp);have hgl:=hF.lt;have hb6:=bT' hb hb5 hb.size;have hbx6:=hbx.keep hb5 hbx.lt;have hby6:=hby.keep hb5 hby.lt;have hbq6:=hbq.keep hb5 hbq.lt;have hF6:=hF.keep hb5 hF.lt;have HRW:=Lib.hid (HRS.out.1.keep hb5 (fun _ h=>HRS.out.1.lt h));have HNP:Hid (∀j,InP ps j→j<p):=Lib.hid (fun j hj=>Nat.lt_of_lt_of_le (HRS.out.1.lt hj) hp1);have hpg:gr<p:=(by omega);have HP1:=Lib.hid (Nat.le_trans hb.size hp1);clear hb hb5 hbx hby hbq hF hV c1' hrd hp1 hp2 hgl;have hfz:=hF6.frozen k;obtain ⟨ov,hcv⟩:=hF6.has (i:=k) (by rw [List.size_toArray,valCells_len (by rw [slp,List.length_map,HRS.out.2.1];omega)];exact hin);go_upto_region 6 with fail
    clear hcv hfz;replace hb6:=hb6.setCell (p:=⟨gr,k,none⟩) (by dsimp only;have:=HGR.out;omega) (.slice (some ⟨p,0,none⟩) W pc);replace hbx6:=hbx6.far (p:=⟨gr,k,none⟩) (by dsimp only;have:=HGR.out;omega) (.slice (some ⟨p,0,none⟩) W pc);replace hby6:=hby6.far (p:=⟨gr,k,none⟩) (by dsimp only;have:=HGR.out;omega) (.slice (some ⟨p,0,none⟩) W pc);replace hbq6:=hbq6.far (p:=⟨gr,k,none⟩) (by dsimp only;have:=HGR.out;omega) (.slice (some ⟨p,0,none⟩) W pc);replace hpr:=hpr.far (p:=⟨gr,k,none⟩) (by dsimp only;omega) (.slice (some ⟨p,0,none⟩) W pc);replace HRW:=Lib.hid (HRW.out.far (p:=⟨gr,k,none⟩) (fun h=>by have:=HRS.out.2.2.1 _ h;dsimp only at this;omega) (.slice (some ⟨p,0,none⟩) W pc));replace hF6:=hF6.set k (.slice (some ⟨p,0,none⟩) W pc);rw [valCells_step (by rw [slp,List.length_map];exact HRS.out.2.1) hin,show slp W ps++[Value.slice (some ⟨p,0,none⟩) W pc]=slp W (ps++[(p,pc)]) by rw [slp,slp,List.map_append];rfl] at hF6;have HSL:Hid ((slp W (ps++[(p,pc)])).length=k+1):=Lib.hid (by rw [slp,List.length_map,List.length_append,HRS.out.2.1];rfl);generalize w5.setCell ⟨gr,k,none⟩ (.slice (some ⟨p,0,none⟩) W pc)=w6 at *
    have hcell:w6.cell? ⟨gr,k,none⟩=some (.slice (some ⟨p,0,none⟩) W pc):=by
     rw [hF6.cell k,List.getElem?_toArray,valCells,List.getElem?_append_left (by rw [HSL.out];omega),slp,List.getElem?_map,List.getElem?_append_right (by rw [HRS.out.2.1];exact Nat.le_refl _),HRS.out.2.1,Nat.sub_self];rfl
    have hdr:Below w6.heap.size w6 w6.drew:=(Below.refl _ _).drew;replace hb6:=bT' hb6 hdr hb6.size;replace hbx6:=hbx6.keep hdr hbx6.lt;replace hby6:=hby6.keep hdr hby6.lt;replace hbq6:=hbq6.keep hdr hbq6.lt;replace hF6:=hF6.keep hdr hF6.lt;replace HRW:=Lib.hid (HRW.out.keep hdr (fun _ h=>HRW.out.lt h));replace hpr:=hpr.keep hdr hpr.lt;replace hcell:w6.drew.cell? ⟨gr,k,none⟩=some (.slice (some ⟨p,0,none⟩) W pc):=hcell;refine wp_region_held_drew (S:=(fun w'=>w'.cell? ⟨w.heap.size+1,0,none⟩=some (.slice a2 N2 c2)∧w'.cell? ⟨w.heap.size+1,1,none⟩=some (.slice fa2 N2 fc2)∧w'.cell? ⟨gr,k,none⟩=some (.slice (some ⟨p,0,none⟩) W pc))) (by kernel_rfl) ?_ (fun _=>?_)
    · ((try dsimp only);(exact ⟨hby6.cell 0,hby6.cell 1,hcell⟩))
    clear hdr;generalize w6.drew=W6 at *;refine hdT 0 ?_;refine hdT 1 ?_;refine hdT 2 ?_;refine hdT 3 ?_;refine hdT 4 ?_;refine hdC 5 (fun K hK=>?_)
    (go_simp;(go_at_call 120;refine (reduce_c (p:=p) pc (HB2.out.keep hb6 HH2.out) (Nat.le_trans HH2.out hb6.size) HDR.out HSK.out hpr (fun h=>by have:=HH2.out;have:=HP1.out;omega) hW (by rw [HN2.out];exact hDn)).mono ?_;rintro e W7 ⟨g7,rfl,-,-,hP7,ht7⟩);go_wp2_with fail)
    have hpw:=HP1.out;have hgre:=HGR.out;have hgw6:=hb6.size;have hb7:=hb6.trans (ht7.bel3 hpw hb6.size);replace hbx6:=ht7.own hbx6 (by omega);replace hby6:=ht7.own hby6 (by omega);replace hbq6:=ht7.own hbq6 (by omega);have hF6L:=Lib.hid hF6.lt;replace hF6:=ht7.own hF6 (by omega);have HRW7:=Lib.hid ((HRW.out.touch ht7 (fun j hj=>by have:=HNP.out j hj;omega)).snoc (p:=(p,pc)) hP7 (fun h=>by have:=HNP.out _ h;dsimp only at this;omega));replace hcell:=(World.cell?_of_block (a:=⟨gr,k,none⟩) (ht7.other gr (by have:=hF6L.out;omega) (by omega))).trans hcell;clear hb6 ht7 hpr hgre hpw hgw6;refine hK.out _ _ ?_ (fun _=>?_)
    · ((try dsimp only);(exact ⟨hby6.cell 0,hby6.cell 1,hcell⟩))
    clear hK K
    (try simp only [Act.put,pA,pB,pC])
    refine wpAnyH_done (by kernel_rfl) ?_ _;go_wp2_with fail
    go_roundw
    case rel=>
     refine ⟨k+1,ps++[(p,pc)],by omega,by go_num,hb7,hbx6,hby6,hbq6,hF6,Lib.hid ⟨?_,by rw [List.length_append,HRS.out.2.1];rfl,fun j hj=>?_,fun x hx=>?_⟩⟩
     · rw [take_sn HCS.out];exact HRW7.out
     · rcases hj.snoc with h | h
       · exact HRS.out.2.2.1 j h
       · dsimp only at h;omega
     · rw [List.mem_append] at hx
       rcases hx with hx | hx
       · exact HRS.out.2.2.2 x hx
       · obtain rfl:x=(p,pc):=(by simpa using hx);exact HPC.out
    case measure=>simp [intOf] <;> omega
  · have he:k=N:=(by omega);subst he;rw [valCells_full (by rw [slp,List.length_map];exact HRS.out.2.1)] at hF;have HRW:=HRS.out.1;rw [List.take_of_length_le (by rw [HCBl.out];exact Nat.le_refl _)] at HRW
    have HOK:Hid (∀r∈CB,RowOk W r):=Lib.hid (fun r hr=>by
     rw [←HCB.out] at hr;obtain ⟨s,hs,rfl⟩:=List.mem_map.1 hr
     exact byR_ok (HCR.out.ok s hs) HDR.out.ok)
    have hgw:w.heap.size≤gr:=(by have:=HGR.out;omega);have hgl:=hF.lt;have cQ0:=hbq.cell 0;by_cases h0:0<k
    · clear cQ0;go_wp2_with fail
      refine (basisOfA_c HRW HRS.out.2.1 HOK.out (by omega) h0 hW (fun h=>by have:=HRS.out.2.2.1 _ h;omega) hF k (Nat.le_refl _)).mono ?_;rintro e w7 ⟨d,ps1,R1,F,fa',fc',rfl,hM2,hR2,hF2,HP,ht2⟩
      have hPB:∀j,PB ps gr j→gr≤j:=fun j hj=>by
       rcases hj with h | h
       · have:=HRS.out.2.2.1 j h;omega
       · omega
      have hb7:=hb.trans (ht2.bel (fun j hj=>Nat.le_trans hgw (hPB j hj)) hb.size);have hq7:=ht2.own hbq (fun h=>by have:=hPB _ h;have:=HGR.out;omega);have HBV:=Lib.hid (BasV.made (lo:=gr) (gc:=k) hM2 hR2 hF2 HP.out.2.1 HP.out.2.2.2.2.1 HP.out.2.2.2.1 HP.out.2.2.2.2.2.1 HP.out.2.2.2.2.2.2 (fun j hj=>by have:=HRS.out.2.2.1 j (hj.sub HP.out.1);omega) (Nat.le_refl _) (by omega) (by rw [←HP.out.2.2.2.1,←HP.out.2.2.2.2.2.2,List.length_map]));clear hM2 hR2 hF2 ht2 hb hbx hby hbq hF HRW;have cQ0:=hq7.cell 0;have cQ1:=hq7.cell 1;have fQ0:=hq7.frozen 0;have fQ1:=hq7.frozen 1;go_wp2_with fail
      have hq5:=(hq7.set 0 (.slice (some ⟨gr,0,none⟩) d k)).set 1 (.slice fa' d fc');have hon:=Touch.of_only (((Only.refl (w.heap.size+1+1) w7).set 0 (.slice (some ⟨gr,0,none⟩) d k)).set 1 (.slice fa' d fc'));have hbv:=(HBV.out.touch hon (fun j h1 _=>by have:=HGR.out;omega) (Nat.le_refl _)).weaken (lo':=w.heap.size) hgw hon.below.size;exact bodyPost_ret (results_cell_row rfl _ _ (w.heap.size+1+1) 86 #[.slice (some ⟨gr,0,none⟩) d k,.slice fa' d fc'] (0,0) _ rfl hq5 Tryz.underlying86 rfl Tryz.info_basis) rfl ⟨_,rfl,hbv,(hb7.setCell (p:=⟨w.heap.size+1+1,0,none⟩) (by dsimp only;omega) _).setCell (p:=⟨w.heap.size+1+1,1,none⟩) (by dsimp only;omega) _⟩
    · obtain rfl:k=0:=(by omega);have HC0:Hid (CB=[]):=Lib.hid (List.eq_nil_of_length_eq_zero HCBl.out);clear cQ0;go_wp2_with fail
      refine (basisOf0_c _ _).mono ?_;rintro e w7 ⟨rfl,hb8⟩;have hb7:=bT' hb hb8 hb.size;have hq7:=hbq.keep hb8 hbq.lt;clear hb hb8 hbx hby hbq hF HRW;have cQ0:=hq7.cell 0;have cQ1:=hq7.cell 1;have fQ0:=hq7.frozen 0;have fQ1:=hq7.frozen 1;go_wp2_with fail
      have hq5:=(hq7.set 0 (.slice none 0 0)).set 1 (.slice none 0 0);refine bodyPost_ret (results_cell_row rfl _ _ (w.heap.size+1+1) 86 #[.slice none 0 0,.slice none 0 0] (0,0) _ rfl hq5 Tryz.underlying86 rfl Tryz.info_basis) rfl ⟨_,rfl,?_,(hb7.setCell (p:=⟨w.heap.size+1+1,0,none⟩) (by dsimp only;omega) _).setCell (p:=⟨w.heap.size+1+1,1,none⟩) (by dsimp only;omega) _⟩;rw [HC0.out];exact BasV.nil _ _ _ _
end Go.Proofs.YtifcfoijcodjbaaGreat
