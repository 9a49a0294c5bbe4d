
import Derived.Test.YtifcfoijcodjbaaGreatPriP
import Derived.Test.YtifcfoijcodjbaaGreatCohG
namespace Go.Proofs.YtifcfoijcodjbaaGreat
set_option maxRecDepth 100000
open Go.RowKit Go.Deep
theorem Tryz.info_pf:(Tryz.prog.info? 103).map (·.size)=some 7:=by kernel_rfl
theorem seven_put {W:World} {g:Nat} {t:TypeId} {z0 z1 z2 z3 z4 z5 z6:Value} (v0 v1 v2 v3 v4 v5 v6:Value) (h:Own W g t #[z0,z1,z2,z3,z4,z5,z6]):∃w',(((((((W.setCell ⟨g,0,none⟩ v0).setCell ⟨g,1,none⟩ v1).setCell ⟨g,2,none⟩ v2).setCell ⟨g,3,none⟩ v3).setCell ⟨g,4,none⟩ v4).setCell ⟨g,5,none⟩ v5).setCell ⟨g,6,none⟩ v6)=w'∧Own w' g t #[v0,v1,v2,v3,v4,v5,v6]∧Touch (fun k=>k=g) W w':=by
 have h0:Own _ g t #[v0,z1,z2,z3,z4,z5,z6]:=h.set 0 v0
 have h1:Own _ g t #[v0,v1,z2,z3,z4,z5,z6]:=h0.set 1 v1
 have h2:Own _ g t #[v0,v1,v2,z3,z4,z5,z6]:=h1.set 2 v2
 have h3:Own _ g t #[v0,v1,v2,v3,z4,z5,z6]:=h2.set 3 v3
 have h4:Own _ g t #[v0,v1,v2,v3,v4,z5,z6]:=h3.set 4 v4
 have h5:Own _ g t #[v0,v1,v2,v3,v4,v5,z6]:=h4.set 5 v5
 have h6:Own _ g t #[v0,v1,v2,v3,v4,v5,v6]:=h5.set 6 v6
 have o0:=(Only.refl g W).set 0 v0
 have o1:=o0.set 1 v1
 have o2:=o1.set 2 v2
 have o3:=o2.set 3 v3
 have o4:=o3.set 4 v4
 have o5:=o4.set 5 v5
 have o6:=o5.set 6 v6
 exact ⟨_,rfl,h6,Touch.of_only o6⟩
theorem seven_cells {W:World} {g:Nat} {t:TypeId} {z0 z1 z2 z3 z4 z5 z6:Value} (h:Own W g t #[z0,z1,z2,z3,z4,z5,z6]):(W.cell? ⟨g,0,none⟩=some z0∧W.cell? ⟨g,1,none⟩=some z1∧W.cell? ⟨g,2,none⟩=some z2∧W.cell? ⟨g,3,none⟩=some z3∧W.cell? ⟨g,4,none⟩=some z4∧W.cell? ⟨g,5,none⟩=some z5∧W.cell? ⟨g,6,none⟩=some z6)∧W.frozen? ⟨g,0,none⟩=false∧W.frozen? ⟨g,1,none⟩=false∧W.frozen? ⟨g,2,none⟩=false∧W.frozen? ⟨g,3,none⟩=false∧W.frozen? ⟨g,4,none⟩=false∧W.frozen? ⟨g,5,none⟩=false∧W.frozen? ⟨g,6,none⟩=false:=
 ⟨⟨h.cell 0,h.cell 1,h.cell 2,h.cell 3,h.cell 4,h.cell 5,h.cell 6⟩,h.frozen 0,h.frozen 1,h.frozen 2,h.frozen 3,h.frozen 4,h.frozen 5,h.frozen 6⟩
theorem RwB.weaken {w:World} {lo hi lo' hi' W:Nat} {v:Value} {R:List (List Int)} (h:RwB w lo hi v W R) (h1:lo'≤lo) (h2:hi≤hi'):RwB w lo' hi' v W R:=by
 obtain ⟨a,c,hv,h3⟩:=h
 refine ⟨a,c,hv,fun i r hr=>?_⟩
 obtain ⟨g,p,off,cap,e1,e2,e3,e4,e5,e6,e7⟩:=h3 i r hr
 exact ⟨g,p,off,cap,e1,by omega,by omega,e4,by omega,by omega,e7⟩
def PfV (w:World) (lo hi:Nat) (x:Value) (W N:Nat) (D P V0 V:List (List Int)):Prop:=
 ∃(s1:Option Addr) (m1 d1:Nat) (s2:Option Addr) (m2 d2:Nat) (s3:Option Addr) (m3 d3:Nat) (s4:Option Addr) (m4 d4:Nat) (s5:Option Addr) (m5 d5:Nat) (ra:Option Addr) (rc:Nat) (ya:Option Addr) (yc:Nat),x=.agg #[.slice s1 m1 d1,.slice s2 m2 d2,.slice s3 m3 d3,.slice s4 m4 d4,.slice s5 m5 d5,.slice ra N rc,.slice ya W yc]∧BasV w lo hi (.agg #[.slice s3 m3 d3,.slice s4 m4 d4]) W D∧RwB w lo hi (.slice s5 m5 d5) N P∧OwnM w lo hi ra N V0∧OwnM w lo hi ya W V
section
variable {w w':World} {lo hi W N:Nat} {x:Value} {D P V0 V:List (List Int)}
theorem PfV.touch {q:Nat→Prop} (h:PfV w lo hi x W N D P V0 V) (ht:Touch q w w') (hq:∀k,lo≤k→k<hi→¬q k) (hh:hi≤w.heap.size):PfV w' lo hi x W N D P V0 V:=by
 obtain ⟨s1,m1,d1,s2,m2,d2,s3,m3,d3,s4,m4,d4,s5,m5,d5,ra,rc,ya,yc,hx,h1,h2,h3,h4⟩:=h
 exact ⟨s1,m1,d1,s2,m2,d2,s3,m3,d3,s4,m4,d4,s5,m5,d5,ra,rc,ya,yc,hx,h1.touch ht hq hh,h2.touch ht hq hh,h3.touch ht hq,h4.touch ht hq⟩
theorem PfV.keep (h:PfV w lo hi x W N D P V0 V) (hb:Below w.heap.size w w') (hh:hi≤w.heap.size):PfV w' lo hi x W N D P V0 V:=
 h.touch (Touch.of_below (p:=fun _=>False) hb) (fun _ _ _ h=>h) hh
theorem PfV.mos7 {s1 s2 s3 s4 s5 ra ya:Option Addr} {m1 d1 m2 d2 m3 d3 m4 d4 m5 d5 rc yc:Nat} (h:PfV w lo hi (.agg #[.slice s1 m1 d1,.slice s2 m2 d2,.slice s3 m3 d3,.slice s4 m4 d4,.slice s5 m5 d5,.slice ra N rc,.slice ya W yc]) W N D P V0 V):Mos w ya W V:=by
 obtain ⟨s1,m1,d1,s2,m2,d2,s3,m3,d3,s4,m4,d4,s5,m5,d5,ra,rc,ya,yc,hx,-,-,-,h4⟩:=h
 simp only [Value.agg.injEq,Array.mk.injEq,List.cons.injEq,Value.slice.injEq,and_true] at hx
 obtain ⟨-,-,-,-,-,-,rfl,-,rfl⟩:=hx
 exact h4.mos
end
set_option maxHeartbeats 4000000 in
theorem primitivesIn_c {w : World} {da : Option Addr} {dn dc : Nat} {a : Option Addr} {n c : Nat} {v : Int} {W N : Nat} {V V0 L : List (List Int)} (hsp : ∀ w', Below w.heap.size w w' → Calls Tryz.prog 118 #[.agg #[.slice da dn dc, .slice a n c], .int .i64 (v - 1)] w' fun e w'' => ∃ x, e = .returned x ∧ SplitV w'' w'.heap.size x W N L ∧ Below w'.heap.size w' w'') (hc0 : ∀ w', Below w.heap.size w w' → Calls Tryz.prog 61 #[.agg #[.slice da dn dc, .slice a n c], .int .i64 (v - 1)] w' fun e w'' => ∃ ra rc, e = .returned (.slice ra N rc) ∧ OwnM w'' w'.heap.size w''.heap.size ra N V0 ∧ Below w'.heap.size w' w'') (hc1 : ∀ w', Below w.heap.size w w' → Calls Tryz.prog 61 #[.agg #[.slice da dn dc, .slice a n c], .int .i64 v] w' fun e w'' => ∃ ra rc, e = .returned (.slice ra W rc) ∧ OwnM w'' w'.heap.size w''.heap.size ra W V ∧ Below w'.heap.size w' w'') (hv : -1 ≤ v ∧ v ≤ 20) :
    Calls Tryz.prog 67 #[.agg #[.slice da dn dc,.slice a n c],.int .i64 v] w fun e w'=>∃x,e=.returned x∧PfV w' w.heap.size w'.heap.size x W N (bndR W L) (priR W L) V0 V∧Below w.heap.size w w':=by
 have HSP:=Lib.hid hsp
 have HC0:=Lib.hid hc0
 have HC1:=Lib.hid hc1
 have hwv:IntKind.i64.wrap (v - 1)=v - 1:=IntWalk.i64_in _ (by omega)
 have hO:=(Own.new w 35 #[.slice da dn dc,.slice a n c]).alloc (.cells #[.slice none 0 0,.slice none 0 0,.slice none 0 0,.slice none 0 0,.slice none 0 0,.slice none 0 0,.slice none 0 0] 103)
 have hQ:=Own.new (w.alloc (.cells #[.slice da dn dc,.slice a n c] 35)) 103 #[.slice none 0 0,.slice none 0 0,.slice none 0 0,.slice none 0 0,.slice none 0 0,.slice none 0 0,.slice none 0 0]
 rw [sAl] at hQ
 have hb:=bTn (bA1 w (.cells #[.slice da dn dc,.slice a n c] 35)) (bA1 _ (.cells #[.slice none 0 0,.slice none 0 0,.slice none 0 0,.slice none 0 0,.slice none 0 0,.slice none 0 0,.slice none 0 0] 103))
 have hsz:w.heap.size+1<((w.alloc (.cells #[.slice da dn dc,.slice a n c] 35)).alloc (.cells #[.slice none 0 0,.slice none 0 0,.slice none 0 0,.slice none 0 0,.slice none 0 0,.slice none 0 0,.slice none 0 0] 103)).heap.size:=by rw [sAl,sAl];omega
 clear hsp hc0 hc1
 go_enter Tryz.func67,Tryz.ntmps67
 go_upto_region 1 with fail
 generalize (w.alloc (.cells #[.slice da dn dc,.slice a n c] 35)).alloc (.cells #[.slice none 0 0,.slice none 0 0,.slice none 0 0,.slice none 0 0,.slice none 0 0,.slice none 0 0,.slice none 0 0] 103)=w0 at *
 replace hO:Own w0.drew w.heap.size 35 #[.slice da dn dc,.slice a n c]:=hO
 replace hQ:Own w0.drew (w.heap.size+1) 103 #[.slice none 0 0,.slice none 0 0,.slice none 0 0,.slice none 0 0,.slice none 0 0,.slice none 0 0,.slice none 0 0]:=hQ
 replace hb:Below w.heap.size w w0.drew:=hb.drew
 replace hsz:w.heap.size+1<w0.drew.heap.size:=hsz
 have hs:=hb.size
 refine wp_region_held_drew (S:=(fun w'=>w'.cell? ⟨w.heap.size,0,none⟩=some (.slice da dn dc)∧w'.cell? ⟨w.heap.size,1,none⟩=some (.slice a n c))) (by kernel_rfl) ?_ (fun _=>?_)
 · ((try dsimp only);(exact ⟨hO.cell 0,hO.cell 1⟩))
 generalize w0.drew=W0 at *
 refine hdT 0 ?_
 refine hdT 1 ?_
 refine hdT 2 ?_
 refine hdT 4 ?_
 refine hdT 5 ?_
 refine hdT 6 ?_
 refine hdT 8 ?_
 refine hdT 9 ?_
 try rw [hwv]
 refine hdC 3 (fun K hK=>?_)
 (go_simp;(go_at_call 118;(first | refine (HSP.out _ hb).mono ?_ | (rw [hwv];refine (HSP.out _ hb).mono ?_));rintro e W1 ⟨x,rfl,hSV,hbX⟩;obtain ⟨s1,m1,d1,s2,m2,d2,s3,m3,d3,s4,m4,d4,s5,m5,d5,rfl⟩:=hSV.slices);go_wp2_with fail)
 obtain ⟨vc,vcf,vb,vbf,vp,hve,-,hBB,hRP⟩:=hSV.two
 simp only [Value.agg.injEq,Array.mk.injEq,List.cons.injEq,and_true] at hve
 obtain ⟨rfl,rfl,rfl,rfl,rfl⟩:=hve
 have hB1:=hBB.weaken hsz (Nat.le_refl _)
 have hR1:=(RwB.of hRP).weaken hsz (Nat.le_refl _)
 clear hBB hRP hSV
 replace hO:=hO.keep hbX hO.lt
 replace hQ:=hQ.keep hbX hQ.lt
 replace hsz:=Nat.lt_of_lt_of_le hsz hbX.size
 replace hb:=bT' hb hbX hs
 replace hs:=hb.size
 clear hbX
 refine hK.out _ _ ?_ (fun _=>?_)
 · ((try dsimp only);(exact ⟨hO.cell 0,hO.cell 1⟩))
 clear hK K
 (try simp only [Act.put,pA,pB,pC])
 refine hdC 7 (fun K hK=>?_)
 (go_simp;(go_at_call 61;(first | refine (HC0.out _ hb).mono ?_ | (rw [hwv];refine (HC0.out _ hb).mono ?_));rintro e W2 ⟨ra,rc,rfl,hM,hbX⟩);go_wp2_with fail)
 have hM0:=hM.weaken hsz (Nat.le_refl _)
 replace hB1:=(hB1.keep hbX (Nat.le_refl _)).weaken (Nat.le_refl _) hbX.size
 replace hR1:=(hR1.keep hbX (Nat.le_refl _)).weaken (Nat.le_refl _) hbX.size
 clear hM
 replace hO:=hO.keep hbX hO.lt
 replace hQ:=hQ.keep hbX hQ.lt
 replace hsz:=Nat.lt_of_lt_of_le hsz hbX.size
 replace hb:=bT' hb hbX hs
 replace hs:=hb.size
 clear hbX
 refine hK.out _ _ ?_ (fun _=>?_)
 · ((try dsimp only);(exact ⟨hO.cell 0,hO.cell 1⟩))
 clear hK K
 (try simp only [Act.put,pA,pB,pC])
 refine hdC 10 (fun K hK=>?_)
 (go_simp;(go_at_call 61;refine (HC1.out _ hb).mono ?_;rintro e W3 ⟨ya,yc,rfl,hM,hbX⟩);go_wp2_with fail)
 have hM1:=hM.weaken hsz (Nat.le_refl _)
 replace hM0:=(hM0.keep hbX).weaken (Nat.le_refl _) hbX.size
 replace hB1:=(hB1.keep hbX (Nat.le_refl _)).weaken (Nat.le_refl _) hbX.size
 replace hR1:=(hR1.keep hbX (Nat.le_refl _)).weaken (Nat.le_refl _) hbX.size
 clear hM
 replace hO:=hO.keep hbX hO.lt
 replace hQ:=hQ.keep hbX hQ.lt
 replace hsz:=Nat.lt_of_lt_of_le hsz hbX.size
 replace hb:=bT' hb hbX hs
 replace hs:=hb.size
 clear hbX
 refine hK.out _ _ ?_ (fun _=>?_)
 · ((try dsimp only);(exact ⟨hO.cell 0,hO.cell 1⟩))
 clear hK K
 (try simp only [Act.put,pA,pB,pC])
 refine hdT 11 ?_
 refine hdC 12 (fun K hK=>?_)
 obtain ⟨⟨e0,e1,e2,e3,e4,e5,e6⟩,f0,f1,f2,f3,f4,f5,f6⟩:=seven_cells hQ
 (go_simp;go_wp2_with fail)
 clear e0 e1 e2 e3 e4 e5 e6 f0 f1 f2 f3 f4 f5 f6
 obtain ⟨W9,hw9,hQ9,ht⟩:=seven_put (.slice s1 m1 d1) (.slice s2 m2 d2) (.slice s3 m3 d3) (.slice s4 m4 d4) (.slice s5 m5 d5) (.slice ra N rc) (.slice ya W yc) hQ
 rw [hw9]
 clear hw9 hQ
 replace hb:=hb.trans (ht.bel3 (by omega) hs)
 replace hO:=ht.own hO (by omega)
 replace hB1:=hB1.touch ht (fun k h1 h2=>by omega) (Nat.le_refl _)
 replace hR1:=hR1.touch ht (fun k h1 h2=>by omega) (Nat.le_refl _)
 replace hM0:=hM0.touch ht (fun k h1 h2=>by omega)
 replace hM1:=hM1.touch ht (fun k h1 h2=>by omega)
 have hz:=ht.below.size
 clear ht
 refine hK.out _ _ ?_ (fun _=>?_)
 · ((try dsimp only);(exact ⟨hO.cell 0,hO.cell 1⟩))
 clear hK K
 (try simp only [Act.put,pA,pB,pC])
 refine wpAnyH_done (by kernel_rfl) ?_ _
 go_wp2_with fail
 exact bodyPost_ret (results_cell_row rfl _ _ (w.heap.size+1) 103 #[.slice s1 m1 d1,.slice s2 m2 d2,.slice s3 m3 d3,.slice s4 m4 d4,.slice s5 m5 d5,.slice ra N rc,.slice ya W yc] (0,0) _ rfl hQ9 Tryz.underlying103 rfl Tryz.info_pf) rfl ⟨_,rfl,⟨s1,m1,d1,s2,m2,d2,s3,m3,d3,s4,m4,d4,s5,m5,d5,ra,rc,ya,yc,rfl,hB1.weaken (by omega) hz,hR1.weaken (by omega) hz,hM0.weaken (by omega) hz,hM1.weaken (by omega) hz⟩,hb⟩
set_option maxHeartbeats 4000000 in
theorem find_c {w : World} {lo hi W N gr : Nat} {x : Value} {D P V0 V : List (List Int)} {r0 : List Int} {z : Bool} {F : List Tm} (rc : Nat) (hx : PfV w lo hi x W N D P V0 V) (hh : hi ≤ w.heap.size) (hBR : RedI W D) (hPO : ∀ r ∈ P, RowOk N r) (hPL : P.length = D.length) (hDl : D.length ≤ 120) (hN : N ≤ 120) (hW : W ≤ 120) (hr0 : RowOk W r0) (hR : RowAt w gr r0) (hg : ¬ (lo ≤ gr ∧ gr < hi))
    (hz:zeroR (byR r0 D)=z) (hF1:z=true→F=fmR V0 (sumTo N (facR r0 D) P D.length)) (hF0:z=false→F=[]) :
    Calls Tryz.prog 68 #[x,.slice (some ⟨gr,0,none⟩) W rc] w fun e w'=>∃u,e=.returned (.tuple #[.agg #[u],.bool z])∧OwnR w' w.heap.size u F∧Touch (fun k=>k=gr) w w':=by
 obtain ⟨s1,m1,d1,s2,m2,d2,s3,m3,d3,s4,m4,d4,s5,m5,d5,ra,rb,ya,yb,rfl,hBB,hRB,hM0,-⟩:=hx
 have HBR:=Lib.hid hBR
 have HPO:=Lib.hid hPO
 have HR0:=Lib.hid hr0
 have HF1:=Lib.hid hF1
 have HF0:=Lib.hid hF0
 have HZ:=Lib.hid hz
 obtain ⟨K0,hK0⟩:∃K0,D.length=K0:=⟨_,rfl⟩
 rw [hK0] at hDl hPL
 have HPL:=Lib.hid hPL
 have HKE:=Lib.hid hK0
 have hgl:=hR.lt
 have hbB:=bTn (bA1 w (.cells #[.slice s1 m1 d1,.slice s2 m2 d2,.slice s3 m3 d3,.slice s4 m4 d4,.slice s5 m5 d5,.slice ra N rb,.slice ya W yb] 103)) (bA1 _ (.cells #[.slice none 0 0] 39))
 have hS:=(Own.new w 103 #[.slice s1 m1 d1,.slice s2 m2 d2,.slice s3 m3 d3,.slice s4 m4 d4,.slice s5 m5 d5,.slice ra N rb,.slice ya W yb]).alloc (.cells #[.slice none 0 0] 39)
 have hX:=Own.new (w.alloc (.cells #[.slice s1 m1 d1,.slice s2 m2 d2,.slice s3 m3 d3,.slice s4 m4 d4,.slice s5 m5 d5,.slice ra N rb,.slice ya W yb] 103)) 39 #[.slice none 0 0]
 rw [sAl] at hX
 have ht0:=Touch.of_below (p:=fun k=>k=gr) hbB
 have hR1:=hR.keep hbB hgl
 have hBB1:=hBB.keep hbB hh
 have hRB1:=hRB.keep hbB hh
 have hM1:=hM0.keep hbB
 have hh1:=Nat.le_trans hh hbB.size
 clear hBR hPO hPL hK0 hr0 hR hBB hRB hM0 hbB hz hF1 hF0
 go_enter Tryz.func68,Tryz.ntmps68
 go_upto_region 1 with fail
 generalize (w.alloc (.cells #[.slice s1 m1 d1,.slice s2 m2 d2,.slice s3 m3 d3,.slice s4 m4 d4,.slice s5 m5 d5,.slice ra N rb,.slice ya W yb] 103)).alloc (.cells #[.slice none 0 0] 39)=w1 at *
 obtain ⟨gS,hgS⟩:∃g,w.heap.size=g:=⟨_,rfl⟩
 obtain ⟨gX,hgX⟩:∃g,w.heap.size+1=g:=⟨_,rfl⟩
 rw [hgS] at hS
 rw [hgX] at hX
 try rw [hgX]
 try rw [hgS]
 have hXS:¬gX=gS:=by omega
 have hSg:¬gS=gr:=by omega
 have hXg:¬gX=gr:=by omega
 have hgrX:gr<gX:=by omega
 have hiX:hi≤gS:=by omega
 have hWX:w.heap.size≤gX:=by omega
 have HW:Hid (w.heap.size=gS):=Lib.hid hgS
 clear hgS hgX
 have c2:=hS.cell 2
 have c3:=hS.cell 3
 go_wp2_with fail
 refine (reduce_c rc hBB1 hh1 HBR.out HR0.out hR1 hg (by omega) (by rw [HKE.out];omega)).mono ?_
 rintro e w3 ⟨gf,rfl,hgf,hFa,hRr,ht⟩
 rw [HKE.out]
 have ht3:=ht0.trans ht
 have hX3:=ht.own hX hXg
 have hS3:=ht.own hS hSg
 have hRB3:=hRB1.touch ht (fun k h1 h2=>by omega) hh1
 have hM3:=hM1.touch ht (fun k h1 h2=>by omega)
 have hh13:=Nat.le_trans hh1 ht.below.size
 have hgfX:gX<gf:=Nat.lt_of_lt_of_le hX.lt hgf
 have hrl:(byR r0 D).length=W:=(byR_ok HR0.out HBR.out.ok).len
 clear hBB1 hRB1 hM1 hX hS ht0 c2 c3 hh1 hR1
 go_wp2_with fail
 refine (isZeroR_c rc hrl (by omega) hRr.rd0).mono ?_
 rintro e w4 ⟨rfl,rfl⟩
 clear hrl hRr ht
 rw [HZ.out]
 cases z with
 | false =>
   have cR:=hX3.cell 0;have fR:=hX3.frozen 0;go_wp2_with fail
   have q4:=hX3.set 0 (.slice none 0 0);refine bodyPost_ret (results_row2 rfl _ _ gX 39 #[.slice none 0 0] (0,0) _ rfl q4 Tryz.underlying39 rfl Tryz.info_form) rfl ⟨.slice none 0 0,rfl,?_,ht3.setNew (b:=gX) hWX 0 _⟩;rw [HF0.out trivial];exact World.ownsRow_nil _ _ _ _
 | true =>
   have c5:=hS3.cell 5;have hmk:=make_num3 N (by omega) w3;have hP5:=Own.new w3 173 (Array.replicate N (Value.int .i64 0));have hba:=bA1 w3 (.cells (Array.replicate N (Value.int .i64 0)) 173);go_upto_region 5 with fail
   clear hmk c5;have hX5:=hX3.keep hba hX3.lt;have hS5:=hS3.keep hba hS3.lt;have hF5:=hFa.keep hba hFa.lt;have hRB5:=hRB3.keep hba hh13;have hM5:=hM3.keep hba;have ht5:=ht3.trans (Touch.of_below (p:=fun k=>k=gr) hba);have hfl:=hFa.lt;have hxl:=hX3.lt;have hsl:=hS3.lt;clear hX3 hS3 hFa hRB3 hM3 ht3 hba;generalize w3.alloc (.cells (Array.replicate N (Value.int .i64 0)) 173)=w5 at *;obtain ⟨gP,hgP⟩:∃gP,w3.heap.size=gP:=⟨_,rfl⟩;rw [hgP] at hP5 hh13 hfl hxl hsl
   try rw [hgP]
   clear hgP
   have hP6:RowAt w5 gP (sumTo N (facR r0 D) P 0):=by
    rw [sumTo_zero];refine RowAt.of_own ?_;rw [←ofI_rep];exact hP5
   obtain ⟨pa,pc,hpv,hRBe⟩:=hRB5;simp only [Value.slice.injEq] at hpv;obtain ⟨rfl,hm5,rfl⟩:=hpv;obtain rfl:m5=K0:=(by rw [hm5,HPL.out]);clear hm5;have HRB:=Lib.hid hRBe;have HM:=Lib.hid hM5;have HS5:=Lib.hid hS5;have HX5:=Lib.hid hX5;have HF5:=Lib.hid hF5;have HT5:=Lib.hid ht5;have HHH:=Lib.hid (show hi≤gP∧gf<gP∧gX<gP∧gS<gP∧w.heap.size≤gP from ⟨hh13,hfl,hxl,hsl,by omega⟩);have ht0:=Touch.refl (fun k=>k=gP) w5;have HPL5:=Lib.hid hP6.lt;clear hRBe hM5 hS5 hX5 hF5 ht5 hP5 hh13 hfl hxl hsl;go_upto_region 6 with fail
   go_loopw [25] (fun y wr=>∃k:Nat,k≤m5∧y=.int .i64 k∧Touch (fun k=>k=gP) w5 wr∧RowAt wr gP (sumTo N (facR r0 D) P k)) (fun y _=>m5 - (intOf y).toNat)
   case atStart=>exact ⟨0,Nat.zero_le _,rfl,ht0,hP6⟩
   case round=>
    clear ht0 hP6;obtain ⟨k,hk,rfl,ht,hP⟩:=hrel;by_cases hin:k<m5
    · have hk0:(0:Int)≤(k:Int):=(by omega);have hkn:(k:Int)<(m5:Int):=(by omega);obtain ⟨s,hs⟩:∃s,P[k]? = some s:=⟨_,List.getElem?_eq_getElem (by rw [HPL.out];exact hin)⟩;obtain ⟨x,hx⟩:∃x,(facR r0 D)[k]? = some x:=⟨_,List.getElem?_eq_getElem (by rw [facR_len,HKE.out];exact hin)⟩;have hxb:=facR_ok HR0.out x (List.mem_of_getElem? hx);obtain ⟨g,q,off,cap,rfl,g1,g2,cc,q1,q2,hrd⟩:=HRB.out k s hs;have hbd:=HHH.out;have cc':=(World.cell?_of_block (a:=⟨g,k,none⟩) (ht.other g (by have:=HPL5.out;omega) (show ¬g=gP by omega))).trans cc;have hF:=ht.own HF5.out (show ¬gf=gP by omega);have hS:=ht.own HS5.out (show ¬gS=gP by omega);have cF:wr.cell? ⟨gf,k,none⟩=some (.int .i64 x):=(by rw [hF.cell k,ofI_get hx]);have cS:=hS.cell 4;have HST:=Lib.hid (sumTo_step (N:=N) hx hs);have HCU:=Lib.hid (sumTo_ok (F:=facR r0 D) HPO.out k (by rw [HPL.out];exact hk));have HSO:=Lib.hid (HPO.out s (List.mem_of_getElem? hs));have HRD:Hid (∀w',Touch (fun k=>k=gP) w5 w'→RdAt w' q off s):=Lib.hid (fun w' h=>hrd.block (h.other q (by have:=HPL5.out;omega) (show ¬q=gP by omega)));have HXB:=Lib.hid hxb;clear hs hx cc hrd hF hS hbd g1 g2 q1 q2 hxb;go_wp2_with fail
      refine (addA_c (off:=off) N cap x HCU.out.len HSO.out.len (by omega) hP HCU.out.bd HSO.out.bd HXB.out (fun w' h=>HRD.out w' (ht.trans h))).mono ?_;rintro e w7 ⟨rfl,hP7,ht7⟩;have ht8:=ht.trans ht7;clear cc' cF cS ht ht7 hP;go_wp2_with fail
      go_roundw
      case rel=>exact ⟨k+1,by omega,by go_num,ht8,by rw [HST.out];exact hP7⟩
      case measure=>simp [intOf] <;> omega
    · have he:k=m5:=(by omega);subst he;have hbd:=HHH.out;have hM:=(HM.out.touch ht (fun g h1 h2=>show ¬g=gP by omega)).mos;have hX:=ht.own HX5.out (show ¬gX=gP by omega);have hS:=ht.own HS5.out (show ¬gS=gP by omega);have c5:=hS.cell 5;have htt:Touch (fun k=>k=gr) w wr:=⟨HT5.out.below.trans ht.below,fun k hk hp=>(ht.other k (Nat.lt_of_lt_of_le hk HT5.out.below.size) (show ¬k=gP by omega)).trans (HT5.out.other k hk hp)⟩;have hsu:=(sumTo_ok (F:=facR r0 D) HPO.out k (by rw [HPL.out];exact Nat.le_refl _)).len;clear ht hbd hS;go_wp2_with fail
      refine (formR_c rb N hM hP.rd0 hP.lt hsu (by omega)).mono ?_;rintro e w9 ⟨vv,rfl,hO,hb9⟩;obtain ⟨va,vn,vc,rfl⟩:=hO.isSlice;have hX9:=hX.keep hb9 hX.lt;have ht10:=htt.trans (Touch.of_below (p:=fun k=>k=gr) hb9);have HO:=Lib.hid hO;have HSW:=Lib.hid htt.below.size;have HGX:=Lib.hid hX.lt;clear hX htt hb9 hM hP hsu hO c5;have cR:=hX9.cell 0;have fR:=hX9.frozen 0;go_wp2_with fail
      have q4:=hX9.set 0 (.slice va vn vc);refine bodyPost_ret (results_row2 rfl _ _ gX 39 #[.slice va vn vc] (0,0) _ rfl q4 Tryz.underlying39 rfl Tryz.info_form) rfl ⟨.slice va vn vc,rfl,?_,ht10.setNew (b:=gX) hWX 0 _⟩;rw [HF1.out trivial,HKE.out];exact (HO.out.set (p:=⟨gX,0,none⟩) (by dsimp only;exact HGX.out) _).weaken HSW.out
end Go.Proofs.YtifcfoijcodjbaaGreat
