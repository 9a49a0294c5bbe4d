
import Derived.Test.YtdppjlndcacfnaaGreatAdd9M
import Derived.Test.YtdppjlndcacfnaaGreatBrN
namespace Go.Proofs.YtdppjlndcacfnaaGreat
set_option maxRecDepth 100000
open Go.RowKit Go.Deep
theorem row_far9 {w:World} {B sz n:Nat} {t t':TypeId} {v:Value} {xs:List Value} {p:Addr} {os:Array Value} (h:w.ownsRow B t sz v n xs) (ho:Own w p.block t' os) (ht:t'≠t) (u:Value):(w.setCell p u).ownsRow B t sz v n xs:=
 ownsRow_setCell_other h (fun e=>own_ne_row ho h ht e.symm) u
theorem vals_far9 {w:World} {B:Nat} {vs:List Value} {V:List (List Tm)} {t':TypeId} {p:Addr} {os:Array Value} (h:Vals w B vs V) (ho:Own w p.block t' os) (ht:t'≠94) (u:Value):Vals (w.setCell p u) B vs V:=
 ⟨h.len,fun i v ts h1 h2=>(h.each i v ts h1 h2).far (fun e=>own_ne_row ho (h.each i v ts h1 h2) ht e.symm) u,h.apart⟩
theorem ownF_far9 {w:World} {lo hi n:Nat} {a:Option Addr} {V:List (List Tm)} {p:Addr} {os:Array Value} (h:OwnF w lo hi a n V) (ho:Own w p.block 32 os) (u:Value):OwnF (w.setCell p u) lo hi a n V:=h.farT ho (by decide) (by decide) u
theorem brE_no {zs:List Int} {B:Nat→List Tm} {n:Nat} (h:okBr zs B n=false):brE zs B n=3∧(∀d,brD zs B n d=0)∧brI zs B n=[]:=⟨by rw [brE,h];rfl,fun d=>by rw [brD,h];rfl,by rw [brI,h];rfl⟩
theorem brE_yes {zs:List Int} {B:Nat→List Tm} {n:Nat} (h:okBr zs B n=true):brE zs B n=0∧(∀d,brD zs B n d=d)∧brI zs B n=brs B n:=⟨by rw [brE,if_pos h],fun d=>by rw [brD,if_pos h],by rw [brI,if_pos h]⟩
theorem brs_all {zs:List Int} {B:Nat→List Tm} {n:Nat}:(brs B n).all (isF zs)=okBr zs B n:=by
 rw [brs,okBr,List.all_map]
 rfl
theorem brI_bd {zs:List Int} {B:Nat→List Tm} {n:Nat}:(∀ts∈brI zs B n,ts.length≤400)∧(brI zs B n).length≤n:=by
 rw [brI]
 split
 · rename_i h;refine ⟨fun ts hts=>?_,by rw [brs_len];exact Nat.le_refl _⟩;obtain ⟨i,hi,rfl⟩:=List.mem_map.1 hts;rw [okBr,List.all_eq_true] at h;have:=h i hi;simp only [okT,Bool.and_eq_true,decide_eq_true_eq] at this;exact this.2
 · simp
def br9E (zs:List Int) (ims:List (List Tm)) (k:Int) (gss:List (List Tm)) (k2:Int) (hss:List (List Tm)):Int:=
 if derB zs ims k gss=true∧derB zs ims k2 hss=true then (if 12<k+k2 then 3 else brE zs (brAt zs k gss k2 hss) zs.length) else 1
def br9D (zs:List Int) (ims:List (List Tm)) (k:Int) (gss:List (List Tm)) (k2:Int) (hss:List (List Tm)):Int:=
 if derB zs ims k gss=true∧derB zs ims k2 hss=true then (if 12<k+k2 then 0 else brD zs (brAt zs k gss k2 hss) zs.length (k+k2)) else 0
def br9I (zs:List Int) (ims:List (List Tm)) (k:Int) (gss:List (List Tm)) (k2:Int) (hss:List (List Tm)):List (List Tm):=
 if derB zs ims k gss=true∧derB zs ims k2 hss=true then (if 12<k+k2 then [] else brI zs (brAt zs k gss k2 hss) zs.length) else []
def df9E (zs:List Int) (ims:List (List Tm)) (k:Int) (gss:List (List Tm)):Int:=
 if derB zs ims k gss=true then (if k=0 then 2 else brE zs (dfAt zs ims k gss) zs.length) else 1
def df9D (zs:List Int) (ims:List (List Tm)) (k:Int) (gss:List (List Tm)):Int:=
 if derB zs ims k gss=true then (if k=0 then 0 else brD zs (dfAt zs ims k gss) zs.length (k - 1)) else 0
def df9I (zs:List Int) (ims:List (List Tm)) (k:Int) (gss:List (List Tm)):List (List Tm):=
 if derB zs ims k gss=true then (if k=0 then [] else brI zs (dfAt zs ims k gss) zs.length) else []
section
variable {zs:List Int} {ims gss hss:List (List Tm)} {k k2:Int}
theorem br9_1 (h:derB zs ims k gss=false∨derB zs ims k2 hss=false):br9E zs ims k gss k2 hss=1∧br9D zs ims k gss k2 hss=0∧br9I zs ims k gss k2 hss=[]:=by
 have hn:¬(derB zs ims k gss=true∧derB zs ims k2 hss=true):=fun hh=>by rcases h with h | h <;> simp [h] at hh
 exact ⟨by rw [br9E,if_neg hn],by rw [br9D,if_neg hn],by rw [br9I,if_neg hn]⟩
theorem br9_3 (h1:derB zs ims k gss=true) (h2:derB zs ims k2 hss=true) (h:12<k+k2):br9E zs ims k gss k2 hss=3∧br9D zs ims k gss k2 hss=0∧br9I zs ims k gss k2 hss=[]:=
 ⟨by rw [br9E,if_pos ⟨h1,h2⟩,if_pos h],by rw [br9D,if_pos ⟨h1,h2⟩,if_pos h],by rw [br9I,if_pos ⟨h1,h2⟩,if_pos h]⟩
theorem br9_0 (h1:derB zs ims k gss=true) (h2:derB zs ims k2 hss=true) (h:¬12<k+k2):br9E zs ims k gss k2 hss=brE zs (brAt zs k gss k2 hss) zs.length∧br9D zs ims k gss k2 hss=brD zs (brAt zs k gss k2 hss) zs.length (k+k2)∧br9I zs ims k gss k2 hss=brI zs (brAt zs k gss k2 hss) zs.length:=
 ⟨by rw [br9E,if_pos ⟨h1,h2⟩,if_neg h],by rw [br9D,if_pos ⟨h1,h2⟩,if_neg h],by rw [br9I,if_pos ⟨h1,h2⟩,if_neg h]⟩
theorem df9_1 (h:derB zs ims k gss=false):df9E zs ims k gss=1∧df9D zs ims k gss=0∧df9I zs ims k gss=[]:=by
 have hn:¬derB zs ims k gss=true:=by simp [h]
 exact ⟨by rw [df9E,if_neg hn],by rw [df9D,if_neg hn],by rw [df9I,if_neg hn]⟩
theorem df9_2 (h1:derB zs ims k gss=true) (h:k=0):df9E zs ims k gss=2∧df9D zs ims k gss=0∧df9I zs ims k gss=[]:=
 ⟨by rw [df9E,if_pos h1,if_pos h],by rw [df9D,if_pos h1,if_pos h],by rw [df9I,if_pos h1,if_pos h]⟩
theorem df9_0 (h1:derB zs ims k gss=true) (h:¬k=0):df9E zs ims k gss=brE zs (dfAt zs ims k gss) zs.length∧df9D zs ims k gss=brD zs (dfAt zs ims k gss) zs.length (k - 1)∧df9I zs ims k gss=brI zs (dfAt zs ims k gss) zs.length:=
 ⟨by rw [df9E,if_pos h1,if_neg h],by rw [df9D,if_pos h1,if_neg h],by rw [df9I,if_pos h1,if_neg h]⟩
theorem derB_len8 (h:derB zs ims k gss=true):zs.length≤8:=by
 have h1:=derB_alg h
 simp only [isAlg,Bool.and_eq_true] at h1
 exact degsOk_len h1.1
theorem br9I_bd:(∀ts∈br9I zs ims k gss k2 hss,ts.length≤400)∧(br9I zs ims k gss k2 hss).length≤8:=by
 rw [br9I]
 split
 · rename_i h;split
   · simp
   · have h1:=brI_bd (zs:=zs) (B:=brAt zs k gss k2 hss) (n:=zs.length);have h2:=derB_len8 h.1;exact ⟨h1.1,by omega⟩
 · simp
theorem df9I_bd:(∀ts∈df9I zs ims k gss,ts.length≤400)∧(df9I zs ims k gss).length≤8:=by
 rw [df9I]
 split
 · rename_i h;split
   · simp
   · have h1:=brI_bd (zs:=zs) (B:=dfAt zs ims k gss) (n:=zs.length);have h2:=derB_len8 h;exact ⟨h1.1,by omega⟩
 · simp
end
theorem low_drop_c {w : World} (k : Int) (a2 : Option Addr) (n2 c2 : Nat) :
    Calls Tryz.prog 178 #[.agg #[.int .i64 k,.slice a2 n2 c2]] w fun e w'=>e=.returned (.int .i64 k)∧Below w.heap.size w w':=by
 have hA:=Own.new w 67 #[.int .i64 k,.slice a2 n2 c2]
 have hb:=bA1 w (.cells #[.int .i64 k,.slice a2 n2 c2] 67)
 have c0:=hA.cell 0
 have c1:=hA.cell 1
 go_enter Tryz.func178,Tryz.ntmps178
 go_upto_region 1 with fail
 generalize w.alloc (.cells #[.int .i64 k,.slice a2 n2 c2] 67)=w0 at *
 go_wp2_with fail
 go_ret
 exact ⟨rfl,hb⟩
theorem low_drop_at (k : Int) (a2 : Option Addr) (n2 c2 : Nat) (w : World) : (method 340 67 (.agg #[.int .i64 k, .slice a2 n2 c2]) "loop.example/g01219/impl.drop").run Tryz.prog w = .ok (178, .agg #[.int .i64 k, .slice a2 n2 c2]) w := by kernel_rfl
theorem low_images_c {w : World} (k : Int) (a2 : Option Addr) (n2 c2 : Nat) :
    Calls Tryz.prog 179 #[.agg #[.int .i64 k,.slice a2 n2 c2]] w fun e w'=>e=.returned (.slice a2 n2 c2)∧Below w.heap.size w w':=by
 have hA:=Own.new w 67 #[.int .i64 k,.slice a2 n2 c2]
 have hb:=bA1 w (.cells #[.int .i64 k,.slice a2 n2 c2] 67)
 have c0:=hA.cell 0
 have c1:=hA.cell 1
 go_enter Tryz.func179,Tryz.ntmps179
 go_upto_region 1 with fail
 generalize w.alloc (.cells #[.int .i64 k,.slice a2 n2 c2] 67)=w0 at *
 go_wp2_with fail
 go_ret
 exact ⟨rfl,hb⟩
theorem low_images_at (k : Int) (a2 : Option Addr) (n2 c2 : Nat) (w : World) : (method 340 67 (.agg #[.int .i64 k, .slice a2 n2 c2]) "loop.example/g01219/impl.images").run Tryz.prog w = .ok (179, .agg #[.int .i64 k, .slice a2 n2 c2]) w := by kernel_rfl
theorem Tryz.info_rule:(Tryz.prog.info? 168).map (·.size)=some 3:=by kernel_rfl
set_option maxHeartbeats 8000000 in
theorem ruleOf_c {w : World} (da : Option Addr) (dn dc : Nat) (a : Option Addr) (n c : Nat) (k : Int) (a2 : Option Addr) (n2 c2 : Nat) :
    Calls Tryz.prog 115 #[.agg #[.slice da dn dc,.slice a n c],.iface 67 (.agg #[.int .i64 k,.slice a2 n2 c2])] w fun e w'=>e=.returned (.agg #[.slice da dn dc,.slice a2 n2 c2,.bool (odd k)])∧Below w.heap.size w w':=by
 have hA:=(Own.new w 36 #[.slice da dn dc,.slice a n c]).alloc (.cells #[.slice none 0 0,.slice none 0 0,.bool false] 168)
 have hR:=Own.new (w.alloc (.cells #[.slice da dn dc,.slice a n c] 36)) 168 #[.slice none 0 0,.slice none 0 0,.bool false]
 rw [sAl] at hR
 have hb:=bTn (bA1 w (.cells #[.slice da dn dc,.slice a n c] 36)) (bA1 _ (.cells #[.slice none 0 0,.slice none 0 0,.bool false] 168))
 have hm1:=low_images_at k a2 n2 c2
 have hm2:=low_drop_at k a2 n2 c2
 go_enter Tryz.func115,Tryz.ntmps115
 go_upto_region 1 with fail
 generalize (w.alloc (.cells #[.slice da dn dc,.slice a n c] 36)).alloc (.cells #[.slice none 0 0,.slice none 0 0,.bool false] 168)=w0 at *
 obtain ⟨g0,hg0⟩:∃g,w.heap.size=g:=⟨_,rfl⟩
 rw [hg0] at hA hR hb ⊢
 try rw [hg0]
 have HG:=Lib.hid hg0
 clear hg0
 replace hA:Own w0.drew g0 36 #[.slice da dn dc,.slice a n c]:=hA
 replace hR:Own w0.drew (g0+1) 168 #[.slice none 0 0,.slice none 0 0,.bool false]:=hR
 replace hb:Below g0 w w0.drew:=hb.drew
 refine wp_region_held_drew (S:=(fun w'=>w'.cell? ⟨g0,0,none⟩=some (.slice da dn dc))) (by kernel_rfl) ?_ (fun _=>?_)
 · ((try dsimp only);(exact hA.cell 0))
 generalize w0.drew=Wd at *
 refine hdT 0 ?_
 refine hdT 1 ?_
 refine hdT 2 ?_
 refine hdT 4 ?_
 refine hdC 3 (fun K hK=>?_)
 (go_simp;(go_at_call 179;refine (low_images_c k a2 n2 c2).mono ?_;rintro e W1 ⟨rfl,hbX⟩);go_wp2_with fail)
 replace hb:=bT' hb hbX (by have:=hA.lt;omega)
 replace hA:=hA.keep hbX hA.lt
 replace hR:=hR.keep hbX hR.lt
 clear hbX
 refine hK.out _ _ ?_ (fun _=>?_)
 · ((try dsimp only);(exact hA.cell 0))
 clear hK K
 (try simp only [Act.put,pA,pB,pC])
 refine hdC 5 (fun K hK=>?_)
 (go_simp;(go_at_call 178;refine (low_drop_c k a2 n2 c2).mono ?_;rintro e W2 ⟨rfl,hbX⟩);go_wp2_with fail)
 replace hb:=bT' hb hbX (by have:=hA.lt;omega)
 replace hA:=hA.keep hbX hA.lt
 replace hR:=hR.keep hbX hR.lt
 clear hbX
 refine hK.out _ _ ?_ (fun _=>?_)
 · ((try dsimp only);(exact hA.cell 0))
 clear hK K
 (try simp only [Act.put,pA,pB,pC])
 refine hdC 6 (fun K hK=>?_)
 (go_simp;(go_at_call 64;refine (isOdd_c _ _).mono ?_;rintro e w' ⟨rfl,rfl⟩);go_wp2_with fail)
 refine hK.out _ _ ?_ (fun _=>?_)
 · ((try dsimp only);(exact hA.cell 0))
 clear hK K
 (try simp only [Act.put,pA,pB,pC])
 refine hdT 7 ?_
 refine hdC 8 (fun K hK=>?_)
 have r0:=hR.cell 0
 have r1:=hR.cell 1
 have r2:=hR.cell 2
 have f0:=hR.frozen 0
 have f1:=hR.frozen 1
 have f2:=hR.frozen 2
 (go_simp;go_wp2_with fail)
 clear r0 r1 r2 f0 f1 f2
 replace hA:=hA.far (p:=⟨g0+1,0,none⟩) (by dsimp only;omega) (.slice da dn dc)
 replace hb:=hb.setCell (p:=⟨g0+1,0,none⟩) (by dsimp only;omega) (.slice da dn dc)
 replace hR:=hR.set 0 (.slice da dn dc)
 replace hA:=hA.far (p:=⟨g0+1,1,none⟩) (by dsimp only;omega) (.slice a2 n2 c2)
 replace hb:=hb.setCell (p:=⟨g0+1,1,none⟩) (by dsimp only;omega) (.slice a2 n2 c2)
 replace hR:=hR.set 1 (.slice a2 n2 c2)
 replace hA:=hA.far (p:=⟨g0+1,2,none⟩) (by dsimp only;omega) (.bool (odd k))
 replace hb:=hb.setCell (p:=⟨g0+1,2,none⟩) (by dsimp only;omega) (.bool (odd k))
 replace hR:=hR.set 2 (.bool (odd k))
 generalize (((W2).setCell ⟨g0+1,0,none⟩ (.slice da dn dc)).setCell ⟨g0+1,1,none⟩ (.slice a2 n2 c2)).setCell ⟨g0+1,2,none⟩ (.bool (odd k))=W3 at *
 refine hK.out _ _ ?_ (fun _=>?_)
 · ((try dsimp only);(exact hA.cell 0))
 clear hK K
 (try simp only [Act.put,pA,pB,pC])
 refine wpAnyH_done (by kernel_rfl) ?_ _
 go_wp2_with fail
 exact bodyPost_ret (results_cell_row rfl _ _ (g0+1) 168 #[.slice da dn dc,.slice a2 n2 c2,.bool (odd k)] (0,0) _ rfl hR Tryz.underlying168 rfl Tryz.info_rule) rfl ⟨rfl,by rw [HG.out];exact hb⟩
end Go.Proofs.YtdppjlndcacfnaaGreat
