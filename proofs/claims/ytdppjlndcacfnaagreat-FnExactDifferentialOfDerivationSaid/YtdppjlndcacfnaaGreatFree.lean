
import Derived.Test.YtdppjlndcacfnaaGreatAlgS
import Derived.Deep.DeepAppendWide
import Derived.Deep.RegionWith
namespace Go.Proofs.YtdppjlndcacfnaaGreat
set_option maxRecDepth 100000
open Go.RowKit Go.ChangeShapes Go.WideShapes Go.Deep
section
variable {H:Type} {enc:TypeId × Value→H} {w:World} {spare:Nat→Bool} {held:Bool}
theorem derivation_open {t v : TypeId} {r : Reach} {b0 : Nat} {x : Value} {d : DataW H} {p : List MemPlace} {fd fe : Field} (ht : Tryz.prog.underlying t = some (.struct #[fd, fe])) (hfd : fd.type = 2) (hof : fd.offset = 0) (hfe : fe.type = v) (hoe : fe.offset = 1)
    (hC:Tryz.prog.cellsOf t=2) (hCu:Tryz.prog.cellsOf 2=1) (hCv:Tryz.prog.cellsOf v=1) (hv0:Tryz.prog.underlying v=some (.slice 84))
    (hv:Value.okWide Tryz.prog w r b0 t x) (h:DataW.Trod enc Tryz.prog w 0 spare held t x d p):∃k a n c fss,x=.agg #[.int .i64 k,.slice a n c]∧(-9223372036854775808≤k∧k≤9223372036854775807)∧Frms w a n fss∧(n:Int)≤9223372036854775807:=by
 obtain ⟨cs,rfl,hsz⟩:=okWide_struct ht hv
 obtain ⟨fuel,hf⟩:=h
 obtain ⟨xs,k,_,_,hlen,hxl,hx⟩:=DataW.trod_struct ht hf
 have h0:=hx 0 fd rfl
 have h1:=hx 1 fe rfl
 rw [hfd,hof,hCu,List.drop_zero,List.getElem?_eq_getElem (by rw [hxl];simp)] at h0
 rw [hfe,hoe,hCv,List.getElem?_eq_getElem (by rw [hxl];simp)] at h1
 rw [hC] at hlen hsz
 simp only [Value.cells] at h0 h1 hlen
 obtain ⟨z,e0,-,hw⟩:=DataW.trod_int Tryz.underlying2 h0
 obtain ⟨a,n,c,fss,e1,hF,hb⟩:=forms_of_trod hv0 h1
 refine ⟨z,a,n,c,fss,?_,bounds_i64 hw,hF,hb⟩
 obtain ⟨l⟩:=cs
 match l,hlen with
 | [c0, c1], _ =>
   simp at e0 e1
   rw [e0,e1]
end
theorem szFn_spec (L:Int) (n:Nat) (fss:List (List Tm)):szFn L n fss=-1∨(0≤szFn L n fss∧(n:Int)≤L∧∀ts∈fss,(ts.length:Int)≤L):=by
 unfold szFn
 split
 · rcases szFs_spec fss (L - n) (by omega) with h2 | ⟨h2,h3,h4⟩
   · exact Or.inl h2
   · exact Or.inr ⟨h2,by omega,fun u hu=>by have:=h4 u hu;omega⟩
 · exact Or.inl rfl
set_option maxHeartbeats 1000000 in
theorem szDerivation_c {w : World} {a : Option Addr} {n : Nat} {fss : List (List Tm)} (k : Int) (c : Nat) (L : Int) (hL : 0 ≤ L) (hL2 : L ≤ 1048576) (h : Frms w a n fss) (hn : (n : Int) ≤ 9223372036854775807) :
    Calls Tryz.prog 8 #[.agg #[.int .i64 k,.slice a n c],.int .i64 L] w fun e w'=>e=.returned (.int .i64 (szFn L n fss))∧Below w.heap.size w w':=by
 have hb0:=bA1 w (.cells #[.int .i64 k,.slice a n c] 27)
 have hA0:=Own.new w 27 #[.int .i64 k,.slice a n c]
 have c1:=hA0.cell 1
 obtain ⟨R,hR⟩:∃R,szFn L n fss=R:=⟨_,rfl⟩
 have HR:=Lib.hid hR
 have hsp:R=-1∨0≤R:=by
  rw [←hR,szFn];split
  · rcases szFs_spec fss (L - n) (by omega) with h1 | h1
    · exact Or.inl h1
    · exact Or.inr h1.1
  · exact Or.inl rfl
 clear hR
 go_enter Tryz.func8,Tryz.ntmps8
 go_upto_region 1 with fail
 generalize w.alloc (.cells #[.int .i64 k,.slice a n c] 27)=w0 at *
 go_wp2_with fail
 refine (szFormS_c c L hL hL2 (h.keep hb0) hn).mono ?_
 rintro e w1 ⟨rfl,hb1⟩
 rw [HR.out]
 have hb2:=bT' hb0 hb1 hb0.size
 clear hb0 hb1 hA0 c1
 rcases hsp with rfl | hs
 · go_wp2_with fail
   go_ret
   exact ⟨by rw [HR.out];rfl,hb2⟩
 · have hnl:¬R<0:=(by omega);go_wp2_with fail
   go_ret
   exact ⟨by rw [HR.out];rfl,hb2⟩
theorem Tryz.info_der:(Tryz.prog.info? 32).map (·.size)=some 2:=by kernel_rfl
set_option maxHeartbeats 1000000 in
theorem toDerivation_c {w : World} {a : Option Addr} {n : Nat} {fss : List (List Tm)} (k : Int) (c : Nat) (h : Frms w a n fss) (hn : n ≤ 1048576) (hL : ∀ ts ∈ fss, (ts.length : Int) ≤ 1048576) :
    Calls Tryz.prog 11 #[.agg #[.int .i64 k,.slice a n c]] w fun e w'=>∃g gs,e=.returned (.agg #[.int .i64 k,.slice (some ⟨g,0,none⟩) n n])∧w.heap.size≤g∧FrmsBlk w' g fss gs∧Below w.heap.size w w':=by
 have HLL:=Lib.hid hL
 clear hL
 obtain ⟨o1,o2,o3,hb⟩:=own3' w 27 32 32 #[.int .i64 k,.slice a n c] #[.int .i64 0,.slice none 0 0] #[.int .i64 0,.slice none 0 0]
 go_enter Tryz.func11,Tryz.ntmps11
 go_upto_region 2 with fail
 generalize ((w.alloc (.cells #[.int .i64 k,.slice a n c] 27)).alloc (.cells #[.int .i64 0,.slice none 0 0] 32)).alloc (.cells #[.int .i64 0,.slice none 0 0] 32)=w0 at *
 generalize hg2:w.heap.size+1+1=g2 at *
 generalize hg1:w.heap.size+1=g1 at *
 generalize hg0:w.heap.size=g0 at *
 have HG:=Lib.hid hg0
 have e1:=hg1
 have e2:=hg2
 clear hg0 hg1 hg2
 have c0:=o1.cell 0
 have c2:=o3.cell 0
 have f2:=o3.frozen 0
 go_upto_region 3 with fail
 clear c0 c2 f2
 have l3:=o3.lt
 have q1:=o1.far (p:=⟨g2,0,none⟩) (by dsimp only;omega) (.int .i64 k)
 have q2:=o2.far (p:=⟨g2,0,none⟩) (by dsimp only;omega) (.int .i64 k)
 have q3:=o3.set 0 (.int .i64 k)
 have hb3:=hb.setCell (p:=⟨g2,0,none⟩) (by dsimp only;omega) (.int .i64 k)
 generalize w0.setCell ⟨g2,0,none⟩ (.int .i64 k)=w2 at *
 have hbw:Below w.heap.size w w2:=by rw [HG.out];exact hb3
 clear o1 o2 o3 hb
 have c1:=q1.cell 1
 have hg12:g2<w2.heap.size:=q3.lt
 go_wp2_with fail
 refine (toFormS_c c (h.keep hbw) hn HLL.out).mono ?_
 rintro e w3 ⟨gs,rfl,hF,hb4⟩
 have r2:=q2.keep hb4 q2.lt
 have r3:=q3.keep hb4 q3.lt
 have hb5:=bT' hb3 hb4 (by omega)
 obtain ⟨gF,hgF⟩:∃g,w2.heap.size=g:=⟨_,rfl⟩
 rw [hgF] at hF hg12
 try rw [hgF]
 clear q1 q2 q3 hb3 hb4 c1 hbw hgF
 have c3:=r3.cell 0
 have c4:=r3.cell 1
 have f3:=r3.frozen 1
 have k2:=r2.cell 0
 have k3:=r2.cell 1
 have m2:=r2.frozen 0
 have m3:=r2.frozen 1
 go_wp2_with fail
 have s2:=(((r2.far (p:=⟨g2,1,none⟩) (by dsimp only;omega) (.slice (some ⟨gF,0,none⟩) n n)).set 0 (.int .i64 k)).set 1 (.slice (some ⟨gF,0,none⟩) n n))
 refine bodyPost_ret (results_cell_row rfl _ _ g1 32 #[.int .i64 k,.slice (some ⟨gF,0,none⟩) n n] (0,0) _ rfl s2 Tryz.underlying32 rfl Tryz.info_der) rfl ⟨gF,gs,rfl,by rw [HG.out];omega,?_,?_⟩
 · exact ((hF.far (p:=⟨g2,1,none⟩) (by dsimp only;omega) _).far (p:=⟨g1,0,none⟩) (by dsimp only;omega) _).far (p:=⟨g1,1,none⟩) (by dsimp only;omega) _
 · rw [HG.out];exact ((hb5.setCell (p:=⟨g2,1,none⟩) (by dsimp only;omega) _).setCell (p:=⟨g1,0,none⟩) (by dsimp only;omega) _).setCell (p:=⟨g1,1,none⟩) (by dsimp only;omega) _
set_option maxHeartbeats 1000000 in
theorem eqDerivation_c {w : World} {a a' : Option Addr} {n : Nat} {fss : List (List Tm)} (k : Int) (c c' : Nat) (h : Frms w a n fss) (h' : Frms w a' n fss) (hn : n ≤ 1048576) (hL : ∀ ts ∈ fss, (ts.length : Int) ≤ 1048576) :
    Calls Tryz.prog 13 #[.agg #[.int .i64 k,.slice a n c],.agg #[.int .i64 k,.slice a' n c']] w fun e w'=>e=.returned (.bool true)∧Below w.heap.size w w':=by
 have HLL:=Lib.hid hL
 clear hL
 have hA:=(Own.new w 32 #[.int .i64 k,.slice a n c]).alloc (.cells #[.int .i64 k,.slice a' n c'] 32)
 have hB:=Own.new (w.alloc (.cells #[.int .i64 k,.slice a n c] 32)) 32 #[.int .i64 k,.slice a' n c']
 rw [sAl] at hB
 have hb:=bTn (bA1 w (.cells #[.int .i64 k,.slice a n c] 32)) (bA1 _ (.cells #[.int .i64 k,.slice a' n c'] 32))
 have a0:=hA.cell 0
 have a1:=hA.cell 1
 have b0:=hB.cell 0
 have b1:=hB.cell 1
 have hkk:(k != k)=false:=by simp
 go_enter Tryz.func13,Tryz.ntmps13
 go_upto_region 1 with fail
 generalize (w.alloc (.cells #[.int .i64 k,.slice a n c] 32)).alloc (.cells #[.int .i64 k,.slice a' n c'] 32)=w0 at *
 go_wp2_with fail
 refine (eqFormS_c c c' (h.keep hb) (h'.keep hb) hn HLL.out).mono ?_
 rintro e w1 ⟨rfl,hb1⟩
 go_wp2_with fail
 go_ret
 exact ⟨rfl,bT' hb hb1 hb.size⟩
open Go.RowKit Go.Deep
def OwnV (w:World) (lo hi:Nat) (a:Option Addr) (n:Nat) (V:List Int):Prop:=V.length=n∧(0<n→∃g cs,a=some ⟨g,0,none⟩∧lo≤g∧g<hi∧Own w g 2 cs∧n≤cs.size∧∀i,i<n→cs[i]? = some (.int .i64 (V.getD i 0)))
section
variable {w w':World} {lo hi n:Nat} {a:Option Addr} {V:List Int}
theorem OwnV.none_:OwnV w lo hi none 0 []:=⟨rfl,fun h=>absurd h (by omega)⟩
theorem OwnV.keep (h:OwnV w lo hi a n V) (hb:Below w.heap.size w w'):OwnV w' lo hi a n V:=
 ⟨h.1,fun hn=>by obtain ⟨g,cs,h1,h2,h3,h4,h5⟩:=h.2 hn;exact ⟨g,cs,h1,h2,h3,h4.keep hb h4.lt,h5⟩⟩
theorem OwnV.touch {p:Nat→Prop} (h:OwnV w lo hi a n V) (ht:Touch p w w') (hp:∀g,lo≤g→g<hi→¬p g):OwnV w' lo hi a n V:=
 ⟨h.1,fun hn=>by obtain ⟨g,cs,h1,h2,h3,h4,h5⟩:=h.2 hn;exact ⟨g,cs,h1,h2,h3,ht.own h4 (hp g h2 h3),h5⟩⟩
theorem OwnV.weaken {lo' hi':Nat} (h:OwnV w lo hi a n V) (h1:lo'≤lo) (h2:hi≤hi'):OwnV w lo' hi' a n V:=
 ⟨h.1,fun hn=>by obtain ⟨g,cs,e,h3,h4,h5⟩:=h.2 hn;exact ⟨g,cs,e,by omega,by omega,h5⟩⟩
theorem OwnV.block {gx : Nat} {csx : Array Value} (h : OwnV w lo hi a n V) (hx : Own w gx 2 csx) :
    ∃g cs,Own w g 2 cs∧n≤cs.size∧(0<n→a=some ⟨g,0,none⟩)∧(g=gx∨(lo≤g∧g<hi)):=by
 by_cases hn:0<n
 · obtain ⟨g,cs,e,h1,h2,h3,h4,-⟩:=h.2 hn;exact ⟨g,cs,h3,h4,fun _=>e,Or.inr ⟨h1,h2⟩⟩
 · exact ⟨gx,csx,hx,by omega,fun hh=>absurd hh hn,Or.inl rfl⟩
end
theorem rep_get (n i:Nat) (h:i<n) (v:Value):(Array.replicate n v)[i]? = some v:=by simp [h]
def OwnE (w:World) (lo hi:Nat) (a:Option Addr) (n:Nat):Prop:=0<n→∃g,a=some ⟨g,0,none⟩∧lo≤g∧g<hi∧Own w g 59 (Array.replicate n (Value.slice none 0 0))
theorem OwnE.keep {w w':World} {lo hi n:Nat} {a:Option Addr} (h:OwnE w lo hi a n) (hb:Below w.heap.size w w'):OwnE w' lo hi a n:=
 fun hn=>by obtain ⟨g,h1,h2,h3,h4⟩:=h hn;exact ⟨g,h1,h2,h3,h4.keep hb h4.lt⟩
theorem OwnE.weaken {w:World} {lo hi lo' hi' n:Nat} {a:Option Addr} (h:OwnE w lo hi a n) (h1:lo'≤lo) (h2:hi≤hi'):OwnE w lo' hi' a n:=
 fun hn=>by obtain ⟨g,e,h3,h4,h5⟩:=h hn;exact ⟨g,e,by omega,by omega,h5⟩
theorem OwnE.touch {p:Nat→Prop} {w w':World} {lo hi n:Nat} {a:Option Addr} (h:OwnE w lo hi a n) (ht:Touch p w w') (hp:∀g,lo≤g→g<hi→¬p g):OwnE w' lo hi a n:=
 fun hn=>by obtain ⟨g,h1,h2,h3,h4⟩:=h hn;exact ⟨g,h1,h2,h3,ht.own h4 (hp g h2 h3)⟩
theorem OwnE.frms {w:World} {lo hi n:Nat} {a:Option Addr} (h:OwnE w lo hi a n):Frms w a n (List.replicate n []):=by
 refine ⟨by simp,fun hn=>?_⟩
 obtain ⟨g,rfl,-,-,ho⟩:=h hn
 refine ⟨g,0,rfl,ho.lt,fun i ts hi=>?_⟩
 have hl:i<n:=by have:=(List.getElem?_eq_some_iff.1 hi).1;simpa using this
 obtain rfl:ts=[]:=by rw [List.getElem?_replicate,if_pos hl] at hi;injection hi with hi;exact hi.symm
 refine ⟨none,0,0,?_,⟨rfl,fun t ht=>absurd ht (by simp),fun hp=>absurd hp (by omega)⟩,by omega⟩
 rw [Nat.zero_add,ho.cell i]
 exact rep_get n i hl _
end Go.Proofs.YtdppjlndcacfnaaGreat
