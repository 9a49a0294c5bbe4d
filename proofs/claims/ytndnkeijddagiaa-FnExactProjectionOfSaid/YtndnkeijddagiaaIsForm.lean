
import Derived.Test.YtndnkeijddagiaaForm
import Derived.Test.YtndnkeijddagiaaHeld
namespace Go.Proofs.Ytndnkeijddagiaa
set_option maxRecDepth 100000
open Go.RowKit Go.Deep
def okTm (zs:List Int) (t:Tm):Bool:=monoOk zs t.m && decide (1≤t.f∧t.f≤10006)
def okAt (zs:List Int) (ts:List Tm) (i:Nat):Bool:=
 match ts[i]? with
 | none=>true
 | some t => okTm zs t && (match i with
   | 0=>true
   | j + 1 => match ts[j]? with
     | none=>true
     | some p=>before p.m t.m)
def listOk (zs:List Int) (ts:List Tm):Bool:=(List.range ts.length).all (okAt zs ts)
def isForm (zs:List Int) (ts:List Tm):Bool:=degsOk zs && (listOk zs ts && decide (ts.length≤400))
theorem okAt_zero {zs:List Int} {ts:List Tm} {t:Tm} (h:ts[0]? = some t):okAt zs ts 0=okTm zs t:=by
 simp [okAt,h]
theorem okAt_succ {zs:List Int} {ts:List Tm} {j:Nat} {t p:Tm} (h:ts[j+1]? = some t) (hp:ts[j]? = some p):okAt zs ts (j+1)=(okTm zs t && before p.m t.m):=by
 simp only [okAt,h,hp]
theorem okAt_bad {zs:List Int} {ts:List Tm} {i:Nat} {t:Tm} (h:ts[i]? = some t) (hb:okTm zs t=false):okAt zs ts i=false:=by
 simp only [okAt,h,hb,Bool.false_and]
theorem okTm_no1 {zs:List Int} {t:Tm} (h:monoOk zs t.m=false):okTm zs t=false:=by rw [okTm,h];rfl
theorem okTm_no2 {zs:List Int} {t:Tm} (h:decide (1≤t.f∧t.f≤10006)=false):okTm zs t=false:=by rw [okTm,h,Bool.and_false]
theorem okTm_yes {zs:List Int} {t:Tm} (h:monoOk zs t.m=true) (h2:decide (1≤t.f∧t.f≤10006)=true):okTm zs t=true:=by rw [okTm,h,h2];rfl
theorem listOk_end {zs:List Int} {ts:List Tm} {n:Nat} (hn:ts.length=n) (h:(List.range n).all (okAt zs ts)=true):listOk zs ts=true:=by rw [listOk,hn,h]
theorem listOk_no {zs:List Int} {ts:List Tm} {k n:Nat} (hn:ts.length=n) (hk:k<n) (h:okAt zs ts k=false):listOk zs ts=false:=by rw [listOk,hn];exact range_all_no hk h
theorem l01Mono8 {w : World} {a : Option Addr} {n : Nat} {zs : List Int} {v : Bool} {m0 m1 m2 m3 m4 m5 m6 m7 : Int} (c : Nat) (h : Ints w a n zs) (hn : n ≤ 1048576) (hm : IsMono [m0, m1, m2, m3, m4, m5, m6, m7]) (hv : monoOk zs [m0, m1, m2, m3, m4, m5, m6, m7] = v) :
    Calls Try.prog 126 #[.slice a n c,.agg #[.int .u8 m0,.int .u8 m1,.int .u8 m2,.int .u8 m3,.int .u8 m4,.int .u8 m5,.int .u8 m6,.int .u8 m7]] w fun e w'=>e=.returned (.bool v)∧Below w.heap.size w w':=by
 have:=l01Mono_c c h hn hm
 rw [hv] at this
 exact this
theorem expFit8 {w : World} {a : Option Addr} {n : Nat} {zs : List Int} {v : Bool} {m0 m1 m2 m3 m4 m5 m6 m7 : Int} (c : Nat) (h : Ints w a n zs) (hn : n ≤ 1048576) (hm : IsMono [m0, m1, m2, m3, m4, m5, m6, m7]) (hv : monoOk zs [m0, m1, m2, m3, m4, m5, m6, m7] = v) :
    Calls Try.prog 130 #[.slice a n c,.agg #[.int .u8 m0,.int .u8 m1,.int .u8 m2,.int .u8 m3,.int .u8 m4,.int .u8 m5,.int .u8 m6,.int .u8 m7]] w fun e w'=>e=.returned (.bool v)∧Below w.heap.size w w':=by
 have:=exponentsFit_c c h hn hm
 rw [hv] at this
 exact this
theorem l01Before8 {w : World} {v : Bool} {p0 p1 p2 p3 p4 p5 p6 p7 m0 m1 m2 m3 m4 m5 m6 m7 : Int} (hp : IsMono [p0, p1, p2, p3, p4, p5, p6, p7]) (hm : IsMono [m0, m1, m2, m3, m4, m5, m6, m7]) (hv : before [p0, p1, p2, p3, p4, p5, p6, p7] [m0, m1, m2, m3, m4, m5, m6, m7] = v) :
    Calls Try.prog 127 #[.agg #[.int .u8 p0,.int .u8 p1,.int .u8 p2,.int .u8 p3,.int .u8 p4,.int .u8 p5,.int .u8 p6,.int .u8 p7],.agg #[.int .u8 m0,.int .u8 m1,.int .u8 m2,.int .u8 m3,.int .u8 m4,.int .u8 m5,.int .u8 m6,.int .u8 m7]] w fun e w'=>e=.returned (.bool v)∧Below w.heap.size w w':=by
 have:=l01Before_c (w:=w) hp hm
 rw [hv] at this
 exact this
theorem compare8 {w : World} {v : Int} {p0 p1 p2 p3 p4 p5 p6 p7 m0 m1 m2 m3 m4 m5 m6 m7 : Int} (hp : IsMono [p0, p1, p2, p3, p4, p5, p6, p7]) (hm : IsMono [m0, m1, m2, m3, m4, m5, m6, m7]) (hv : cmpM [p0, p1, p2, p3, p4, p5, p6, p7] [m0, m1, m2, m3, m4, m5, m6, m7] = v) :
    Calls Try.prog 131 #[.agg #[.int .u8 p0,.int .u8 p1,.int .u8 p2,.int .u8 p3,.int .u8 p4,.int .u8 p5,.int .u8 p6,.int .u8 p7],.agg #[.int .u8 m0,.int .u8 m1,.int .u8 m2,.int .u8 m3,.int .u8 m4,.int .u8 m5,.int .u8 m6,.int .u8 m7]] w fun e w'=>e=.returned (.int .i64 v)∧Below w.heap.size w w':=by
 have:=compareMonomials_c (w:=w) hp hm
 rw [hv] at this
 exact this
theorem cellsS1 {w:World} {F g b off n c:Nat} {t u:TypeId} {m0 m1 m2 m3 m4 m5 m6 m7 f:Int} (hF:Own w F t #[.slice (some ⟨b,off,none⟩) n c]) (hT:Own w g u #[.int .u8 m0,.int .u8 m1,.int .u8 m2,.int .u8 m3,.int .u8 m4,.int .u8 m5,.int .u8 m6,.int .u8 m7,.int .i64 f]):w.cell? ⟨F,0,none⟩=some (.slice (some ⟨b,off,none⟩) n c)∧w.cell? ⟨g,0,none⟩=some (.int .u8 m0)∧w.cell? ⟨g,1,none⟩=some (.int .u8 m1)∧w.cell? ⟨g,2,none⟩=some (.int .u8 m2)∧w.cell? ⟨g,3,none⟩=some (.int .u8 m3)∧w.cell? ⟨g,4,none⟩=some (.int .u8 m4)∧w.cell? ⟨g,5,none⟩=some (.int .u8 m5)∧w.cell? ⟨g,6,none⟩=some (.int .u8 m6)∧w.cell? ⟨g,7,none⟩=some (.int .u8 m7)∧w.cell? ⟨g,8,none⟩=some (.int .i64 f):=
 ⟨hF.cell 0,hT.cell 0,hT.cell 1,hT.cell 2,hT.cell 3,hT.cell 4,hT.cell 5,hT.cell 6,hT.cell 7,hT.cell 8⟩
theorem cellsS2 {w:World} {F g b off n c o:Nat} {t u:TypeId} {p0 p1 p2 p3 p4 p5 p6 p7 m0 m1 m2 m3 m4 m5 m6 m7 f fp:Int} (hF:Own w F t #[.slice (some ⟨b,off,none⟩) n c]) (hT:Own w g u #[.int .u8 m0,.int .u8 m1,.int .u8 m2,.int .u8 m3,.int .u8 m4,.int .u8 m5,.int .u8 m6,.int .u8 m7,.int .i64 f]) (hr:w.rangeAt b o (tcells ⟨[p0,p1,p2,p3,p4,p5,p6,p7],fp⟩)):w.cell? ⟨F,0,none⟩=some (.slice (some ⟨b,off,none⟩) n c)∧w.cell? ⟨g,0,none⟩=some (.int .u8 m0)∧w.cell? ⟨g,1,none⟩=some (.int .u8 m1)∧w.cell? ⟨g,2,none⟩=some (.int .u8 m2)∧w.cell? ⟨g,3,none⟩=some (.int .u8 m3)∧w.cell? ⟨g,4,none⟩=some (.int .u8 m4)∧w.cell? ⟨g,5,none⟩=some (.int .u8 m5)∧w.cell? ⟨g,6,none⟩=some (.int .u8 m6)∧w.cell? ⟨g,7,none⟩=some (.int .u8 m7)∧w.cell? ⟨g,8,none⟩=some (.int .i64 f)∧w.cell? ⟨b,o,none⟩=some (.int .u8 p0)∧w.cell? ⟨b,o+1,none⟩=some (.int .u8 p1)∧w.cell? ⟨b,o+2,none⟩=some (.int .u8 p2)∧w.cell? ⟨b,o+3,none⟩=some (.int .u8 p3)∧w.cell? ⟨b,o+4,none⟩=some (.int .u8 p4)∧w.cell? ⟨b,o+5,none⟩=some (.int .u8 p5)∧w.cell? ⟨b,o+6,none⟩=some (.int .u8 p6)∧w.cell? ⟨b,o+7,none⟩=some (.int .u8 p7):=
 ⟨hF.cell 0,hT.cell 0,hT.cell 1,hT.cell 2,hT.cell 3,hT.cell 4,hT.cell 5,hT.cell 6,hT.cell 7,hT.cell 8,hr 0 _ rfl,hr 1 _ rfl,hr 2 _ rfl,hr 3 _ rfl,hr 4 _ rfl,hr 5 _ rfl,hr 6 _ rfl,hr 7 _ rfl⟩
set_option maxHeartbeats 2000000 in
theorem l01Is_cB {w : World} {da : Option Addr} {dn : Nat} {zs : List Int} {a : Option Addr} {n : Nat} {ts : List Tm} (dc c : Nat) (hd : Ints w da dn zs) (hdn : dn ≤ 1048576) (h : Terms w a n ts) (hn : n ≤ 2000000) :
    Calls Try.prog 104 #[.slice da dn dc,.agg #[.slice a n c]] w fun e w'=>e=.returned (.bool (listOk zs ts && decide (ts.length≤400)))∧Below w.heap.size w w':=by
 have hl:=h.len
 have HL:=Lib.hid hl
 clear hl
 go_enter Try.func104,Try.ntmps104
 go_wp2
 have hF0:=Own.new w 47 #[.slice a n c]
 have hb0:=bA1 w (.cells #[.slice a n c] 47)
 generalize w.alloc (.cells #[.slice a n c] 47)=w0 at *
 go_loopw [5] (fun i wr=>∃k:Nat,k≤n∧i=.int .i64 k∧Below w.heap.size w wr∧Own wr w.heap.size 47 #[.slice a n c]∧Hid ((List.range k).all (okAt zs ts)=true)) (fun i _=>n - (intOf i).toNat)
 case atStart=>exact ⟨0,Nat.zero_le _,rfl,hb0,hF0,rfl⟩
 case round=>
  clear hb0 hF0;obtain ⟨k,hk,rfl,hb,hF0,H⟩:=hrel;have cF:=hF0.cell 0;by_cases hlt:k<n
  · obtain ⟨b,off,t,rfl,hbl,hr0,ht,hx⟩:=(h.keep hb).at_ hlt;obtain ⟨m,f⟩:=t;have hm:IsMono m:=ht.1;obtain ⟨m0,m1,m2,m3,m4,m5,m6,m7,rfl⟩:=mono8 hm;obtain ⟨x0,x1,x2,x3,x4,x5,x6,x7,x8⟩:=nine hr0;clear hr0;go_upto_region 5 with fail
    clear x0 x1 x2 x3 x4 x5 x6 x7 x8 cF;have hT0:=Own.new wr 76 #[.int .u8 m0,.int .u8 m1,.int .u8 m2,.int .u8 m3,.int .u8 m4,.int .u8 m5,.int .u8 m6,.int .u8 m7,.int .i64 f];have hF1:=hF0.alloc (.cells #[.int .u8 m0,.int .u8 m1,.int .u8 m2,.int .u8 m3,.int .u8 m4,.int .u8 m5,.int .u8 m6,.int .u8 m7,.int .i64 f] 76);have hGw:w.heap.size≤wr.heap.size:=hb.size;have hba:=bA1 wr (.cells #[.int .u8 m0,.int .u8 m1,.int .u8 m2,.int .u8 m3,.int .u8 m4,.int .u8 m5,.int .u8 m6,.int .u8 m7,.int .i64 f] 76);have hbb0:=bT' hb hba hb.size;have hI0:=(hd.keep hb).keep hba;have hTs0:=(h.keep hb).keep hba;clear hba hF0;generalize wr.alloc (.cells #[.int .u8 m0,.int .u8 m1,.int .u8 m2,.int .u8 m3,.int .u8 m4,.int .u8 m5,.int .u8 m6,.int .u8 m7,.int .i64 f] 76)=w1 at *
    go_cut [46] from 7 to 46 (fun v wx=>v=.bool (!okAt zs ts k)∧Below w.heap.size w wx∧Own wx w.heap.size 47 #[.slice (some ⟨b,off,none⟩) n c])
    case first=>
     have hI:Ints w1.drew da dn zs:=hI0;have hF:Own w1.drew w.heap.size 47 #[.slice (some ⟨b,off,none⟩) n c]:=hF1;have hT:Own w1.drew wr.heap.size 76 #[.int .u8 m0,.int .u8 m1,.int .u8 m2,.int .u8 m3,.int .u8 m4,.int .u8 m5,.int .u8 m6,.int .u8 m7,.int .i64 f]:=hT0;have hbb:Below w.heap.size w w1.drew:=hbb0.drew;have hGl:w.heap.size≤w1.drew.heap.size:=hbb0.size;have hTs:Terms w1.drew (some ⟨b,off,none⟩) n ts:=hTs0;clear hI0 hF1 hT0 hbb0 hTs0
     cases hmo:monoOk zs [m0,m1,m2,m3,m4,m5,m6,m7] with
     | false =>
       have hres:=Lib.hid (okAt_bad hx.out (okTm_no1 (t:=⟨[m0,m1,m2,m3,m4,m5,m6,m7],f⟩) hmo));refine wp_region_held_drew (S:=(fun w'=>w'.cell? ⟨w.heap.size,0,none⟩=some (.slice (some ⟨b,off,none⟩) n c)∧w'.cell? ⟨wr.heap.size,0,none⟩=some (.int .u8 m0)∧w'.cell? ⟨wr.heap.size,1,none⟩=some (.int .u8 m1)∧w'.cell? ⟨wr.heap.size,2,none⟩=some (.int .u8 m2)∧w'.cell? ⟨wr.heap.size,3,none⟩=some (.int .u8 m3)∧w'.cell? ⟨wr.heap.size,4,none⟩=some (.int .u8 m4)∧w'.cell? ⟨wr.heap.size,5,none⟩=some (.int .u8 m5)∧w'.cell? ⟨wr.heap.size,6,none⟩=some (.int .u8 m6)∧w'.cell? ⟨wr.heap.size,7,none⟩=some (.int .u8 m7)∧w'.cell? ⟨wr.heap.size,8,none⟩=some (.int .i64 f))) (by kernel_rfl) ?_ (fun hHeld=>?_)
       · ((try dsimp only);(exact cellsS1 hF hT))
       first | refine hdT 0 ?_ | refine hdU 0 ?_
       first | refine hdT 1 ?_ | refine hdU 1 ?_
       first | refine hdT 2 ?_ | refine hdU 2 ?_
       refine hdC 3 (fun K hK=>?_)
       (go_simp;(go_at_call 126;(refine (l01Mono8 dc hI hdn hm hmo).mono ?_);rintro e wM ⟨rfl,hbM⟩;have hbb':=bT' hbb hbM hGl;have hI':=hI.keep hbM;have hF':=hF.keep hbM hF.lt;have hT':=hT.keep hbM hT.lt;have hGl':=Nat.le_trans hGl hbM.size;clear hbb hI hF hT hGl;have hbb:=hbb';have hI:=hI';have hF:=hF';have hT:=hT';have hGl:=hGl');go_wp2_with fail)
       refine hK.out _ _ ?_ (fun _=>?_)
       · ((try dsimp only);(exact cellsS1 hF hT))
       clear hK K
       (try simp only [Act.put,pA,pB,pC])
       first | refine hdT 4 ?_ | refine hdU 4 ?_
       first | refine hdT 5 ?_ | refine hdU 5 ?_
       first | refine hdT 6 ?_ | refine hdU 6 ?_
       first | refine hdT 7 ?_ | refine hdU 7 ?_
       refine hdU 8 ?_
       first | refine hdT 9 ?_ | refine hdU 9 ?_
       first | refine hdT 10 ?_ | refine hdU 10 ?_
       first | refine hdT 11 ?_ | refine hdU 11 ?_
       first | refine hdT 12 ?_ | refine hdU 12 ?_
       first | refine hdT 13 ?_ | refine hdU 13 ?_
       first | refine hdT 14 ?_ | refine hdU 14 ?_
       first | refine hdT 15 ?_ | refine hdU 15 ?_
       first | refine hdT 16 ?_ | refine hdU 16 ?_
       first | refine hdT 17 ?_ | refine hdU 17 ?_
       first | refine hdT 18 ?_ | refine hdU 18 ?_
       first | refine hdT 19 ?_ | refine hdU 19 ?_
       first | refine hdT 20 ?_ | refine hdU 20 ?_
       first | refine hdT 21 ?_ | refine hdU 21 ?_
       first | refine hdT 22 ?_ | refine hdU 22 ?_
       first | refine hdT 23 ?_ | refine hdU 23 ?_
       refine hdU 24 ?_
       first | refine hdT 25 ?_ | refine hdU 25 ?_
       first | refine hdT 26 ?_ | refine hdU 26 ?_
       first | refine hdT 27 ?_ | refine hdU 27 ?_
       refine wpAnyH_done (by kernel_rfl) ?_ _;go_wp2_with fail
       go_meet
       exact ⟨by rw [hres.out];rfl,hbb,hF⟩
     | true =>
       cases hin:decide (1≤f∧f≤10006) with
       | false =>
         have hres:=Lib.hid (okAt_bad hx.out (okTm_no2 (zs:=zs) (t:=⟨[m0,m1,m2,m3,m4,m5,m6,m7],f⟩) hin));refine wp_region_held_drew (S:=(fun w'=>w'.cell? ⟨w.heap.size,0,none⟩=some (.slice (some ⟨b,off,none⟩) n c)∧w'.cell? ⟨wr.heap.size,0,none⟩=some (.int .u8 m0)∧w'.cell? ⟨wr.heap.size,1,none⟩=some (.int .u8 m1)∧w'.cell? ⟨wr.heap.size,2,none⟩=some (.int .u8 m2)∧w'.cell? ⟨wr.heap.size,3,none⟩=some (.int .u8 m3)∧w'.cell? ⟨wr.heap.size,4,none⟩=some (.int .u8 m4)∧w'.cell? ⟨wr.heap.size,5,none⟩=some (.int .u8 m5)∧w'.cell? ⟨wr.heap.size,6,none⟩=some (.int .u8 m6)∧w'.cell? ⟨wr.heap.size,7,none⟩=some (.int .u8 m7)∧w'.cell? ⟨wr.heap.size,8,none⟩=some (.int .i64 f))) (by kernel_rfl) ?_ (fun hHeld=>?_)
         · ((try dsimp only);(exact cellsS1 hF hT))
         first | refine hdT 0 ?_ | refine hdU 0 ?_
         first | refine hdT 1 ?_ | refine hdU 1 ?_
         first | refine hdT 2 ?_ | refine hdU 2 ?_
         refine hdC 3 (fun K hK=>?_)
         (go_simp;(go_at_call 126;(refine (l01Mono8 dc hI hdn hm hmo).mono ?_);rintro e wM ⟨rfl,hbM⟩;have hbb':=bT' hbb hbM hGl;have hI':=hI.keep hbM;have hF':=hF.keep hbM hF.lt;have hT':=hT.keep hbM hT.lt;have hGl':=Nat.le_trans hGl hbM.size;clear hbb hI hF hT hGl;have hbb:=hbb';have hI:=hI';have hF:=hF';have hT:=hT';have hGl:=hGl');go_wp2_with fail)
         refine hK.out _ _ ?_ (fun _=>?_)
         · ((try dsimp only);(exact cellsS1 hF hT))
         clear hK K
         (try simp only [Act.put,pA,pB,pC])
         first | refine hdT 4 ?_ | refine hdU 4 ?_
         first | refine hdT 5 ?_ | refine hdU 5 ?_
         first | refine hdT 6 ?_ | refine hdU 6 ?_
         first | refine hdT 7 ?_ | refine hdU 7 ?_
         refine hdC 8 (fun K hK=>?_)
         (go_simp;(go_at_call 70;refine (l01In_c _ _ _ _).mono ?_;rintro e wI ⟨rfl,rfl⟩;rw [hin]);go_wp2_with fail)
         refine hK.out _ _ ?_ (fun _=>?_)
         · ((try dsimp only);(exact cellsS1 hF hT))
         clear hK K
         (try simp only [Act.put,pA,pB,pC])
         first | refine hdT 9 ?_ | refine hdU 9 ?_
         first | refine hdT 10 ?_ | refine hdU 10 ?_
         first | refine hdT 11 ?_ | refine hdU 11 ?_
         first | refine hdT 12 ?_ | refine hdU 12 ?_
         first | refine hdT 13 ?_ | refine hdU 13 ?_
         first | refine hdT 14 ?_ | refine hdU 14 ?_
         first | refine hdT 15 ?_ | refine hdU 15 ?_
         first | refine hdT 16 ?_ | refine hdU 16 ?_
         first | refine hdT 17 ?_ | refine hdU 17 ?_
         first | refine hdT 18 ?_ | refine hdU 18 ?_
         first | refine hdT 19 ?_ | refine hdU 19 ?_
         first | refine hdT 20 ?_ | refine hdU 20 ?_
         first | refine hdT 21 ?_ | refine hdU 21 ?_
         first | refine hdT 22 ?_ | refine hdU 22 ?_
         first | refine hdT 23 ?_ | refine hdU 23 ?_
         refine hdU 24 ?_
         first | refine hdT 25 ?_ | refine hdU 25 ?_
         first | refine hdT 26 ?_ | refine hdU 26 ?_
         first | refine hdT 27 ?_ | refine hdU 27 ?_
         refine wpAnyH_done (by kernel_rfl) ?_ _;go_wp2_with fail
         go_meet
         exact ⟨by rw [hres.out];rfl,hbb,hF⟩
       | true =>
         cases k with
         | zero =>
           have hk0:((0:Nat):Int)=0:=rfl;have hres:=Lib.hid ((okAt_zero hx.out).trans (okTm_yes (t:=⟨[m0,m1,m2,m3,m4,m5,m6,m7],f⟩) hmo hin));refine wp_region_held_drew (S:=(fun w'=>w'.cell? ⟨w.heap.size,0,none⟩=some (.slice (some ⟨b,off,none⟩) n c)∧w'.cell? ⟨wr.heap.size,0,none⟩=some (.int .u8 m0)∧w'.cell? ⟨wr.heap.size,1,none⟩=some (.int .u8 m1)∧w'.cell? ⟨wr.heap.size,2,none⟩=some (.int .u8 m2)∧w'.cell? ⟨wr.heap.size,3,none⟩=some (.int .u8 m3)∧w'.cell? ⟨wr.heap.size,4,none⟩=some (.int .u8 m4)∧w'.cell? ⟨wr.heap.size,5,none⟩=some (.int .u8 m5)∧w'.cell? ⟨wr.heap.size,6,none⟩=some (.int .u8 m6)∧w'.cell? ⟨wr.heap.size,7,none⟩=some (.int .u8 m7)∧w'.cell? ⟨wr.heap.size,8,none⟩=some (.int .i64 f))) (by kernel_rfl) ?_ (fun hHeld=>?_)
           · ((try dsimp only);(exact cellsS1 hF hT))
           first | refine hdT 0 ?_ | refine hdU 0 ?_
           first | refine hdT 1 ?_ | refine hdU 1 ?_
           first | refine hdT 2 ?_ | refine hdU 2 ?_
           refine hdC 3 (fun K hK=>?_)
           (go_simp;(go_at_call 126;(refine (l01Mono8 dc hI hdn hm hmo).mono ?_);rintro e wM ⟨rfl,hbM⟩;have hbb':=bT' hbb hbM hGl;have hI':=hI.keep hbM;have hF':=hF.keep hbM hF.lt;have hT':=hT.keep hbM hT.lt;have hGl':=Nat.le_trans hGl hbM.size;clear hbb hI hF hT hGl;have hbb:=hbb';have hI:=hI';have hF:=hF';have hT:=hT';have hGl:=hGl');go_wp2_with fail)
           refine hK.out _ _ ?_ (fun _=>?_)
           · ((try dsimp only);(exact cellsS1 hF hT))
           clear hK K
           (try simp only [Act.put,pA,pB,pC])
           first | refine hdT 4 ?_ | refine hdU 4 ?_
           first | refine hdT 5 ?_ | refine hdU 5 ?_
           first | refine hdT 6 ?_ | refine hdU 6 ?_
           first | refine hdT 7 ?_ | refine hdU 7 ?_
           refine hdC 8 (fun K hK=>?_)
           (go_simp;(go_at_call 70;refine (l01In_c _ _ _ _).mono ?_;rintro e wI ⟨rfl,rfl⟩;rw [hin]);go_wp2_with fail)
           refine hK.out _ _ ?_ (fun _=>?_)
           · ((try dsimp only);(exact cellsS1 hF hT))
           clear hK K
           (try simp only [Act.put,pA,pB,pC])
           first | refine hdT 9 ?_ | refine hdU 9 ?_
           first | refine hdT 10 ?_ | refine hdU 10 ?_
           first | refine hdT 11 ?_ | refine hdU 11 ?_
           first | refine hdT 12 ?_ | refine hdU 12 ?_
           first | refine hdT 13 ?_ | refine hdU 13 ?_
           first | refine hdT 14 ?_ | refine hdU 14 ?_
           first | refine hdT 15 ?_ | refine hdU 15 ?_
           first | refine hdT 16 ?_ | refine hdU 16 ?_
           first | refine hdT 17 ?_ | refine hdU 17 ?_
           first | refine hdT 18 ?_ | refine hdU 18 ?_
           first | refine hdT 19 ?_ | refine hdU 19 ?_
           first | refine hdT 20 ?_ | refine hdU 20 ?_
           first | refine hdT 21 ?_ | refine hdU 21 ?_
           first | refine hdT 22 ?_ | refine hdU 22 ?_
           first | refine hdT 23 ?_ | refine hdU 23 ?_
           refine hdU 24 ?_
           first | refine hdT 25 ?_ | refine hdU 25 ?_
           first | refine hdT 26 ?_ | refine hdU 26 ?_
           first | refine hdT 27 ?_ | refine hdU 27 ?_
           refine wpAnyH_done (by kernel_rfl) ?_ _;go_wp2_with fail
           go_meet
           exact ⟨by rw [hres.out];rfl,hbb,hF⟩
         | succ j =>
           obtain ⟨b2,off2,tp,he2,hbl2,hr,htp,hxp⟩:=hTs.at_ (k:=j) (by omega);obtain ⟨rfl,rfl⟩:b=b2∧off=off2:=(by injection he2 with he2;injection he2 with h1 h2;exact ⟨h1,h2⟩);obtain ⟨mp,fp⟩:=tp;have hp:IsMono mp:=htp.1;obtain ⟨p0,p1,p2,p3,p4,p5,p6,p7,rfl⟩:=mono8 hp;have hbl:=hbl2;have hx0:(0:Int)<((j+1:Nat):Int):=by omega
           have hx1:IntKind.i64.wrap (((j+1:Nat):Int) - 1)=(j:Int):=by
            rw [show ((j+1:Nat):Int) - 1=(j:Int) by omega];exact IntWalk.i64_in _ (by omega)
           have hj0:(0:Int)≤(j:Int):=(by omega);have hjn:(j:Int)<(n:Int):=(by omega);generalize ((j+1:Nat):Int)=x at *
           cases hbf:before [p0,p1,p2,p3,p4,p5,p6,p7] [m0,m1,m2,m3,m4,m5,m6,m7] with
           | false =>
             have hres:=Lib.hid ((okAt_succ hx.out hxp.out).trans (by rw [okTm_yes (t:=⟨[m0,m1,m2,m3,m4,m5,m6,m7],f⟩) hmo hin,hbf]));refine wp_region_held_drew (S:=(fun w'=>w'.cell? ⟨w.heap.size,0,none⟩=some (.slice (some ⟨b,off,none⟩) n c)∧w'.cell? ⟨wr.heap.size,0,none⟩=some (.int .u8 m0)∧w'.cell? ⟨wr.heap.size,1,none⟩=some (.int .u8 m1)∧w'.cell? ⟨wr.heap.size,2,none⟩=some (.int .u8 m2)∧w'.cell? ⟨wr.heap.size,3,none⟩=some (.int .u8 m3)∧w'.cell? ⟨wr.heap.size,4,none⟩=some (.int .u8 m4)∧w'.cell? ⟨wr.heap.size,5,none⟩=some (.int .u8 m5)∧w'.cell? ⟨wr.heap.size,6,none⟩=some (.int .u8 m6)∧w'.cell? ⟨wr.heap.size,7,none⟩=some (.int .u8 m7)∧w'.cell? ⟨wr.heap.size,8,none⟩=some (.int .i64 f)∧w'.cell? ⟨b,off+j * 9,none⟩=some (.int .u8 p0)∧w'.cell? ⟨b,off+j * 9+1,none⟩=some (.int .u8 p1)∧w'.cell? ⟨b,off+j * 9+2,none⟩=some (.int .u8 p2)∧w'.cell? ⟨b,off+j * 9+3,none⟩=some (.int .u8 p3)∧w'.cell? ⟨b,off+j * 9+4,none⟩=some (.int .u8 p4)∧w'.cell? ⟨b,off+j * 9+5,none⟩=some (.int .u8 p5)∧w'.cell? ⟨b,off+j * 9+6,none⟩=some (.int .u8 p6)∧w'.cell? ⟨b,off+j * 9+7,none⟩=some (.int .u8 p7))) (by kernel_rfl) ?_ (fun hHeld=>?_)
             · ((try dsimp only);(exact cellsS2 hF hT hr))
             first | refine hdT 0 ?_ | refine hdU 0 ?_
             first | refine hdT 1 ?_ | refine hdU 1 ?_
             first | refine hdT 2 ?_ | refine hdU 2 ?_
             refine hdC 3 (fun K hK=>?_)
             (go_simp;(go_at_call 126;(refine (l01Mono8 dc hI hdn hm hmo).mono ?_);rintro e wM ⟨rfl,hbM⟩;have hbb':=bT' hbb hbM hGl;have hI':=hI.keep hbM;have hF':=hF.keep hbM hF.lt;have hT':=hT.keep hbM hT.lt;have hGl':=Nat.le_trans hGl hbM.size;have hr':=rgK hr (hbM.block b hbl);have hbl':=Nat.lt_of_lt_of_le hbl hbM.size;clear hr hbl;have hr:=hr';have hbl:=hbl';clear hbb hI hF hT hGl;have hbb:=hbb';have hI:=hI';have hF:=hF';have hT:=hT';have hGl:=hGl');go_wp2_with fail)
             refine hK.out _ _ ?_ (fun _=>?_)
             · ((try dsimp only);(exact cellsS2 hF hT hr))
             clear hK K
             (try simp only [Act.put,pA,pB,pC])
             first | refine hdT 4 ?_ | refine hdU 4 ?_
             first | refine hdT 5 ?_ | refine hdU 5 ?_
             first | refine hdT 6 ?_ | refine hdU 6 ?_
             first | refine hdT 7 ?_ | refine hdU 7 ?_
             refine hdC 8 (fun K hK=>?_)
             (go_simp;(go_at_call 70;refine (l01In_c _ _ _ _).mono ?_;rintro e wI ⟨rfl,rfl⟩;rw [hin]);go_wp2_with fail)
             refine hK.out _ _ ?_ (fun _=>?_)
             · ((try dsimp only);(exact cellsS2 hF hT hr))
             clear hK K
             (try simp only [Act.put,pA,pB,pC])
             first | refine hdT 9 ?_ | refine hdU 9 ?_
             first | refine hdT 10 ?_ | refine hdU 10 ?_
             first | refine hdT 11 ?_ | refine hdU 11 ?_
             first | refine hdT 12 ?_ | refine hdU 12 ?_
             first | refine hdT 13 ?_ | refine hdU 13 ?_
             first | refine hdT 14 ?_ | refine hdU 14 ?_
             first | refine hdT 15 ?_ | refine hdU 15 ?_
             first | refine hdT 16 ?_ | refine hdU 16 ?_
             first | refine hdT 17 ?_ | refine hdU 17 ?_
             first | refine hdT 18 ?_ | refine hdU 18 ?_
             first | refine hdT 19 ?_ | refine hdU 19 ?_
             first | refine hdT 20 ?_ | refine hdU 20 ?_
             first | refine hdT 21 ?_ | refine hdU 21 ?_
             first | refine hdT 22 ?_ | refine hdU 22 ?_
             first | refine hdT 23 ?_ | refine hdU 23 ?_
             refine hdC 24 (fun K hK=>?_)
             (go_simp;(go_at_call 127;(refine (l01Before8 hp hm hbf).mono ?_);rintro e wB ⟨rfl,hbB⟩;have hbb':=bT' hbb hbB hGl;have hI':=hI.keep hbB;have hF':=hF.keep hbB hF.lt;have hT':=hT.keep hbB hT.lt;have hGl':=Nat.le_trans hGl hbB.size;have hr':=rgK hr (hbB.block b hbl);have hbl':=Nat.lt_of_lt_of_le hbl hbB.size;clear hr hbl;have hr:=hr';have hbl:=hbl';clear hbb hI hF hT hGl;have hbb:=hbb';have hI:=hI';have hF:=hF';have hT:=hT';have hGl:=hGl');go_wp2_with fail)
             refine hK.out _ _ ?_ (fun _=>?_)
             · ((try dsimp only);(exact cellsS2 hF hT hr))
             clear hK K
             (try simp only [Act.put,pA,pB,pC])
             first | refine hdT 25 ?_ | refine hdU 25 ?_
             first | refine hdT 26 ?_ | refine hdU 26 ?_
             first | refine hdT 27 ?_ | refine hdU 27 ?_
             refine wpAnyH_done (by kernel_rfl) ?_ _;go_wp2_with fail
             go_meet
             exact ⟨by rw [hres.out];rfl,hbb,hF⟩
           | true =>
             have hres:=Lib.hid ((okAt_succ hx.out hxp.out).trans (by rw [okTm_yes (t:=⟨[m0,m1,m2,m3,m4,m5,m6,m7],f⟩) hmo hin,hbf]));refine wp_region_held_drew (S:=(fun w'=>w'.cell? ⟨w.heap.size,0,none⟩=some (.slice (some ⟨b,off,none⟩) n c)∧w'.cell? ⟨wr.heap.size,0,none⟩=some (.int .u8 m0)∧w'.cell? ⟨wr.heap.size,1,none⟩=some (.int .u8 m1)∧w'.cell? ⟨wr.heap.size,2,none⟩=some (.int .u8 m2)∧w'.cell? ⟨wr.heap.size,3,none⟩=some (.int .u8 m3)∧w'.cell? ⟨wr.heap.size,4,none⟩=some (.int .u8 m4)∧w'.cell? ⟨wr.heap.size,5,none⟩=some (.int .u8 m5)∧w'.cell? ⟨wr.heap.size,6,none⟩=some (.int .u8 m6)∧w'.cell? ⟨wr.heap.size,7,none⟩=some (.int .u8 m7)∧w'.cell? ⟨wr.heap.size,8,none⟩=some (.int .i64 f)∧w'.cell? ⟨b,off+j * 9,none⟩=some (.int .u8 p0)∧w'.cell? ⟨b,off+j * 9+1,none⟩=some (.int .u8 p1)∧w'.cell? ⟨b,off+j * 9+2,none⟩=some (.int .u8 p2)∧w'.cell? ⟨b,off+j * 9+3,none⟩=some (.int .u8 p3)∧w'.cell? ⟨b,off+j * 9+4,none⟩=some (.int .u8 p4)∧w'.cell? ⟨b,off+j * 9+5,none⟩=some (.int .u8 p5)∧w'.cell? ⟨b,off+j * 9+6,none⟩=some (.int .u8 p6)∧w'.cell? ⟨b,off+j * 9+7,none⟩=some (.int .u8 p7))) (by kernel_rfl) ?_ (fun hHeld=>?_)
             · ((try dsimp only);(exact cellsS2 hF hT hr))
             first | refine hdT 0 ?_ | refine hdU 0 ?_
             first | refine hdT 1 ?_ | refine hdU 1 ?_
             first | refine hdT 2 ?_ | refine hdU 2 ?_
             refine hdC 3 (fun K hK=>?_)
             (go_simp;(go_at_call 126;(refine (l01Mono8 dc hI hdn hm hmo).mono ?_);rintro e wM ⟨rfl,hbM⟩;have hbb':=bT' hbb hbM hGl;have hI':=hI.keep hbM;have hF':=hF.keep hbM hF.lt;have hT':=hT.keep hbM hT.lt;have hGl':=Nat.le_trans hGl hbM.size;have hr':=rgK hr (hbM.block b hbl);have hbl':=Nat.lt_of_lt_of_le hbl hbM.size;clear hr hbl;have hr:=hr';have hbl:=hbl';clear hbb hI hF hT hGl;have hbb:=hbb';have hI:=hI';have hF:=hF';have hT:=hT';have hGl:=hGl');go_wp2_with fail)
             refine hK.out _ _ ?_ (fun _=>?_)
             · ((try dsimp only);(exact cellsS2 hF hT hr))
             clear hK K
             (try simp only [Act.put,pA,pB,pC])
             first | refine hdT 4 ?_ | refine hdU 4 ?_
             first | refine hdT 5 ?_ | refine hdU 5 ?_
             first | refine hdT 6 ?_ | refine hdU 6 ?_
             first | refine hdT 7 ?_ | refine hdU 7 ?_
             refine hdC 8 (fun K hK=>?_)
             (go_simp;(go_at_call 70;refine (l01In_c _ _ _ _).mono ?_;rintro e wI ⟨rfl,rfl⟩;rw [hin]);go_wp2_with fail)
             refine hK.out _ _ ?_ (fun _=>?_)
             · ((try dsimp only);(exact cellsS2 hF hT hr))
             clear hK K
             (try simp only [Act.put,pA,pB,pC])
             first | refine hdT 9 ?_ | refine hdU 9 ?_
             first | refine hdT 10 ?_ | refine hdU 10 ?_
             first | refine hdT 11 ?_ | refine hdU 11 ?_
             first | refine hdT 12 ?_ | refine hdU 12 ?_
             first | refine hdT 13 ?_ | refine hdU 13 ?_
             first | refine hdT 14 ?_ | refine hdU 14 ?_
             first | refine hdT 15 ?_ | refine hdU 15 ?_
             first | refine hdT 16 ?_ | refine hdU 16 ?_
             first | refine hdT 17 ?_ | refine hdU 17 ?_
             first | refine hdT 18 ?_ | refine hdU 18 ?_
             first | refine hdT 19 ?_ | refine hdU 19 ?_
             first | refine hdT 20 ?_ | refine hdU 20 ?_
             first | refine hdT 21 ?_ | refine hdU 21 ?_
             first | refine hdT 22 ?_ | refine hdU 22 ?_
             first | refine hdT 23 ?_ | refine hdU 23 ?_
             refine hdC 24 (fun K hK=>?_)
             (go_simp;(go_at_call 127;(refine (l01Before8 hp hm hbf).mono ?_);rintro e wB ⟨rfl,hbB⟩;have hbb':=bT' hbb hbB hGl;have hI':=hI.keep hbB;have hF':=hF.keep hbB hF.lt;have hT':=hT.keep hbB hT.lt;have hGl':=Nat.le_trans hGl hbB.size;have hr':=rgK hr (hbB.block b hbl);have hbl':=Nat.lt_of_lt_of_le hbl hbB.size;clear hr hbl;have hr:=hr';have hbl:=hbl';clear hbb hI hF hT hGl;have hbb:=hbb';have hI:=hI';have hF:=hF';have hT:=hT';have hGl:=hGl');go_wp2_with fail)
             refine hK.out _ _ ?_ (fun _=>?_)
             · ((try dsimp only);(exact cellsS2 hF hT hr))
             clear hK K
             (try simp only [Act.put,pA,pB,pC])
             first | refine hdT 25 ?_ | refine hdU 25 ?_
             first | refine hdT 26 ?_ | refine hdU 26 ?_
             first | refine hdT 27 ?_ | refine hdU 27 ?_
             refine wpAnyH_done (by kernel_rfl) ?_ _;go_wp2_with fail
             go_meet
             exact ⟨by rw [hres.out];rfl,hbb,hF⟩
    case rest=>
     clear hT0 hI0 hF1 hbb0 hTs0;obtain ⟨rfl,hb2,hF2⟩:=hcut
     cases hok:okAt zs ts k with
     | true =>
       go_wp2_with fail
       go_roundw
       case rel=>exact ⟨k+1,by omega,by go_num,hb2,hF2,range_all_step H.out hok⟩
       case measure=>simp [intOf] <;> omega
     | false =>
       go_wp2_with fail
       go_ret
       exact ⟨ret_b (by rw [listOk_no HL.out hlt hok];rfl),hb2⟩
  · have he:k=n:=(by omega);subst he
    go_wp2
    go_ret
    exact ⟨ret_b (by rw [listOk_end HL.out H.out,HL.out];simp only [Bool.true_and,decide_eq_decide];omega),hb⟩
theorem l01Is_c {w : World} {da : Option Addr} {dn : Nat} {zs : List Int} {a : Option Addr} {n : Nat} {ts : List Tm} (dc c : Nat) (hd : Ints w da dn zs) (hdn : dn ≤ 1048576) (h : Terms w a n ts) (hn : n ≤ 1048576) :
    Calls Try.prog 104 #[.slice da dn dc,.agg #[.slice a n c]] w fun e w'=>e=.returned (.bool (listOk zs ts && decide (ts.length≤400)))∧Below w.heap.size w w':=
 l01Is_cB dc c hd hdn h (by omega)
end Go.Proofs.Ytndnkeijddagiaa
