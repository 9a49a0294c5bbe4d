
import Derived.Test.YtndnkeijddagiaaWithP
import Derived.Lib.AppendZeros
import Derived.Test.YtndnkeijddagiaaAlgR
import Derived.Laws.Cover3
namespace Go.Proofs.Ytndnkeijddagiaa
set_option maxRecDepth 100000
open Go.RowKit Go.Deep
theorem Try.info_byte3:(Try.prog.info? 5).map (fun i=>(i.zero,i.size,i.bytes))=some (some (.int .u8 0),1,1):=by kernel_rfl
theorem Try.info_byteA:∃i z,Try.prog.info? 5=some i∧i.zero=some z∧i.size=1∧i.bytes=1∧z.cells.size=1:=by
 obtain ⟨i,hi,hzz⟩:=Option.map_eq_some_iff.1 Try.info_byte3
 simp only [Prod.mk.injEq] at hzz
 obtain ⟨hz,hs,hb⟩:=hzz
 exact ⟨i,_,hi,hz,hs,hb,rfl⟩
theorem GrowI_c {w : World} {n : Nat} (hn : n ≤ 1048576) :
    Calls Try.prog 119 #[.slice none 0 0,.int .i64 n] w fun e w'=>∃a c,e=.returned (.slice a 0 c)∧w'.ownsRow w.heap.size 2 1 (.slice a 0 c) 0 []∧Below w.heap.size w w':=by
 obtain ⟨ti,tz,hti,htz,hts,htb,htzs⟩:=Try.info_intA
 by_cases h0:n=0
 · subst h0;go_enter Try.func119,Try.ntmps119
   go_wp2_with fail
   go_ret
   exact ⟨none,0,rfl,World.ownsRow_nil _ _ _ _,Below.refl _ _⟩
 · have hp:(0:Int)<(n:Int):=(by omega);have hz:=Lib.run_append_nil_zeros (P:=Try.prog) w 22 3 22 2 ti tz .i64 .i64 Try.underlying22 Try.underlying3 hti htz n (by omega) (by omega) (by omega) (by rw [htb];omega)
   have hsz:(Builtin.zeroCells tz.cells n++Builtin.zeroCells tz.cells (grownCap w n 0 2 - n)).size=grownCap w n 0 2 * 1:=by
    rw [Array.size_append,size_zeroCells,size_zeroCells,htzs];have:=grownCap_ge w n 0 2;omega
   have hmx:=grownCap_le_maxLen w n 0 2 (by simp only [maxLen];omega);obtain ⟨gc,hgc⟩:∃gc,grownCap w n 0 2=gc:=⟨_,rfl⟩;have hge:=grownCap_ge w n 0 2;rw [hgc] at hz hsz hmx hge;obtain ⟨cs,hcs⟩:∃cs,(Builtin.zeroCells tz.cells n++Builtin.zeroCells tz.cells (gc - n))=cs:=⟨_,rfl⟩;rw [hcs] at hz hsz;have HZ:=Lib.hid hz;have HSZ:=Lib.hid hsz;have HMX:=Lib.hid hmx;have hg0:¬gc=0:=(by omega);have hg1:(0:Int)≤(gc:Int):=(by omega);clear hgc hcs hz hsz hmx hti htz hts htb htzs;go_enter Try.func119,Try.ntmps119
   go_wp2_with (refine Lib.wpList_append_run _ rfl (.tmp 20) (.tmp 21) 22 3 rfl _ _ rfl rfl _ _ HZ.out ?_)
   go_ret
   refine ⟨some ⟨w.heap.size,0,none⟩,gc,rfl,⟨rfl,Or.inr ⟨w.heap.size,gc,cs,rfl,Nat.le_refl _,heap_alloc_new w.drew _,Nat.zero_le _,HMX.out,HSZ.out,by simp⟩⟩,?_⟩;exact (bA1 w (.cells cs 2)).drew
theorem GrowB_c {w : World} {n : Nat} (hn : n ≤ 1048576) :
    Calls Try.prog 135 #[.slice none 0 0,.int .i64 n] w fun e w'=>∃a c,e=.returned (.slice a 0 c)∧w'.ownsRow w.heap.size 5 1 (.slice a 0 c) 0 []∧Below w.heap.size w w':=by
 obtain ⟨ti,tz,hti,htz,hts,htb,htzs⟩:=Try.info_byteA
 by_cases h0:n=0
 · subst h0;go_enter Try.func135,Try.ntmps135
   go_wp2_with fail
   go_ret
   exact ⟨none,0,rfl,World.ownsRow_nil _ _ _ _,Below.refl _ _⟩
 · have hp:(0:Int)<(n:Int):=(by omega);have hz:=Lib.run_append_nil_zeros (P:=Try.prog) w 132 3 132 5 ti tz .i64 .i64 Try.underlying132 Try.underlying3 hti htz n (by omega) (by omega) (by omega) (by rw [htb];omega)
   have hsz:(Builtin.zeroCells tz.cells n++Builtin.zeroCells tz.cells (grownCap w n 0 5 - n)).size=grownCap w n 0 5 * 1:=by
    rw [Array.size_append,size_zeroCells,size_zeroCells,htzs];have:=grownCap_ge w n 0 5;omega
   have hmx:=grownCap_le_maxLen w n 0 5 (by simp only [maxLen];omega);obtain ⟨gc,hgc⟩:∃gc,grownCap w n 0 5=gc:=⟨_,rfl⟩;have hge:=grownCap_ge w n 0 5;rw [hgc] at hz hsz hmx hge;obtain ⟨cs,hcs⟩:∃cs,(Builtin.zeroCells tz.cells n++Builtin.zeroCells tz.cells (gc - n))=cs:=⟨_,rfl⟩;rw [hcs] at hz hsz;have HZ:=Lib.hid hz;have HSZ:=Lib.hid hsz;have HMX:=Lib.hid hmx;have hg0:¬gc=0:=(by omega);have hg1:(0:Int)≤(gc:Int):=(by omega);clear hgc hcs hz hsz hmx hti htz hts htb htzs;go_enter Try.func135,Try.ntmps135
   go_wp2_with (refine Lib.wpList_append_run _ rfl (.tmp 20) (.tmp 21) 132 3 rfl _ _ rfl rfl _ _ HZ.out ?_)
   go_ret
   refine ⟨some ⟨w.heap.size,0,none⟩,gc,rfl,⟨rfl,Or.inr ⟨w.heap.size,gc,cs,rfl,Nat.le_refl _,heap_alloc_new w.drew _,Nat.zero_le _,HMX.out,HSZ.out,by simp⟩⟩,?_⟩;exact (bA1 w (.cells cs 5)).drew
set_option maxHeartbeats 2000000 in
theorem ConcatI_c {w : World} {gL g1 o1 n1 g2 o2 n2 : Nat} {xs ys : List Value} (c c1 c2 : Nat) (h : Own w gL 22 #[.slice (some ⟨g1, o1, none⟩) n1 c1, .slice (some ⟨g2, o2, none⟩) n2 c2]) (hx : ∀ (j : Nat) v, xs[j]? = some v → w.cell? ⟨g1, o1 + j, none⟩ = some v) (hxl : xs.length = n1) (hx1 : ∀ v ∈ xs, v.oneCell' = true)
    (hy:∀(j:Nat) v,ys[j]? = some v→w.cell? ⟨g2,o2+j,none⟩=some v) (hyl:ys.length=n2) (hy1:∀v∈ys,v.oneCell'=true) (hn1:n1≤1000) (hn2:n2≤1000) :
    Calls Try.prog 85 #[.slice (some ⟨gL,0,none⟩) 2 c] w fun e w'=>∃a c',e=.returned (.slice a (n1+n2) c')∧w'.ownsRow w.heap.size 2 1 (.slice a (n1+n2) c') (n1+n2) (xs++ys)∧Below w.heap.size w w':=by
 obtain ⟨ti,tz,hti,htz,hts,htb,htzs⟩:=Try.info_intA
 have HI:=Lib.hid hti
 have HZ:=Lib.hid htz
 have HS:=Lib.hid hts
 have HBt:=Lib.hid htb
 have HZs:=Lib.hid htzs
 have HX:=Lib.hid hx
 have HX1:=Lib.hid hx1
 have HXL:=Lib.hid (show xs.length=n1 * 1 by rw [Nat.mul_one];exact hxl)
 have HY:=Lib.hid hy
 have HY1:=Lib.hid hy1
 have HYL:=Lib.hid (show ys.length=n2 * 1 by rw [Nat.mul_one];exact hyl)
 clear hti htz hts htb htzs hx hx1 hxl hy hy1 hyl
 have c0:=h.cell 0
 have c1':=h.cell 1
 have s12:IntKind.i64.wrap ((n1:Int)+(n2:Int))=(n1:Int)+(n2:Int):=IntWalk.i64_in _ (by omega)
 go_enter Try.func85,Try.ntmps85
 go_upto_region 3 with fail
 refine wp_loop_rounds 3 ?_
 rw [rounds_succ]
 go_wp2_with fail
 rw [rounds_succ]
 go_wp2_with fail
 rw [rounds_succ]
 go_wp2_with fail
 refine (GrowI_c (n:=n1+n2) (by omega)).mono ?_
 rintro e w1 ⟨a,ca,rfl,hR,hb1⟩
 have h1:=h.keep hb1 h.lt
 clear c0 c1'
 have c0:=h1.cell 0
 have c1':=h1.cell 1
 have HR:=Lib.hid hR
 have HB1:=Lib.hid hb1
 have hs1:=hb1.size
 clear hR hb1
 go_upto_region 11 with fail
 refine wp_loop_rounds 3 ?_
 rw [rounds_succ]
 have N1:Hid (∀(j:Nat) v,xs[j]? = some v→w1.cell? ((⟨g1,o1,none⟩:Addr).add j)=some v):=Lib.hid (fun j v hv=>by
  rw [Addr.add_mid];have:=HX.out j v hv;have hl:=World.block_lt_of_cell? _ _ this
  rwa [World.cell?_of_block (a:=⟨g1,o1+j,none⟩) (HB1.out.block g1 hl)])
 go_wp2_with (first
  | (refine wpList_append_own_wide _ rfl (.tmp 31) (.tmp 32) 22 rfl w.heap.size 2 ti tz 1 8 Try.underlying22 HI.out HZ.out HS.out HBt.out HZs.out (by omega) (.slice a 0 ca) _ _ rfl HR.out ⟨g1, o1, none⟩ n1 c1 xs rfl HXL.out N1.out HX1.out (by simp only [maxLen]; omega) (by omega) hs1 (fun v' w' h2 h3 h4 => ?_)
     simp only [Nat.zero_add,List.nil_append] at h2;obtain ⟨xa,xc,rfl⟩:=row_slice h2;have hbA:=grown_below HB1.out h3 (fun q e=>(HR.out.lt q e).1) hs1;have c0:=(h.keep hbA h.lt).cell 0;have c1':=(h.keep hbA h.lt).cell 1;have H2:=Lib.hid h2;have HBA:=Lib.hid hbA;have hsA:=hbA.size
     clear h2 h3 h4 hbA))
 rw [rounds_succ]
 have N2:Hid (∀(j:Nat) v,ys[j]? = some v→w'.cell? ((⟨g2,o2,none⟩:Addr).add j)=some v):=Lib.hid (fun j v hv=>by
  rw [Addr.add_mid];have:=HY.out j v hv;have hl:=World.block_lt_of_cell? _ _ this
  rwa [World.cell?_of_block (a:=⟨g2,o2+j,none⟩) (HBA.out.block g2 hl)])
 go_wp2_with (first
  | (refine wpList_append_own_wide _ rfl (.tmp 31) (.tmp 32) 22 rfl w.heap.size 2 ti tz 1 8 Try.underlying22 HI.out HZ.out HS.out HBt.out HZs.out (by omega) (.slice xa n1 xc) _ _ rfl H2.out ⟨g2, o2, none⟩ n2 c2 ys rfl HYL.out N2.out HY1.out (by simp only [maxLen]; omega) (by omega) hsA (fun v' w' h2 h3 h4 => ?_)
     obtain ⟨ya,yc,rfl⟩:=row_slice h2;have hbB:=grown_below HBA.out h3 (fun q e=>(H2.out.lt q e).1) hsA;have c0:=(h.keep hbB h.lt).cell 0;have c1':=(h.keep hbB h.lt).cell 1;have H2B:=Lib.hid h2;have HBB:=Lib.hid hbB
     clear h2 h3 h4 hbB))
 rw [rounds_succ]
 go_wp2_with fail
 go_ret
 exact ⟨ya,yc,rfl,H2B.out,HBB.out⟩
set_option maxHeartbeats 2000000 in
theorem ConcatB_c {w : World} {gL g1 o1 n1 g2 o2 n2 : Nat} {xs ys : List Value} (c c1 c2 : Nat) (h : Own w gL 132 #[.slice (some ⟨g1, o1, none⟩) n1 c1, .slice (some ⟨g2, o2, none⟩) n2 c2]) (hx : ∀ (j : Nat) v, xs[j]? = some v → w.cell? ⟨g1, o1 + j, none⟩ = some v) (hxl : xs.length = n1) (hx1 : ∀ v ∈ xs, v.oneCell' = true)
    (hy:∀(j:Nat) v,ys[j]? = some v→w.cell? ⟨g2,o2+j,none⟩=some v) (hyl:ys.length=n2) (hy1:∀v∈ys,v.oneCell'=true) (hn1:n1≤1000) (hn2:n2≤1000) :
    Calls Try.prog 118 #[.slice (some ⟨gL,0,none⟩) 2 c] w fun e w'=>∃a c',e=.returned (.slice a (n1+n2) c')∧w'.ownsRow w.heap.size 5 1 (.slice a (n1+n2) c') (n1+n2) (xs++ys)∧Below w.heap.size w w':=by
 obtain ⟨ti,tz,hti,htz,hts,htb,htzs⟩:=Try.info_byteA
 have HI:=Lib.hid hti
 have HZ:=Lib.hid htz
 have HS:=Lib.hid hts
 have HBt:=Lib.hid htb
 have HZs:=Lib.hid htzs
 have HX:=Lib.hid hx
 have HX1:=Lib.hid hx1
 have HXL:=Lib.hid (show xs.length=n1 * 1 by rw [Nat.mul_one];exact hxl)
 have HY:=Lib.hid hy
 have HY1:=Lib.hid hy1
 have HYL:=Lib.hid (show ys.length=n2 * 1 by rw [Nat.mul_one];exact hyl)
 clear hti htz hts htb htzs hx hx1 hxl hy hy1 hyl
 have c0:=h.cell 0
 have c1':=h.cell 1
 have s12:IntKind.i64.wrap ((n1:Int)+(n2:Int))=(n1:Int)+(n2:Int):=IntWalk.i64_in _ (by omega)
 go_enter Try.func118,Try.ntmps118
 go_upto_region 3 with fail
 refine wp_loop_rounds 3 ?_
 rw [rounds_succ]
 go_wp2_with fail
 rw [rounds_succ]
 go_wp2_with fail
 rw [rounds_succ]
 go_wp2_with fail
 refine (GrowB_c (n:=n1+n2) (by omega)).mono ?_
 rintro e w1 ⟨a,ca,rfl,hR,hb1⟩
 have h1:=h.keep hb1 h.lt
 clear c0 c1'
 have c0:=h1.cell 0
 have c1':=h1.cell 1
 have HR:=Lib.hid hR
 have HB1:=Lib.hid hb1
 have hs1:=hb1.size
 clear hR hb1
 go_upto_region 11 with fail
 refine wp_loop_rounds 3 ?_
 rw [rounds_succ]
 have N1:Hid (∀(j:Nat) v,xs[j]? = some v→w1.cell? ((⟨g1,o1,none⟩:Addr).add j)=some v):=Lib.hid (fun j v hv=>by
  rw [Addr.add_mid];have:=HX.out j v hv;have hl:=World.block_lt_of_cell? _ _ this
  rwa [World.cell?_of_block (a:=⟨g1,o1+j,none⟩) (HB1.out.block g1 hl)])
 go_wp2_with (first
  | (refine wpList_append_own_wide _ rfl (.tmp 31) (.tmp 32) 132 rfl w.heap.size 5 ti tz 1 1 Try.underlying132 HI.out HZ.out HS.out HBt.out HZs.out (by omega) (.slice a 0 ca) _ _ rfl HR.out ⟨g1, o1, none⟩ n1 c1 xs rfl HXL.out N1.out HX1.out (by simp only [maxLen]; omega) (by omega) hs1 (fun v' w' h2 h3 h4 => ?_)
     simp only [Nat.zero_add,List.nil_append] at h2;obtain ⟨xa,xc,rfl⟩:=row_slice h2;have hbA:=grown_below HB1.out h3 (fun q e=>(HR.out.lt q e).1) hs1;have c0:=(h.keep hbA h.lt).cell 0;have c1':=(h.keep hbA h.lt).cell 1;have H2:=Lib.hid h2;have HBA:=Lib.hid hbA;have hsA:=hbA.size
     clear h2 h3 h4 hbA))
 rw [rounds_succ]
 have N2:Hid (∀(j:Nat) v,ys[j]? = some v→w'.cell? ((⟨g2,o2,none⟩:Addr).add j)=some v):=Lib.hid (fun j v hv=>by
  rw [Addr.add_mid];have:=HY.out j v hv;have hl:=World.block_lt_of_cell? _ _ this
  rwa [World.cell?_of_block (a:=⟨g2,o2+j,none⟩) (HBA.out.block g2 hl)])
 go_wp2_with (first
  | (refine wpList_append_own_wide _ rfl (.tmp 31) (.tmp 32) 132 rfl w.heap.size 5 ti tz 1 1 Try.underlying132 HI.out HZ.out HS.out HBt.out HZs.out (by omega) (.slice xa n1 xc) _ _ rfl H2.out ⟨g2, o2, none⟩ n2 c2 ys rfl HYL.out N2.out HY1.out (by simp only [maxLen]; omega) (by omega) hsA (fun v' w' h2 h3 h4 => ?_)
     obtain ⟨ya,yc,rfl⟩:=row_slice h2;have hbB:=grown_below HBA.out h3 (fun q e=>(H2.out.lt q e).1) hsA;have c0:=(h.keep hbB h.lt).cell 0;have c1':=(h.keep hbB h.lt).cell 1;have H2B:=Lib.hid h2;have HBB:=Lib.hid hbB
     clear h2 h3 h4 hbB))
 rw [rounds_succ]
 go_wp2_with fail
 go_ret
 exact ⟨ya,yc,rfl,H2B.out,HBB.out⟩
theorem tcells_oneK (t:Tm):∀v∈tcells t,v.oneCell'=true:=by
 intro v hv
 simp only [tcells,mcells,List.mem_append,List.mem_map,List.mem_singleton] at hv
 rcases hv with ⟨x,_,rfl⟩ | rfl <;> rfl
theorem eq_nil_someT {x:Addr} {n c:Nat} (w:World):(binOp BinOp.eql 45 (.slice (some x) n c) (.slice none 0 0)).run Try.prog w=.ok (.bool false) w:=by kernel_rfl
theorem cloneT_c {w : World} {g o n : Nat} {ts : List Tm} (c : Nat) (h : w.rangeAt g o (rcells ts)) (hT : ∀ t ∈ ts, IsTm t) (hl : ts.length = n) (hn : n ≤ 1048576) :
    Calls Try.prog 117 #[.slice (some ⟨g,o,none⟩) n c] w fun e w'=>∃a c',e=.returned (.slice a n c')∧OwnR w' w.heap.size (.slice a n c') ts∧Below w.heap.size w w':=by
 obtain ⟨ti,tz,hti,htz,hts,htb,htzs⟩:=Try.info_termA
 have hnews:∀j u,(rcells ts:List Value)[j]? = some u→(w.alloc (.cells #[] 76)).cell? ((⟨g,o,none⟩:Addr).add j)=some u:=fun j u hu=>by
  have hb:=h j u hu;rw [Addr.add_mid,World.cell?_alloc_lt _ _ _ (World.block_lt_of_cell? w ⟨g,o+j,none⟩ hb)];exact hb
 have hone:∀u∈(rcells ts:List Value),u.oneCell'=true:=by
  intro u hu;simp only [rcells,List.mem_flatMap] at hu;obtain ⟨t,-,ht⟩:=hu;exact tcells_oneK t u ht
 have hlen:(rcells ts:List Value).length=n * 9:=by rw [rcells_length hT,hl]
 have hro:(w.alloc (.cells #[] 76)).ownsRow w.heap.size 76 9 (.slice (some ⟨w.heap.size,0,none⟩) 0 0) 0 []:=⟨rfl,Or.inr ⟨w.heap.size,0,#[],rfl,Nat.le_refl _,heap_alloc_new w _,Nat.le_refl _,by simp [maxLen],rfl,rfl⟩⟩
 have HN:=Lib.hid hnews
 have HO:=Lib.hid hone
 have HI:=Lib.hid hti
 have HZ:=Lib.hid htz
 have HS:=Lib.hid hts
 have HBt:=Lib.hid htb
 have HZs:=Lib.hid htzs
 have HLN:=Lib.hid hlen
 have HR:=Lib.hid hro
 have HL:=Lib.hid hl
 have HEQ:=eq_nil_someT (x:=⟨g,o,none⟩) (n:=n) (c:=c) w
 clear hl hT hnews hone hti htz hts htb htzs hlen hro h
 go_enter Try.func117,Try.ntmps117
 go_wp2_with (refine wpList_append_own_wide _ rfl (.tmp 5) (.tmp 6) 45 rfl w.heap.size 76 ti tz 9 16 Try.underlying45 HI.out HZ.out HS.out HBt.out HZs.out (by omega) (.slice (some ⟨w.heap.size,0,none⟩) 0 0) 0 [] rfl HR.out ⟨g,o,none⟩ n c (rcells ts) rfl HLN.out HN.out HO.out (by simp only [maxLen];omega) (by omega) (by rw [sAl];omega) (fun v' w' h2 h3 h4=>?_))
 rw [Nat.zero_add,List.nil_append] at h2
 obtain ⟨a',c',rfl⟩:=row_slice h2
 have hb:=grown_below (bA1 w (.cells #[] 76)) h3 (fun k e=>by have:w.heap.size=k:=(by simpa [Value.ownBlock] using e);omega) (by rw [sAl];omega)
 have H2:=Lib.hid h2
 clear h2 h3 h4
 go_wp2_with fail
 go_ret
 exact ⟨a',c',rfl,by rw [OwnR,HL.out];exact H2.out,hb⟩
theorem eq_nil_nilT (w:World):(binOp BinOp.eql 45 (.slice none 0 0) (.slice none 0 0)).run Try.prog w=.ok (.bool true) w:=by kernel_rfl
theorem cloneT_nil (w:World):Calls Try.prog 117 #[.slice none 0 0] w fun e w'=>e=.returned (.slice none 0 0)∧w'=w:=by
 have HEQ:=eq_nil_nilT w
 go_enter Try.func117,Try.ntmps117
 go_wp2_with fail
 go_ret
 exact ⟨rfl,rfl⟩
theorem make_bytes (n : Nat) (hn : n ≤ 1048576) (w : World) :
    (Instr.makeSlice 132 (.int .i64 (n:Int)) (.int .i64 (n:Int))).run Try.prog w=.ok (.slice (some ⟨w.heap.size,0,none⟩) n n) (w.alloc (.cells (Array.replicate n (Value.int .u8 0)) 5)):=by
 obtain ⟨i,hi,hzz⟩:=Option.map_eq_some_iff.1 Try.info_byte3
 simp only [Prod.mk.injEq] at hzz
 obtain ⟨hz,hs,hb⟩:=hzz
 have hr:=run_make (P:=Try.prog) w 132 5 i _ Try.underlying132 hi hz .i64 .i64 n n (by omega) (Int.le_refl _) (by rw [hb];omega) (by omega)
 simp only [Int.toNat_natCast,hs,Value.cells,madeCells_one] at hr
 exact hr
theorem shf_row {ts:List Tm} {s k:Nat} {t:Tm} (h:ts[k]? = some t):(ts.take (k+1)).map (shT s)++ts.drop (k+1)=(ts.take k).map (shT s)++shT s t::ts.drop (k+1):=by
 rw [sh_take h,List.append_assoc]
 rfl
theorem shf_old {ts:List Tm} {s k:Nat} {t:Tm} (h:ts[k]? = some t):(ts.take k).map (shT s)++ts.drop k=(ts.take k).map (shT s)++t::ts.drop (k+1):=by
 obtain ⟨hk,rfl⟩:=List.getElem?_eq_some_iff.1 h
 rw [List.drop_eq_getElem_cons hk]
theorem Try.sizeU8:∀w,(Go.sizeOf 5).run Try.prog w=.ok 1 w:=fun w=>by kernel_rfl
theorem slice8_run (g n c : Nat) (h : 8 ≤ c) (w : World) :
    (Instr.slice 132 (.slice (some ⟨g,0,none⟩) n c) none (some (.int .i64 8)) none).run Try.prog w=.ok (.slice (some ⟨g,0,none⟩) 8 c) w:=by
 have he:Try.prog.elem 132=5:=by kernel_rfl
 have hu:Try.prog.underlying 132=some (.slice (Try.prog.elem 132)):=by rw [he];exact Try.underlying132
 have h:=run_slice_h (P:=Try.prog) w 132 (some ⟨g,0,none⟩) n c hu .i64 (8:Int) (by omega) (by omega)
 rw [h]
 have hs:=Try.sizeU8 w
 rw [he,hs]
 simp [Result.andThen,sliced,Addr.add]
theorem shM_cells {s:Nat} {m:List Int} (hm:m.length=8) (hs:s≤8) {j:Nat} (hj:j<8):(List.replicate s (Value.int .u8 0)++mcells m)[j]? = (mcells (shM s m))[j]? := by
 have he:mcells (shM s m)=List.replicate s (Value.int .u8 0)++(mcells m).take (8 - s):=by simp [mcells,shM,List.map_take]
 rw [he]
 by_cases h:j<s
 · rw [List.getElem?_append_left (by simpa using h),List.getElem?_append_left (by simpa using h)]
 · rw [List.getElem?_append_right (by simp;omega),List.getElem?_append_right (by simp;omega),List.getElem?_take];simp only [List.length_replicate];rw [if_pos (by omega)]
theorem agg8_one (q0 q1 q2 q3 q4 q5 q6 q7:Int):(#[.int .u8 q0,.int .u8 q1,.int .u8 q2,.int .u8 q3,.int .u8 q4,.int .u8 q5,.int .u8 q6,.int .u8 q7]:Array Value).all (·.oneCell')=true:=mcells_one [q0,q1,q2,q3,q4,q5,q6,q7]
theorem own_setCells_far:∀(vs:List Value) (o:Nat) (w:World) {g g':Nat} {t:TypeId} {cs:Array Value},Own w g' t cs→g'≠g→Own (w.setCells g o vs) g' t cs
 | [],_,_,_,_,_,_,h,_=>h
 | v::vs,o,w,g,g',t,cs,h,hg=>own_setCells_far vs (o+1) _ (h.far (p:=⟨g,o,none⟩) hg v) hg
theorem tcell_of {p0 p1 p2 p3 p4 p5 p6 p7 f:Int} {j:Nat} {v:Value} (h:(mcells [p0,p1,p2,p3,p4,p5,p6,p7])[j]? = some v):(#[.int .u8 p0,.int .u8 p1,.int .u8 p2,.int .u8 p3,.int .u8 p4,.int .u8 p5,.int .u8 p6,.int .u8 p7,.int .i64 f]:Array Value)[j]? = some v:=by
 have hl:=(List.getElem?_eq_some_iff.1 h).1
 rw [mcells_length] at hl
 simp only [List.length_cons,List.length_nil] at hl
 match j,hl,h with
 | 0,_,h=>exact h
 | 1,_,h=>exact h
 | 2,_,h=>exact h
 | 3,_,h=>exact h
 | 4,_,h=>exact h
 | 5,_,h=>exact h
 | 6,_,h=>exact h
 | 7,_,h=>exact h
 | j+8,hl,_=>omega
set_option maxHeartbeats 4000000 in
theorem shiftedForm_c {w : World} {a : Option Addr} {n : Nat} {ts : List Tm} (c s : Nat) (h : Terms w a n ts) (ha : (a = none ∧ n = 0 ∧ c = 0) ∨ ∃ b o, a = some ⟨b, o, none⟩) (hn : n ≤ 1048576) (hs8 : s ≤ 8) :
    Calls Try.prog 84 #[.agg #[.slice a n c],.int .i64 s] w fun e w'=>∃va vc,e=.returned (.agg #[.slice va n vc])∧OwnR w' w.heap.size (.slice va n vc) (ts.map (shT s))∧Below w.heap.size w w':=by
 have hA:=Own.new w 47 #[.slice a n c]
 have hR:=Own.new (w.alloc (.cells #[.slice a n c] 47)) 47 #[.slice none 0 0]
 rw [sAl] at hR
 replace hA:=hA.alloc (.cells #[.slice none 0 0] 47)
 have hb:=bTn (bA1 w (.cells #[.slice a n c] 47)) (bA1 _ (.cells #[.slice none 0 0] 47))
 have HT:=Lib.hid h.2.1
 have HL:=Lib.hid h.len
 have H:=Lib.hid h
 clear h
 rcases ha with ⟨rfl,rfl,rfl⟩ | ⟨b,o,rfl⟩
 · go_enter Try.func84,Try.ntmps84
   go_upto_region 1 with fail
   generalize (w.alloc (.cells #[.slice none 0 0] 47)).alloc (.cells #[.slice none 0 0] 47)=w0 at *;have c0:=hA.cell 0;go_wp2_with fail
   refine (cloneT_nil _).mono ?_;rintro e w1 ⟨rfl,rfl⟩;have r0:=hR.cell 0;have f0:=hR.frozen 0;go_upto_region 3 with fail
   refine wp_loop_rounds 1 ?_;rw [rounds_succ];go_wp2_with fail
   have hR2:=hR.set 0 (.slice none 0 0);refine bodyPost_ret (results_cell_row rfl _ _ (w.heap.size+1) 47 #[.slice none 0 0] (0,0) _ rfl hR2 Try.underlying47 rfl Try.info_form) rfl ⟨none,0,rfl,?_,hb.setCell (p:=⟨w.heap.size+1,0,none⟩) (by dsimp only;omega) _⟩;have hz:ts=[]:=List.length_eq_zero_iff.1 HL.out;subst hz;exact ⟨rfl,Or.inl ⟨rfl,rfl⟩⟩
 have HS8:=Lib.hid hs8
 go_enter Try.func84,Try.ntmps84
 go_upto_region 1 with fail
 generalize (w.alloc (.cells #[.slice (some ⟨b,o,none⟩) n c] 47)).alloc (.cells #[.slice none 0 0] 47)=w0 at *
 have c0:=hA.cell 0
 have hbl0:w.heap.size+1<w0.heap.size:=hR.lt
 by_cases hn0:n=0
 · subst hn0;have hz:ts=[]:=List.length_eq_zero_iff.1 HL.out;subst hz;go_wp2_with fail
   refine (cloneT_c (ts:=[]) c (fun j u hu=>by simp [rcells] at hu) (by simp) rfl hn).mono ?_;rintro e w1 ⟨va,vc,rfl,hV,hb1⟩;clear c0;replace hR:=hR.keep hb1 hR.lt;replace hV:=hV.weaken (B':=w.heap.size) (by omega);replace hb:=bT' hb hb1 hb.size;clear hb1;have r0:=hR.cell 0;have f0:=hR.frozen 0;go_upto_region 3 with fail
   refine wp_loop_rounds 1 ?_;rw [rounds_succ];go_wp2_with fail
   have hR2:=hR.set 0 (.slice va 0 vc);refine bodyPost_ret (results_cell_row rfl _ _ (w.heap.size+1) 47 #[.slice va 0 vc] (0,0) _ rfl hR2 Try.underlying47 rfl Try.info_form) rfl ⟨va,vc,rfl,?_,hb.setCell (p:=⟨w.heap.size+1,0,none⟩) (by dsimp only;omega) _⟩;refine hV.far (fun e=>?_) _;obtain ⟨os,hq⟩:=row_own hV e;exact own_neR hq hR (by decide) rfl
 have hrg:Hid (w0.rangeAt b o (rcells ts)):=Lib.hid (by
  obtain ⟨b',o',he,hlt,hr⟩:=(H.out.keep hb).2.2 (by omega);simp only [Option.some.injEq,Addr.mk.injEq] at he;obtain ⟨rfl,rfl,-⟩:=he
  exact hr)
 go_wp2_with fail
 refine (cloneT_c c hrg.out HT.out HL.out hn).mono ?_
 rintro e w1 ⟨va,vc,rfl,hV,hb1⟩
 clear c0 hrg
 replace hA:=hA.keep hb1 hA.lt
 replace hR:=hR.keep hb1 hR.lt
 replace hb:=bT' hb hb1 hb.size
 rcases hV.2 with ⟨hv,h0⟩ | ⟨g,cap,cur,hv,hg,hO,hcap,hcm,hcs,hct⟩
 · exact absurd h0 (by rw [HL.out];omega)
 rw [HL.out] at hv hcap hct
 simp only [Value.slice.injEq,true_and] at hv
 obtain ⟨rfl,hvc⟩:=hv
 subst hvc
 have hext:∃ex:List Value,cur=(rcells ts++ex).toArray:=⟨cur.toList.drop (n * 9),by rw [←hct,List.take_append_drop]⟩
 obtain ⟨ex,rfl⟩:=hext
 have HCS:=Lib.hid hcs
 have HCM:=Lib.hid hcm
 clear hcs hct hV hcm
 replace hO:Own w1 g 76 (rcells ts++ex).toArray:=hO
 have hgB:w.heap.size+1<g:=by omega
 clear hb1 hg
 have hat:∀(x cc:Nat) (w:World),(Instr.arrayAt 74 (.slice (some ⟨x,0,none⟩) 8 cc)).run Try.prog w=.ok (.pointer (some ⟨x,0,none⟩)) w:=fun x cc w=>run_arrayAt w 74 _ 8 _ 8 cc Try.underlying74 (Nat.le_refl _)
 have hmk:=make_bytes s (by omega)
 have HMK:=Lib.hid hmk
 have HAT:=Lib.hid hat
 clear hmk hat
 go_upto_region 3 with fail
 go_loopw [14] (fun i wr=>∃k:Nat,k≤n∧i=.int .i64 k∧Own wr g 76 (rcells ((ts.take k).map (shT s)++ts.drop k)++ex).toArray∧Own wr (w.heap.size+1) 47 #[.slice none 0 0]∧Below w.heap.size w wr) (fun i _=>n - (intOf i).toNat)
 case atStart=>exact ⟨0,Nat.zero_le _,rfl,by simpa using hO,hR,hb⟩
 case round=>
  clear hA hR hO hb;obtain ⟨k,hk,rfl,hO,hR,hb⟩:=hrel;by_cases hlt:k<n
  · obtain ⟨t,ht⟩:∃t,ts[k]? = some t:=⟨_,List.getElem?_eq_getElem (by have:=HL.out;omega)⟩;have HN:=Lib.hid (shf_row (s:=s) ht);have HTk:=Lib.hid ht;have hOold:=hO;rw [shf_old ht,rcells_append,rcells_cons,List.append_assoc,List.append_assoc] at hO
    have hpre:(rcells ((ts.take k).map (shT s))).length=k * 9:=by
     rw [rcells_length (fun u hu=>by
      obtain ⟨v,hv,rfl⟩:=List.mem_map.1 hu
      exact shT_tm (HT.out v (List.mem_of_mem_take hv)) HS8.out),List.length_map,List.length_take,HL.out]
     congr 1
     omega
    have HP:=Lib.hid hpre;have hgT:g<wr.heap.size:=hO.lt
    have hro:wr.rangeAt g (k * 9) (tcells t):=fun j v hv=>by
     rw [hO.cell,List.getElem?_toArray,←hpre,List.getElem?_append_right (by omega),show (rcells ((ts.take k).map (shT s))).length+j - (rcells ((ts.take k).map (shT s))).length=j by omega,List.getElem?_append_left (List.getElem?_eq_some_iff.1 hv).1];exact hv
    have hMt:=(HT.out t (List.mem_of_getElem? ht)).1;have HSH:=Lib.hid (shM_mono hMt HS8.out);obtain ⟨mt,ft⟩:=t;replace hMt:IsMono mt:=hMt;obtain ⟨p0,p1,p2,p3,p4,p5,p6,p7,rfl⟩:=mono8 hMt;have HM8:=Lib.hid hMt;obtain ⟨y0,y1,y2,y3,y4,y5,y6,y7,y8⟩:=nine hro;clear hpre hro hOold hMt ht;have hT:=Own.new wr 76 #[.int .u8 p0,.int .u8 p1,.int .u8 p2,.int .u8 p3,.int .u8 p4,.int .u8 p5,.int .u8 p6,.int .u8 p7,.int .i64 ft];have hba:=bA1 wr (.cells #[.int .u8 p0,.int .u8 p1,.int .u8 p2,.int .u8 p3,.int .u8 p4,.int .u8 p5,.int .u8 p6,.int .u8 p7,.int .i64 ft] 76);replace hb:=bT' hb hba hb.size;replace hO:=hO.keep hba hO.lt;replace hR:=hR.keep hba hR.lt;have hk0:(0:Int)≤(k:Int):=(by omega);have hkn:(k:Int)<(n:Int):=(by omega);go_upto_region 5 with fail
    generalize wr.alloc (.cells #[.int .u8 p0,.int .u8 p1,.int .u8 p2,.int .u8 p3,.int .u8 p4,.int .u8 p5,.int .u8 p6,.int .u8 p7,.int .i64 ft] 76)=wt at *;generalize wr.heap.size=gT at *;clear hba y0 y1 y2 y3 y4 y5 y6 y7 y8;replace hO:=hO.drew;replace hR:=hR.drew;replace hT:=hT.drew;replace hb:Below w.heap.size w wt.drew:=hb.drew;refine wp_region_held_drew (S:=(fun w'=>w'.cell? ⟨gT,0,none⟩=some (.int .u8 p0))) (by kernel_rfl) ?_ (fun hHeld0=>?_)
    · ((try dsimp only);(exact hT.cell 0))
    generalize wt.drew=Wd at *;refine hdT 0 ?_;refine hdT 2 ?_;refine hdT 3 ?_;refine hdC 1 (fun K hK=>?_);have hmk:=HMK.out Wd
    (go_simp;try go_wp2_with fail)
    clear hmk;have hM:=Own.new Wd 5 (Array.replicate s (Value.int .u8 0));have hbX:=bA1 Wd (.cells (Array.replicate s (Value.int .u8 0)) 5);replace hO:=hO.keep hbX hO.lt;replace hR:=hR.keep hbX hR.lt;replace hT:=hT.keep hbX hT.lt;replace hb:=bT' hb hbX hb.size;generalize Wd.alloc (.cells (Array.replicate s (Value.int .u8 0)) 5)=W1 at *;generalize hgM0:Wd.heap.size=gM at *;clear hbX hgM0;refine hK.out _ _ ?_ (fun hHeld1=>?_)
    · ((try dsimp only);(exact hT.cell 0))
    clear hK K
    (try simp only [Act.put,pA,pB,pC])
    refine hdC 4 (fun K hK=>?_)
    (go_simp;try go_wp2_with fail)
    have hL:=Own.new W1 132 #[.slice (some ⟨gM,0,none⟩) s s,.slice (some ⟨gT,0,none⟩) 8 8];have hbX:=bA1 W1 (.cells #[.slice (some ⟨gM,0,none⟩) s s,.slice (some ⟨gT,0,none⟩) 8 8] 132);replace hO:=hO.keep hbX hO.lt;replace hR:=hR.keep hbX hR.lt;replace hT:=hT.keep hbX hT.lt;replace hb:=bT' hb hbX hb.size;replace hM:=hM.keep hbX hM.lt;generalize W1.alloc (.cells #[.slice (some ⟨gM,0,none⟩) s s,.slice (some ⟨gT,0,none⟩) 8 8] 132)=W2 at *;generalize hgL0:W1.heap.size=gL at *;clear hbX hgL0;refine hK.out _ _ ?_ (fun hHeld2=>?_)
    · ((try dsimp only);(exact hT.cell 0))
    clear hK K
    (try simp only [Act.put,pA,pB,pC])
    refine hdC 5 (fun K hK=>?_);have hxs:∀(j:Nat) v,(List.replicate s (Value.int .u8 0))[j]? = some v→W2.cell? ⟨gM,0+j,none⟩=some v:=fun j v hv=>(by rw [Nat.zero_add,hM.cell j];simpa [List.getElem?_replicate,Array.getElem?_replicate] using hv);have hys:∀(j:Nat) v,(mcells [p0,p1,p2,p3,p4,p5,p6,p7])[j]? = some v→W2.cell? ⟨gT,0+j,none⟩=some v:=fun j v hv=>by rw [Nat.zero_add,hT.cell j];exact tcell_of hv
    (go_simp;(go_at_call 118;refine (ConcatB_c 2 s 8 hL hxs (by simp) (fun v hv=>by rw [List.eq_of_mem_replicate hv];rfl) hys (by simp [mcells]) (fun v hv=>by simp only [mcells,List.mem_map] at hv;obtain ⟨x,-,rfl⟩:=hv;rfl) (by omega) (by omega)).mono ?_;rintro e W3 ⟨xa,xc,rfl,hX,hbX⟩);go_wp2_with fail)
    clear hxs hys;have hBX:=Lib.hid (hb.size);replace hO:=hO.keep hbX hO.lt;replace hR:=hR.keep hbX hR.lt;replace hT:=hT.keep hbX hT.lt;replace hb:=bT' hb hbX hb.size;replace hM:=hM.keep hbX hM.lt;replace hL:=hL.keep hbX hL.lt;clear hbX;refine hK.out _ _ ?_ (fun hHeld3=>?_)
    · ((try dsimp only);(exact hT.cell 0))
    clear hK K
    (try simp only [Act.put,pA,pB,pC])
    refine hdT 6 ?_;refine wpAnyH_done (by kernel_rfl) ?_ _
    rcases hX.2 with ⟨-,h0⟩ | ⟨gx,cap,cur,hv,hgx,hOx,hcx,-,-,-⟩
    · omega
    simp only [Value.slice.injEq,true_and] at hv;obtain ⟨rfl,hvc⟩:=hv;subst hvc;have hXc:=World.ownsRow.cells (g:=gx) hX rfl;obtain ⟨q0,q1,q2,q3,q4,q5,q6,q7,hq⟩:=mono8 HSH.out
    have hqc:∀(j:Nat) v,(mcells [q0,q1,q2,q3,q4,q5,q6,q7])[j]? = some v→W3.cell? ⟨gx,j,none⟩=some v:=fun j v hv=>by
     have hj:j<8:=(by have:=(List.getElem?_eq_some_iff.1 hv).1;simpa [mcells] using this);have:=hXc j v (by rw [shM_cells rfl HS8.out hj];rw [hq];exact hv)
     rwa [Addr.add_mid,Nat.zero_add] at this
    obtain ⟨z0,z1,z2,z3,z4,z5,z6,z7⟩:W3.cell? ⟨gx,0,none⟩=some (.int .u8 q0)∧W3.cell? ⟨gx,1,none⟩=some (.int .u8 q1)∧W3.cell? ⟨gx,2,none⟩=some (.int .u8 q2)∧W3.cell? ⟨gx,3,none⟩=some (.int .u8 q3)∧W3.cell? ⟨gx,4,none⟩=some (.int .u8 q4)∧W3.cell? ⟨gx,5,none⟩=some (.int .u8 q5)∧W3.cell? ⟨gx,6,none⟩=some (.int .u8 q6)∧W3.cell? ⟨gx,7,none⟩=some (.int .u8 q7):=⟨hqc 0 _ rfl,hqc 1 _ rfl,hqc 2 _ rfl,hqc 3 _ rfl,hqc 4 _ rfl,hqc 5 _ rfl,hqc 6 _ rfl,hqc 7 _ rfl⟩;have hat:=HAT.out gx xc;have hsl:=slice8_run gx (s+8) xc (by omega)
    have hO1:Own W3 g 76 (rcells ((ts.take k).map (shT s))++mcells [p0,p1,p2,p3,p4,p5,p6,p7]++(.int .i64 ft::(rcells (ts.drop (k+1))++ex))).toArray:=by
     have:=hO;simpa only [tcells,List.append_assoc,List.singleton_append,List.cons_append,List.nil_append] using this
    have o2:=setCells_own (mcells [q0,q1,q2,q3,q4,q5,q6,q7]) (k * 9) W3 hO1 HP.out (by simp [mcells]);have hb2:=below_setCells (mcells [q0,q1,q2,q3,q4,q5,q6,q7]) (k * 9) hb (k:=g) (by omega);have hR2:=own_setCells_far (mcells [q0,q1,q2,q3,q4,q5,q6,q7]) (k * 9) W3 hR (g:=g) (by omega);have HTh:=Lib.hid (there_own (o:=k * 9) (n:=(#[.int .u8 q0,.int .u8 q1,.int .u8 q2,.int .u8 q3,.int .u8 q4,.int .u8 q5,.int .u8 q6,.int .u8 q7]:Array Value).size) hO1 (by have:=HP.out;simp only [List.size_toArray,List.length_append,mcells_length,List.length_cons,List.length_nil];omega));have HI8:Hid ((Try.prog.info? 74).map (·.size)=some (#[.int .u8 q0,.int .u8 q1,.int .u8 q2,.int .u8 q3,.int .u8 q4,.int .u8 q5,.int .u8 q6,.int .u8 q7]:Array Value).size):=Lib.hid Try.info_mono;have HO2:=Lib.hid o2;have HB2:=Lib.hid hb2;have HR2:=Lib.hid hR2;have HQ:=Lib.hid hq;have hx8:8≤xc:=(by omega);clear hO1 hO hR hT hb hM hL hX hXc hqc hq o2 hb2 hR2 hOx hHeld0 hHeld1 hHeld2 hHeld3;go_wp2_with (refine wpList_store_mid (by rfl) 74 (.tmp 32) (.tmp 30) (by rfl) g (k * 9) #[.int .u8 q0,.int .u8 q1,.int .u8 q2,.int .u8 q3,.int .u8 q4,.int .u8 q5,.int .u8 q6,.int .u8 q7] (by rfl) (by rfl) ?_ ?_ ?_ ?_)
    · exact HTh.out
    · exact HI8.out
    · exact agg8_one q0 q1 q2 q3 q4 q5 q6 q7
    have HO3:Hid (Own (W3.setCells g (k * 9) (mcells [q0,q1,q2,q3,q4,q5,q6,q7])) g 76 (rcells ((ts.take (k+1)).map (shT s)++ts.drop (k+1))++ex).toArray):=Lib.hid (by
     rw [HN.out,rcells_append,rcells_cons];have:=HO2.out;rw [show tcells (shT s ⟨[p0,p1,p2,p3,p4,p5,p6,p7],ft⟩)=mcells [q0,q1,q2,q3,q4,q5,q6,q7]++[.int .i64 ft] by rw [←HQ.out];rfl]
     simpa only [List.append_assoc,List.singleton_append,List.cons_append,List.nil_append] using this)
    go_roundw
    case rel=>exact ⟨k+1,by omega,by go_num,HO3.out,HR2.out,HB2.out⟩
    case measure=>simp [intOf] <;> omega
  · have he:k=n:=(by omega);subst he;have r0:=hR.cell 0;have f0:=hR.frozen 0;go_wp2_with fail
    have hR2:=hR.set 0 (.slice (some ⟨g,0,none⟩) k vc);have hO2:=hO.far (p:=⟨w.heap.size+1,0,none⟩) (by dsimp only;omega) (.slice (some ⟨g,0,none⟩) k vc);refine bodyPost_ret (results_cell_row rfl _ _ (w.heap.size+1) 47 #[.slice (some ⟨g,0,none⟩) k vc] (0,0) _ rfl hR2 Try.underlying47 rfl Try.info_form) rfl ⟨some ⟨g,0,none⟩,vc,rfl,?_,hb.setCell (p:=⟨w.heap.size+1,0,none⟩) (by dsimp only;omega) _⟩;have hfin:(ts.take k).map (shT s)++ts.drop k=ts.map (shT s):=(by rw [List.take_of_length_le (Nat.le_of_eq HL.out),List.drop_of_length_le (Nat.le_of_eq HL.out),List.append_nil]);rw [hfin] at hO2;have hll:(ts.map (shT s)).length=k:=by rw [List.length_map,HL.out]
    have htm:∀t∈ts.map (shT s),IsTm t:=fun t ht=>by
     obtain ⟨u,hu,rfl⟩:=List.mem_map.1 ht;exact shT_tm (HT.out u hu) HS8.out
    have hrl:(rcells (ts.map (shT s))).length=k * 9:=(by rw [rcells_length htm,hll]);have hrl0:(rcells ts).length=k * 9:=(by rw [rcells_length HT.out,HL.out]);refine ⟨by rw [hrl,hll],Or.inr ⟨g,vc,_,by rw [hll],by omega,hO2,by rw [hll];exact hcap,HCM.out,?_,?_⟩⟩
    · have:=HCS.out;simp only [List.size_toArray,List.length_append] at this ⊢;omega
    · rw [hll];simp only [List.toList_toArray];rw [←hrl,List.take_left]
end Go.Proofs.Ytndnkeijddagiaa
