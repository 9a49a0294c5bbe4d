
import Derived.Test.YtndnkeijddagiaaAddM
import Derived.Test.YtndnkeijddagiaaHeld
import Derived.Maps.RangeWalk
import Derived.Maps.OwnOps
import Derived.Maps.Views
import Derived.DeepKeys4
namespace Go.Proofs.Ytndnkeijddagiaa
set_option maxRecDepth 100000
open Go.RowKit Go.Deep Go.Maps
theorem Try.laidMap:laidOutB Try.prog=true:=by kernel_rfl
theorem Try.cellsM:Try.prog.cellsOf 74=8:=by kernel_rfl
theorem Try.cellsU8:Try.prog.cellsOf 5=1:=by kernel_rfl
theorem Try.keyTypeM:Try.prog.keyType 74=true:=by kernel_rfl
theorem Try.keyM:Keyed Try.prog 74:=
 Keyed.of_law (deep_law_laid Try.laidMap (m:=2) (by omega) (of_decide_eq_true (by kernel_rfl)) (by kernel_rfl) (by rw [Try.underlying74]))
theorem Try.zeroI (w:World):(zeroValue 2).run Try.prog w=.ok (.int .i64 0) w:=by kernel_rfl
def kM (m:List Int):Lit:=.string (keyBytes (m.map (Lit.int .u8)))
theorem keyLits_u8 {d:Nat} {x:Int} (h:0≤x∧x≤255):Try.prog.keyLits (d+1) 5 [.int .u8 x]=some [.int .u8 x]:=by
 have hw:(Lit.int .u8 x).wf=true:=WalkArith.wf_u8 h
 unfold Program.keyLits
 rw [Try.underlying5]
 simp [hw]
theorem keyLits_M {m:List Int} (h:IsMono m):Try.prog.keyLits (Try.prog.types.size+1) 74 (mcells m)=some (m.map (Lit.int .u8)):=by
 obtain ⟨f,hf⟩:∃f,Try.prog.types.size=f+1:=⟨Try.prog.types.size - 1,by have:0 < Try.prog.types.size:=of_decide_eq_true (by kernel_rfl);omega⟩
 rw [hf]
 unfold Program.keyLits
 rw [Try.underlying74]
 simp only [Try.cellsM,Try.cellsU8,mcells_length,h.1,if_true]
 obtain ⟨m0,m1,m2,m3,m4,m5,m6,m7,rfl⟩:=mono8 h
 have q:∀x∈[m0,m1,m2,m3,m4,m5,m6,m7],Try.prog.keyLits (f+1) 5 [.int .u8 x]=some [.int .u8 x]:=fun x hx=>keyLits_u8 (h.2 x hx)
 simp only [List.mem_cons,List.not_mem_nil,or_false,forall_eq_or_imp,forall_eq] at q
 obtain ⟨q0,q1,q2,q3,q4,q5,q6,q7⟩:=q
 simp [mcells,List.range_succ,q0,q1,q2,q3,q4,q5,q6,q7]
theorem keyOf_M {m:List Int} (h:IsMono m):keyOf Try.prog 74 (.agg (mcells m).toArray)=some (kM m):=by
 have hf:(Value.agg (mcells m).toArray).formed Try.prog 74=true:=by
  simp [Value.formed,Try.underlying74,Try.cellsM,h.1,mcells]
 unfold keyOf
 rw [Try.underlying74]
 simp only [Try.keyTypeM,hf,Bool.and_self,if_true]
 have:(Value.agg (mcells m).toArray).cells.toList=mcells m:=by simp [Value.cells]
 rw [this,keyLits_M h]
 rfl
theorem kM_inj {m k:List Int} (hm:IsMono m) (hk:IsMono k) (h:kM m=kM k):m=k:=by
 have h1:=keyOf_M hm
 rw [h] at h1
 have h2:=Try.keyM.inj h1 (keyOf_M hk)
 simp only [Value.agg.injEq,List.toArray_eq_iff,mcells] at h2
 have:∀l:List Int,(l.map (Value.int .u8)).map intOf=l:=fun l=>by
  rw [List.map_map]
  conv=>rhs;rw [←List.map_id l]
  apply List.map_congr_left
  intro x _;rfl
 rw [←this m,←this k]
 have h3:(List.map (Value.int IntKind.u8) m)=(List.map (Value.int IntKind.u8) k):=by simpa using h2
 rw [h3]
def MapIs (w:World) (b n:Nat) (S:List Int→Int):Prop:=
 ∃D:DataW Unit,w.ownsMap Try.prog 74 (plainElem Try.prog 2) b n D∧IsMap D∧∀m,IsMono m→D.atKey (kM m) (.lit (.int .i64 0))=.lit (.int .i64 (S m))
theorem MapIs.lt {w:World} {b n:Nat} {S:List Int→Int} (h:MapIs w b n S):b<w.heap.size:=by obtain ⟨D,h1,_⟩:=h;exact h1.lt
theorem MapIs.keep {w w':World} {b n:Nat} {S:List Int→Int} (h:MapIs w b n S) (hb:Below w.heap.size w w'):MapIs w' b n S:=by
 obtain ⟨D,h1,h2⟩:=h
 exact ⟨D,h1.kept (row:=none) ⟨hb.os,hb.tape,hb.output,hb.size,fun k hk _=>hb.block k hk⟩ (by simp),h2⟩
theorem MapIs.far {w:World} {b n:Nat} {S:List Int→Int} (h:MapIs w b n S) {p:Addr} (hp:b≠p.block) (u:Value):MapIs (w.setCell p u) b n S:=by
 obtain ⟨D,h1,h2⟩:=h
 have hb:=(Below.refl p.block w).setCell (p:=p) (Nat.le_refl _) u
 exact ⟨D,h1.kept (row:=some p.block) ⟨hb.os,hb.tape,hb.output,hb.size,fun k _ hk=>Below.heap_setCell w p u k (fun e=>hk (by rw [e]))⟩ (by simpa using hp),h2⟩
theorem MapIs.mono {w:World} {b n n':Nat} {S:List Int→Int} (h:MapIs w b n S) (hn:n≤n'):MapIs w b n' S:=by
 obtain ⟨D,h1,h2⟩:=h
 exact ⟨D,h1.mono hn,h2⟩
theorem mapIs_made (w:World):MapIs (w.alloc (.map #[] 0)) w.heap.size 0 (fun _=>0):=
 ⟨.map [],World.ownsMap_made _ _ _ _,isMap_empty,fun _m _=>rfl⟩
def updS (S:List Int→Int) (m:List Int) (x:Int):List Int→Int:=fun k=>if k=m then x else S k
theorem MapIs.lookup {w:World} {b n:Nat} {S:List Int→Int} {m:List Int} (h:MapIs w b n S) (hm:IsMono m):(Instr.lookup 93 (.map (some b)) (.agg (mcells m).toArray) false).run Try.prog w=.ok (.int .i64 (S m)) w:=by
 obtain ⟨D,h1,_,h3⟩:=h
 obtain ⟨c,hrun,hat,_⟩:=h1.lookup_int Try.keyM Try.underlying93 Try.underlying2 (Try.zeroI w) (keyOf_M hm)
 rw [h3 m hm] at hat
 simp only [DataW.lit.injEq,Lit.int.injEq,true_and] at hat
 rw [hat]
 exact hrun
theorem MapIs.update {w:World} {b n:Nat} {S:List Int→Int} {m:List Int} {x:Int} (h:MapIs w b n S) (hn:n<maxLen) (hm:IsMono m) (hx:0≤x∧x≤10006):∃w',(Instr.mapUpdate 93 (.map (some b)) (.agg (mcells m).toArray) (.int .i64 x)).run Try.prog w=.ok () w'∧MapIs w' b (n+1) (updS S m x)∧w.grownBy w' (some b):=by
 obtain ⟨D,h1,h2,h3⟩:=h
 have hw:(Lit.int .i64 x).wf=true:=WalkArith.wf_i64 (by omega)
 obtain ⟨w',hrun,hown,hg⟩:=h1.update Try.keyM Try.underlying93 hn (keyOf_M hm) (plainElem_int Try.underlying2 hw)
 refine ⟨w',hrun,⟨_,hown,h2.put _ _,fun k hk=>?_⟩,hg⟩
 unfold updS
 split
 · rename_i e;rw [e,atKey_put_same h2 (Try.keyM.key (keyOf_M hm))]
 · rename_i e;rw [atKey_put_other (fun e2=>e (kM_inj hk hm e2)),h3 k hk]
theorem mapAdd8 {w : World} {b n : Nat} {S : List Int → Int} {p0 p1 p2 p3 p4 p5 p6 p7 f : Int} (h : MapIs w b n S) (hn : n < 1000000000) (hm : IsMono [p0, p1, p2, p3, p4, p5, p6, p7]) (hS : 0 ≤ S [p0, p1, p2, p3, p4, p5, p6, p7] ∧ S [p0, p1, p2, p3, p4, p5, p6, p7] ≤ 10006) (hf : -1000000000000 ≤ f ∧ f ≤ 1000000000000) :
    Calls Try.prog 144 #[.map (some b),.agg #[.int .u8 p0,.int .u8 p1,.int .u8 p2,.int .u8 p3,.int .u8 p4,.int .u8 p5,.int .u8 p6,.int .u8 p7],.int .i64 f] w fun e w'=>e=.returned (.tuple #[])∧MapIs w' b (n+1) (updS S [p0,p1,p2,p3,p4,p5,p6,p7] (num (S [p0,p1,p2,p3,p4,p5,p6,p7]+f)))∧w.grownBy w' (some b):=by
 have hb:=h.lt
 have hB:Own (w.alloc (.cells #[.int .u8 p0,.int .u8 p1,.int .u8 p2,.int .u8 p3,.int .u8 p4,.int .u8 p5,.int .u8 p6,.int .u8 p7] 74)).drew w.heap.size 74 #[.int .u8 p0,.int .u8 p1,.int .u8 p2,.int .u8 p3,.int .u8 p4,.int .u8 p5,.int .u8 p6,.int .u8 p7]:=Own.new w 74 #[.int .u8 p0,.int .u8 p1,.int .u8 p2,.int .u8 p3,.int .u8 p4,.int .u8 p5,.int .u8 p6,.int .u8 p7]
 have hmap:MapIs (w.alloc (.cells #[.int .u8 p0,.int .u8 p1,.int .u8 p2,.int .u8 p3,.int .u8 p4,.int .u8 p5,.int .u8 p6,.int .u8 p7] 74)).drew b n S:=h.keep (bA1 w _).drew
 have HBA:=Lib.hid ((bA1 w (.cells #[.int .u8 p0,.int .u8 p1,.int .u8 p2,.int .u8 p3,.int .u8 p4,.int .u8 p5,.int .u8 p6,.int .u8 p7] 74)).drew)
 have hlk:=hmap.lookup hm
 obtain ⟨s,hs⟩:∃s,S [p0,p1,p2,p3,p4,p5,p6,p7]=s:=⟨_,rfl⟩
 rw [hs] at hlk hS
 obtain ⟨x,hx0⟩:∃x,num (s+f)=x:=⟨_,rfl⟩
 have hxb:0≤x∧x≤10006:=by have h1:=num_lo (s+f);have h2:=num_hi (s+f);omega
 obtain ⟨w2,hup,hmap2,hgr⟩:=hmap.update (x:=x) (by unfold maxLen;omega) hm hxb
 have hB2:Own w2 w.heap.size 74 #[.int .u8 p0,.int .u8 p1,.int .u8 p2,.int .u8 p3,.int .u8 p4,.int .u8 p5,.int .u8 p6,.int .u8 p7]:=hB.grown hgr (by simp;omega)
 have s1:IntKind.i64.wrap (s+f)=s+f:=IntWalk.i64_in _ (by omega)
 have HX:=Lib.hid hx0
 have HM:=Lib.hid hmap2
 have HG:=Lib.hid hgr
 have HS:=Lib.hid hs
 clear hx0 hmap2 hgr hs hmap
 simp only [mcells,List.map_cons,List.map_nil] at hlk hup
 go_enter Try.func144,Try.ntmps144
 have z0:=hB.cell 0
 go_upto_region 1 with fail
 refine wp_region_held_drew (S:=(fun w'=>w'.cell? ⟨w.heap.size,0,none⟩=some (.int .u8 p0)∧w'.cell? ⟨w.heap.size,1,none⟩=some (.int .u8 p1)∧w'.cell? ⟨w.heap.size,2,none⟩=some (.int .u8 p2)∧w'.cell? ⟨w.heap.size,3,none⟩=some (.int .u8 p3)∧w'.cell? ⟨w.heap.size,4,none⟩=some (.int .u8 p4)∧w'.cell? ⟨w.heap.size,5,none⟩=some (.int .u8 p5)∧w'.cell? ⟨w.heap.size,6,none⟩=some (.int .u8 p6)∧w'.cell? ⟨w.heap.size,7,none⟩=some (.int .u8 p7))) (by kernel_rfl) ?_ (fun hHeld=>?_)
 · ((try dsimp only);(exact ⟨hB.cell 0,hB.cell 1,hB.cell 2,hB.cell 3,hB.cell 4,hB.cell 5,hB.cell 6,hB.cell 7⟩))
 refine hdT 0 ?_
 refine hdT 1 ?_
 refine hdT 2 ?_
 refine hdT 3 ?_
 refine hdT 5 ?_
 refine hdC 4 (fun K hK=>?_)
 (go_simp;(try go_wp2_with fail);go_wp2_with fail)
 refine hK.out _ _ ?_ (fun _=>?_)
 · ((try dsimp only);(exact ⟨hB.cell 0,hB.cell 1,hB.cell 2,hB.cell 3,hB.cell 4,hB.cell 5,hB.cell 6,hB.cell 7⟩))
 clear hK K
 (try simp only [Act.put,pA,pB,pC])
 refine hdT 6 ?_
 refine hdC 7 (fun K hK=>?_)
 (go_simp;((go_at_call 145;refine (numberOf_c _ _).mono ?_;rintro e wM ⟨rfl,rfl⟩;rw [HX.out]));go_wp2_with fail)
 refine hK.out _ _ ?_ (fun _=>?_)
 · ((try dsimp only);(exact ⟨hB.cell 0,hB.cell 1,hB.cell 2,hB.cell 3,hB.cell 4,hB.cell 5,hB.cell 6,hB.cell 7⟩))
 clear hK K
 (try simp only [Act.put,pA,pB,pC])
 refine hdC 8 (fun K hK=>?_)
 (go_simp;(try go_wp2_with fail);go_wp2_with fail)
 refine hK.out _ _ ?_ (fun _=>?_)
 · ((try dsimp only);(exact ⟨hB2.cell 0,hB2.cell 1,hB2.cell 2,hB2.cell 3,hB2.cell 4,hB2.cell 5,hB2.cell 6,hB2.cell 7⟩))
 clear hK K
 (try simp only [Act.put,pA,pB,pC])
 refine wpAnyH_done (by kernel_rfl) ?_ _
 go_wp2_with fail
 go_end0
 refine ⟨rfl,by rw [HS.out,HX.out];exact HM.out,?_⟩
 have hg:=HG.out
 exact ⟨hg.os,hg.tape,hg.output,Nat.le_trans HBA.out.size hg.size,fun k hk hne=>(hg.block k (Nat.lt_of_lt_of_le hk HBA.out.size) hne).trans (HBA.out.block k hk)⟩
end Go.Proofs.Ytndnkeijddagiaa
