
import Derived.Test.YtikldofmpkidbaaAddM
import Derived.Test.YtikldofmpkidbaaHeld
import Derived.Maps.RangeWalk
import Derived.Maps.OwnOps
import Derived.Maps.Views
import Derived.DeepKeys4
import Derived.Test.YtikldofmpkidbaaProd
namespace Go.Proofs.Ytikldofmpkidbaa
set_option maxRecDepth 100000
open Go.RowKit Go.Deep Go.Maps
theorem Try.laidMap:laidOutB Try.prog=true:=by kernel_rfl
theorem Try.cellsM:Try.prog.cellsOf 86=8:=by kernel_rfl
theorem Try.cellsU8:Try.prog.cellsOf 5=1:=by kernel_rfl
theorem Try.keyTypeM:Try.prog.keyType 86=true:=by kernel_rfl
theorem Try.keyM:Keyed Try.prog 86:=
 Keyed.of_law (deep_law_laid Try.laidMap (m:=2) (by omega) (of_decide_eq_true (by kernel_rfl)) (by kernel_rfl) (by rw [Try.underlying86]))
theorem Try.zeroI (w:World):(zeroValue 2).run Try.prog w=.ok (.int .i64 0) w:=by kernel_rfl
def kM (m:List Int):Lit:=.string (keyBytes (m.map (Lit.int .u8)))
theorem keyLits_u8 {d:Nat} {x:Int} (h:0≤x∧x≤255):Try.prog.keyLits (d+1) 5 [.int .u8 x]=some [.int .u8 x]:=by
 have hw:(Lit.int .u8 x).wf=true:=WalkArith.wf_u8 h
 unfold Program.keyLits
 rw [Try.underlying5]
 simp [hw]
theorem keyLits_M {m:List Int} (h:IsMono m):Try.prog.keyLits (Try.prog.types.size+1) 86 (mcells m)=some (m.map (Lit.int .u8)):=by
 obtain ⟨f,hf⟩:∃f,Try.prog.types.size=f+1:=⟨Try.prog.types.size - 1,by have:0 < Try.prog.types.size:=of_decide_eq_true (by kernel_rfl);omega⟩
 rw [hf]
 unfold Program.keyLits
 rw [Try.underlying86]
 simp only [Try.cellsM,Try.cellsU8,mcells_length,h.1,if_true]
 obtain ⟨m0,m1,m2,m3,m4,m5,m6,m7,rfl⟩:=mono8 h
 have q:∀x∈[m0,m1,m2,m3,m4,m5,m6,m7],Try.prog.keyLits (f+1) 5 [.int .u8 x]=some [.int .u8 x]:=fun x hx=>keyLits_u8 (h.2 x hx)
 simp only [List.mem_cons,List.not_mem_nil,or_false,forall_eq_or_imp,forall_eq] at q
 obtain ⟨q0,q1,q2,q3,q4,q5,q6,q7⟩:=q
 simp [mcells,List.range_succ,q0,q1,q2,q3,q4,q5,q6,q7]
theorem keyOf_M {m:List Int} (h:IsMono m):keyOf Try.prog 86 (.agg (mcells m).toArray)=some (kM m):=by
 have hf:(Value.agg (mcells m).toArray).formed Try.prog 86=true:=by
  simp [Value.formed,Try.underlying86,Try.cellsM,h.1,mcells]
 unfold keyOf
 rw [Try.underlying86]
 simp only [Try.keyTypeM,hf,Bool.and_self,if_true]
 have:(Value.agg (mcells m).toArray).cells.toList=mcells m:=by simp [Value.cells]
 rw [this,keyLits_M h]
 rfl
theorem kM_inj {m k:List Int} (hm:IsMono m) (hk:IsMono k) (h:kM m=kM k):m=k:=by
 have h1:=keyOf_M hm
 rw [h] at h1
 have h2:=Try.keyM.inj h1 (keyOf_M hk)
 simp only [Value.agg.injEq,List.toArray_eq_iff,mcells] at h2
 have:∀l:List Int,(l.map (Value.int .u8)).map intOf=l:=fun l=>by
  rw [List.map_map]
  conv=>rhs;rw [←List.map_id l]
  apply List.map_congr_left
  intro x _;rfl
 rw [←this m,←this k]
 have h3:(List.map (Value.int IntKind.u8) m)=(List.map (Value.int IntKind.u8) k):=by simpa using h2
 rw [h3]
def MapIs (w:World) (b n:Nat) (S:List Int→Int):Prop:=
 ∃D:DataW Unit,w.ownsMap Try.prog 86 (plainElem Try.prog 2) b n D∧IsMap D∧∀m,IsMono m→D.atKey (kM m) (.lit (.int .i64 0))=.lit (.int .i64 (S m))
theorem MapIs.lt {w:World} {b n:Nat} {S:List Int→Int} (h:MapIs w b n S):b<w.heap.size:=by obtain ⟨D,h1,_⟩:=h;exact h1.lt
theorem MapIs.keep {w w':World} {b n:Nat} {S:List Int→Int} (h:MapIs w b n S) (hb:Below w.heap.size w w'):MapIs w' b n S:=by
 obtain ⟨D,h1,h2⟩:=h
 exact ⟨D,h1.kept (row:=none) ⟨hb.os,hb.tape,hb.output,hb.size,fun k hk _=>hb.block k hk⟩ (by simp),h2⟩
theorem MapIs.far {w:World} {b n:Nat} {S:List Int→Int} (h:MapIs w b n S) {p:Addr} (hp:b≠p.block) (u:Value):MapIs (w.setCell p u) b n S:=by
 obtain ⟨D,h1,h2⟩:=h
 have hb:=(Below.refl p.block w).setCell (p:=p) (Nat.le_refl _) u
 exact ⟨D,h1.kept (row:=some p.block) ⟨hb.os,hb.tape,hb.output,hb.size,fun k _ hk=>Below.heap_setCell w p u k (fun e=>hk (by rw [e]))⟩ (by simpa using hp),h2⟩
theorem MapIs.mono {w:World} {b n n':Nat} {S:List Int→Int} (h:MapIs w b n S) (hn:n≤n'):MapIs w b n' S:=by
 obtain ⟨D,h1,h2⟩:=h
 exact ⟨D,h1.mono hn,h2⟩
theorem mapIs_made (w:World):MapIs (w.alloc (.map #[] 0)) w.heap.size 0 (fun _=>0):=
 ⟨.map [],World.ownsMap_made _ _ _ _,isMap_empty,fun _m _=>rfl⟩
def updS (S:List Int→Int) (m:List Int) (x:Int):List Int→Int:=fun k=>if k=m then x else S k
theorem MapIs.lookup {w:World} {b n:Nat} {S:List Int→Int} {m:List Int} (h:MapIs w b n S) (hm:IsMono m):(Instr.lookup 97 (.map (some b)) (.agg (mcells m).toArray) false).run Try.prog w=.ok (.int .i64 (S m)) w:=by
 obtain ⟨D,h1,_,h3⟩:=h
 obtain ⟨c,hrun,hat,_⟩:=h1.lookup_int Try.keyM Try.underlying97 Try.underlying2 (Try.zeroI w) (keyOf_M hm)
 rw [h3 m hm] at hat
 simp only [DataW.lit.injEq,Lit.int.injEq,true_and] at hat
 rw [hat]
 exact hrun
theorem MapIs.update {w:World} {b n:Nat} {S:List Int→Int} {m:List Int} {x:Int} (h:MapIs w b n S) (hn:n<maxLen) (hm:IsMono m) (hx:0≤x∧x≤10006):∃w',(Instr.mapUpdate 97 (.map (some b)) (.agg (mcells m).toArray) (.int .i64 x)).run Try.prog w=.ok () w'∧MapIs w' b (n+1) (updS S m x)∧w.grownBy w' (some b):=by
 obtain ⟨D,h1,h2,h3⟩:=h
 have hw:(Lit.int .i64 x).wf=true:=WalkArith.wf_i64 (by omega)
 obtain ⟨w',hrun,hown,hg⟩:=h1.update Try.keyM Try.underlying97 hn (keyOf_M hm) (plainElem_int Try.underlying2 hw)
 refine ⟨w',hrun,⟨_,hown,h2.put _ _,fun k hk=>?_⟩,hg⟩
 unfold updS
 split
 · rename_i e;rw [e,atKey_put_same h2 (Try.keyM.key (keyOf_M hm))]
 · rename_i e;rw [atKey_put_other (fun e2=>e (kM_inj hk hm e2)),h3 k hk]
theorem mapAdd8 {w : World} {b n : Nat} {S : List Int → Int} {p0 p1 p2 p3 p4 p5 p6 p7 f : Int} (h : MapIs w b n S) (hn : n < 1000000000) (hm : IsMono [p0, p1, p2, p3, p4, p5, p6, p7]) (hS : 0 ≤ S [p0, p1, p2, p3, p4, p5, p6, p7] ∧ S [p0, p1, p2, p3, p4, p5, p6, p7] ≤ 10006) (hf : -1000000000000 ≤ f ∧ f ≤ 1000000000000) :
    Calls Try.prog 134 #[.map (some b),.agg #[.int .u8 p0,.int .u8 p1,.int .u8 p2,.int .u8 p3,.int .u8 p4,.int .u8 p5,.int .u8 p6,.int .u8 p7],.int .i64 f] w fun e w'=>e=.returned (.tuple #[])∧MapIs w' b (n+1) (updS S [p0,p1,p2,p3,p4,p5,p6,p7] (num (S [p0,p1,p2,p3,p4,p5,p6,p7]+f)))∧w.grownBy w' (some b):=by
 have hb:=h.lt
 have hB:Own (w.alloc (.cells #[.int .u8 p0,.int .u8 p1,.int .u8 p2,.int .u8 p3,.int .u8 p4,.int .u8 p5,.int .u8 p6,.int .u8 p7] 86)).drew w.heap.size 86 #[.int .u8 p0,.int .u8 p1,.int .u8 p2,.int .u8 p3,.int .u8 p4,.int .u8 p5,.int .u8 p6,.int .u8 p7]:=Own.new w 86 #[.int .u8 p0,.int .u8 p1,.int .u8 p2,.int .u8 p3,.int .u8 p4,.int .u8 p5,.int .u8 p6,.int .u8 p7]
 have hmap:MapIs (w.alloc (.cells #[.int .u8 p0,.int .u8 p1,.int .u8 p2,.int .u8 p3,.int .u8 p4,.int .u8 p5,.int .u8 p6,.int .u8 p7] 86)).drew b n S:=h.keep (bA1 w _).drew
 have HBA:=Lib.hid ((bA1 w (.cells #[.int .u8 p0,.int .u8 p1,.int .u8 p2,.int .u8 p3,.int .u8 p4,.int .u8 p5,.int .u8 p6,.int .u8 p7] 86)).drew)
 have hlk:=hmap.lookup hm
 obtain ⟨s,hs⟩:∃s,S [p0,p1,p2,p3,p4,p5,p6,p7]=s:=⟨_,rfl⟩
 rw [hs] at hlk hS
 obtain ⟨x,hx0⟩:∃x,num (s+f)=x:=⟨_,rfl⟩
 have hxb:0≤x∧x≤10006:=by have h1:=num_lo (s+f);have h2:=num_hi (s+f);omega
 obtain ⟨w2,hup,hmap2,hgr⟩:=hmap.update (x:=x) (by unfold maxLen;omega) hm hxb
 have hB2:Own w2 w.heap.size 86 #[.int .u8 p0,.int .u8 p1,.int .u8 p2,.int .u8 p3,.int .u8 p4,.int .u8 p5,.int .u8 p6,.int .u8 p7]:=hB.grown hgr (by simp;omega)
 have s1:IntKind.i64.wrap (s+f)=s+f:=IntWalk.i64_in _ (by omega)
 have HX:=Lib.hid hx0
 have HM:=Lib.hid hmap2
 have HG:=Lib.hid hgr
 have HS:=Lib.hid hs
 clear hx0 hmap2 hgr hs hmap
 simp only [mcells,List.map_cons,List.map_nil] at hlk hup
 go_enter Try.func134,Try.ntmps134
 have z0:=hB.cell 0
 go_upto_region 1 with fail
 refine wp_region_held_drew (S:=(fun w'=>w'.cell? ⟨w.heap.size,0,none⟩=some (.int .u8 p0)∧w'.cell? ⟨w.heap.size,1,none⟩=some (.int .u8 p1)∧w'.cell? ⟨w.heap.size,2,none⟩=some (.int .u8 p2)∧w'.cell? ⟨w.heap.size,3,none⟩=some (.int .u8 p3)∧w'.cell? ⟨w.heap.size,4,none⟩=some (.int .u8 p4)∧w'.cell? ⟨w.heap.size,5,none⟩=some (.int .u8 p5)∧w'.cell? ⟨w.heap.size,6,none⟩=some (.int .u8 p6)∧w'.cell? ⟨w.heap.size,7,none⟩=some (.int .u8 p7))) (by kernel_rfl) ?_ (fun hHeld=>?_)
 · ((try dsimp only);(exact ⟨hB.cell 0,hB.cell 1,hB.cell 2,hB.cell 3,hB.cell 4,hB.cell 5,hB.cell 6,hB.cell 7⟩))
 refine hdT 0 ?_
 refine hdT 1 ?_
 refine hdT 2 ?_
 refine hdT 3 ?_
 refine hdT 5 ?_
 refine hdC 4 (fun K hK=>?_)
 (go_simp;(try go_wp2_with fail);go_wp2_with fail)
 refine hK.out _ _ ?_ (fun _=>?_)
 · ((try dsimp only);(exact ⟨hB.cell 0,hB.cell 1,hB.cell 2,hB.cell 3,hB.cell 4,hB.cell 5,hB.cell 6,hB.cell 7⟩))
 clear hK K
 (try simp only [Act.put,pA,pB,pC])
 refine hdT 6 ?_
 refine hdC 7 (fun K hK=>?_)
 (go_simp;((go_at_call 122;refine (numberOf_c _ _).mono ?_;rintro e wM ⟨rfl,rfl⟩;rw [HX.out]));go_wp2_with fail)
 refine hK.out _ _ ?_ (fun _=>?_)
 · ((try dsimp only);(exact ⟨hB.cell 0,hB.cell 1,hB.cell 2,hB.cell 3,hB.cell 4,hB.cell 5,hB.cell 6,hB.cell 7⟩))
 clear hK K
 (try simp only [Act.put,pA,pB,pC])
 refine hdC 8 (fun K hK=>?_)
 (go_simp;(try go_wp2_with fail);go_wp2_with fail)
 refine hK.out _ _ ?_ (fun _=>?_)
 · ((try dsimp only);(exact ⟨hB2.cell 0,hB2.cell 1,hB2.cell 2,hB2.cell 3,hB2.cell 4,hB2.cell 5,hB2.cell 6,hB2.cell 7⟩))
 clear hK K
 (try simp only [Act.put,pA,pB,pC])
 refine wpAnyH_done (by kernel_rfl) ?_ _
 go_wp2_with fail
 go_end0
 refine ⟨rfl,by rw [HS.out,HX.out];exact HM.out,?_⟩
 have hg:=HG.out
 exact ⟨hg.os,hg.tape,hg.output,Nat.le_trans HBA.out.size hg.size,fun k hk hne=>(hg.block k (Nat.lt_of_lt_of_le hk HBA.out.size) hne).trans (HBA.out.block k hk)⟩
open Go.RowKit Go.Deep
theorem num_add (a b:Int):num (a+num b)=num (a+b):=by unfold num;omega
theorem num_add' (a b:Int):num (num a+b)=num (a+b):=by unfold num;omega
theorem num_num (a:Int):num (num a)=num a:=by unfold num;omega
def coef:List Tm→List Int→Int
 | [],_=>0
 | t::ts,m=>if t.m=m then t.f else coef ts m
theorem coef_hit {t:Tm} {ts:List Tm} {m:List Int} (h:t.m=m):coef (t::ts) m=t.f:=by rw [coef,if_pos h]
theorem coef_miss {t:Tm} {ts:List Tm} {m:List Int} (h:¬t.m=m):coef (t::ts) m=coef ts m:=by rw [coef,if_neg h]
theorem coef_none {ts:List Tm} {m:List Int} (h:∀t∈ts,¬t.m=m):coef ts m=0:=by
 induction ts with
 | nil=>rfl
 | cons t ts ih=>rw [coef_miss (h t (by simp)),ih (fun u hu=>h u (by simp [hu]))]
theorem coef_after {ts:List Tm} {m:List Int} (h:∀t∈ts,before m t.m=true):coef ts m=0:=
 coef_none fun t ht e=>by have:=h t ht;rw [e,before_self] at this;cases this
theorem coef_own1_hit {m:List Int} {x:Int} {ts:List Tm} (h:coef ts m=0):coef (own1 m x++ts) m=x:=by
 by_cases hx:x=0
 · rw [own1_no hx,List.nil_append,h,hx]
 · rw [own1_yes hx];exact coef_hit rfl
theorem coef_own1_miss {k m:List Int} {x:Int} {ts:List Tm} (h:¬k=m):coef (own1 k x++ts) m=coef ts m:=by
 by_cases hx:x=0
 · rw [own1_no hx,List.nil_append]
 · rw [own1_yes hx];exact coef_miss h
theorem coef_bd {ts:List Tm} {m:List Int} (h:∀t∈ts,0≤t.f∧t.f≤10006):0≤coef ts m∧coef ts m≤10006:=by
 induction ts with
 | nil=>simp [coef]
 | cons t ts ih =>
   by_cases ht:t.m=m
   · rw [coef_hit ht];exact h t (by simp)
   · rw [coef_miss ht];exact ih (fun u hu=>h u (by simp [hu]))
theorem num_self {x:Int} (h:0≤x∧x≤10006):num x=x:=num_id h.1 h.2
theorem coef_add {k:Int} {m:List Int}:∀fs gs:List Tm,(∀f∈fs,f.m.length=8)→(∀g∈gs,g.m.length=8)→Srt fs→Srt gs→(∀f∈fs,0≤f.f∧f.f≤10006)→coef (addT k fs gs) m=num (coef fs m+k * coef gs m):=by
 intro fs gs
 induction fs,gs using addT.induct with
 | case1 f fs g gs hb ih =>
   intro l1 l2 h1 h2 hf;rw [addT_lt hb];obtain ⟨ha,ht⟩:=List.pairwise_cons.1 h1;obtain ⟨hc,hu⟩:=List.pairwise_cons.1 h2;by_cases hm:f.m=m
   · rw [coef_hit hm, coef_hit hm, coef_after (ts := g :: gs) (fun t ht => by
       rw [←hm];rw [List.mem_cons] at ht
       rcases ht with rfl | ht
       · exact hb
       · exact before_trans hb (hc _ ht)),Int.mul_zero,Int.add_zero,num_self (hf f (by simp))]
   · rw [coef_miss hm,coef_miss hm,ih (fun f hf=>l1 f (by simp [hf])) l2 ht h2 (fun f hf'=>hf f (by simp [hf']))]
 | case2 f fs g gs hb hb2 ih =>
   intro l1 l2 h1 h2 hf;rw [addT_gt hb2];obtain ⟨ha,ht⟩:=List.pairwise_cons.1 h1;obtain ⟨hc,hu⟩:=List.pairwise_cons.1 h2;have hI:=ih l1 (fun g hg=>l2 g (by simp [hg])) h1 hu hf;by_cases hm:g.m=m
   · have e1 : coef (f :: fs) m = 0 := coef_after (fun t ht => by
       rw [←hm];rw [List.mem_cons] at ht
       rcases ht with rfl | ht
       · exact hb2
       · exact before_trans hb2 (ha _ ht))
     have e2:coef gs m=0:=coef_after (fun t ht=>by rw [←hm];exact hc _ ht);rw [e1,e2,Int.mul_zero,Int.add_zero] at hI;rw [coef_hit hm,e1,Int.zero_add];subst hm;exact coef_own1_hit (by rw [hI];rfl)
   · rw [coef_own1_miss hm,hI,coef_miss (t:=g) hm]
 | case3 f fs g gs hb hb2 ih =>
   intro l1 l2 h1 h2 hf;have he:f.m=g.m:=before_tri (by rw [l1 f (by simp),l2 g (by simp)]) (by simpa using hb) (by simpa using hb2);rw [addT_eq (by simpa using hb) (by simpa using hb2)];obtain ⟨ha,ht⟩:=List.pairwise_cons.1 h1;obtain ⟨hc,hu⟩:=List.pairwise_cons.1 h2;have hI:=ih (fun f hf=>l1 f (by simp [hf])) (fun g hg=>l2 g (by simp [hg])) ht hu (fun f hf'=>hf f (by simp [hf']));by_cases hm:f.m=m
   · have e1:coef fs m=0:=coef_after (fun t ht=>by rw [←hm];exact ha _ ht);have e2:coef gs m=0:=coef_after (fun t ht=>by rw [←hm,he];exact hc _ ht);rw [e1,e2,Int.mul_zero,Int.add_zero] at hI;rw [coef_hit hm,coef_hit (t:=g) (by rw [←he];exact hm)];subst hm;rw [coef_own1_hit (by rw [hI];rfl),num_add]
   · rw [coef_own1_miss hm,hI,coef_miss hm,coef_miss (t:=g) (by rw [←he];exact hm)]
 | case4 f fs =>
   intro l1 l2 h1 h2 hf;rw [addT];rw [show coef [] m=0 from rfl,Int.mul_zero,Int.add_zero,num_self (coef_bd hf)]
 | case5 g gs ih =>
   intro l1 l2 h1 h2 hf;rw [addT_left];obtain ⟨hc,hu⟩:=List.pairwise_cons.1 h2;have hI:=ih l1 (fun g hg=>l2 g (by simp [hg])) h1 hu hf;rw [show coef [] m=0 from rfl,Int.zero_add] at hI ⊢;by_cases hm:g.m=m
   · have e2:coef gs m=0:=coef_after (fun t ht=>by rw [←hm];exact hc _ ht);rw [e2,Int.mul_zero] at hI;rw [coef_hit hm];subst hm;exact coef_own1_hit (by rw [hI];rfl)
   · rw [coef_own1_miss hm,hI,coef_miss (t:=g) hm]
 | case6 =>
   intro l1 l2 h1 h2 hf;rw [addT];simp [coef,num]
theorem join_ne {zs m k:List Int} (h:¬joinS zs m k=0):joinM zs m k=addM m k:=by
 unfold joinS at h
 unfold joinM
 split at h
 · exact absurd rfl h
 · rename_i h1;rw [if_neg h1]
theorem cmpM_add:∀m u v:List Int,m.length=u.length→m.length=v.length→cmpM (addM m u) (addM m v)=cmpM u v
 | [],[],[],_,_=>rfl
 | [],_::_,_,h,_=>by simp at h
 | [],_,_::_,_,h=>by simp at h
 | _::_,[],_,h,_=>by simp at h
 | _::_,_,[],_,h=>by simp at h
 | a :: m, b :: u, c :: v, h1, h2 => by
   have ih:=cmpM_add m u v (by simpa using h1) (by simpa using h2);simp only [addM,List.zipWith_cons_cons,cmpM] at ih ⊢;rw [ih]
   rcases Int.lt_trichotomy b c with h | h | h
   · rw [if_neg (by omega),if_pos (by omega),if_neg (by omega),if_pos (by omega)]
   · rw [if_neg (by omega),if_neg (by omega),if_neg (by omega),if_neg (by omega)]
   · rw [if_pos (by omega),if_pos (by omega)]
theorem addM_inj {m u v:List Int} (h1:m.length=u.length) (h2:m.length=v.length) (h:addM m u=addM m v):u=v:=by
 have:=cmpM_add m u v h1 h2
 rw [h,cmpM_self] at this
 exact cmpM_eq u v (by omega) this.symm
def shiftT (zs:List Int) (t:Tm):List Tm→List Tm
 | []=>[]
 | u::gs=>if joinS zs t.m u.m=0 then shiftT zs t gs else ⟨joinM zs t.m u.m,num (joinS zs t.m u.m * t.f * u.f)⟩::shiftT zs t gs
theorem shiftT_no {zs:List Int} {t u:Tm} {gs:List Tm} (h:joinS zs t.m u.m=0):shiftT zs t (u::gs)=shiftT zs t gs:=by rw [shiftT,if_pos h]
theorem shiftT_yes {zs:List Int} {t u:Tm} {gs:List Tm} (h:¬joinS zs t.m u.m=0):shiftT zs t (u::gs)=⟨joinM zs t.m u.m,num (joinS zs t.m u.m * t.f * u.f)⟩::shiftT zs t gs:=by rw [shiftT,if_neg h]
theorem shiftT_mem {zs:List Int} {t:Tm}:∀{gs:List Tm} {x:Tm},x∈shiftT zs t gs→∃u∈gs,¬joinS zs t.m u.m=0∧x.m=joinM zs t.m u.m∧x.f=num (joinS zs t.m u.m * t.f * u.f)
 | [],x,h=>by simp [shiftT] at h
 | u :: gs, x, h => by
   by_cases hj:joinS zs t.m u.m=0
   · rw [shiftT_no hj] at h;obtain ⟨v,hv,r⟩:=shiftT_mem h;exact ⟨v,by simp [hv],r⟩
   · rw [shiftT_yes hj,List.mem_cons] at h
     rcases h with rfl | h
     · exact ⟨u,by simp,hj,rfl,rfl⟩
     · obtain ⟨v,hv,r⟩:=shiftT_mem h;exact ⟨v,by simp [hv],r⟩
theorem shiftT_len (zs:List Int) (t:Tm):∀gs:List Tm,(shiftT zs t gs).length≤gs.length
 | []=>Nat.le_refl _
 | u :: gs => by
   have:=shiftT_len zs t gs;by_cases hj:joinS zs t.m u.m=0
   · rw [shiftT_no hj,List.length_cons];omega
   · rw [shiftT_yes hj,List.length_cons,List.length_cons];omega
theorem shiftT_srt {zs:List Int} {t:Tm} (lt:t.m.length=8):∀gs:List Tm,(∀g∈gs,g.m.length=8)→Srt gs→Srt (shiftT zs t gs)
 | [],_,_=>List.Pairwise.nil
 | u :: gs, hl, hs => by
   obtain ⟨ha,ht⟩:=List.pairwise_cons.1 hs;have ih:=shiftT_srt (zs:=zs) lt gs (fun g hg=>hl g (by simp [hg])) ht;by_cases hj:joinS zs t.m u.m=0
   · rw [shiftT_no hj];exact ih
   · rw [shiftT_yes hj];refine List.Pairwise.cons (fun x hx=>?_) ih;obtain ⟨v,hv,hj2,hm,-⟩:=shiftT_mem hx;rw [hm];have h1:=ha v hv;simp only [before,decide_eq_true_eq] at h1 ⊢;rw [join_ne hj,join_ne hj2,cmpM_add t.m u.m v.m (by rw [lt,hl u (by simp)]) (by rw [lt,hl v (by simp [hv])])];exact h1
theorem shiftT_bd {zs:List Int} {t:Tm} {gs:List Tm}:∀x∈shiftT zs t gs,0≤x.f∧x.f≤10006:=by
 intro x hx
 obtain ⟨u,_,_,_,hf⟩:=shiftT_mem hx
 rw [hf]
 have h1:=num_lo (joinS zs t.m u.m * t.f * u.f)
 have h2:=num_hi (joinS zs t.m u.m * t.f * u.f)
 omega
def stepS (zs:List Int) (t:Tm) (S:List Int→Int) (u:Tm):List Int→Int:=
 if joinS zs t.m u.m=0 then S else updS S (joinM zs t.m u.m) (num (S (joinM zs t.m u.m)+joinS zs t.m u.m * t.f * u.f))
def rowSum (zs:List Int) (t:Tm) (S:List Int→Int) (gs:List Tm):List Int→Int:=gs.foldl (stepS zs t) S
theorem stepS_bd {zs:List Int} {t u:Tm} {S:List Int→Int} (h:∀m,0≤S m∧S m≤10006):∀m,0≤stepS zs t S u m∧stepS zs t S u m≤10006:=by
 intro m
 unfold stepS
 split
 · exact h m
 · unfold updS;split
   · have h1:=num_lo (S (joinM zs t.m u.m)+joinS zs t.m u.m * t.f * u.f);have h2:=num_hi (S (joinM zs t.m u.m)+joinS zs t.m u.m * t.f * u.f);omega
   · exact h m
theorem rowSum_coef {zs:List Int} {t:Tm} (lt:t.m.length=8) (m:List Int):∀(gs:List Tm) (S:List Int→Int),(∀g∈gs,g.m.length=8)→Srt gs→(∀m,0≤S m∧S m≤10006)→rowSum zs t S gs m=num (S m+coef (shiftT zs t gs) m)
 | [], S, _, _, h => by
   show S m=num (S m+0)
   rw [Int.add_zero,num_self (h m)]
 | u :: gs, S, hl, hs, h => by
   obtain ⟨ha,ht⟩:=List.pairwise_cons.1 hs;have ih:=rowSum_coef (zs:=zs) lt m gs (stepS zs t S u) (fun g hg=>hl g (by simp [hg])) ht (stepS_bd h);show rowSum zs t (stepS zs t S u) gs m=_
   rw [ih];by_cases hj:joinS zs t.m u.m=0
   · rw [shiftT_no hj,stepS,if_pos hj]
   · rw [shiftT_yes hj,stepS,if_neg hj];by_cases hm:joinM zs t.m u.m=m
     · rw [coef_hit (t:=⟨joinM zs t.m u.m,num (joinS zs t.m u.m * t.f * u.f)⟩) hm]
       have h0:coef (shiftT zs t gs) m=0:=coef_none fun x hx e=>by
        obtain ⟨v,hv,hj2,hxm,-⟩:=shiftT_mem hx;rw [hxm,←hm,join_ne hj,join_ne hj2] at e;have:=addM_inj (by rw [lt,hl v (by simp [hv])]) (by rw [lt,hl u (by simp)]) e;have hb:=ha v hv;rw [this,before_self] at hb;cases hb
       rw [h0,Int.add_zero,updS,if_pos hm.symm,num_num,hm,num_add]
     · rw [coef_miss (t:=⟨joinM zs t.m u.m,num (joinS zs t.m u.m * t.f * u.f)⟩) hm,updS,if_neg (fun e=>hm e.symm)]
def timesT (zs:List Int) (gs:List Tm) (out:List Tm) (fs:List Tm):List Tm:=fs.foldl (fun out t=>addT 1 out (shiftT zs t gs)) out
def sumS (zs:List Int) (gs:List Tm) (S:List Int→Int) (fs:List Tm):List Int→Int:=fs.foldl (fun S t=>rowSum zs t S gs) S
structure Good (ts:List Tm):Prop where
 srt:Srt ts
 len:∀t∈ts,t.m.length=8
 nz:∀t∈ts,1≤t.f∧t.f≤10006
theorem good_nil:Good []:=⟨List.Pairwise.nil,by simp,by simp⟩
theorem addM_length {m k:List Int} (h1:m.length=8) (h2:k.length=8):(addM m k).length=8:=by simp [addM,h1,h2]
theorem good_add {zs:List Int} {out gs:List Tm} {t:Tm} (h:Good out) (lt:t.m.length=8) (hl:∀g∈gs,g.m.length=8) (hs:Srt gs):Good (addT 1 out (shiftT zs t gs)):=by
 have l2:∀x∈shiftT zs t gs,x.m.length=8:=fun x hx=>by
  obtain ⟨u,hu,hj,hm,-⟩:=shiftT_mem hx;rw [hm,join_ne hj];exact addM_length lt (hl u hu)
 have hx:∀x,¬num x=0→1≤num x∧num x≤10006:=fun x h=>by have h1:=num_lo x;have h2:=num_hi x;omega
 exact ⟨addT_srt out _ h.len l2 h.srt (shiftT_srt lt gs hl hs),addT_all out _ h.len (fun g hg _ _=>l2 g hg) (fun f hf _ _=>h.len f hf),addT_all out _ h.nz (fun g _ x hn=>hx x hn) (fun f _ x hn=>hx x hn)⟩
theorem times_coef {zs:List Int} {gs:List Tm} (hl:∀g∈gs,g.m.length=8) (hs:Srt gs):∀(fs:List Tm) (out:List Tm) (S:List Int→Int),(∀t∈fs,t.m.length=8)→Good out→(∀m,S m=coef out m)→(∀m,sumS zs gs S fs m=coef (timesT zs gs out fs) m)∧Good (timesT zs gs out fs)
 | [],out,S,_,hg,h=>⟨h,hg⟩
 | t :: fs, out, S, lf, hg, h => by
   have lt:=lf t (by simp)
   have hb:∀m,0≤S m∧S m≤10006:=fun m=>by
    rw [h m];exact coef_bd fun u hu=>by have:=hg.nz u hu;omega
   have l2:∀x∈shiftT zs t gs,x.m.length=8:=fun x hx=>by
    obtain ⟨u,hu,hj,hm,-⟩:=shiftT_mem hx;rw [hm,join_ne hj];exact addM_length lt (hl u hu)
   refine times_coef hl hs fs _ _ (fun u hu=>lf u (by simp [hu])) (good_add hg lt hl hs) (fun m=>?_);show rowSum zs t S gs m=coef (addT 1 out (shiftT zs t gs)) m
   rw [rowSum_coef lt m gs S hl hs hb,coef_add out _ hg.len l2 hg.srt (shiftT_srt lt gs hl hs) (fun u hu=>by have:=hg.nz u hu;omega),h m,Int.one_mul]
end Go.Proofs.Ytikldofmpkidbaa
