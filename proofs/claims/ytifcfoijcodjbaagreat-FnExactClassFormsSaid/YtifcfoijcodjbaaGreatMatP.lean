
import Derived.Test.YtifcfoijcodjbaaGreatSortL
import Derived.Test.YtifcfoijcodjbaaGreatSumK
import Derived.Test.YtifcfoijcodjbaaGreatMap
import Derived.Test.YtifcfoijcodjbaaGreatMatD
import Derived.Test.YtifcfoijcodjbaaGreatRows3
import Derived.Test.YtifcfoijcodjbaaGreatIsAlg
namespace Go.Proofs.YtifcfoijcodjbaaGreat
set_option maxRecDepth 100000
open Go.RowKit Go.Deep
theorem compareMonomials_g {w : World} {m k : List Int} (hm : IsMono m) (hk : IsMono k) :
    Calls Tryz.prog 177 #[monoV m,monoV k] w fun e w'=>e=.returned (.int .i64 (cmpM m k))∧∃q os',w'=Go.Sort.grow (w.drewN q) os':=by
 unfold monoV
 go_enter Tryz.func177,Tryz.ntmps177
 go_wp2
 have o1:=(Own.new w 156 (mcells m).toArray).alloc (.cells (mcells k).toArray 156)
 have o2:=Own.new (w.alloc (.cells (mcells m).toArray 156)) 156 (mcells k).toArray
 have hb:∃os',(w.alloc (.cells (mcells m).toArray 156)).alloc (.cells (mcells k).toArray 156)=Go.Sort.grow w os':=⟨_,by rw [Go.Sort.alloc_eq_grow,Go.Sort.alloc_eq_grow,Go.Sort.grow_grow]⟩
 rw [sAl] at o2
 generalize (w.alloc (.cells (mcells m).toArray 156)).alloc (.cells (mcells k).toArray 156)=w0 at *
 obtain ⟨os',rfl⟩:=hb
 go_quiet ((go_at_call 210;exact Calls.quiet_of_same (Compare_c hm hk (o1.drewN _) (o2.drewN _))))
 go_wp2
 go_ret
 exact ⟨rfl,_,os',rfl⟩
theorem compareM8 {w : World} {p0 p1 p2 p3 p4 p5 p6 p7 q0 q1 q2 q3 q4 q5 q6 q7 v : Int} (hm : IsMono [p0, p1, p2, p3, p4, p5, p6, p7]) (hk : IsMono [q0, q1, q2, q3, q4, q5, q6, q7]) (hv : cmpM [p0, p1, p2, p3, p4, p5, p6, p7] [q0, q1, q2, q3, q4, q5, q6, q7] = v) :
    Calls Tryz.prog 177 #[.agg #[.int .u8 p0,.int .u8 p1,.int .u8 p2,.int .u8 p3,.int .u8 p4,.int .u8 p5,.int .u8 p6,.int .u8 p7],.agg #[.int .u8 q0,.int .u8 q1,.int .u8 q2,.int .u8 q3,.int .u8 q4,.int .u8 q5,.int .u8 q6,.int .u8 q7]] w fun e w'=>e=.returned (.int .i64 v)∧∃q os',w'=Go.Sort.grow (w.drewN q) os':=by
 have:=compareMonomials_g (w:=w) hm hk
 rw [hv] at this
 exact this
theorem closure_g {w : World} (x y : Tm) (hx : IsTm x) (hy : IsTm y) :
    Calls Tryz.prog 252 #[.agg (tcells x).toArray,.agg (tcells y).toArray] w fun e w'=>e=.returned (.int .i64 (cmpM x.m y.m))∧∃q os',w'=Go.Sort.grow (w.drewN q) os':=by
 obtain ⟨mx,fx⟩:=x
 obtain ⟨my,fy⟩:=y
 have hmx:IsMono mx:=hx.1
 have hmy:IsMono my:=hy.1
 obtain ⟨p0,p1,p2,p3,p4,p5,p6,p7,rfl⟩:=mono8 hmx
 obtain ⟨q0,q1,q2,q3,q4,q5,q6,q7,rfl⟩:=mono8 hmy
 obtain ⟨v,hv⟩:∃v,cmpM [p0,p1,p2,p3,p4,p5,p6,p7] [q0,q1,q2,q3,q4,q5,q6,q7]=v:=⟨_,rfl⟩
 have HV:=Lib.hid hv
 show Calls Tryz.prog 252 #[.agg #[.int .u8 p0,.int .u8 p1,.int .u8 p2,.int .u8 p3,.int .u8 p4,.int .u8 p5,.int .u8 p6,.int .u8 p7,.int .i64 fx],.agg #[.int .u8 q0,.int .u8 q1,.int .u8 q2,.int .u8 q3,.int .u8 q4,.int .u8 q5,.int .u8 q6,.int .u8 q7,.int .i64 fy]] w fun e w'=>e=.returned (.int .i64 (cmpM [p0,p1,p2,p3,p4,p5,p6,p7] [q0,q1,q2,q3,q4,q5,q6,q7]))∧∃q os',w'=Go.Sort.grow (w.drewN q) os'
 rw [hv]
 clear hv
 go_enter Tryz.func252,Tryz.ntmps252
 go_wp2_with fail
 have hg:∃os',(w.alloc (.cells #[.int .u8 p0,.int .u8 p1,.int .u8 p2,.int .u8 p3,.int .u8 p4,.int .u8 p5,.int .u8 p6,.int .u8 p7,.int .i64 fx] 158)).alloc (.cells #[.int .u8 q0,.int .u8 q1,.int .u8 q2,.int .u8 q3,.int .u8 q4,.int .u8 q5,.int .u8 q6,.int .u8 q7,.int .i64 fy] 158)=Go.Sort.grow w os':=⟨_,by rw [Go.Sort.alloc_eq_grow,Go.Sort.alloc_eq_grow,Go.Sort.grow_grow]⟩
 generalize (w.alloc (.cells #[.int .u8 p0,.int .u8 p1,.int .u8 p2,.int .u8 p3,.int .u8 p4,.int .u8 p5,.int .u8 p6,.int .u8 p7,.int .i64 fx] 158)).alloc (.cells #[.int .u8 q0,.int .u8 q1,.int .u8 q2,.int .u8 q3,.int .u8 q4,.int .u8 q5,.int .u8 q6,.int .u8 q7,.int .i64 fy] 158)=w0 at *
 refine (compareM8 hmx hmy HV.out).mono ?_
 rintro e w1 ⟨rfl,q,os',rfl⟩
 go_wp2_with fail
 go_ret
 obtain ⟨os,rfl⟩:=hg
 exact ⟨rfl,q,os++os',by rw [←Go.Sort.grow_grow];rfl⟩
abbrev TmS:={t:Tm // IsTm t}
theorem tm0_is:IsTm ⟨nul8,0⟩:=⟨⟨rfl,by decide⟩,by decide,by decide⟩
instance:Inhabited TmS:=⟨⟨⟨nul8,0⟩,tm0_is⟩⟩
def encT (x:TmS):List Value:=tcells x.1
def cfT (x y:TmS):Int:=cmpM x.1.m y.1.m
theorem ltT (x y:TmS):ltOf cfT x y=before x.1.m y.1.m:=by
 unfold ltOf before cfT
 rcases cmpM_range x.1.m y.1.m with h | h | h <;> rw [h] <;> decide
theorem swoT:Go.Sort.SWO (ltOf cfT) where
 irrefl x:=by rw [ltT];exact before_self _
 trans x y z h1 h2:=by rw [ltT] at *;exact before_trans h1 h2
 ntrans x y z h1 h2:=by
  rw [ltT] at *
  cases h:before x.1.m z.1.m with
  | false=>rfl
  | true =>
    have l1:x.1.m.length=y.1.m.length:=(by rw [x.2.1.1,y.2.1.1]);have l2:y.1.m.length=z.1.m.length:=by rw [y.2.1.1,z.2.1.1]
    cases g1:before y.1.m x.1.m with
    | false =>
      have e:=before_tri l1 h1 g1;rw [e] at h;rw [h] at h2;cases h2
    | true =>
      have:=before_trans g1 h;rw [this] at h2;cases h2
theorem Tryz.isAggT:∀w,(isAgg 158).run Tryz.prog w=.ok true w:=fun w=>by kernel_rfl
theorem Tryz.sizeT:∀w,(Go.sizeOf 158).run Tryz.prog w=.ok 9 w:=fun w=>by kernel_rfl
theorem cmpLaysT (blk off size:Nat) (w:World):CmpLays Tryz.prog 252 #[] encT 9 cfT blk off size w:=
 fun _ _ _ _ x y=>closure_g x.1 y.1 x.2 y.2
theorem tcells_one' (t:Tm):∀v∈tcells t,v.oneCell'=true:=by
 intro v hv
 simp only [tcells,mcells,List.mem_append,List.mem_map,List.mem_singleton] at hv
 rcases hv with ⟨x,_,rfl⟩ | rfl <;> rfl
theorem rcells_get:∀{ts:List Tm},(∀t∈ts,IsTm t)→∀{q r:Nat} {t:Tm},ts[q]? = some t→r<9→(rcells ts)[q * 9+r]? = (tcells t)[r]?
 | [],_,q,r,t,h,_=>by simp at h
 | u :: ts, hT, 0, r, t, h, hr => by
   simp only [List.getElem?_cons_zero,Option.some.injEq] at h;subst h;rw [rcells_cons,Nat.zero_mul,Nat.zero_add,List.getElem?_append_left (by rw [tcells_length (hT u (by simp))];exact hr)]
 | u :: ts, hT, q + 1, r, t, h, hr => by
   rw [List.getElem?_cons_succ] at h;have h9:=tcells_length (hT u (by simp));rw [rcells_cons,List.getElem?_append_right (by omega),h9,show (q+1) * 9+r - 9=q * 9+r by omega];exact rcells_get (fun t ht=>hT t (by simp [ht])) h hr
def tsOf (d:Array TmS):List Tm:=d.toList.map (·.1)
theorem tsOf_tm (d:Array TmS):∀t∈tsOf d,IsTm t:=by
 intro t ht
 simp only [tsOf,List.mem_map] at ht
 obtain ⟨x,_,rfl⟩:=ht
 exact x.2
theorem tsOf_get (d:Array TmS) {i:Nat} (h:i<d.size):(tsOf d)[i]? = some d[i]!.1:=by
 rw [getElem!_pos d i h,tsOf,List.getElem?_map,Array.getElem?_toList,Array.getElem?_eq_getElem h]
 rfl
theorem flat_rcells (d:Array TmS):Go.Sort.flatK encT 9 d=(rcells (tsOf d)).toArray:=by
 have hl:(rcells (tsOf d)).length=d.size * 9:=by rw [rcells_length (tsOf_tm d)];simp [tsOf]
 apply Array.ext_getElem?
 intro i
 by_cases hi:i<d.size * 9
 · have hs:(Go.Sort.flatK encT 9 d).size=d.size * 9:=(by simp);have h1:=Go.Sort.get_flatK encT 9 d i hi;rw [getElem!_pos _ i (by rw [hs];exact hi)] at h1;rw [Array.getElem?_eq_getElem (by rw [hs];exact hi),h1];have hq:i / 9<d.size:=(by omega);have hr:i % 9<9:=Nat.mod_lt _ (by omega);have h2:=rcells_get (tsOf_tm d) (tsOf_get d hq) hr;rw [show i / 9 * 9+i % 9=i by omega] at h2;have h9:=tcells_length (d[i / 9]!).2;rw [List.getElem?_toArray,h2,List.getElem?_eq_getElem (by omega),encT,getElem!_pos _ _ (by omega)]
 · rw [Array.getElem?_eq_none (by simp;omega),Array.getElem?_eq_none (by simp;omega)]
theorem tsOf_mk {ts:List Tm} (hT:∀t∈ts,IsTm t):∃d:Array TmS,tsOf d=ts∧d.size=ts.length:=by
 refine ⟨(ts.pmap (fun t h=>(⟨t,h⟩:TmS)) hT).toArray,?_,by simp⟩
 simp [tsOf,List.map_pmap]
theorem holdsT {w:World} {g _cap:Nat} {t:TypeId} {cur:Array Value} {d:Array TmS} (h:Own w g t cur) (hx:cur.toList.take (d.size * 9)=rcells (tsOf d)) (_hc:d.size * 9≤cur.size):Go.Sort.HoldsK encT 9 w g 0 d:=by
 unfold Go.Sort.HoldsK
 rw [flat_rcells]
 intro j hj
 refine ⟨?_,h.frozen _⟩
 rw [Nat.zero_add,h.cell j]
 have hl:(rcells (tsOf d)).length=d.size * 9:=by rw [rcells_length (tsOf_tm d)];simp [tsOf]
 have hj':j<d.size * 9:=by
  have:j<(rcells (tsOf d)).length:=(by simpa using hj);omega
 rw [getElem!_pos _ j hj]
 simp only [id,List.getElem_toArray]
 have h2:(rcells (tsOf d))[j]? = cur[j]? := by
  rw [←hx,List.getElem?_take_of_lt hj',Array.getElem?_toList]
 rw [←h2,List.getElem?_eq_getElem (by omega)]
theorem own_put {w : World} {g m : Nat} {t : TypeId} {cur : Array Value} {d : Array TmS} {os : Array Obj} (h : Own w g t cur) (hc : d.size * 9 ≤ cur.size) :
    ∃cur':Array Value,Own (sortWorldK encT 9 w g 0 m d os) g t cur'∧cur'.size=cur.size∧cur'.toList.take (d.size * 9)=rcells (tsOf d):=by
 have hl:(rcells (tsOf d)).length=d.size * 9:=by rw [rcells_length (tsOf_tm d)];simp [tsOf]
 refine ⟨Go.Sort.putCells id 0 (Go.Sort.flatK encT 9 d) cur,?_,by simp [Go.Sort.putCells],?_⟩
 · unfold Own sortWorldK Go.Sort.grow Go.Sort.putRowK Go.Sort.putRow Go.Sort.mapBlock Go.Sort.ahead;have hg:=h.lt;have h0:w.heap[g]? = some (.cells cur t (0,0)):=h;rw [Array.getElem?_append_left (by simpa using hg),Array.getElem?_modify,if_pos rfl,h0];rfl
 · rw [flat_rcells];apply List.ext_getElem?
   intro i;by_cases hi:i<d.size * 9
   · rw [List.getElem?_take_of_lt hi,Array.getElem?_toList];simp only [Go.Sort.putCells,Array.getElem?_mapIdx,List.size_toArray];rw [Array.getElem?_eq_getElem (by omega),Option.map_some,if_pos ⟨by omega,by omega⟩,Nat.sub_zero,List.getElem?_eq_getElem (by omega)];rw [getElem!_pos _ i (by simp;omega)];simp
   · rw [List.getElem?_eq_none (by simp;omega),List.getElem?_eq_none (by omega)]
theorem below_put {w:World} {B g m:Nat} {d:Array TmS} {os:Array Obj} (hB:B≤g) (hg:g<w.heap.size):Below B w (sortWorldK encT 9 w g 0 m d os):=by
 refine ⟨rfl,rfl,rfl,?_,fun k hk=>?_⟩
 · unfold sortWorldK Go.Sort.grow Go.Sort.putRowK Go.Sort.putRow Go.Sort.mapBlock Go.Sort.ahead;simp
 · unfold sortWorldK Go.Sort.grow Go.Sort.putRowK Go.Sort.putRow Go.Sort.mapBlock Go.Sort.ahead;have hs:k<w.heap.size:=(by omega);rw [Array.getElem?_append_left (by simpa using hs),Array.getElem?_modify,if_neg (by omega)]
set_option maxHeartbeats 1000000 in
theorem SortFunc_some {w : World} {B g n cap : Nat} {ts : List Tm} (h : OwnR w B (.slice (some ⟨g, 0, none⟩) n cap) ts) (hT : ∀ t ∈ ts, IsTm t) (hn : ts.length ≤ 1000000) :
    Calls Tryz.prog 251 #[.slice (some ⟨g,0,none⟩) n cap,.func (.func 252) #[] #[]] w fun e w'=>e=.returned (.tuple #[])∧∃ts',OwnR w' B (.slice (some ⟨g,0,none⟩) n cap) ts'∧ts'.Perm ts∧(∀t∈ts',IsTm t)∧(ts'.Pairwise fun s t=>before t.m s.m=false)∧Below B w w':=by
 obtain ⟨hl,h1⟩:=h
 rcases h1 with ⟨h0,_⟩ | ⟨g',cap',cur,hv,hB,hg,hc,hm,hs,hx⟩
 · cases h0
 · simp only [Value.slice.injEq,Option.some.injEq,Addr.mk.injEq,and_true] at hv;obtain ⟨rfl,rfl,rfl⟩:=hv;obtain ⟨d,rfl,hd⟩:=tsOf_mk hT;have hlt:(tsOf d).length=d.size:=(by simp [tsOf]);rw [hlt] at hx hn hc ⊢;have hOw:Own w g 158 cur:=hg;have hcs:d.size * 9≤cur.size:=(by rw [hs];exact Nat.mul_le_mul_right 9 hc);have hH:=holdsT (_cap:=cap) hOw hx hcs;have eg:∀args w,(callFunc 252 args).run Tryz.prog w=.ok (.enter 252 args) w:=enters_of Tryz.func252 (by kernel_rfl) rfl;have hcon:=AnyQ.slices_SortFunc Tryz.sortT 9 Tryz.isAggT Tryz.sizeT encT (fun x=>tcells_length x.2) (fun x v hv=>tcells_one' x.1 v hv) cfT swoT 252 #[] g 0 cap d w eg (cmpLaysT g 0 d.size w) hH hOw.lt (by omega)
   change Calls Tryz.prog 251 _ _ _ at hcon
   refine hcon.mono ?_;rintro e w' ⟨rfl,d',m,os,hp,hsd,rfl⟩;have hds:d'.size=d.size:=hp.1;obtain ⟨cur',hO',hsz,hx'⟩:=own_put (m:=m) (os:=os) hOw (by rw [hds];exact hcs);have hl':(tsOf d').length=d.size:=(by simp [tsOf,hds]);refine ⟨rfl,tsOf d',⟨?_,Or.inr ⟨g,cap,cur',by rw [hl'],hB,hO',by rw [hl'];exact hc,hm,by rw [hsz];exact hs,by rw [hl',←hds];exact hx'⟩⟩,?_,tsOf_tm d',?_,below_put hB hOw.lt⟩
   · rw [rcells_length (tsOf_tm d')]
   · have:=hp.2.2;rw [show d'.extract 0 d.size=d' by rw [←hds];simp,show d.extract 0 d.size=d by simp] at this;exact this.map _
   · rw [List.pairwise_iff_getElem];intro i j hi hj hij;rw [hl'] at hi hj;have:=hsd i j (Nat.zero_le _) hij hj;rw [ltT] at this;have e1:=tsOf_get d' (i:=i) (by omega);have e2:=tsOf_get d' (i:=j) (by omega);rw [List.getElem?_eq_getElem (by omega)] at e1 e2
     injection e1 with e1
     injection e2 with e2
     rw [e1,e2];exact this
theorem bitsLen0 (w:World):∃l:Int,Calls Tryz.prog 196 #[.int .u64 0] w fun e w'=>e=.returned (.int .i64 l)∧w'=w:=by
 have h:=Any.bits_Len (SlLaysF0.n15.bits (P:=Tryz.prog) { Tryz.sortT with }) 0 w (by omega) (by omega)
 exact ⟨_,h⟩
theorem insertion_nil (w:World) (cb:Value):Calls Tryz.prog 275 #[.slice none 0 0,.int .i64 0,.int .i64 0,cb] w fun e w'=>e=.returned (.tuple #[])∧w'=w:=by
 go_enter Tryz.func275,Tryz.ntmps275
 go_wp2
 refine wp_loop_rounds 1 ?_
 rw [rounds_succ]
 go_wp2
 go_end0
 exact ⟨rfl,rfl⟩
theorem pdq_nil (w:World) (l:Int) (cb:Value):Calls Tryz.prog 269 #[.slice none 0 0,.int .i64 0,.int .i64 0,.int .i64 l,cb] w fun e w'=>e=.returned (.tuple #[])∧w'=w:=by
 go_enter Tryz.func269,Tryz.ntmps269
 go_wp2_with fail
 refine wp_loop_rounds 1 ?_
 rw [rounds_succ]
 go_wp2_with fail
 refine (insertion_nil w cb).mono ?_
 rintro e w' ⟨rfl,rfl⟩
 go_wp2_with fail
 exact bodyPost_ret (results_none rfl _ _ _) rfl ⟨rfl,rfl⟩
theorem SortFunc_nil (w:World):Calls Tryz.prog 251 #[.slice none 0 0,.func (.func 252) #[] #[]] w fun e w'=>e=.returned (.tuple #[])∧w'=w:=by
 obtain ⟨l,hl⟩:=bitsLen0 w
 go_enter Tryz.func251,Tryz.ntmps251
 go_wp2_with fail
 refine hl.mono ?_
 rintro e w' ⟨rfl,rfl⟩
 go_wp2_with fail
 refine (pdq_nil _ _ _).mono ?_
 rintro e w' ⟨rfl,rfl⟩
 go_wp2_with fail
 go_end0
 exact ⟨rfl,rfl⟩
theorem SortFunc_c {w : World} {B : Nat} {v : Value} {ts : List Tm} (h : OwnR w B v ts) (hT : ∀ t ∈ ts, IsTm t) (hn : ts.length ≤ 1000000) :
    Calls Tryz.prog 251 #[v,.func (.func 252) #[] #[]] w fun e w'=>e=.returned (.tuple #[])∧∃ts',OwnR w' B v ts'∧ts'.Perm ts∧(∀t∈ts',IsTm t)∧(ts'.Pairwise fun s t=>before t.m s.m=false)∧Below B w w':=by
 rcases h.2 with ⟨rfl,h0⟩ | ⟨g,cap,cur,rfl,r⟩
 · obtain rfl:ts=[]:=List.length_eq_zero_iff.1 h0;exact (SortFunc_nil w).mono fun e w' ⟨he,hw⟩=>⟨he,[],by rw [hw];exact h,List.Perm.refl _,by simp,List.Pairwise.nil,by rw [hw];exact Below.refl _ _⟩
 · exact SortFunc_some h hT hn
open Go.RowKit Go.Deep Go.Maps
theorem nodup_le {α:Type} [BEq α] [LawfulBEq α]:∀{xs ys:List α},xs.Nodup→(∀x∈xs,x∈ys)→xs.length≤ys.length
 | [],_,_,_=>Nat.zero_le _
 | x :: xs, ys, h, hs => by
   obtain ⟨h0,h1⟩:=List.nodup_cons.1 h;have hx:=hs x (by simp);have h2:=nodup_le (xs:=xs) (ys:=ys.erase x) h1 (fun y hy=>(List.mem_erase_of_ne (fun e=>h0 (by rw [←e];exact hy))).2 (hs y (by simp [hy])));have h3:=List.length_erase_of_mem hx;have h4:=List.length_pos_of_mem hx;rw [List.length_cons];omega
theorem Part.has_ {S:List Int→Int} {G:List Tm} (hG:Part S (fun _=>false) G) {m:List Int} (hm:IsMono m) (h0:¬S m=0):∃u∈G,u.m=m:=by
 by_cases h:∃u∈G,u.m=m
 · exact h
 · have h1:=hG.coef m hm;rw [coef_none (fun t ht e=>h ⟨t,ht,e⟩),if_neg (by simp)] at h1;exact absurd h1.symm h0
theorem Part.room {S:List Int→Int} {left:Lit→Bool} {os G:List Tm} {m:List Int} (h:Part S left os) (hG:Part S (fun _=>false) G) (hm:IsMono m) (hl:left (kM m)=true) (h0:¬S m=0):os.length<400∧within m=true:=by
 obtain ⟨u,hu,rfl⟩:=hG.has_ hm h0
 refine ⟨?_,hG.win u hu⟩
 have h1:(u.m::os.map (·.m)).length≤(G.map (·.m)).length:=nodup_le (by
  rw [List.nodup_cons];refine ⟨fun hin=>?_,h.nd⟩;obtain ⟨t,ht,e⟩:=List.mem_map.1 hin
  exact h.fresh hm hl t ht e) (fun x hx=>by
  rw [List.mem_cons] at hx
  rcases hx with rfl | hx
  · exact List.mem_map.2 ⟨u,hu,rfl⟩
  · obtain ⟨t,ht,rfl⟩:=List.mem_map.1 hx;have hv:=h.val t ht;obtain ⟨v,hv1,hv2⟩:=hG.has_ (h.tm t ht).1 (by rw [←hv.1];exact hv.2)
    exact List.mem_map.2 ⟨v,hv1,hv2⟩)
 have h2:=hG.len
 rw [List.length_cons,List.length_map,List.length_map] at h1
 omega
theorem Part.nil_ {S : List Int → Int} {D : DataW Unit} (hat : ∀ m, IsMono m → D.atKey (kM m) (.lit (.int .i64 0)) = .lit (.int .i64 (S m))) : Part S (Maps.has D) [] := ⟨fun m hm => by
    show (0:Int)=_
    by_cases hh:Maps.has D (kM m)=true
    · rw [if_pos hh]
    · rw [if_neg hh];have:=hat m hm;rw [atKey_of_not_has (by simpa using hh)] at this;simp only [DataW.lit.injEq,Lit.int.injEq,true_and] at this
      exact this,by simp,by simp,by simp,by simp,by simp⟩
set_option maxHeartbeats 8000000 in
theorem terms_c {w : World} {b n : Nat} {S : List Int → Int} {G : List Tm} (h : MapIs w b n S) (hS : ∀ m, 0 ≤ S m ∧ S m ≤ 10006) (hG : Part S (fun _ => false) G) :
    Calls Tryz.prog 215 #[.map (some b)] w fun e w'=>∃v L,e=.returned v∧OwnR w' w.heap.size v L∧Hid (Srt L∧(∀t∈L,IsTm t)∧(∀t∈L,1≤t.f∧t.f≤10006)∧(∀t∈L,within t.m=true)∧L.length≤400∧∀m,IsMono m→coef L m=S m)∧Below w.heap.size w w':=by
 have hbw:=h.lt
 have HSB:=Lib.hid hS
 have HG:=Lib.hid hG
 clear hS hG
 obtain ⟨D,hown,hD,hat⟩:=h
 have HAT:=Lib.hid hat
 clear hat
 obtain ⟨ti,tz,hti,htz,hts,htb,htzs⟩:=Tryz.info_termA
 have HI:=Lib.hid hti
 have HZ:=Lib.hid htz
 have HS:=Lib.hid hts
 have HBt:=Lib.hid htb
 have HZs:=Lib.hid htzs
 clear hti htz hts htb htzs
 go_enter Tryz.func215,Tryz.ntmps215
 go_upto_region 2 with fail
 generalize hg4:w.heap.size=g4 at *
 go_wp2_with (first
  | (at_range;refine wpList_range_own _ rfl _ 164 rfl 156 2 Tryz.keyM Tryz.underlying164 _ b n D rfl hown ?_;intro w0 hrg0 hg0 hs1)
  | go_in)
 go_frame
 rw [hg4] at hrg0 hs1
 try rw [hg4]
 have hP0:Part S (Maps.has D) []:=Part.nil_ HAT.out
 have hb0:Below g4 w w0:=grown_below (by rw [←hg4];exact Below.refl _ _) hg0 (fun k e=>by cases e) (by omega)
 go_loopw [3] (fun y wr=>∃(left:Lit→Bool) (cnt:Nat) (v:Value) (os:List Tm),y=v∧wr.ranges Tryz.prog 156 (plainElem Tryz.prog 2) b g4 n D left cnt∧OwnForm wr (g4+1) v os∧Below g4 w wr∧Hid (Part S left os)) (fun _ wr=>wr.rangeLeft b g4)
 case atStart=>exact ⟨_,_,.slice none 0 0,[],rfl,hrg0,⟨World.ownsRow_nil _ _ _ _,by simp⟩,hb0,hP0⟩
 case round=>
  clear hrg0 hb0 hP0 hg0 hs1 hown;obtain ⟨left,cnt,v,os,rfl,hrg,hO,hb,hP⟩:=hrel;obtain ⟨nO,hnO⟩:∃nO,os.length=nO:=⟨_,rfl⟩;obtain ⟨va,vc,rfl,-⟩:=hO.r.terms hP.out.tm hnO;have HNO:=Lib.hid hnO
  go_wp2_with (first
   | (at_next;refine wpList_next_ranges (α:={m:List Int // IsMono m}) (β:=Int) _ rfl _ rfl 156 Tryz.keyM (plainElem Tryz.prog 2) (fun m=>.agg (mcells m.1).toArray) (Value.int .i64) (fun key kl hk=>by obtain ⟨m,hm,e,_⟩:=keyOf_M_inv hk;exact ⟨⟨m,hm⟩,e⟩) (fun v y hy=>by obtain ⟨c,e,_⟩:=plainElem_int_inv Tryz.underlying2 hy;exact ⟨c,e⟩) b g4 n D _ _ rfl hrg ?_ ?_)
   | go_in)
  · intro _ hl0;clear hnO;have hPP:=hP.out;have hl5:=hPP.len;go_wp2_with fail
    refine (SortFunc_c (ts:=os) hO.r hPP.tm (by omega)).mono ?_;rintro e w5 ⟨rfl,ts',hR',hperm,hT',hsrt,hb5⟩;replace hb:=hb.trans (hb5.mono (by omega));have HP:=Lib.hid hPP;have HL:=Lib.hid hl0;have HPM:=Lib.hid hperm;have HT2:=Lib.hid hT';have HSR:=Lib.hid hsrt;clear hPP hl0 hperm hT' hsrt hP hb5;go_wp2_with fail
    go_ret
    refine ⟨.slice va nO vc,ts',rfl,hR'.weaken (by omega),Lib.hid ⟨srt_of HSR.out HPM.out HP.out.nd HT2.out,HT2.out,fun t ht=>?_,fun t ht=>HP.out.win t (HPM.out.mem_iff.1 ht),by rw [HPM.out.length_eq];exact HP.out.len,fun m hm=>?_⟩,by rw [hg4];exact hb⟩
    · have h1:=HP.out.val t (HPM.out.mem_iff.1 ht);have h2:=HSB.out t.m;omega
    · rw [coef_perm HPM.out HP.out.nd,HP.out.coef m hm,HL.out (kM m)];rfl
  · intro m hm c kl y yp w1 cnt1 hkey hlk hRv hat hrg1 hlt hg1 hs1 hen
    obtain rfl:kl=kM m:=by
     have:=keyOf_M hm;rw [hkey] at this;exact Option.some.inj this
    have hc:c=S m:=by
     obtain ⟨c',e1,e2,_⟩:=plainElem_int_inv Tryz.underlying2 hRv;have h1:=hat (.lit (.int .i64 0));simp only [Prod.mk.injEq] at e2;rw [e2.1,HAT.out m hm] at h1;simp only [DataW.lit.injEq,Lit.int.injEq,true_and] at h1;simp only [Value.int.injEq,true_and] at e1;omega
    clear hkey hRv hat;replace hO:=hO.grownR hg1 (by omega);replace hb:=grown_below hb hg1 (fun k e=>by cases e;omega) (by have:=hb.size;omega);have hSm:=HSB.out m;have hPP:=hP.out;obtain ⟨p0,p1,p2,p3,p4,p5,p6,p7,rfl⟩:=mono8 hm;simp only [mcells,List.map_cons,List.map_nil] at hen;have hX:=Own.new w1 156 #[.int .u8 p0,.int .u8 p1,.int .u8 p2,.int .u8 p3,.int .u8 p4,.int .u8 p5,.int .u8 p6,.int .u8 p7];have hba:=bA1 w1 (.cells #[.int .u8 p0,.int .u8 p1,.int .u8 p2,.int .u8 p3,.int .u8 p4,.int .u8 p5,.int .u8 p6,.int .u8 p7] 156);have hrg2:=ranges_keep hrg1 hba;replace hO:=hO.keep hba;replace hb:=bT' hb hba (by have:=hb.size;omega);have HL:=Lib.hid hlk;have HM:=Lib.hid hrg.left_eq;clear hba hlk hrg hrg1 hg1 hs1 hnO;by_cases hc0:c=0
    · subst hc0;go_wp2_with fail
      go_roundw
      case rel=>exact ⟨_,cnt1,.slice va nO vc,os,rfl,hrg2,hO,hb,Lib.hid (hPP.skip hm HL.out hc.symm)⟩
      case measure=>rw [hrg2.left_eq,HM.out];exact hlt
    · have hcb:(c != 0)=true:=(by simpa using hc0);have hS0:¬S [p0,p1,p2,p3,p4,p5,p6,p7]=0:=(by rw [←hc];exact hc0);obtain ⟨hn4,hwi⟩:=hPP.room HG.out hm HL.out hS0;have HC:=Lib.hid hc;have HP:=Lib.hid hPP;have HW:=Lib.hid hwi;rw [HNO.out] at hn4;clear hc hPP hP hwi;have v0:=hX.cell 0;have v1:=hX.cell 1;have v2:=hX.cell 2;have v3:=hX.cell 3;have v4:=hX.cell 4;have v5:=hX.cell 5;have v6:=hX.cell 6;have v7:=hX.cell 7;go_upto_region 6 with fail
      generalize w1.alloc (.cells #[.int .u8 p0,.int .u8 p1,.int .u8 p2,.int .u8 p3,.int .u8 p4,.int .u8 p5,.int .u8 p6,.int .u8 p7] 156)=w2 at *;generalize hg5:w1.heap.size=g5 at *;have hOa:=(hO.keep (bA1 w2 (.cells #[.int .u8 p0,.int .u8 p1,.int .u8 p2,.int .u8 p3,.int .u8 p4,.int .u8 p5,.int .u8 p6,.int .u8 p7,.int .i64 c] 158))).1;have hba:=bT' hb (bA1 w2 (.cells #[.int .u8 p0,.int .u8 p1,.int .u8 p2,.int .u8 p3,.int .u8 p4,.int .u8 p5,.int .u8 p6,.int .u8 p7,.int .i64 c] 158)) (by have:=hb.size;omega);have hrg4:=ranges_keep hrg2 (bA1 w2 (.cells #[.int .u8 p0,.int .u8 p1,.int .u8 p2,.int .u8 p3,.int .u8 p4,.int .u8 p5,.int .u8 p6,.int .u8 p7,.int .i64 c] 158))
      have hnews:∀z u,([Value.int .u8 p0,.int .u8 p1,.int .u8 p2,.int .u8 p3,.int .u8 p4,.int .u8 p5,.int .u8 p6,.int .u8 p7,.int .i64 c]:List Value)[z]? = some u→(w2.alloc (.cells #[.int .u8 p0,.int .u8 p1,.int .u8 p2,.int .u8 p3,.int .u8 p4,.int .u8 p5,.int .u8 p6,.int .u8 p7,.int .i64 c] 158)).cell? ((⟨w2.heap.size,0,none⟩:Addr).add z)=some u:=fun z u hu=>by
       rw [Addr.add_mid];exact (Own.new w2 158 #[.int .u8 p0,.int .u8 p1,.int .u8 p2,.int .u8 p3,.int .u8 p4,.int .u8 p5,.int .u8 p6,.int .u8 p7,.int .i64 c]).range z u hu
      have hone:∀u∈([Value.int .u8 p0,.int .u8 p1,.int .u8 p2,.int .u8 p3,.int .u8 p4,.int .u8 p5,.int .u8 p6,.int .u8 p7,.int .i64 c]:List Value),u.oneCell'=true:=(by simp [Value.oneCell']);have HN:=Lib.hid hnews;have HO:=Lib.hid hone;have hrl:=hrg2.lt;clear hnews hone hb hrg2 hO
      go_wp2_with (first
       | (refine wpList_append_own_wide _ rfl (.tmp 15) (.tmp 19) 37 rfl (g4 + 1) 158 ti tz 9 16 Tryz.underlying37 HI.out HZ.out HS.out HBt.out HZs.out (by omega) (.slice va nO vc) _ _ rfl hOa ⟨w2.heap.size, 0, none⟩ 1 1 [Value.int .u8 p0, .int .u8 p1, .int .u8 p2, .int .u8 p3, .int .u8 p4, .int .u8 p5, .int .u8 p6, .int .u8 p7, .int .i64 c] rfl rfl HN.out HO.out (by have := HNO.out; simp only [maxLen]; omega) (by have := HNO.out; omega) (by rw [sAl]; omega) (fun v' w' h2 h3 h4 => ?_)
          obtain ⟨gg,vk,cp,rfl⟩:∃gg vk cp,v'=.slice gg vk cp:=by
           rcases h2.2 with ⟨h0,_⟩ | ⟨g,cap,cur,hv,_⟩
           · exact ⟨_,_,_,h0⟩
           · exact ⟨_,_,_,hv⟩
          have hb7:=grown_below hba h3 (fun q e=>by have:=(hOa.lt q e).1;omega) (by have:=hba.size;omega);have hrg7:=hrg4.kept h3 (fun e=>by have:=(hOa.lt _ e.symm).1;omega) (fun e=>by have:=(hOa.lt _ e.symm).1;omega);have H2:=Lib.hid h2;have H4:=Lib.hid h4
          clear h2 h3 h4 hOa hba hrg4 HN HO v0 v1 v2 v3 v4 v5 v6 v7))
      go_roundw
      case rel=>
       refine ⟨_,cnt1,.slice gg vk cp,os++[⟨[p0,p1,p2,p3,p4,p5,p6,p7],c⟩],rfl,hrg7,OwnForm.of H2.out (by simp) (by rw [rcells_append];rfl) ⟨fun e=>absurd (H4.out.1 e).2 (by omega),fun e=>by omega⟩,hb7,Lib.hid ?_⟩;rw [HC.out];exact HP.out.put hm HL.out hS0 hSm HW.out (by rw [HNO.out];exact hn4)
      case measure=>rw [hrg7.left_eq,HM.out];exact hlt
set_option maxHeartbeats 8000000 in
theorem form_c {w : World} {b n : Nat} {S : List Int → Int} (h : MapIs w b n S) (_hn : n ≤ 2000000) (hS : ∀ m, 0 ≤ S m ∧ S m ≤ 10006) :
    Calls Tryz.prog 188 #[.map (some b)] w fun e w'=>FormOf w S e w'∧Below w.heap.size w w':=by
 have hbw:=h.lt
 have HSB:=Lib.hid hS
 have HM0:=Lib.hid h
 clear hS
 obtain ⟨D,hown,hD,hat⟩:=h.keep (bA1 w (.cells #[.slice none 0 0] 39))
 have HAT:=Lib.hid hat
 clear hat h
 have hR:=Own.new w 39 #[.slice none 0 0]
 have hb:=bA1 w (.cells #[.slice none 0 0] 39)
 have hs0:(w.alloc (.cells #[.slice none 0 0] 39)).heap.size=w.heap.size+1:=by rw [sAl]
 go_enter Tryz.func188,Tryz.ntmps188
 go_upto_region 2 with fail
 generalize w.alloc (.cells #[.slice none 0 0] 39)=wa at *
 generalize hg4:w.heap.size+1=g4 at *
 go_wp2_with (first
  | (at_range;refine wpList_range_own _ rfl _ 164 rfl 156 2 Tryz.keyM Tryz.underlying164 _ b n D rfl hown ?_;intro w0 hrg0 hg0 hs1)
  | go_in)
 go_frame
 rw [hs0] at hrg0 hs1
 try rw [hs0]
 have hP0:Part S (Maps.has D) []:=Part.nil_ HAT.out
 have hb0:Below w.heap.size w w0:=grown_below hb hg0 (fun k e=>by cases e) hb.size
 have hR0:=hR.grown hg0 (by simp)
 clear hb hR
 go_loopw [4] (fun y wr=>∃(left:Lit→Bool) (cnt k:Nat) (os:List Tm),y=.int .i64 k∧wr.ranges Tryz.prog 156 (plainElem Tryz.prog 2) b g4 n D left cnt∧Own wr w.heap.size 39 #[.slice none 0 0]∧Below w.heap.size w wr∧Hid (os.length=k)∧Hid (Part S left os)) (fun _ wr=>wr.rangeLeft b g4)
 case atStart=>exact ⟨_,_,0,[],rfl,hrg0,hR0,hb0,Lib.hid rfl,hP0⟩
 case round=>
  clear hrg0 hR0 hb0 hP0 hg0 hs1 hown;obtain ⟨left,cnt,nO,os,rfl,hrg,hR,hb,HNO,hP⟩:=hrel;have hnO4:nO≤400:=by have:=hP.out.len;have:=HNO.out;omega
  go_wp2_with (first
   | (at_next;refine wpList_next_ranges (α:={m:List Int // IsMono m}) (β:=Int) _ rfl _ rfl 156 Tryz.keyM (plainElem Tryz.prog 2) (fun m=>.agg (mcells m.1).toArray) (Value.int .i64) (fun key kl hk=>by obtain ⟨m,hm,e,_⟩:=keyOf_M_inv hk;exact ⟨⟨m,hm⟩,e⟩) (fun v y hy=>by obtain ⟨c,e,_⟩:=plainElem_int_inv Tryz.underlying2 hy;exact ⟨c,e⟩) b g4 n D _ _ rfl hrg ?_ ?_)
   | go_in)
  · intro _ hl0;obtain rfl:left=fun _=>false:=funext hl0;have HP:=Lib.hid hP.out;clear hP hl0 hrg;go_wp2_with fail
    refine (terms_c (HM0.out.keep hb) HSB.out HP.out).mono ?_;rintro e w5 ⟨v5,L,rfl,hR',HL,hb5⟩;obtain ⟨va,nn,vc,rfl⟩:=hR'.isSlice;have hlw:=hb.size;have hRl:=hR.lt;replace hR:=hR.keep hb5 hR.lt;replace hb:=bT' hb hb5 hb.size;clear hb5;have cR:=hR.cell 0;have fR:=hR.frozen 0;go_wp2_with fail
    have q:=hR.set 0 (.slice va nn vc);refine bodyPost_ret (results_row2 rfl _ _ w.heap.size 39 #[.slice va nn vc] (0,0) _ rfl q Tryz.underlying39 rfl Tryz.info_form) rfl ⟨Or.inl ⟨.slice va nn vc,L,rfl,(hR'.set (p:=⟨w.heap.size,0,none⟩) (by dsimp only;omega) _).weaken hlw,HL.out⟩,hb.setCell (p:=⟨w.heap.size,0,none⟩) (Nat.le_refl _) _⟩
  · intro m hm c kl y yp w1 cnt1 hkey hlk hRv hat hrg1 hlt hg1 hs1 hen
    obtain rfl:kl=kM m:=by
     have:=keyOf_M hm;rw [hkey] at this;exact Option.some.inj this
    have hc:c=S m:=by
     obtain ⟨c',e1,e2,_⟩:=plainElem_int_inv Tryz.underlying2 hRv;have h1:=hat (.lit (.int .i64 0));simp only [Prod.mk.injEq] at e2;rw [e2.1,HAT.out m hm] at h1;simp only [DataW.lit.injEq,Lit.int.injEq,true_and] at h1;simp only [Value.int.injEq,true_and] at e1;omega
    clear hkey hRv hat;replace hR:=hR.grown hg1 (by simp only [ne_eq,Option.some.injEq];omega);replace hb:=grown_below hb hg1 (fun k e=>by cases e;omega) hb.size;have hPP:=hP.out;have hSm:=HSB.out m;obtain ⟨p0,p1,p2,p3,p4,p5,p6,p7,rfl⟩:=mono8 hm;simp only [mcells,List.map_cons,List.map_nil] at hen;have hX:=Own.new w1 156 #[.int .u8 p0,.int .u8 p1,.int .u8 p2,.int .u8 p3,.int .u8 p4,.int .u8 p5,.int .u8 p6,.int .u8 p7];have hba:=bA1 w1 (.cells #[.int .u8 p0,.int .u8 p1,.int .u8 p2,.int .u8 p3,.int .u8 p4,.int .u8 p5,.int .u8 p6,.int .u8 p7] 156);have hrg2:=ranges_keep hrg1 hba;replace hR:=hR.alloc (.cells #[.int .u8 p0,.int .u8 p1,.int .u8 p2,.int .u8 p3,.int .u8 p4,.int .u8 p5,.int .u8 p6,.int .u8 p7] 156);replace hb:=bT' hb hba hb.size;have HL:=Lib.hid hlk;have HM:=Lib.hid hrg.left_eq;clear hba hlk hrg hrg1 hg1 hs1;by_cases hc0:c=0
    · subst hc0;go_wp2_with fail
      go_roundw
      case rel=>exact ⟨_,cnt1,nO,os,rfl,hrg2,hR,hb,HNO,Lib.hid (hPP.skip hm HL.out hc.symm)⟩
      case measure=>rw [hrg2.left_eq,HM.out];exact hlt
    · have hcb:(c==0)=false:=(by simpa using hc0);have hS0:¬S [p0,p1,p2,p3,p4,p5,p6,p7]=0:=(by rw [←hc];exact hc0);have HP:=Lib.hid hPP;clear hc hPP hP;have v0:=hX.cell 0;have v1:=hX.cell 1;have v2:=hX.cell 2;have v3:=hX.cell 3;have v4:=hX.cell 4;have v5:=hX.cell 5;have v6:=hX.cell 6;have v7:=hX.cell 7
      cases hwi:within [p0,p1,p2,p3,p4,p5,p6,p7] with
      | false =>
        have HW:=Lib.hid hwi;clear hwi;go_wp2_with fail
        clear v0 v1 v2 v3 v4 v5 v6 v7;generalize w1.alloc (.cells #[.int .u8 p0,.int .u8 p1,.int .u8 p2,.int .u8 p3,.int .u8 p4,.int .u8 p5,.int .u8 p6,.int .u8 p7] 156)=wn at *;refine (withinP8 hm HW.out).mono ?_;rintro e w2 ⟨rfl,hb2⟩;replace hR:=hR.keep hb2 hR.lt;replace hb:=bT' hb hb2 hb.size;have cR:=hR.cell 0;have fR:=hR.frozen 0;go_wp2_with fail
        have q:=hR.set 0 (.slice none 0 0);exact bodyPost_ret (results_row2 rfl _ _ w.heap.size 39 #[.slice none 0 0] (0,0) _ rfl q Tryz.underlying39 rfl Tryz.info_form) rfl ⟨Or.inr ⟨rfl,Or.inl ⟨[p0,p1,p2,p3,p4,p5,p6,p7],hm,hS0,HW.out⟩⟩,hb.setCell (p:=⟨w.heap.size,0,none⟩) (Nat.le_refl _) _⟩
      | true =>
        have HW:=Lib.hid hwi;clear hwi;go_wp2_with fail
        clear v0 v1 v2 v3 v4 v5 v6 v7;generalize w1.alloc (.cells #[.int .u8 p0,.int .u8 p1,.int .u8 p2,.int .u8 p3,.int .u8 p4,.int .u8 p5,.int .u8 p6,.int .u8 p7] 156)=wn at *;refine (withinP8 hm HW.out).mono ?_;rintro e w2 ⟨rfl,hb2⟩;replace hR:=hR.keep hb2 hR.lt;have hrg3:=ranges_keep hrg2 hb2;replace hb:=bT' hb hb2 hb.size;clear hrg2 hb2;by_cases h400:nO=400
        · have h4b:((nO:Int)==400)=true:=(by rw [h400];rfl);have cR:=hR.cell 0;have fR:=hR.frozen 0;go_wp2_with fail
          have q:=hR.set 0 (.slice none 0 0);refine bodyPost_ret (results_row2 rfl _ _ w.heap.size 39 #[.slice none 0 0] (0,0) _ rfl q Tryz.underlying39 rfl Tryz.info_form) rfl ⟨Or.inr ⟨rfl,Or.inr ⟨[p0,p1,p2,p3,p4,p5,p6,p7]::os.map (·.m),?_,?_,?_⟩⟩,hb.setCell (p:=⟨w.heap.size,0,none⟩) (Nat.le_refl _) _⟩
          · rw [List.nodup_cons];refine ⟨fun hin=>?_,HP.out.nd⟩;obtain ⟨t,ht,e⟩:=List.mem_map.1 hin;exact HP.out.fresh hm HL.out t ht e
          · rw [List.length_cons,List.length_map,HNO.out];omega
          · intro k hk;rw [List.mem_cons] at hk
            rcases hk with rfl | hk
            · exact ⟨hm,hS0⟩
            · obtain ⟨t,ht,rfl⟩:=List.mem_map.1 hk;exact ⟨(HP.out.tm t ht).1,by have:=HP.out.val t ht;rw [←this.1];exact this.2⟩
        · have h4b:((nO:Int)==400)=false:=(by simp;omega);go_wp2_with fail
          go_roundw
          case rel=>
           exact ⟨_,cnt1,nO+1,os++[⟨[p0,p1,p2,p3,p4,p5,p6,p7],S [p0,p1,p2,p3,p4,p5,p6,p7]⟩],by simp,hrg3,hR,hb,Lib.hid (by rw [List.length_append,HNO.out];rfl),Lib.hid (HP.out.put hm HL.out hS0 hSm HW.out (by rw [HNO.out];omega))⟩
          case measure=>rw [hrg3.left_eq,HM.out];exact hlt
open Go.RowKit Go.Deep
theorem coef_nz3 {ts:List Tm} {m:List Int} (h:¬coef ts m=0):∃t∈ts,t.m=m:=by
 by_cases h1:∃t∈ts,t.m=m
 · exact h1
 · exact absurd (coef_none fun t ht e=>h1 ⟨t,ht,e⟩) h
theorem len_nodup3 {α:Type} [DecidableEq α]:∀{K l:List α},K.Nodup→(∀x∈K,x∈l)→K.length≤l.length
 | [],_,_,_=>Nat.zero_le _
 | x :: K, l, hn, h => by
   rw [List.nodup_cons] at hn;have hx:=h x (by simp);have h1:=len_nodup3 (K:=K) (l:=l.erase x) hn.2 (fun y hy=>(List.mem_erase_of_ne (fun e=>hn.1 (by rw [←e];exact hy))).2 (h y (by simp [hy])));rw [List.length_erase_of_mem hx] at h1;have:=List.length_pos_of_mem hx;rw [List.length_cons];omega
theorem srt_len {ts:List Tm} {V:List (List Int)} (hs:Srt ts) (h:∀t∈ts,t.m∈V):ts.length≤V.length:=by
 have hn:(ts.map (·.m)).Nodup:=by
  rw [List.Nodup,List.pairwise_map];refine hs.imp fun hb e=>?_;rw [e,before_self] at hb;cases hb
 have:=len_nodup3 hn (l:=V) (fun x hx=>by
  obtain ⟨t,ht,rfl⟩:=List.mem_map.1 hx
  exact h t ht)
 rwa [List.length_map] at this
theorem FormOf.told3 {w w' : World} {S : List Int → Int} {e : Ending} {T : List Tm} (h : FormOf w S e w') (hg : Good T) (ht : ∀ x ∈ T, IsTm x) (hw : ∀ x ∈ T, within x.m = true) (hl : T.length ≤ 400) (hc : ∀ m, S m = coef T m) :
    ∃v,e=.returned (.tuple #[.agg #[v],.int .i64 0])∧OwnR w' w.heap.size v T:=by
 rcases h with ⟨v,L,rfl,hO,hs,hT,hF,-,-,hco⟩ | ⟨-,hbad⟩
 · have hLR:L=T:=srt_ext L _ hs hg.srt (fun t h=>(hT t h).1) (fun x hx=>(ht x hx).1) (fun t h=>by have:=hF t h;omega) (fun t h=>by have:=hg.nz t h;omega) (fun m hm=>by rw [hco m hm,hc m]);subst hLR;exact ⟨v,rfl,hO⟩
 · exfalso
   rcases hbad with ⟨m,hm,hne,hw2⟩ | ⟨K,hK,h4,hk⟩
   · rw [hc m] at hne;obtain ⟨t,ht',rfl⟩:=coef_nz3 hne;rw [hw t ht'] at hw2;cases hw2
   · have := len_nodup3 hK (l := T.map (·.m)) (fun m hm => by
       have h:=(hk m hm).2;rw [hc m] at h;obtain ⟨t,ht',rfl⟩:=coef_nz3 h
       exact List.mem_map.2 ⟨t,ht',rfl⟩)
     rw [List.length_map] at this;omega
theorem monoOk_within {zs m:List Int} (hm:IsMono m) (h:monoOk zs m=true):within m=true:=by
 rw [within,List.all_eq_true]
 intro x hx
 have:=ok_in hm h x hx
 simpa using this.2
def dRow (zs:List Int) (ims:List (List Tm)) (V:List (List Int)) (u:List Int):List Int:=rowT V (diffT zs ims [] [⟨u,1⟩])
def flat3 (zs:List Int) (ims:List (List Tm)) (V U:List (List Int)):List Int:=U.flatMap (dRow zs ims V)
theorem flat3_len {zs:List Int} {ims:List (List Tm)} {V:List (List Int)}:∀{U:List (List Int)},(flat3 zs ims V U).length=U.length * V.length
 | []=>by simp [flat3]
 | u :: U => by
   have ih:=flat3_len (zs:=zs) (ims:=ims) (V:=V) (U:=U);rw [flat3] at ih ⊢;rw [List.flatMap_cons,List.length_append,ih,dRow,rowT_len,List.length_cons,Nat.succ_mul];omega
theorem flat3_step {zs:List Int} {ims:List (List Tm)} {V U:List (List Int)} {k:Nat} {u:List Int} (h:U[k]? = some u):flat3 zs ims V (U.take (k+1))=flat3 zs ims V (U.take k)++dRow zs ims V u:=by
 rw [flat3,flat3,List.take_add_one,h,Option.toList_some,List.flatMap_append]
 simp
def numbers3 (zs:List Int) (ims:List (List Tm)) (V U:List (List Int)) (k:Nat):List Int:=flat3 zs ims V (U.take k)++List.replicate ((U.length - k) * V.length) 0
theorem rowT_nil (V:List (List Int)):rowT V []=List.replicate V.length 0:=by
 rw [rowT,List.eq_replicate_iff]
 refine ⟨by simp,fun x hx=>?_⟩
 obtain ⟨m,_,rfl⟩:=List.mem_map.1 hx
 rfl
theorem numbers3_split {zs:List Int} {ims:List (List Tm)} {V U:List (List Int)} {k:Nat} (h:k<U.length):numbers3 zs ims V U k=flat3 zs ims V (U.take k)++rowT V []++List.replicate ((U.length - (k+1)) * V.length) 0:=by
 rw [numbers3,rowT_nil,List.append_assoc,List.replicate_append_replicate,show V.length+(U.length - (k+1)) * V.length=(U.length - k) * V.length by
  rw [show U.length - k=(U.length - (k+1))+1 by omega,Nat.succ_mul];omega]
theorem numbers3_step {zs:List Int} {ims:List (List Tm)} {V U:List (List Int)} {k:Nat} {u:List Int} (h:U[k]? = some u):flat3 zs ims V (U.take k)++dRow zs ims V u++List.replicate ((U.length - (k+1)) * V.length) 0=numbers3 zs ims V U (k+1):=by
 rw [numbers3,flat3_step h]
theorem diff_facts {zs : List Int} {ims : List (List Tm)} (hA : isAlg zs ims = true) (h : AlgOk zs ims) (hz : ∀ z ∈ zs, 1 ≤ z) {n : Nat} (hn : n ≤ 40) (hc : cnt zs (n + 1) ≤ 400) {u : List Int} (hu : u ∈ ext [] (mons zs n)) (hm : IsMono u) :
    monoOk zs u=true∧(∀x∈diffT zs ims [] [⟨u,1⟩],IsTm x)∧Good (diffT zs ims [] [⟨u,1⟩])∧(∀x∈diffT zs ims [] [⟨u,1⟩],x.m∈ext [] (mons zs (n+1)))∧(∀x∈diffT zs ims [] [⟨u,1⟩],within x.m=true)∧(diffT zs ims [] [⟨u,1⟩]).length≤400∧∀m,diffS zs ims zeroL [⟨u,1⟩] m=coef (diffT zs ims [] [⟨u,1⟩]) m:=by
 obtain ⟨ok,hw⟩:=ext_ok h.h8 hz hu
 have ht:IsTm ⟨u,1⟩:=⟨hm,by dsimp only;omega,by dsimp only;omega⟩
 have one:∀t∈[(⟨u,1⟩:Tm)],t=⟨u,1⟩:=fun t h=>by simpa using h
 have hs:=h.diff [⟨u,1⟩] [] 0 (fun t h=>by rw [one t h];exact ht) (fun t h=>by rw [one t h];exact ok) sum9_nil
 have hmem:=diff_mem hA h hz ht ok hw hn
 have hco:=(diff_coef h.ims h.ln h.h8 [⟨u,1⟩] [] zeroL (fun t h=>by rw [one t h];exact hm) (fun t h=>by rw [one t h];exact ok) (fun _=>rfl) good_nil).1
 refine ⟨ok,hs.tm,hs.good,hmem,fun x hx=>monoOk_within (hs.tm x hx).1 (ext_ok h.h8 hz (hmem x hx)).1,?_,hco⟩
 have:=srt_len hs.good.srt hmem
 rw [ext_len] at this
 rw [cnt] at hc
 omega
set_option maxHeartbeats 4000000 in
theorem columnsOf_c {w : World} {da : Option Addr} {dn : Nat} {zs : List Int} {a : Option Addr} {n : Nat} {x : Int} (dc c : Nat) (hd : Ints w da dn zs) (hdn : dn ≤ 1048576) :
    Calls Tryz.prog 61 #[.agg #[.slice da dn dc,.slice a n c],.int .i64 x] w fun e w'=>∃ra rn rc,e=.returned (.slice ra rn rc)∧OwnM w' w.heap.size w'.heap.size ra rn (moV zs x)∧Below w.heap.size w w':=by
 have hb:=bA1 w (.cells #[.slice da dn dc,.slice a n c] 35)
 have HD:=Lib.hid (hd.keep hb)
 have hs:=Lib.hid hb.size
 clear hd
 go_enter Tryz.func61,Tryz.ntmps61
 go_wp2_with fail
 refine (MonomialsOf_c dc x HD.out hdn).mono ?_
 rintro e w1 ⟨ra,rn,rc,rfl,hM,hb1⟩
 have hM1:=hM.weaken hs.out (Nat.le_refl _)
 have hb2:=bTn hb hb1
 clear hM hb hb1
 go_wp2_with fail
 go_ret
 exact ⟨ra,rn,rc,rfl,hM1,hb2⟩
end Go.Proofs.YtifcfoijcodjbaaGreat
