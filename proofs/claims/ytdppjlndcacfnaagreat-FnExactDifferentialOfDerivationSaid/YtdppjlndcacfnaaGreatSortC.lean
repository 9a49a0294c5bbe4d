
import Derived.Test.YtdppjlndcacfnaaGreatSortL
import Derived.Test.YtdppjlndcacfnaaGreatResult
import Derived.Test.YtdppjlndcacfnaaGreatAddM
namespace Go.Proofs.YtdppjlndcacfnaaGreat
set_option maxRecDepth 100000
open Go.RowKit Go.Deep
theorem compareMonomials_g {w : World} {m k : List Int} (hm : IsMono m) (hk : IsMono k) :
    Calls Tryz.prog 123 #[monoV m,monoV k] w fun e w'=>e=.returned (.int .i64 (cmpM m k))∧∃q os',w'=Go.Sort.grow (w.drewN q) os':=by
 unfold monoV
 go_enter Tryz.func123,Tryz.ntmps123
 go_wp2
 have o1:=(Own.new w 92 (mcells m).toArray).alloc (.cells (mcells k).toArray 92)
 have o2:=Own.new (w.alloc (.cells (mcells m).toArray 92)) 92 (mcells k).toArray
 have hb:∃os',(w.alloc (.cells (mcells m).toArray 92)).alloc (.cells (mcells k).toArray 92)=Go.Sort.grow w os':=⟨_,by rw [Go.Sort.alloc_eq_grow,Go.Sort.alloc_eq_grow,Go.Sort.grow_grow]⟩
 rw [sAl] at o2
 generalize (w.alloc (.cells (mcells m).toArray 92)).alloc (.cells (mcells k).toArray 92)=w0 at *
 obtain ⟨os',rfl⟩:=hb
 go_quiet ((go_at_call 136;exact Calls.quiet_of_same (Compare_c hm hk (o1.drewN _) (o2.drewN _))))
 go_wp2
 go_ret
 exact ⟨rfl,_,os',rfl⟩
theorem compareM8 {w : World} {p0 p1 p2 p3 p4 p5 p6 p7 q0 q1 q2 q3 q4 q5 q6 q7 v : Int} (hm : IsMono [p0, p1, p2, p3, p4, p5, p6, p7]) (hk : IsMono [q0, q1, q2, q3, q4, q5, q6, q7]) (hv : cmpM [p0, p1, p2, p3, p4, p5, p6, p7] [q0, q1, q2, q3, q4, q5, q6, q7] = v) :
    Calls Tryz.prog 123 #[.agg #[.int .u8 p0,.int .u8 p1,.int .u8 p2,.int .u8 p3,.int .u8 p4,.int .u8 p5,.int .u8 p6,.int .u8 p7],.agg #[.int .u8 q0,.int .u8 q1,.int .u8 q2,.int .u8 q3,.int .u8 q4,.int .u8 q5,.int .u8 q6,.int .u8 q7]] w fun e w'=>e=.returned (.int .i64 v)∧∃q os',w'=Go.Sort.grow (w.drewN q) os':=by
 have:=compareMonomials_g (w:=w) hm hk
 rw [hv] at this
 exact this
theorem closure_g {w : World} (x y : Tm) (hx : IsTm x) (hy : IsTm y) :
    Calls Tryz.prog 118 #[.agg (tcells x).toArray,.agg (tcells y).toArray] w fun e w'=>e=.returned (.int .i64 (cmpM x.m y.m))∧∃q os',w'=Go.Sort.grow (w.drewN q) os':=by
 obtain ⟨mx,fx⟩:=x
 obtain ⟨my,fy⟩:=y
 have hmx:IsMono mx:=hx.1
 have hmy:IsMono my:=hy.1
 obtain ⟨p0,p1,p2,p3,p4,p5,p6,p7,rfl⟩:=mono8 hmx
 obtain ⟨q0,q1,q2,q3,q4,q5,q6,q7,rfl⟩:=mono8 hmy
 obtain ⟨v,hv⟩:∃v,cmpM [p0,p1,p2,p3,p4,p5,p6,p7] [q0,q1,q2,q3,q4,q5,q6,q7]=v:=⟨_,rfl⟩
 have HV:=Lib.hid hv
 show Calls Tryz.prog 118 #[.agg #[.int .u8 p0,.int .u8 p1,.int .u8 p2,.int .u8 p3,.int .u8 p4,.int .u8 p5,.int .u8 p6,.int .u8 p7,.int .i64 fx],.agg #[.int .u8 q0,.int .u8 q1,.int .u8 q2,.int .u8 q3,.int .u8 q4,.int .u8 q5,.int .u8 q6,.int .u8 q7,.int .i64 fy]] w fun e w'=>e=.returned (.int .i64 (cmpM [p0,p1,p2,p3,p4,p5,p6,p7] [q0,q1,q2,q3,q4,q5,q6,q7]))∧∃q os',w'=Go.Sort.grow (w.drewN q) os'
 rw [hv]
 clear hv
 go_enter Tryz.func118,Tryz.ntmps118
 go_wp2_with fail
 have hg:∃os',(w.alloc (.cells #[.int .u8 p0,.int .u8 p1,.int .u8 p2,.int .u8 p3,.int .u8 p4,.int .u8 p5,.int .u8 p6,.int .u8 p7,.int .i64 fx] 94)).alloc (.cells #[.int .u8 q0,.int .u8 q1,.int .u8 q2,.int .u8 q3,.int .u8 q4,.int .u8 q5,.int .u8 q6,.int .u8 q7,.int .i64 fy] 94)=Go.Sort.grow w os':=⟨_,by rw [Go.Sort.alloc_eq_grow,Go.Sort.alloc_eq_grow,Go.Sort.grow_grow]⟩
 generalize (w.alloc (.cells #[.int .u8 p0,.int .u8 p1,.int .u8 p2,.int .u8 p3,.int .u8 p4,.int .u8 p5,.int .u8 p6,.int .u8 p7,.int .i64 fx] 94)).alloc (.cells #[.int .u8 q0,.int .u8 q1,.int .u8 q2,.int .u8 q3,.int .u8 q4,.int .u8 q5,.int .u8 q6,.int .u8 q7,.int .i64 fy] 94)=w0 at *
 refine (compareM8 hmx hmy HV.out).mono ?_
 rintro e w1 ⟨rfl,q,os',rfl⟩
 go_wp2_with fail
 go_ret
 obtain ⟨os,rfl⟩:=hg
 exact ⟨rfl,q,os++os',by rw [←Go.Sort.grow_grow];rfl⟩
abbrev TmS:={t:Tm // IsTm t}
theorem tm0_is:IsTm ⟨nul8,0⟩:=⟨⟨rfl,by decide⟩,by decide,by decide⟩
instance:Inhabited TmS:=⟨⟨⟨nul8,0⟩,tm0_is⟩⟩
def encT (x:TmS):List Value:=tcells x.1
def cfT (x y:TmS):Int:=cmpM x.1.m y.1.m
theorem ltT (x y:TmS):ltOf cfT x y=before x.1.m y.1.m:=by
 unfold ltOf before cfT
 rcases cmpM_range x.1.m y.1.m with h | h | h <;> rw [h] <;> decide
theorem swoT:Go.Sort.SWO (ltOf cfT) where
 irrefl x:=by rw [ltT];exact before_self _
 trans x y z h1 h2:=by rw [ltT] at *;exact before_trans h1 h2
 ntrans x y z h1 h2:=by
  rw [ltT] at *
  cases h:before x.1.m z.1.m with
  | false=>rfl
  | true =>
    have l1:x.1.m.length=y.1.m.length:=(by rw [x.2.1.1,y.2.1.1]);have l2:y.1.m.length=z.1.m.length:=by rw [y.2.1.1,z.2.1.1]
    cases g1:before y.1.m x.1.m with
    | false =>
      have e:=before_tri l1 h1 g1;rw [e] at h;rw [h] at h2;cases h2
    | true =>
      have:=before_trans g1 h;rw [this] at h2;cases h2
theorem Tryz.isAggT:∀w,(isAgg 94).run Tryz.prog w=.ok true w:=fun w=>by kernel_rfl
theorem Tryz.sizeT:∀w,(Go.sizeOf 94).run Tryz.prog w=.ok 9 w:=fun w=>by kernel_rfl
theorem cmpLaysT (blk off size:Nat) (w:World):CmpLays Tryz.prog 118 #[] encT 9 cfT blk off size w:=
 fun _ _ _ _ x y=>closure_g x.1 y.1 x.2 y.2
theorem tcells_one' (t:Tm):∀v∈tcells t,v.oneCell'=true:=by
 intro v hv
 simp only [tcells,mcells,List.mem_append,List.mem_map,List.mem_singleton] at hv
 rcases hv with ⟨x,_,rfl⟩ | rfl <;> rfl
theorem rcells_get:∀{ts:List Tm},(∀t∈ts,IsTm t)→∀{q r:Nat} {t:Tm},ts[q]? = some t→r<9→(rcells ts)[q * 9+r]? = (tcells t)[r]?
 | [],_,q,r,t,h,_=>by simp at h
 | u :: ts, hT, 0, r, t, h, hr => by
   simp only [List.getElem?_cons_zero,Option.some.injEq] at h;subst h;rw [rcells_cons,Nat.zero_mul,Nat.zero_add,List.getElem?_append_left (by rw [tcells_length (hT u (by simp))];exact hr)]
 | u :: ts, hT, q + 1, r, t, h, hr => by
   rw [List.getElem?_cons_succ] at h;have h9:=tcells_length (hT u (by simp));rw [rcells_cons,List.getElem?_append_right (by omega),h9,show (q+1) * 9+r - 9=q * 9+r by omega];exact rcells_get (fun t ht=>hT t (by simp [ht])) h hr
def tsOf (d:Array TmS):List Tm:=d.toList.map (·.1)
theorem tsOf_tm (d:Array TmS):∀t∈tsOf d,IsTm t:=by
 intro t ht
 simp only [tsOf,List.mem_map] at ht
 obtain ⟨x,_,rfl⟩:=ht
 exact x.2
theorem tsOf_get (d:Array TmS) {i:Nat} (h:i<d.size):(tsOf d)[i]? = some d[i]!.1:=by
 rw [getElem!_pos d i h,tsOf,List.getElem?_map,Array.getElem?_toList,Array.getElem?_eq_getElem h]
 rfl
theorem flat_rcells (d:Array TmS):Go.Sort.flatK encT 9 d=(rcells (tsOf d)).toArray:=by
 have hl:(rcells (tsOf d)).length=d.size * 9:=by rw [rcells_length (tsOf_tm d)];simp [tsOf]
 apply Array.ext_getElem?
 intro i
 by_cases hi:i<d.size * 9
 · have hs:(Go.Sort.flatK encT 9 d).size=d.size * 9:=(by simp);have h1:=Go.Sort.get_flatK encT 9 d i hi;rw [getElem!_pos _ i (by rw [hs];exact hi)] at h1;rw [Array.getElem?_eq_getElem (by rw [hs];exact hi),h1];have hq:i / 9<d.size:=(by omega);have hr:i % 9<9:=Nat.mod_lt _ (by omega);have h2:=rcells_get (tsOf_tm d) (tsOf_get d hq) hr;rw [show i / 9 * 9+i % 9=i by omega] at h2;have h9:=tcells_length (d[i / 9]!).2;rw [List.getElem?_toArray,h2,List.getElem?_eq_getElem (by omega),encT,getElem!_pos _ _ (by omega)]
 · rw [Array.getElem?_eq_none (by simp;omega),Array.getElem?_eq_none (by simp;omega)]
theorem tsOf_mk {ts:List Tm} (hT:∀t∈ts,IsTm t):∃d:Array TmS,tsOf d=ts∧d.size=ts.length:=by
 refine ⟨(ts.pmap (fun t h=>(⟨t,h⟩:TmS)) hT).toArray,?_,by simp⟩
 simp [tsOf,List.map_pmap]
theorem holdsT {w:World} {g _cap:Nat} {t:TypeId} {cur:Array Value} {d:Array TmS} (h:Own w g t cur) (hx:cur.toList.take (d.size * 9)=rcells (tsOf d)) (_hc:d.size * 9≤cur.size):Go.Sort.HoldsK encT 9 w g 0 d:=by
 unfold Go.Sort.HoldsK
 rw [flat_rcells]
 intro j hj
 refine ⟨?_,h.frozen _⟩
 rw [Nat.zero_add,h.cell j]
 have hl:(rcells (tsOf d)).length=d.size * 9:=by rw [rcells_length (tsOf_tm d)];simp [tsOf]
 have hj':j<d.size * 9:=by
  have:j<(rcells (tsOf d)).length:=(by simpa using hj);omega
 rw [getElem!_pos _ j hj]
 simp only [id,List.getElem_toArray]
 have h2:(rcells (tsOf d))[j]? = cur[j]? := by
  rw [←hx,List.getElem?_take_of_lt hj',Array.getElem?_toList]
 rw [←h2,List.getElem?_eq_getElem (by omega)]
theorem own_put {w : World} {g m : Nat} {t : TypeId} {cur : Array Value} {d : Array TmS} {os : Array Obj} (h : Own w g t cur) (hc : d.size * 9 ≤ cur.size) :
    ∃cur':Array Value,Own (sortWorldK encT 9 w g 0 m d os) g t cur'∧cur'.size=cur.size∧cur'.toList.take (d.size * 9)=rcells (tsOf d):=by
 have hl:(rcells (tsOf d)).length=d.size * 9:=by rw [rcells_length (tsOf_tm d)];simp [tsOf]
 refine ⟨Go.Sort.putCells id 0 (Go.Sort.flatK encT 9 d) cur,?_,by simp [Go.Sort.putCells],?_⟩
 · unfold Own sortWorldK Go.Sort.grow Go.Sort.putRowK Go.Sort.putRow Go.Sort.mapBlock Go.Sort.ahead;have hg:=h.lt;have h0:w.heap[g]? = some (.cells cur t (0,0)):=h;rw [Array.getElem?_append_left (by simpa using hg),Array.getElem?_modify,if_pos rfl,h0];rfl
 · rw [flat_rcells];apply List.ext_getElem?
   intro i;by_cases hi:i<d.size * 9
   · rw [List.getElem?_take_of_lt hi,Array.getElem?_toList];simp only [Go.Sort.putCells,Array.getElem?_mapIdx,List.size_toArray];rw [Array.getElem?_eq_getElem (by omega),Option.map_some,if_pos ⟨by omega,by omega⟩,Nat.sub_zero,List.getElem?_eq_getElem (by omega)];rw [getElem!_pos _ i (by simp;omega)];simp
   · rw [List.getElem?_eq_none (by simp;omega),List.getElem?_eq_none (by omega)]
theorem below_put {w:World} {B g m:Nat} {d:Array TmS} {os:Array Obj} (hB:B≤g) (hg:g<w.heap.size):Below B w (sortWorldK encT 9 w g 0 m d os):=by
 refine ⟨rfl,rfl,rfl,?_,fun k hk=>?_⟩
 · unfold sortWorldK Go.Sort.grow Go.Sort.putRowK Go.Sort.putRow Go.Sort.mapBlock Go.Sort.ahead;simp
 · unfold sortWorldK Go.Sort.grow Go.Sort.putRowK Go.Sort.putRow Go.Sort.mapBlock Go.Sort.ahead;have hs:k<w.heap.size:=(by omega);rw [Array.getElem?_append_left (by simpa using hs),Array.getElem?_modify,if_neg (by omega)]
set_option maxHeartbeats 1000000 in
theorem SortFunc_some {w : World} {B g n cap : Nat} {ts : List Tm} (h : OwnR w B (.slice (some ⟨g, 0, none⟩) n cap) ts) (hT : ∀ t ∈ ts, IsTm t) (hn : ts.length ≤ 1000000) :
    Calls Tryz.prog 117 #[.slice (some ⟨g,0,none⟩) n cap,.func (.func 118) #[] #[]] w fun e w'=>e=.returned (.tuple #[])∧∃ts',OwnR w' B (.slice (some ⟨g,0,none⟩) n cap) ts'∧ts'.Perm ts∧(∀t∈ts',IsTm t)∧(ts'.Pairwise fun s t=>before t.m s.m=false)∧Below B w w':=by
 obtain ⟨hl,h1⟩:=h
 rcases h1 with ⟨h0,_⟩ | ⟨g',cap',cur,hv,hB,hg,hc,hm,hs,hx⟩
 · cases h0
 · simp only [Value.slice.injEq,Option.some.injEq,Addr.mk.injEq,and_true] at hv;obtain ⟨rfl,rfl,rfl⟩:=hv;obtain ⟨d,rfl,hd⟩:=tsOf_mk hT;have hlt:(tsOf d).length=d.size:=(by simp [tsOf]);rw [hlt] at hx hn hc ⊢;have hOw:Own w g 94 cur:=hg;have hcs:d.size * 9≤cur.size:=(by rw [hs];exact Nat.mul_le_mul_right 9 hc);have hH:=holdsT (_cap:=cap) hOw hx hcs;have eg:∀args w,(callFunc 118 args).run Tryz.prog w=.ok (.enter 118 args) w:=enters_of Tryz.func118 (by kernel_rfl) rfl;have hcon:=AnyQ.slices_SortFunc Tryz.sortT 9 Tryz.isAggT Tryz.sizeT encT (fun x=>tcells_length x.2) (fun x v hv=>tcells_one' x.1 v hv) cfT swoT 118 #[] g 0 cap d w eg (cmpLaysT g 0 d.size w) hH hOw.lt (by omega)
   change Calls Tryz.prog 117 _ _ _ at hcon
   refine hcon.mono ?_;rintro e w' ⟨rfl,d',m,os,hp,hsd,rfl⟩;have hds:d'.size=d.size:=hp.1;obtain ⟨cur',hO',hsz,hx'⟩:=own_put (m:=m) (os:=os) hOw (by rw [hds];exact hcs);have hl':(tsOf d').length=d.size:=(by simp [tsOf,hds]);refine ⟨rfl,tsOf d',⟨?_,Or.inr ⟨g,cap,cur',by rw [hl'],hB,hO',by rw [hl'];exact hc,hm,by rw [hsz];exact hs,by rw [hl',←hds];exact hx'⟩⟩,?_,tsOf_tm d',?_,below_put hB hOw.lt⟩
   · rw [rcells_length (tsOf_tm d')]
   · have:=hp.2.2;rw [show d'.extract 0 d.size=d' by rw [←hds];simp,show d.extract 0 d.size=d by simp] at this;exact this.map _
   · rw [List.pairwise_iff_getElem];intro i j hi hj hij;rw [hl'] at hi hj;have:=hsd i j (Nat.zero_le _) hij hj;rw [ltT] at this;have e1:=tsOf_get d' (i:=i) (by omega);have e2:=tsOf_get d' (i:=j) (by omega);rw [List.getElem?_eq_getElem (by omega)] at e1 e2
     injection e1 with e1
     injection e2 with e2
     rw [e1,e2];exact this
theorem bitsLen0 (w:World):∃l:Int,Calls Tryz.prog 133 #[.int .u64 0] w fun e w'=>e=.returned (.int .i64 l)∧w'=w:=by
 have h:=Any.bits_Len (SlLaysF0.n15.bits (P:=Tryz.prog) { Tryz.sortT with }) 0 w (by omega) (by omega)
 exact ⟨_,h⟩
theorem insertion_nil (w:World) (cb:Value):Calls Tryz.prog 141 #[.slice none 0 0,.int .i64 0,.int .i64 0,cb] w fun e w'=>e=.returned (.tuple #[])∧w'=w:=by
 go_enter Tryz.func141,Tryz.ntmps141
 go_wp2
 refine wp_loop_rounds 1 ?_
 rw [rounds_succ]
 go_wp2
 go_end0
 exact ⟨rfl,rfl⟩
theorem pdq_nil (w:World) (l:Int) (cb:Value):Calls Tryz.prog 132 #[.slice none 0 0,.int .i64 0,.int .i64 0,.int .i64 l,cb] w fun e w'=>e=.returned (.tuple #[])∧w'=w:=by
 go_enter Tryz.func132,Tryz.ntmps132
 go_wp2_with fail
 refine wp_loop_rounds 1 ?_
 rw [rounds_succ]
 go_wp2_with fail
 refine (insertion_nil w cb).mono ?_
 rintro e w' ⟨rfl,rfl⟩
 go_wp2_with fail
 exact bodyPost_ret (results_none rfl _ _ _) rfl ⟨rfl,rfl⟩
theorem SortFunc_nil (w:World):Calls Tryz.prog 117 #[.slice none 0 0,.func (.func 118) #[] #[]] w fun e w'=>e=.returned (.tuple #[])∧w'=w:=by
 obtain ⟨l,hl⟩:=bitsLen0 w
 go_enter Tryz.func117,Tryz.ntmps117
 go_wp2_with fail
 refine hl.mono ?_
 rintro e w' ⟨rfl,rfl⟩
 go_wp2_with fail
 refine (pdq_nil _ _ _).mono ?_
 rintro e w' ⟨rfl,rfl⟩
 go_wp2_with fail
 go_end0
 exact ⟨rfl,rfl⟩
theorem SortFunc_c {w : World} {B : Nat} {v : Value} {ts : List Tm} (h : OwnR w B v ts) (hT : ∀ t ∈ ts, IsTm t) (hn : ts.length ≤ 1000000) :
    Calls Tryz.prog 117 #[v,.func (.func 118) #[] #[]] w fun e w'=>e=.returned (.tuple #[])∧∃ts',OwnR w' B v ts'∧ts'.Perm ts∧(∀t∈ts',IsTm t)∧(ts'.Pairwise fun s t=>before t.m s.m=false)∧Below B w w':=by
 rcases h.2 with ⟨rfl,h0⟩ | ⟨g,cap,cur,rfl,r⟩
 · obtain rfl:ts=[]:=List.length_eq_zero_iff.1 h0;exact (SortFunc_nil w).mono fun e w' ⟨he,hw⟩=>⟨he,[],by rw [hw];exact h,List.Perm.refl _,by simp,List.Pairwise.nil,by rw [hw];exact Below.refl _ _⟩
 · exact SortFunc_some h hT hn
end Go.Proofs.YtdppjlndcacfnaaGreat
