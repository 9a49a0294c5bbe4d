
import Derived.Test.YtndnkeijddagiaaMulF
namespace Go.Proofs.Ytndnkeijddagiaa
open Go.RowKit Go.Deep Go.Maps
theorem mapM_all {α β:Type} {f:α→Option β}:∀{l:List α} {r:List β},l.mapM f=some r→∀a∈l,∃y,f a=some y
 | [],_,_,a,h=>by simp at h
 | x :: l, r, h, a, ha => by
   rw [List.mapM_cons] at h;simp only [Option.bind_eq_bind,Option.bind_eq_some_iff] at h;obtain ⟨y,hy,ys,hys,_⟩:=h;rw [List.mem_cons] at ha
   rcases ha with rfl | ha
   · exact ⟨y,hy⟩
   · exact mapM_all hys a ha
theorem keyLits_int_inv {P:Program} {t:TypeId} {q:IntKind} {d:Nat} {cs:List Value} {ls:List Lit} (ht:P.underlying t=some (.int q)) (h:P.keyLits (d+1) t cs=some ls):∃x:Int,cs=[.int q x]∧(Lit.int q x).wf=true:=by
 unfold Program.keyLits at h
 rw [ht] at h
 cases cs with
 | nil=>simp at h
 | cons v vs =>
   cases vs with
   | cons u us=>simp at h
   | nil =>
     cases v <;> simp at h
     rename_i q' x;obtain ⟨⟨rfl,hw⟩,_⟩:=h;exact ⟨x,rfl,hw⟩
theorem keyLits_array_inv {P:Program} {t e:TypeId} {n d:Nat} {cs:List Value} {ls:List Lit} (ht:P.underlying t=some (.array n e)) (h:P.keyLits (d+1) t cs=some ls):cs.length=P.cellsOf t∧∃r,((List.range n).mapM fun i=>P.keyLits d e ((cs.drop (i * P.cellsOf e)).take (P.cellsOf e)))=some r:=by
 unfold Program.keyLits at h
 rw [ht] at h
 simp only at h
 split at h
 · rename_i hl;rw [Option.map_eq_some_iff] at h;obtain ⟨r,hr,_⟩:=h;exact ⟨hl,r,hr⟩
 · cases h
theorem keyOf_array_inv {P:Program} {k e:TypeId} {n:Nat} {v:Value} {l:Lit} (hk:P.underlying k=some (.array n e)) (h:keyOf P k v=some l):∃cs:Array Value,v=.agg cs∧∃ls,P.keyLits (P.types.size+1) k cs.toList=some ls:=by
 unfold keyOf at h
 rw [hk] at h
 simp only at h
 split at h
 · rename_i hc;rw [Bool.and_eq_true] at hc;rw [Option.map_eq_some_iff] at h;obtain ⟨ls,hls,-⟩:=h
   have hag:∃cs:Array Value,v=.agg cs:=by
    have hf:=hc.2;cases v <;> simp [Value.formed,hk] at hf
    exact ⟨_,rfl⟩
   obtain ⟨cs,rfl⟩:=hag;exact ⟨cs,rfl,ls,by simpa [Value.cells] using hls⟩
 · cases h
theorem u8_of_wf {x:Int} (h:(Lit.int .u8 x).wf=true):0≤x∧x≤255:=by
 simp only [Lit.wf,Bool.and_eq_true,decide_eq_true_eq] at h
 exact h
theorem keyOf_M_inv {key:Value} {kl:Lit} (h:keyOf Try.prog 74 key=some kl):∃m,IsMono m∧key=.agg (mcells m).toArray∧kl=kM m:=by
 obtain ⟨cs,rfl,ls,hls⟩:=keyOf_array_inv Try.underlying74 h
 obtain ⟨f,hsz⟩:∃f,Try.prog.types.size=f+1:=⟨Try.prog.types.size - 1,by have:0 < Try.prog.types.size:=of_decide_eq_true (by kernel_rfl);omega⟩
 rw [hsz] at hls
 obtain ⟨hlen,r,hr⟩:=keyLits_array_inv Try.underlying74 hls
 rw [Try.cellsM] at hlen
 rw [Try.cellsU8] at hr
 have hall:=mapM_all hr
 obtain ⟨g,hg⟩:=choose_lt (α:=Int) (n:=8) (p:=fun i x=>cs.toList[i]? = some (Value.int .u8 x)∧0≤x∧x≤255) (fun i hi=>by
  obtain ⟨y,hy⟩:=hall i (List.mem_range.2 hi);obtain ⟨x,hx,hx2⟩:=keyLits_int_inv Try.underlying5 hy;rw [Nat.mul_one,one_drop _ i (by omega)] at hx;simp only [List.cons.injEq,and_true] at hx
  exact ⟨x,by rw [List.getElem?_eq_getElem (by omega),hx],u8_of_wf hx2⟩)
 have hm:IsMono ((List.range 8).map g):=⟨by simp,fun x hx=>by
  simp only [List.mem_map,List.mem_range] at hx;obtain ⟨i,hi,rfl⟩:=hx
  exact (hg i hi).2⟩
 have e:cs=(mcells ((List.range 8).map g)).toArray:=by
  apply Array.ext_getElem?
  intro i;by_cases hi:i<8
  · rw [←Array.getElem?_toList,(hg i hi).1];simp [mcells,hi]
  · rw [←Array.getElem?_toList,List.getElem?_eq_none (by omega),Array.getElem?_eq_none (by simp [mcells];omega)]
 refine ⟨_,hm,by rw [e],?_⟩
 rw [e,keyOf_M hm] at h
 exact (Option.some.inj h).symm
structure Part (S:List Int→Int) (left:Lit→Bool) (os:List Tm):Prop where
 coef:∀m,IsMono m→coef os m=if left (kM m)=true then 0 else S m
 tm:∀t∈os,IsTm t
 val:∀t∈os,t.f=S t.m∧¬t.f=0
 win:∀t∈os,within t.m=true
 nd:(os.map (·.m)).Nodup
 len:os.length≤400
theorem coef_mem {ts:List Tm} {t:Tm} (h:t∈ts):∃u∈ts,u.m=t.m∧coef ts t.m=u.f:=by
 induction ts with
 | nil=>simp at h
 | cons x xs ih =>
   by_cases hx:x.m=t.m
   · exact ⟨x,by simp,hx,coef_hit hx⟩
   · rw [List.mem_cons] at h
     rcases h with rfl | h
     · exact absurd rfl hx
     · obtain ⟨u,hu,h1,h2⟩:=ih h;exact ⟨u,by simp [hu],h1,by rw [coef_miss hx,h2]⟩
theorem coef_append {os:List Tm} {t:Tm} {m:List Int}:coef (os++[t]) m=if (∃u∈os,u.m=m) then coef os m else coef [t] m:=by
 induction os with
 | nil=>simp
 | cons x xs ih =>
   by_cases hx:x.m=m
   · rw [List.cons_append,coef_hit hx,if_pos ⟨x,by simp,hx⟩,coef_hit hx]
   · rw [List.cons_append,coef_miss hx,ih,coef_miss hx];by_cases h:∃u∈xs,u.m=m
     · rw [if_pos h,if_pos (by obtain ⟨u,hu,e⟩:=h;exact ⟨u,by simp [hu],e⟩)]
     · rw [if_neg h, if_neg (fun ⟨u, hu, e⟩ => by
         rw [List.mem_cons] at hu
         rcases hu with rfl | hu
         · exact hx e
         · exact h ⟨u,hu,e⟩)]
theorem strike_self {left:Lit→Bool} {m:List Int} (hm:IsMono m):(left (kM m) && !(kM m).sameKey (kM m))=false:=by
 rw [WideAt.sameKey_self (Try.keyM.key (keyOf_M hm))];simp
theorem strike_other {left:Lit→Bool} {m k:List Int} (hm:IsMono m) (hk:IsMono k) (h:¬k=m):(left (kM k) && !(kM k).sameKey (kM m))=left (kM k):=by
 rw [sameKey_ne (fun e=>h (kM_inj hk hm e))];simp
theorem Part.fresh {S:List Int→Int} {left:Lit→Bool} {os:List Tm} {m:List Int} (h:Part S left os) (hm:IsMono m) (hl:left (kM m)=true):∀t∈os,¬t.m=m:=by
 intro t ht e
 have h1:=h.coef m hm
 rw [if_pos hl] at h1
 obtain ⟨u,hu,e1,e2⟩:=coef_mem ht
 rw [e] at e2
 rw [h1] at e2
 exact (h.val u hu).2 e2.symm
theorem Part.put {S:List Int→Int} {left:Lit→Bool} {os:List Tm} {m:List Int} (h:Part S left os) (hm:IsMono m) (hl:left (kM m)=true) (h0:¬S m=0) (hS:0≤S m∧S m≤10006) (hw:within m=true) (hlen:os.length<400):Part S (fun z=>left z && !z.sameKey (kM m)) (os++[⟨m,S m⟩]):=by
 have hf:=h.fresh hm hl
 refine ⟨fun k hk=>?_,?_,?_,?_,?_,by simp;omega⟩
 · rw [coef_append];by_cases e:k=m
   · subst e;rw [strike_self hm,if_neg (fun ⟨u,hu,e⟩=>hf u hu e)];exact coef_hit rfl
   · rw [strike_other hm hk e,←h.coef k hk];split
     · rfl
     · rename_i hno;rw [coef_miss (t:=⟨m,S m⟩) (fun e2=>e e2.symm),coef_none (fun t ht e2=>hno ⟨t,ht,e2⟩)];rfl
 · intro t ht;rw [List.mem_append,List.mem_singleton] at ht
   rcases ht with ht | rfl
   · exact h.tm t ht
   · exact ⟨hm,by dsimp only;omega,by dsimp only;omega⟩
 · intro t ht;rw [List.mem_append,List.mem_singleton] at ht
   rcases ht with ht | rfl
   · exact h.val t ht
   · exact ⟨rfl,h0⟩
 · intro t ht;rw [List.mem_append,List.mem_singleton] at ht
   rcases ht with ht | rfl
   · exact h.win t ht
   · exact hw
 · rw [List.map_append,List.nodup_append];refine ⟨h.nd,by simp,fun a ha b hb=>?_⟩;simp only [List.mem_map,List.mem_singleton,List.map_cons,List.map_nil] at ha hb;obtain ⟨t,ht,rfl⟩:=ha;rw [hb];exact hf t ht
end Go.Proofs.Ytndnkeijddagiaa
