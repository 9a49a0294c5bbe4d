
import Derived.Test.YtfheammnkmjabaaGreatMonoB
import Derived.Deep.DeepAppendWide
import Derived.ArgAppend
namespace Go.Proofs.YtfheammnkmjabaaGreat
open Go.RowKit Go.Deep
section
variable {P:Program} (w:World)
theorem run_append_fresh (base : Nat) (t ty e : TypeId) (i : TypeInfo) (z : Value) (size bytes : Nat) (ht : P.underlying t = some (.slice e)) (hi : P.info? e = some i) (hz : i.zero = some z)
    (hsize:i.size=size) (hby:i.bytes=bytes) (hzs:z.cells.size=size) (hsz:0<size)
    (v:Value) (n:Nat) (xs:List Value) (hown:w.ownsRow base e size v n xs)
    (a:Addr) (m c:Nat) (news:List Value) (hl:news.length=m * size) (hnews:∀j u,news[j]? = some u→w.cell? (a.add j)=some u) (h1:∀u∈news,u.oneCell'=true)
    (h63:n+m≤maxLen) (hbytes:((n+m)+(n+m) / 4+192) * bytes≤281474976710656) (hbase:base≤w.heap.size) :
    ∃v' w',(Builtin.append_ #[t,t] ty #[v,.slice (some a) m c]).run P w=.ok v' w'∧w'.ownsRow base e size v' (n+m) (xs++news)∧w.grownBy w' v.ownBlock∧(∀q,v'.ownBlock=some q→v.ownBlock=some q∨w.heap.size≤q):=by
 rcases hown.2 with ⟨hv,hn⟩ | ⟨g,cap,cur,hv,hbg,hg,hnc,hcm,hcs,htake⟩
 · have hx:xs=[]:=List.eq_nil_of_length_eq_zero (by rw [hown.1,hn];simp);have ho2:w.ownsRow w.heap.size e size v n xs:=⟨hown.1,Or.inl ⟨hv,hn⟩⟩;obtain ⟨v',w',hr,h2,h3,-⟩:=run_append_own_wide (P:=P) w w.heap.size t ty e i z size bytes ht hi hz hsize hby hzs hsz v n xs ho2 a m c news hl hnews h1 h63 hbytes (Nat.le_refl _);refine ⟨v',w',hr,⟨h2.1,?_⟩,h3,fun q hq=>Or.inr (h2.lt q hq).1⟩
   rcases h2.2 with h | ⟨g,cap,cur,e1,e2,e3⟩
   · exact Or.inl h
   · exact Or.inr ⟨g,cap,cur,e1,by omega,e3⟩
 · obtain ⟨v',w',hr,h2,h3,-⟩:=run_append_own_wide (P:=P) w base t ty e i z size bytes ht hi hz hsize hby hzs hsz v n xs hown a m c news hl hnews h1 h63 hbytes hbase;refine ⟨v',w',hr,h2,h3,?_⟩;have hO:Own w g e cur:=hg;subst hsize;subst hby;by_cases hroom:n+m≤cap
   · have hfit:n * i.size+m * i.size≤cur.size:=by rw [hcs,←Nat.add_mul];exact Nat.mul_le_mul_right _ hroom
     have hr2 := run_append_room_cells (P := P) w t ty e i ht hi g 0 n cap a m c news hl hnews h1 hroom (fun j hj => by
         obtain ⟨u,hu⟩:=hO.has (i:=0+n * i.size+j) (by omega);rw [hu]
         rfl) (fun j hj=>hO.frozen _)
     rw [←hv] at hr2;have e1:=hr.symm.trans hr2;simp only [Result.ok.injEq] at e1;intro q hq;rw [e1.1] at hq;exact Or.inl (by rw [hv];exact hq)
   · have holds:∀j u,xs[j]? = some u→w.cell? ((⟨g,0,none⟩:Addr).add j)=some u:=hown.cells (g:=g) (by rw [hv];rfl);have hsmall:n+m≤9223372036854775807:=(by simp only [maxLen] at h63;omega);have hr2:=run_append_grow (P:=P) w t ty e i z ht hi hz ⟨g,0,none⟩ n cap xs hown.1 holds a m c news hl hnews (by omega) (by omega) (growslice_fits_wide (by omega) hbytes);rw [←hv] at hr2;have e1:=hr.symm.trans hr2;simp only [Result.ok.injEq] at e1;intro q hq;rw [e1.1] at hq;have:w.heap.size=q:=(by simpa [Value.ownBlock] using hq);exact Or.inr (by omega)
theorem wp_append_fresh {o : Oper} {a : Act} {K : Act → World → Prop} {Q : Exit → Act → World → Prop} (s x : Operand) (t : TypeId)
    (ho:o.op=.call { callee:=.builtin .append,args:=#[s,x],argTypes:=#[t,t] })
    (base:Nat) (e:TypeId) (i:TypeInfo) (z:Value) (size bytes:Nat) (ht:P.underlying t=some (.slice e)) (hi:P.info? e=some i) (hz:i.zero=some z)
    (hsize:i.size=size) (hby:i.bytes=bytes) (hzs:z.cells.size=size) (hsz:0<size)
    (v:Value) (n:Nat) (xs:List Value) (hs:a.eval s=v) (hown:w.ownsRow base e size v n xs)
    (ad:Addr) (m c:Nat) (news:List Value) (hx:a.eval x=.slice (some ad) m c) (hl:news.length=m * size) (hnews:∀j u,news[j]? = some u→w.cell? (ad.add j)=some u) (h1:∀u∈news,u.oneCell'=true)
    (h63:n+m≤maxLen) (hbytes:((n+m)+(n+m) / 4+192) * bytes≤281474976710656) (hbase:base≤w.heap.size)
    (h:∀v' w',w'.ownsRow base e size v' (n+m) (xs++news)→w.grownBy w' v.ownBlock→(∀q,v'.ownBlock=some q→v.ownBlock=some q∨w.heap.size≤q)→K (a.put o.dst v') w'):o.wp P a w K Q:=by
 obtain ⟨v',w',hr,h2,h3,h4⟩:=run_append_fresh (P:=P) w base t o.type e i z size bytes ht hi hz hsize hby hzs hsz v n xs hown ad m c news hl hnews h1 h63 hbytes hbase
 unfold Oper.wp execOp
 simp only [ho,resolve,invoke,builtin,Sem.run_bind,Sem.run_pure,Result.andThen_ok,List.map_toArray,List.map_cons,List.map_nil,hs,hx,hr]
 exact h v' w' h2 h3 h4
theorem wpList_append_fresh {ops : Array Oper} {rest : List Oper} {o : Oper} {a : Act} {Q : Exit → Act → World → Prop} (hgd : o.guard = none) (s x : Operand) (t : TypeId)
    (ho:o.op=.call { callee:=.builtin .append,args:=#[s,x],argTypes:=#[t,t] })
    (base:Nat) (e:TypeId) (i:TypeInfo) (z:Value) (size bytes:Nat) (ht:P.underlying t=some (.slice e)) (hi:P.info? e=some i) (hz:i.zero=some z)
    (hsize:i.size=size) (hby:i.bytes=bytes) (hzs:z.cells.size=size) (hsz:0<size)
    (v:Value) (n:Nat) (xs:List Value) (hs:a.eval s=v) (hown:w.ownsRow base e size v n xs)
    (ad:Addr) (m c:Nat) (news:List Value) (hx:a.eval x=.slice (some ad) m c) (hl:news.length=m * size) (hnews:∀j u,news[j]? = some u→w.cell? (ad.add j)=some u) (h1:∀u∈news,u.oneCell'=true)
    (h63:n+m≤maxLen) (hbytes:((n+m)+(n+m) / 4+192) * bytes≤281474976710656) (hbase:base≤w.heap.size)
    (h:∀v' w',w'.ownsRow base e size v' (n+m) (xs++news)→w.grownBy w' v.ownBlock→(∀q,v'.ownBlock=some q→v.ownBlock=some q∨w.heap.size≤q)→wpList P ops Q rest (a.put o.dst v') w'):wpList P ops Q (o::rest) a w:=
 wpList_plain hgd fun _ hK=>wp_append_fresh w s x t ho base e i z size bytes ht hi hz hsize hby hzs hsz v n xs hs hown ad m c news hx hl hnews h1 h63 hbytes hbase fun v' w' h2 h3 h4=>hK _ _ (h v' w' h2 h3 h4)
end
structure FG (w w':World) (v v':Value):Prop where
 b:Below 0 w w'
 k:∀i,i<w.heap.size→v.ownBlock≠some i→w'.heap[i]? = w.heap[i]?
 r:∀q,v'.ownBlock=some q→v.ownBlock=some q∨w.heap.size≤q
theorem FG.refl (w:World) (v:Value):FG w w v v:=⟨Below.refl _ _,fun _ _ _=>rfl,fun _ h=>Or.inl h⟩
theorem FG.of_below {w w':World} (v:Value) (h:Below w.heap.size w w'):FG w w' v v:=⟨h.mono (Nat.zero_le _),fun i hi _=>h.block i hi,fun _ h=>Or.inl h⟩
theorem FG.of_grown {w w':World} {v v':Value} (h:w.grownBy w' v.ownBlock) (hf:∀q,v'.ownBlock=some q→v.ownBlock=some q∨w.heap.size≤q):FG w w' v v':=
 ⟨⟨h.os,h.tape,h.output,h.size,fun k hk=>absurd hk (by omega)⟩,fun i hi hv=>h.block i hi (fun e=>hv e.symm),hf⟩
theorem FG.trans {a b c:World} {u v x:Value} (h:FG a b u v) (k:FG b c v x):FG a c u x:=by
 have hs:=h.b.size
 refine ⟨h.b.trans k.b,fun i hi hv=>?_,fun q hq=>?_⟩
 · rw [k.k i (by omega) (fun e => by
     rcases h.r i e with h1 | h1
     · exact hv h1
     · omega)]
   exact h.k i hi hv
 · rcases k.r q hq with h1 | h1
   · exact h.r q h1
   · exact Or.inr (by omega)
theorem FG.own {w w':World} {v v':Value} {g:Nat} {t:TypeId} {cs:Array Value} (h:FG w w' v v') (o:Own w g t cs) (hg:v.ownBlock≠some g):Own w' g t cs:=(h.k g o.lt hg).trans o
theorem FG.ne {w w':World} {v v':Value} {g:Nat} (h:FG w w' v v') (hg:v.ownBlock≠some g) (hl:g<w.heap.size):v'.ownBlock≠some g:=fun e=>by
 rcases h.r g e with h1 | h1
 · exact hg h1
 · omega
theorem FG.below {w w':World} {v v':Value} {B:Nat} (h:FG w w' v v') (hv:∀q,v.ownBlock=some q→B≤q) (hB:B≤w.heap.size):Below B w w':=
 ⟨h.b.os,h.b.tape,h.b.output,h.b.size,fun k hk=>h.k k (by omega) (fun e=>by have:=hv k e;omega)⟩
end Go.Proofs.YtfheammnkmjabaaGreat
