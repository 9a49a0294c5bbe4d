
import Derived.Test.YtfpniioegjpfeaaGreatDoorTxtG
import Derived.Lib.ParseIntB
import Derived.Lib.ItoaNum
import Derived.Lib.SlTrimSet
import Derived.Lib.Split
import Derived.Lib.SplitLaws
namespace Go.Proofs.YtfpniioegjpfeaaGreatDoor
open Go.RowKit Go.Deep
def dgs:List UInt8:=[48,49,50,51,52,53,54,55,56,57]
theorem dgs_iff (c:UInt8):dgs.contains c=true↔48≤c.toNat∧c.toNat≤57:=by
 simp only [dgs,List.contains_cons,List.contains_nil,Bool.or_false,Bool.or_eq_true,beq_iff_eq]
 constructor
 · intro h
   rcases h with h | h | h | h | h | h | h | h | h | h <;> subst h <;> decide
 · rintro ⟨h1,h2⟩;have hc:c=UInt8.ofNat c.toNat:=(by simp);have hk:c.toNat=48∨c.toNat=49∨c.toNat=50∨c.toNat=51∨c.toNat=52∨c.toNat=53∨c.toNat=54∨c.toNat=55∨c.toNat=56∨c.toNat=57:=by omega
   rcases hk with h | h | h | h | h | h | h | h | h | h <;> rw [h] at hc <;> subst hc <;> decide
theorem digit_dg {n:Nat} (h:n<10):48≤(UInt8.ofNat (48+n)).toNat∧(UInt8.ofNat (48+n)).toNat≤57∧(UInt8.ofNat (48+n)).toNat - 48=n:=by
 have:(UInt8.ofNat (48+n)).toNat=48+n:=by simp;omega
 omega
theorem dec_snoc {n:Nat} (h:¬n<10):Lib.decDigits n=Lib.decDigits (n / 10)++[UInt8.ofNat (48+n % 10)]:=by
 rw [Lib.decDigits,dif_neg h]
theorem dec_dg (n:Nat):∀c∈Lib.decDigits n,48≤c.toNat∧c.toNat≤57:=by
 induction n using Nat.strongRecOn with
 | ind n ih =>
   by_cases h:n<10
   · rw [Lib.decDigits_one h];intro c hc;rw [List.mem_singleton] at hc;subst hc;exact ⟨(digit_dg h).1,(digit_dg h).2.1⟩
   · rw [dec_snoc h];intro c hc
     rcases List.mem_append.1 hc with hc | hc
     · exact ih (n / 10) (by omega) c hc
     · rw [List.mem_singleton] at hc;subst hc;have:=digit_dg (n:=n % 10) (by omega);exact ⟨this.1,this.2.1⟩
theorem dec_ne (n:Nat):Lib.decDigits n≠[]:=by
 by_cases h:n<10
 · rw [Lib.decDigits_one h];simp
 · rw [dec_snoc h];simp
theorem parseM_snoc {M:Nat} (hM:M≤18446744073709551615):∀(l:List UInt8) (acc v:Nat) (d:Nat),Lib.parseUintM M acc l=.ok v→d<10→v * 10+d≤M→Lib.parseUintM M acc (l++[UInt8.ofNat (48+d)])=.ok (v * 10+d)
 | [], acc, v, d, h, hd, hv => by
   simp only [Lib.parseUintM,Lib.NumEnd.ok.injEq] at h;subst h;have hdg:=digit_dg hd;rw [List.nil_append,Lib.parseUintM,if_pos ⟨hdg.1,hdg.2.1⟩,if_neg (by omega),hdg.2.2,if_neg (by omega),Lib.parseUintM]
 | c :: l, acc, v, d, h, hd, hv => by
   rw [Lib.parseUintM] at h;rw [List.cons_append,Lib.parseUintM];split at h
   · rename_i h1;rw [if_pos h1];split at h
     · cases h
     · rename_i h2;rw [if_neg h2];split at h
       · cases h
       · rename_i h3;rw [if_neg h3];exact parseM_snoc hM l _ v d h hd hv
   · cases h
theorem parseM_dec {M:Nat} (hM:M≤18446744073709551615) (n:Nat):n≤M→Lib.parseUintM M 0 (Lib.decDigits n)=.ok n:=by
 induction n using Nat.strongRecOn with
 | ind n ih =>
   intro hn;by_cases h:n<10
   · have:=parseM_snoc hM [] 0 0 n rfl h (by omega);rw [Lib.decDigits_one h];simpa using this
   · rw [dec_snoc h];have:=parseM_snoc hM _ 0 _ (n % 10) (ih (n / 10) (by omega) (by omega)) (by omega) (by omega);rw [this];congr 1
     omega
theorem parseU_dec {B n:Nat} (hB:2 ^ B - 1≤18446744073709551615) (hn:n≤2 ^ B - 1):Lib.parseUintB B (Lib.decDigits n)=.ok n:=by
 rw [Lib.parseUintB,if_neg (dec_ne n),parseM_dec hB n hn]
theorem parseI_dec {n:Nat} (hn:n≤1000000):Lib.parseIntB 64 (Lib.decDigits n)=.ok (n:Int):=by
 have hu:=parseU_dec (B:=64) (n:=n) (by omega) (by omega)
 have hdg:=dec_dg n
 cases hl:Lib.decDigits n with
 | nil=>exact absurd hl (dec_ne n)
 | cons c r =>
   rw [hl] at hu hdg;have hc:=hdg c (by simp);unfold Lib.parseIntB;have h1:¬(c.toNat=43∨c.toNat=45):=(by omega);have h2:¬c.toNat=45:=(by omega);have h3:(2:Nat) ^ (64 - 1)=9223372036854775808:=(by decide);simp only [];rw [if_neg h1,hu];simp only [h2,h3,not_false_eq_true,true_and,false_and,if_false];rw [if_neg (by omega)]
def rdE (l:List UInt8):Option Nat:=if l=[] then some 1 else match Lib.parseUintB 8 l with
 | .ok v=>some v
 | _=>none
theorem dropWhile_len {p:UInt8→Bool}:∀l:List UInt8,(l.dropWhile p).length≤l.length
 | []=>Nat.le_refl _
 | c :: l => by
   rw [List.dropWhile_cons];split
   · have:=dropWhile_len (p:=p) l;simp only [List.length_cons];omega
   · exact Nat.le_refl _
def rdM (rd:List UInt8→Option Nat) (l:List UInt8) (ex:List Int):Option (List Int):=
 match l with
 | []=>some ex
 | c :: t => if 97 ≤ c.toNat ∧ c.toNat < 105 then match rd (t.takeWhile (dgs.contains ·)) with
   | some e=>rdM rd (t.dropWhile (dgs.contains ·)) (ex.set (c.toNat - 97) e)
   | none=>none
   else none
termination_by l.length
decreasing_by
 have:=dropWhile_len (p:=(dgs.contains ·)) t
 simp only [List.length_cons]
 omega
theorem rdM_nil (rd:List UInt8→Option Nat) (ex:List Int):rdM rd [] ex=some ex:=by rw [rdM]
theorem rdM_cons (rd : List UInt8 → Option Nat) (c : UInt8) (t : List UInt8) (ex : List Int) : rdM rd (c :: t) ex = if 97 ≤ c.toNat ∧ c.toNat < 105 then match rd (t.takeWhile (dgs.contains ·)) with
    | some e=>rdM rd (t.dropWhile (dgs.contains ·)) (ex.set (c.toNat - 97) e)
    | none=>none
    else none:=by rw [rdM]
theorem rdM_mono {rd:List UInt8→Option Nat} (hrd:∀l e,rd l=some e→e≤255) (n:Nat):∀(l:List UInt8) (ex r:List Int),l.length=n→rdM rd l ex=some r→IsMono ex→IsMono r:=by
 induction n using Nat.strongRecOn with
 | ind n ih =>
   intro l ex r hl h hex
   cases l with
   | nil=>rw [rdM_nil] at h;cases h;exact hex
   | cons c t =>
     rw [rdM_cons] at h;split at h
     · cases he:rd (t.takeWhile (dgs.contains ·)) with
       | none=>rw [he] at h;cases h
       | some e =>
         rw [he] at h;have h1:=hrd _ _ he;have h2:=dropWhile_len (p:=(dgs.contains ·)) t;simp only [List.length_cons] at hl;refine ih _ (by omega) _ _ _ rfl h ⟨by rw [List.length_set];exact hex.1,fun x hx=>?_⟩
         rcases List.mem_or_eq_of_mem_set hx with hx | hx
         · exact hex.2 x hx
         · omega
     · cases h
def sufM:Nat→List Int→List UInt8
 | _,[]=>[]
 | k,e::es=>piece k e++sufM (k+1) es
theorem ltr_nat {k:Nat} (h:k<8):(ltr k).toNat=97+k:=by
 rw [ltr];simp;omega
theorem takeW_app {p:UInt8→Bool}:∀(a b:List UInt8),(∀c∈a,p c=true)→(∀c,b.head? = some c→p c=false)→(a++b).takeWhile p=a∧(a++b).dropWhile p=b
 | [],[],_,_=>⟨rfl,rfl⟩
 | [], c :: b, _, h => by
   have:=h c rfl;rw [List.nil_append,List.takeWhile_cons,List.dropWhile_cons,this];exact ⟨rfl,rfl⟩
 | c :: a, b, h1, h2 => by
   have hc:=h1 c (by simp);obtain ⟨e1,e2⟩:=takeW_app a b (fun c h=>h1 c (by simp [h])) h2;rw [List.cons_append,List.takeWhile_cons,List.dropWhile_cons,hc];exact ⟨by simp [e1],by simp [e2]⟩
theorem sufM_head:∀(es:List Int) (k:Nat),k+es.length≤8→∀c,(sufM k es).head? = some c→dgs.contains c=false
 | [],k,_,c,h=>by simp [sufM] at h
 | e :: es, k, hk, c, h => by
   simp only [List.length_cons] at hk;rw [sufM,piece] at h;by_cases h0:0<e
   · rw [if_pos h0] at h;simp only [List.cons_append,List.nil_append,List.head?_cons,Option.some.injEq] at h;subst h
     cases hd:dgs.contains (ltr k) with
     | false=>rfl
     | true=>have:=(dgs_iff _).1 hd;rw [ltr_nat (by omega)] at this;omega
   · rw [if_neg h0,if_neg (by omega)] at h;simp only [List.nil_append] at h;exact sufM_head es (k+1) (by omega) c h
theorem rdM_suf {rd:List UInt8→Option Nat} (hr1:rd []=some 1):∀(es:List Int) (done:List Int),done.length+es.length≤8→(∀e∈es,0≤e∧(1<e→rd (Lib.decDigits e.toNat)=some e.toNat))→rdM rd (sufM done.length es) (done++List.replicate es.length 0)=some (done++es)
 | [],done,_,_=>by rw [sufM,rdM_nil];simp
 | e :: es, done, hk, he => by
   simp only [List.length_cons] at hk;have he0:=he e (by simp)
   have hset:(done++List.replicate (es.length+1) (0:Int)).set done.length e=(done++[e])++List.replicate es.length 0:=by
    rw [List.replicate_succ];simp
   have ih:=rdM_suf hr1 es (done++[e]) (by simp;omega) (fun x hx=>he x (by simp [hx]));rw [List.length_append,List.length_singleton] at ih;have hhd:=sufM_head es (done.length+1) (by omega);rw [sufM,piece,List.length_cons];by_cases h0:0<e
   · rw [if_pos h0];have hl:97≤(ltr done.length).toNat∧(ltr done.length).toNat<105:=(by rw [ltr_nat (by omega)];omega);have hi:(ltr done.length).toNat - 97=done.length:=(by rw [ltr_nat (by omega)];omega);by_cases h1:1<e
     · rw [if_pos h1,List.append_assoc,List.cons_append,List.nil_append,rdM_cons,if_pos hl];obtain ⟨e1,e2⟩:=takeW_app (p:=(dgs.contains ·)) (Lib.decDigits e.toNat) (sufM (done.length+1) es) (fun c hc=>(dgs_iff c).2 (dec_dg _ c hc)) hhd;rw [e1,e2,he0.2 h1];simp only;rw [hi,Int.toNat_of_nonneg (by omega),hset,ih,List.append_assoc];rfl
     · obtain rfl:e=1:=(by omega);rw [if_neg h1,List.append_assoc,List.cons_append,List.nil_append,List.nil_append,rdM_cons,if_pos hl];obtain ⟨e1,e2⟩:=takeW_app (p:=(dgs.contains ·)) [] (sufM (done.length+1) es) (by simp) hhd;rw [List.nil_append] at e1 e2;rw [e1,e2,hr1];simp only;rw [hi,show ((1:Nat):Int)=1 from rfl,hset,ih,List.append_assoc];rfl
   · obtain rfl:e=0:=(by omega);rw [if_neg h0,if_neg (by omega),List.append_nil,List.nil_append];rw [show done++List.replicate (es.length+1) (0:Int)=(done++[0])++List.replicate es.length 0 by rw [List.replicate_succ];simp,ih,List.append_assoc];rfl
def rdName (l:List UInt8):Option (List Int):=if l=[49] then some (List.replicate 8 0) else rdM rdE l (List.replicate 8 0)
theorem idx_hit (c:UInt8) (b:List UInt8):∀a:List UInt8,(∀x∈a,x≠c)→Lib.indexByte (a++c::b) c=a.length
 | [],_=>by simp [Lib.indexByte]
 | x :: a, h => by
   have hx:=h x (by simp);have ih:=idx_hit c b a (fun y hy=>h y (by simp [hy]));rw [List.cons_append,Lib.indexByte,ih];have h1:(x==c)=false:=(by simpa using hx);have h2:((a.length:Int)==-1)=false:=(by simp);simp only [h1,h2,List.length_cons];simp
theorem cut_hit (c:UInt8) (a b:List UInt8) (h:∀x∈a,x≠c):Lib.cut (a++c::b) [c]=(a,b,true):=by
 have e:=idx_hit c b a h
 rw [Lib.cut,Lib.index_one,e,if_pos (by omega)]
 simp
def joinP (c:UInt8):List (List UInt8)→List UInt8
 | []=>[]
 | [p]=>p
 | p::q::r=>p++c::joinP c (q::r)
theorem split_join (c:UInt8):∀(p:List UInt8) (r:List (List UInt8)),(∀q∈p::r,∀x∈q,x≠c)→Lib.splitK [c] 0 r.length (joinP c (p::r))=p::r
 | p,[],_=>rfl
 | p, q :: r, h => by
   have e:=idx_hit c (joinP c (q::r)) p (h p (by simp));have ih:=split_join c q r (fun y hy=>h y (by simp [hy]));rw [List.length_cons,Lib.splitK,joinP,Lib.index_one,e];have h2:((p.length:Int)==-1)=false:=(by simp);rw [h2];simp only [Bool.false_eq_true,if_false,Int.toNat_natCast,Nat.add_zero,List.length_singleton];rw [List.take_left,show p++c::joinP c (q::r)=(p++[c])++joinP c (q::r) by simp,show p.length+1=(p++[c]).length by simp,List.drop_left,ih]
theorem count_join (c:UInt8):∀(p:List UInt8) (r:List (List UInt8)),(∀q∈p::r,∀x∈q,x≠c)→(joinP c (p::r)).count c=r.length
 | p, [], h => by
   rw [joinP];exact List.count_eq_zero.2 (fun hc=>h p (by simp) c hc rfl)
 | p, q :: r, h => by
   have ih:=count_join c q r (fun y hy=>h y (by simp [hy]));have hp:p.count c=0:=List.count_eq_zero.2 (fun hc=>h p (by simp) c hc rfl);rw [joinP,List.count_append,List.count_cons,ih,hp];simp
theorem joinP_snoc (c:UInt8):∀(r:List (List UInt8)) (p q:List UInt8),joinP c ((p::r)++[q])=joinP c (p::r)++c::q
 | [],p,q=>rfl
 | s :: r, p, q => by
   have ih:=joinP_snoc c r s q;rw [List.cons_append] at ih;rw [List.cons_append,List.cons_append,joinP,ih,joinP];simp
theorem pre_suf:∀(es done:List Int),pre (done++es) (done.length+es.length)=pre (done++es) done.length++sufM done.length es
 | [],done=>by simp [sufM]
 | e :: es, done => by
   have ih:=pre_suf es (done++[e]);rw [List.length_append,List.length_singleton,List.append_assoc,List.cons_append,List.nil_append] at ih;rw [List.length_cons,show done.length+(es.length+1)=done.length+1+es.length by omega,ih,pre,sufM]
   have hg:(done++e::es).getD done.length 0=e:=by
    rw [List.getD_eq_getElem?_getD,List.getElem?_append_right (Nat.le_refl _)];simp
   rw [hg,List.append_assoc]
theorem pre_suf8 {m:List Int} (h:m.length=8):pre m 8=sufM 0 m:=by
 have:=pre_suf m []
 rw [List.nil_append,List.length_nil,Nat.zero_add,h] at this
 rw [this,pre,List.nil_append]
theorem sufM_no {x:UInt8} (hx:∀k,k<8→ltr k≠x) (hd:¬(48≤x.toNat∧x.toNat≤57)):∀(es:List Int) (k:Nat),k+es.length≤8→∀c∈sufM k es,c≠x
 | [],k,_,c,h=>by simp [sufM] at h
 | e :: es, k, hk, c, h => by
   simp only [List.length_cons] at hk;rw [sufM,piece] at h
   rcases List.mem_append.1 h with h | h
   · rcases List.mem_append.1 h with h | h
     · split at h
       · rw [List.mem_singleton] at h;subst h;exact hx k (by omega)
       · simp at h
     · split at h
       · intro e;subst e;exact hd (dec_dg _ _ h)
       · simp at h
   · exact sufM_no hx hd es (k+1) (by omega) c h
theorem ltr_ne {x:UInt8} (hx:x.toNat<97) {k:Nat} (hk:k<8):ltr k≠x:=by
 intro e
 have:=ltr_nat hk
 rw [e] at this
 omega
theorem nameM_no {x:UInt8} (hx:x.toNat<97) (hd:¬(48≤x.toNat∧x.toNat≤57)) {m:List Int} (hm:IsMono m):∀c∈nameM m,c≠x:=by
 intro c hc
 unfold nameM at hc
 split at hc
 · rw [List.mem_singleton] at hc;subst hc;intro e;subst e;exact hd (by decide)
 · rw [pre_suf8 hm.1] at hc;exact sufM_no (fun k hk=>ltr_ne hx hk) hd m 0 (by have:=hm.1;omega) c hc
theorem rdName_name {m:List Int} (hm:IsMono m):rdName (nameM m)=some m:=by
 unfold nameM
 split
 · rename_i h0;rw [rdName,if_pos rfl];have hz:=(pre_zero 8).1 h0;congr 1
   refine List.ext_getElem (by simp [hm.1]) (fun i h1 h2=>?_);have h3:=hz i (by have:=hm.1;omega);have h4:=(hm.2 _ (List.getElem_mem h2)).1;rw [List.getD_eq_getElem?_getD,List.getElem?_eq_getElem h2,Option.getD_some] at h3;rw [List.getElem_replicate];omega
 · rename_i h0
   have h1:¬pre m 8=[49]:=by
    intro e;have:=sufM_head m 0 (by have:=hm.1;omega) 49 (by rw [←pre_suf8 hm.1,e];rfl);exact absurd this (by decide)
   rw [rdName,if_neg h1,pre_suf8 hm.1];have:=rdM_suf (rd:=rdE) rfl m [] (by simp [hm.1]) (fun e he=>⟨(hm.2 e he).1,fun _=>by rw [rdE,if_neg (dec_ne _),parseU_dec (B:=8) (by omega) (by have:=hm.2 e he;omega)]⟩);rw [List.nil_append,hm.1] at this;exact this
def rdT (l:List UInt8):Option Tm:=match Lib.parseIntB 64 (Lib.cut l [42]).1,rdName (Lib.cut l [42]).2.1 with
 | .ok f,some m=>if (Lib.cut l [42]).2.2=true then some ⟨m,f⟩ else none
 | _,_=>none
theorem termX_cut {t:Tm}:Lib.cut (termX t) [42]=(Lib.decDigits t.f.toNat,nameM t.m,true):=by
 rw [termX,List.append_assoc,List.cons_append,List.nil_append]
 refine cut_hit 42 _ _ (fun x hx e=>?_)
 have:=dec_dg _ x hx
 subst e
 exact absurd this (by decide)
theorem rdT_term {t:Tm} (hm:IsMono t.m) (h0:1≤t.f) (h1:t.f≤10006):rdT (termX t)=some t:=by
 rw [rdT,termX_cut,parseI_dec (n:=t.f.toNat) (by omega),rdName_name hm]
 simp only [Int.toNat_of_nonneg (show 0≤t.f by omega),if_true]
theorem termX_no {t:Tm} (hm:IsMono t.m):∀c∈termX t,c≠43:=by
 intro c hc
 rw [termX] at hc
 rcases List.mem_append.1 hc with hc | hc
 · rcases List.mem_append.1 hc with hc | hc
   · intro e;have:=dec_dg _ c hc;subst e;exact absurd this (by decide)
   · rw [List.mem_singleton] at hc;subst hc;decide
 · exact nameM_no (by decide) (by decide) hm c hc
theorem txtTo_join (ts:List Tm):∀k,k<ts.length→txtTo ts (k+1)=joinP 43 ((ts.take (k+1)).map termX)
 | 0, h => by
   have e:ts[0]? = some (ts[0]):=List.getElem?_eq_getElem h;rw [txtTo_step e,txtTo,part,if_neg (by omega),List.take_add_one,e];simp [joinP]
 | k + 1, h => by
   have ih:=txtTo_join ts k (by omega);have e:ts[k+1]? = some (ts[k+1]):=List.getElem?_eq_getElem h;rw [txtTo_step e,ih,part,if_pos (show 0<k+1 by omega),List.take_add_one (i:=k+1),e]
   cases hl:(ts.take (k+1)).map termX with
   | nil=>have:=congrArg List.length hl;rw [List.length_map,List.length_take] at this;simp only [List.length_nil] at this;omega
   | cons p r =>
     rw [List.map_append,hl,Option.toList,List.map_singleton,joinP_snoc];simp
theorem textF_join {ts:List Tm} (h:ts≠[]):textF ts=joinP 43 (ts.map termX):=by
 have h1:0<ts.length:=List.length_pos_iff.2 h
 rw [textF,if_neg h]
 have:=txtTo_join ts (ts.length - 1) (by omega)
 rw [show ts.length - 1+1=ts.length by omega,List.take_length] at this
 exact this
def rdF (l:List UInt8):Option (List Tm):=if l=[48] then some [] else if 400≤l.count 43 then none else (Lib.splitK [43] 0 (l.count 43) l).mapM rdT
theorem mapM_term:∀{ts:List Tm},Fine ts→(ts.map termX).mapM rdT=some ts
 | [],_=>rfl
 | t :: ts, h => by
   have ht:=h t (by simp);have ih:=mapM_term (ts:=ts) (fun s hs=>h s (by simp [hs]));rw [List.map_cons,List.mapM_cons,rdT_term ht.1 ht.2.2.1 ht.2.2.2,ih];rfl
theorem textF_ne {ts:List Tm} (h:ts≠[]):textF ts≠[48]:=by
 obtain ⟨t,r,rfl⟩:∃t r,ts=t::r:=by cases ts with | nil=>exact absurd rfl h | cons t r=>exact ⟨t,r,rfl⟩
 rw [textF_join h]
 intro e
 have hm:(42:UInt8)∈joinP 43 ((t::r).map termX):=by
  have h0:(42:UInt8)∈termX t:=by rw [termX];simp
  cases r with
  | nil=>exact h0
  | cons s r=>rw [List.map_cons,List.map_cons,joinP];exact List.mem_append_left _ h0
 rw [e] at hm
 exact absurd hm (by decide)
theorem rdF_text {ts:List Tm} (h:Fine ts) (hl:ts.length≤400):rdF (textF ts)=some ts:=by
 by_cases h0:ts=[]
 · subst h0;rfl
 · rw [rdF,if_neg (textF_ne h0),textF_join h0];obtain ⟨t,r,rfl⟩:∃t r,ts=t::r:=by cases ts with | nil=>exact absurd rfl h0 | cons t r=>exact ⟨t,r,rfl⟩
   have hno:∀q∈termX t::r.map termX,∀x∈q,x≠43:=by
    intro q hq;rw [←List.map_cons,List.mem_map] at hq;obtain ⟨s,hs,rfl⟩:=hq;exact termX_no (h s hs).1
   rw [List.map_cons,count_join 43 _ _ hno,if_neg (by simp at hl ⊢;omega)];rw [split_join 43 _ _ hno,←List.map_cons,mapM_term h]
def splA (c:UInt8) (cur:List UInt8):List UInt8→List (List UInt8)
 | []=>[cur]
 | x::t=>if x=c then cur::splA c [] t else splA c (cur++[x]) t
theorem splA_app (c:UInt8):∀(p cur rest:List UInt8),(∀x∈p,x≠c)→splA c cur (p++rest)=splA c (cur++p) rest
 | [],cur,rest,_=>by simp
 | x :: p, cur, rest, h => by
   rw [List.cons_append,splA,if_neg (h x (by simp)),splA_app c p _ _ (fun y hy=>h y (by simp [hy])),List.append_assoc];rfl
theorem splA_join (c:UInt8):∀(p cur:List UInt8) (r:List (List UInt8)),(∀q∈p::r,∀x∈q,x≠c)→splA c cur (joinP c (p::r))=(cur++p)::r
 | p, cur, [], h => by
   have:=splA_app c p cur [] (h p (by simp));rw [List.append_nil] at this;rw [joinP,this,splA]
 | p, cur, q :: r, h => by
   rw [joinP,splA_app c p cur _ (h p (by simp)),splA,if_pos rfl,splA_join c q [] r (fun y hy=>h y (by simp [hy]))];rfl
def nbS:Int→List UInt8→Option Int
 | n,[]=>some n
 | n,c::t=>if 48≤c.toNat∧c.toNat≤57 then nbS (n * 10+((c.toNat:Int) - 48)) t else none
def nbD (l:List UInt8):Int:=if l.length=0∨9<l.length∨(1<l.length∧l.head? = some 48) then -1 else (nbS 0 l).getD (-1)
theorem nbS_snoc {d:Nat} (hd:d<10):∀(l:List UInt8) (a v:Int),nbS a l=some v→nbS a (l++[UInt8.ofNat (48+d)])=some (v * 10+d)
 | [], a, v, h => by
   simp only [nbS,Option.some.injEq] at h;subst h;have:=digit_dg hd;rw [List.nil_append,nbS,if_pos ⟨this.1,this.2.1⟩,nbS];congr 1
   omega
 | c :: l, a, v, h => by
   rw [nbS] at h;rw [List.cons_append,nbS];split at h
   · rename_i h1;rw [if_pos h1];exact nbS_snoc hd l _ v h
   · cases h
theorem nbS_dec (n:Nat):nbS 0 (Lib.decDigits n)=some (n:Int):=by
 induction n using Nat.strongRecOn with
 | ind n ih =>
   by_cases h:n<10
   · have:=nbS_snoc h [] 0 0 rfl;rw [Lib.decDigits_one h];simpa using this
   · rw [dec_snoc h,nbS_snoc (d:=n % 10) (by omega) _ _ _ (ih (n / 10) (by omega))];congr 1
     omega
theorem dec_head (n:Nat):0<n→(Lib.decDigits n).head? ≠ some 48:=by
 induction n using Nat.strongRecOn with
 | ind n ih =>
   intro hn;by_cases h:n<10
   · rw [Lib.decDigits_one h];intro e;simp only [List.head?_cons,Option.some.injEq] at e;have:=(digit_dg h).2.2;rw [e] at this;have h2:(48:UInt8).toNat - 48=0:=(by decide);omega
   · have h1:=ih (n / 10) (by omega) (by omega);rw [dec_snoc h]
     cases hl:Lib.decDigits (n / 10) with
     | nil=>exact absurd hl (dec_ne _)
     | cons c r=>rw [hl] at h1;exact h1
theorem nbD_dec {n:Nat} (hn:n<1000000):nbD (Lib.decDigits n)=n:=by
 have h1:=dec_len n 5 (by omega)
 have h2:0<(Lib.decDigits n).length:=List.length_pos_iff.2 (dec_ne n)
 rw [nbD,if_neg,nbS_dec]
 · rfl
 · rintro (h | h | ⟨h,h3⟩)
   · omega
   · omega
   · by_cases h4:n=0
     · subst h4;rw [Lib.decDigits_one (by omega)] at h;simp at h
     · exact dec_head n (by omega) h3
def rdN (l:List UInt8):Option Nat:=if l=[] then some 1 else if 1≤nbD l∧nbD l≤20 then some (nbD l).toNat else none
def naM (l:List UInt8):Option (List Int):=if l=[49] then some (List.replicate 8 0) else if l=[] then none else rdM rdN l (List.replicate 8 0)
theorem naM_name {m:List Int} (hm:IsMono m) (h20:∀x∈m,x≤20):naM (nameM m)=some m:=by
 have h0:=rdName_name hm
 rw [rdName] at h0
 rw [naM]
 split at h0
 · rename_i h1;rw [if_pos h1];exact h0
 · rename_i h1
   have h2:nameM m=pre m 8∧¬pre m 8=[]:=by
    unfold nameM at h1 ⊢;split
    · rename_i h3;rw [if_pos h3] at h1;exact absurd rfl h1
    · rename_i h3;exact ⟨rfl,h3⟩
   rw [if_neg h1,h2.1,if_neg h2.2,pre_suf8 hm.1]
   have:=rdM_suf (rd:=rdN) rfl m [] (by simp [hm.1]) (fun e he=>⟨(hm.2 e he).1,fun h=>by
    have h4:=h20 e he;have h5:nbD (Lib.decDigits e.toNat)=e:=by rw [nbD_dec (by omega)];omega
    rw [rdN,if_neg (dec_ne _),h5,if_pos (by omega)]⟩)
   rw [List.nil_append,hm.1] at this;exact this
def rdTs (l:List UInt8):Option Tm:=match splA 42 [] l with
 | [a, b] => match naM b with
   | some m=>some ⟨m,nbD a⟩
   | none=>none
 | _=>none
def rdFs (l:List UInt8):Option (List Tm):=if l=[48] then some [] else if 400<(splA 43 [] l).length then none else (splA 43 [] l).mapM rdTs
theorem rdTs_term {t:Tm} (hm:IsMono t.m) (h20:∀x∈t.m,x≤20) (h0:1≤t.f) (h1:t.f≤10006):rdTs (termX t)=some t:=by
 have e:splA 42 [] (termX t)=[Lib.decDigits t.f.toNat,nameM t.m]:=by
  have:=splA_join 42 (Lib.decDigits t.f.toNat) [] [nameM t.m] (fun q hq x hx=>by
   rcases List.mem_cons.1 hq with rfl | hq
   · intro e;have:=dec_dg _ x hx;subst e;exact absurd this (by decide)
   · rw [List.mem_singleton] at hq;subst hq
     exact nameM_no (by decide) (by decide) hm x hx)
  rw [List.nil_append] at this;rw [←this,termX,joinP,joinP];simp
 rw [rdTs,e]
 simp only [naM_name hm h20]
 rw [nbD_dec (n:=t.f.toNat) (by omega),Int.toNat_of_nonneg (by omega)]
theorem mapMs_term:∀{ts:List Tm},Fine ts→(ts.map termX).mapM rdTs=some ts
 | [],_=>rfl
 | t :: ts, h => by
   have ht:=h t (by simp);have ih:=mapMs_term (ts:=ts) (fun s hs=>h s (by simp [hs]));rw [List.map_cons,List.mapM_cons,rdTs_term ht.1 ht.2.1 ht.2.2.1 ht.2.2.2,ih];rfl
theorem rdFs_text {ts:List Tm} (h:Fine ts) (hl:ts.length≤400):rdFs (textF ts)=some ts:=by
 by_cases h0:ts=[]
 · subst h0;rfl
 · rw [rdFs,if_neg (textF_ne h0),textF_join h0];obtain ⟨t,r,rfl⟩:∃t r,ts=t::r:=by cases ts with | nil=>exact absurd rfl h0 | cons t r=>exact ⟨t,r,rfl⟩
   have hno:∀q∈termX t::r.map termX,∀x∈q,x≠43:=by
    intro q hq;rw [←List.map_cons,List.mem_map] at hq;obtain ⟨s,hs,rfl⟩:=hq;exact termX_no (h s hs).1
   rw [List.map_cons,splA_join 43 _ [] _ hno,List.nil_append,if_neg (by simp at hl ⊢;omega),←List.map_cons,mapMs_term h]
theorem parseU8_le {l:List UInt8} {e:Nat} (h:Lib.parseUintB 8 l=.ok e):e≤255:=by
 have key:∀(l:List UInt8) (acc e:Nat),acc≤255→Lib.parseUintM 255 acc l=.ok e→e≤255:=by
  intro l
  induction l with
  | nil=>intro acc e ha h;simp only [Lib.parseUintM,Lib.NumEnd.ok.injEq] at h;omega
  | cons c l ih =>
    intro acc e ha h;rw [Lib.parseUintM] at h;split at h
    · split at h
      · cases h
      · split at h
        · cases h
        · exact ih _ _ (by omega) h
    · cases h
 rw [Lib.parseUintB] at h
 split at h
 · cases h
 · exact key l 0 e (by omega) h
theorem rdE_le (l:List UInt8) (e:Nat) (h:rdE l=some e):e≤255:=by
 rw [rdE] at h
 split at h
 · cases h;omega
 · split at h
   · rename_i v hv;cases h
     exact parseU8_le hv
   · cases h
theorem rdN_le (l:List UInt8) (e:Nat) (h:rdN l=some e):e≤255:=by
 rw [rdN] at h
 split at h
 · cases h;omega
 · split at h
   · cases h;omega
   · cases h
theorem zero8:IsMono (List.replicate 8 0):=⟨by simp,fun x hx=>by rw [List.eq_of_mem_replicate hx];omega⟩
theorem rdName_mono {l:List UInt8} {m:List Int} (h:rdName l=some m):IsMono m:=by
 rw [rdName] at h
 split at h
 · cases h;exact zero8
 · exact rdM_mono rdE_le _ l _ m rfl h zero8
theorem naM_mono {l:List UInt8} {m:List Int} (h:naM l=some m):IsMono m:=by
 rw [naM] at h
 split at h
 · cases h;exact zero8
 · split at h
   · cases h
   · exact rdM_mono rdN_le _ l _ m rfl h zero8
theorem parseI_le {l:List UInt8} {v:Int} (h:Lib.parseIntB 64 l=.ok v):-9223372036854775808≤v∧v≤9223372036854775807:=by
 unfold Lib.parseIntB at h
 have h3:(2:Nat) ^ (64 - 1)=9223372036854775808:=by decide
 split at h
 · cases h
 · simp only [h3] at h;split at h
   · cases h
   · cases h
   · rename_i u hu;split at h
     · cases h
     · split at h
       · cases h
       · rename_i h1 h2;cases h
         split <;> omega
theorem rdT_tm {l:List UInt8} {t:Tm} (h:rdT l=some t):IsTm t:=by
 rw [rdT] at h
 split at h
 · rename_i f m hf hm;split at h
   · cases h
     exact ⟨rdName_mono hm,parseI_le hf⟩
   · cases h
 · cases h
theorem mapM_mem {α β:Type} {f:α→Option β} {P:β→Prop} (hf:∀a b,f a=some b→P b):∀{l:List α} {r:List β},l.mapM f=some r→∀b∈r,P b
 | [], r, h, b, hb => by
   simp only [List.mapM_nil,Option.pure_def,Option.some.injEq] at h;subst h;simp at hb
 | a :: l, r, h, b, hb => by
   rw [List.mapM_cons] at h
   cases h1:f a with
   | none=>rw [h1] at h;cases h
   | some c =>
     cases h2:l.mapM f with
     | none=>rw [h1,h2] at h;cases h
     | some s =>
       rw [h1,h2] at h;cases h
       rcases List.mem_cons.1 hb with rfl | hb
       · exact hf a _ h1
       · exact mapM_mem hf h2 b hb
theorem rdF_tm {l:List UInt8} {ts:List Tm} (h:rdF l=some ts):∀t∈ts,IsTm t:=by
 rw [rdF] at h
 split at h
 · cases h;simp
 · split at h
   · cases h
   · exact mapM_mem (fun _ _ h=>rdT_tm h) h
theorem nbS_le:∀(l:List UInt8) (a v:Int) (k:Nat),nbS a l=some v→0≤a→a<10 ^ k→0≤v∧v<10 ^ (k+l.length)
 | [], a, v, k, h, h0, h1 => by
   simp only [nbS,Option.some.injEq] at h;subst h;exact ⟨h0,h1⟩
 | c :: l, a, v, k, h, h0, h1 => by
   rw [nbS] at h;split at h
   · have:=nbS_le l _ v (k+1) h (by omega) (by rw [Int.pow_succ];omega);rw [List.length_cons,show k+(l.length+1)=k+1+l.length by omega];exact this
   · cases h
theorem nbD_le (l:List UInt8):-1≤nbD l∧nbD l≤1000000000:=by
 rw [nbD]
 split
 · omega
 · rename_i h
   cases hn:nbS 0 l with
   | none=>exact ⟨by decide,by decide⟩
   | some v =>
     have h1:=nbS_le l 0 v 0 hn (by omega) (by decide);have h2:l.length≤9:=by omega
     have h3:(10:Int) ^ (0+l.length)≤10 ^ 9:=by
      rw [Nat.zero_add]
      exact_mod_cast Nat.pow_le_pow_right (show 0<10 by omega) h2
     have h4:(10:Int) ^ 9=1000000000:=(by decide);rw [Option.getD_some];omega
theorem rdTs_tm {l:List UInt8} {t:Tm} (h:rdTs l=some t):IsTm t:=by
 rw [rdTs] at h
 split at h
 · rename_i a b;split at h
   · rename_i m hm;cases h
     exact ⟨naM_mono hm,Int.le_trans (by decide) (nbD_le _).1,Int.le_trans (nbD_le _).2 (by decide)⟩
   · cases h
 · cases h
theorem rdFs_tm {l:List UInt8} {ts:List Tm} (h:rdFs l=some ts):∀t∈ts,IsTm t:=by
 rw [rdFs] at h
 split at h
 · cases h;simp
 · split at h
   · cases h
   · exact mapM_mem (fun _ _ h=>rdTs_tm h) h
def paG (zs:List Int) (l:List UInt8) (E:Option (List Tm)):Option (List Tm):=match E with
 | some ts=>if isForm zs ts=true∧textF ts=l then some ts else none
 | none=>none
theorem paG_of {zs:List Int} {l:List UInt8} {E:Option (List Tm)} (hE:∀ts,E=some ts→∀t∈ts,IsTm t) (hT:∀ts,Fine ts→ts.length≤400→textF ts=l→E=some ts) (ts:List Tm):paG zs l E=some ts↔(isForm zs ts=true∧textF ts=l∧∀t∈ts,IsTm t):=by
 constructor
 · intro h;unfold paG at h;split at h
   · rename_i us;split at h
     · rename_i h1;cases h
       exact ⟨h1.1,h1.2,hE _ rfl⟩
     · cases h
   · cases h
 · rintro ⟨h1,h2,h3⟩;have h4:=isForm_fine h1 h3;rw [hT ts h4.1 h4.2 h2,paG];exact if_pos ⟨h1,h2⟩
end Go.Proofs.YtfpniioegjpfeaaGreatDoor
