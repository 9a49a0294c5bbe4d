
import Derived.Test.YtikldofmpkidbaaAddS
import Derived.Test.YtikldofmpkidbaaAddT
import Derived.Test.YtikldofmpkidbaaResult
import Derived.Laws.MakeOwn
import Derived.BigQuiet
import Derived.Test.YtikldofmpkidbaaTerm
import Derived.Stop.BytesEq
namespace Go.Proofs.Ytikldofmpkidbaa
set_option maxRecDepth 100000
open Go.RowKit Go.Deep
def lenOf:Value→Nat
 | .slice _ n _=>n
 | _=>0
theorem Terms.tail {w:World} {b o n:Nat} {t:Tm} {ts:List Tm} (h:Terms w (some ⟨b,o,none⟩) (n+1) (t::ts)):Terms w (some ⟨b,o+9,none⟩) n ts:=by
 obtain ⟨hl,hT,hr⟩:=h
 refine ⟨by simpa using hl,fun u hu=>hT u (by simp [hu]),fun _=>?_⟩
 obtain ⟨b',o',he,hb,hc⟩:=hr (by omega)
 simp only [Option.some.injEq,Addr.mk.injEq,and_true] at he
 obtain ⟨rfl,rfl⟩:=he
 refine ⟨_,_,rfl,hb,fun j v hv=>?_⟩
 have h9:=tcells_length (hT t (by simp))
 have:=hc (9+j) v (by rw [rcells_cons,List.getElem?_append_right (by omega),h9,Nat.add_sub_cancel_left];exact hv)
 rwa [Nat.add_assoc]
theorem Terms.tail' {w:World} {b o n d:Nat} {t:Tm} {ts:List Tm} (h:Terms w (some ⟨b,o,none⟩) (n+1) (t::ts)) (hd:n+1≤d):Terms w (some ⟨b,if d=1 then o else o+9,none⟩) n ts:=by
 by_cases h1:d=1
 · have h0:n=0:=(by omega);subst h0;obtain ⟨hl,hT,_⟩:=h;exact ⟨by simpa using hl,fun u hu=>hT u (by simp [hu]),fun h=>absurd h (by omega)⟩
 · rw [if_neg h1];exact h.tail
theorem slice_ite (b o m d:Nat):Value.slice (if d=1 then some ⟨b,o,none⟩ else some ⟨b,o+9,none⟩) m (d - 1)=.slice (some ⟨b,if d=1 then o else o+9,none⟩) m (d - 1):=by
 split <;> rfl
theorem Terms.news {w w':World} {b o n:Nat} {ts:List Tm} (h:Terms w (some ⟨b,o,none⟩) n ts) (hb:Below w.heap.size w w'):∀j u,(rcells ts)[j]? = some u→w'.cell? ((⟨b,o,none⟩:Addr).add j)=some u:=by
 intro j u hu
 obtain ⟨hl,hT,hr⟩:=h
 by_cases hn:0<n
 · obtain ⟨b',o',he,hbl,hc⟩:=hr hn;simp only [Option.some.injEq,Addr.mk.injEq,and_true] at he;obtain ⟨rfl,rfl⟩:=he;have:=rgK hc (hb.block b hbl) j u hu
   rwa [Addr.add_mid]
 · have:ts=[]:=List.length_eq_zero_iff.1 (by omega);subst this;simp [rcells] at hu
theorem rcells_one {ts:List Tm}:∀u∈rcells ts,u.oneCell'=true:=by
 intro u hu
 simp only [rcells,List.mem_flatMap,tcells,mcells,List.mem_append,List.mem_map,List.mem_singleton] at hu
 obtain ⟨t,_,⟨x,_,rfl⟩ | rfl⟩:=hu <;> rfl
theorem Terms.first {w:World} {b o n:Nat} {ts:List Tm} (h:Terms w (some ⟨b,o,none⟩) n ts) (hn:0<n):∃t us m,ts=t::us∧n=m+1∧b<w.heap.size∧w.rangeAt b o (tcells t)∧IsTm t:=by
 obtain ⟨hl,hT,hr⟩:=h
 cases ts with
 | nil=>simp at hl;omega
 | cons t us =>
   obtain ⟨b',o',he,hb,hc⟩:=hr hn;simp only [Option.some.injEq,Addr.mk.injEq,and_true] at he;obtain ⟨rfl,rfl⟩:=he;refine ⟨t,us,n - 1,rfl,by omega,hb,fun j v hv=>?_,hT t (by simp)⟩;exact hc j v (by rw [rcells_cons,List.getElem?_append_left (List.getElem?_eq_some_iff.1 hv).1];exact hv)
theorem nine36 {w':World} {b1 o1 b2 o2:Nat} {p0 p1 p2 p3 p4 p5 p6 p7 tf q0 q1 q2 q3 q4 q5 q6 q7 uf:Int} (h1:w'.rangeAt b1 o1 (tcells ⟨[p0,p1,p2,p3,p4,p5,p6,p7],tf⟩)) (h2:w'.rangeAt b2 o2 (tcells ⟨[q0,q1,q2,q3,q4,q5,q6,q7],uf⟩)):w'.cell? ⟨b1,o1,none⟩=some (.int .u8 p0)∧w'.cell? ⟨b1,o1+1,none⟩=some (.int .u8 p1)∧w'.cell? ⟨b1,o1+2,none⟩=some (.int .u8 p2)∧w'.cell? ⟨b1,o1+3,none⟩=some (.int .u8 p3)∧w'.cell? ⟨b1,o1+4,none⟩=some (.int .u8 p4)∧w'.cell? ⟨b1,o1+5,none⟩=some (.int .u8 p5)∧w'.cell? ⟨b1,o1+6,none⟩=some (.int .u8 p6)∧w'.cell? ⟨b1,o1+7,none⟩=some (.int .u8 p7)∧w'.cell? ⟨b1,o1+8,none⟩=some (.int .i64 tf)∧w'.cell? ⟨b2,o2,none⟩=some (.int .u8 q0)∧w'.cell? ⟨b2,o2+1,none⟩=some (.int .u8 q1)∧w'.cell? ⟨b2,o2+2,none⟩=some (.int .u8 q2)∧w'.cell? ⟨b2,o2+3,none⟩=some (.int .u8 q3)∧w'.cell? ⟨b2,o2+4,none⟩=some (.int .u8 q4)∧w'.cell? ⟨b2,o2+5,none⟩=some (.int .u8 q5)∧w'.cell? ⟨b2,o2+6,none⟩=some (.int .u8 q6)∧w'.cell? ⟨b2,o2+7,none⟩=some (.int .u8 q7)∧w'.cell? ⟨b2,o2+8,none⟩=some (.int .i64 uf):=
 ⟨h1 0 _ rfl,h1 1 _ rfl,h1 2 _ rfl,h1 3 _ rfl,h1 4 _ rfl,h1 5 _ rfl,h1 6 _ rfl,h1 7 _ rfl,h1 8 _ rfl,h2 0 _ rfl,h2 1 _ rfl,h2 2 _ rfl,h2 3 _ rfl,h2 4 _ rfl,h2 5 _ rfl,h2 6 _ rfl,h2 7 _ rfl,h2 8 _ rfl⟩
theorem ownR_of {w:World} {B:Nat} {v:Value} {n:Nat} {ts:List Tm} {xs:List Value} (h:w.ownsRow B 88 9 v n xs) (hn:ts.length=n) (hx:rcells ts=xs):OwnR w B v ts:=by
 subst hn
 subst hx
 exact h
theorem addT_put {k:Int} {os R fs gs:List Tm} {f g:Tm} (h:os++addT k (f::fs) (g::gs)=R) (hb:before f.m g.m=true):(os++[f])++addT k fs (g::gs)=R:=by rw [addT_lt hb] at h;simpa using h
theorem addT_putR {os R fs gs:List Tm} {f g:Tm} (h:os++addT 1 (f::fs) (g::gs)=R) (hb:before g.m f.m=true) (hg:1≤g.f∧g.f≤10006):(os++[g])++addT 1 (f::fs) gs=R:=by
 rw [addT_gt hb,own1_yes (by rw [Int.one_mul,num_id (by omega) (by omega)];omega)] at h
 rw [Int.one_mul,num_id (by omega) (by omega)] at h
 simpa using h
theorem addT_both {os R fs gs:List Tm} {m:List Int} {x y:Int} (h:os++addT 1 (⟨m,x⟩::fs) (⟨m,y⟩::gs)=R) (hy:1≤y∧y≤10006):(os++own1 m (num (x+y)))++addT 1 fs gs=R:=by
 rw [addT_eq (show before (Tm.mk m x).m (Tm.mk m y).m=false from before_self _) (show before (Tm.mk m y).m (Tm.mk m x).m=false from before_self _)] at h
 have e:num (1 * y)=y:=by rw [Int.one_mul];exact num_id (by omega) (by omega)
 simp only [e] at h
 simpa using h
theorem addT_rest {os R gs:List Tm} (h:os++addT 1 [] gs=R) (hg:∀g∈gs,1≤g.f∧g.f≤10006):os++gs=R:=by
 have h1:∀gs:List Tm,(∀g∈gs,1≤g.f∧g.f≤10006)→addT 1 [] gs=gs:=by
  intro gs
  induction gs with
  | nil=>intro _;rw [addT]
  | cons g gs ih =>
    intro hg;have h2:=hg g (by simp);rw [addT_left,own1_yes (by rw [Int.one_mul,num_id (by omega) (by omega)];omega),ih (fun g hg'=>hg g (by simp [hg']))];rw [Int.one_mul,num_id (by omega) (by omega)];rfl
 rw [h1 gs hg] at h
 exact h
theorem addT_fin {os R us vs:List Tm} (h:os++addT 1 us vs=R) (he:us=[]∨vs=[]) (hv:∀g∈vs,1≤g.f∧g.f≤10006):(os++us)++vs=R:=by
 rcases he with rfl | rfl
 · have:=addT_rest h hv;simpa using this
 · rw [addT_right] at h;simpa using h
set_option maxHeartbeats 8000000 in
theorem mergeTerms_c {w : World} {b1 o1 b2 o2 n1 n2 : Nat} {fs gs : List Tm} (c1 c2 : Nat) (h1 : Terms w (some ⟨b1, o1, none⟩) n1 fs) (h2 : Terms w (some ⟨b2, o2, none⟩) n2 gs) (hc1 : n1 ≤ c1) (hc2 : n2 ≤ c2) (hn : n1 + n2 ≤ 1000000) (hf : ∀ t ∈ fs, 1 ≤ t.f ∧ t.f ≤ 10006) (hg : ∀ t ∈ gs, 1 ≤ t.f ∧ t.f ≤ 10006) :
    Calls Try.prog 105 #[.slice (some ⟨b1,o1,none⟩) n1 c1,.slice (some ⟨b2,o2,none⟩) n2 c2] w fun e w'=>∃v,e=.returned v∧OwnR w' w.heap.size v (addT 1 fs gs)∧Below w.heap.size w w':=by
 have HLen:=Lib.hid (addT_len (k:=1) fs gs)
 have hl1:=h1.len
 have hl2:=h2.len
 generalize hR0:addT 1 fs gs=R at *
 have HR0:=Lib.hid hR0
 clear hR0
 obtain ⟨ti,tz,hti,htz,hts,htb,htzs⟩:=Try.info_termA
 obtain ⟨wm,hmk,hown,hgr⟩:=run_make_own (P:=Try.prog) (w:=w) w.heap.size 59 88 ti tz 9 Try.underlying59 hti htz hts .i64 .i64 (n1+n2) (by rw [htb];omega) (by unfold maxLen;omega) (Nat.le_refl _)
 have hbm:Below w.heap.size w wm:=⟨hgr.os,hgr.tape,hgr.output,hgr.size,fun k hk=>hgr.block k hk (by simp)⟩
 have HI:=Lib.hid hti
 have HZ:=Lib.hid htz
 have HS:=Lib.hid hts
 have HBt:=Lib.hid htb
 have HZs:=Lib.hid htzs
 clear hti htz hts htb htzs hgr
 have hcast:((n1+n2:Nat):Int)=(n1:Int)+(n2:Int):=by omega
 rw [hcast] at hmk
 have s0:IntKind.i64.wrap ((n1:Int)+(n2:Int))=(n1:Int)+(n2:Int):=IntWalk.i64_in _ (by omega)
 go_enter Try.func105,Try.ntmps105
 go_wp2_with fail
 clear hmk s0 hcast
 have hO0:OwnR wm w.heap.size (.slice (some ⟨w.heap.size,0,none⟩) 0 (n1+n2)) []:=hown
 clear hown
 go_loopw [0,1,5] (fun x y z wr=>∃(e1 m1 d1 e2 m2 d2:Nat) (us vs:List Tm) (v:Value) (os:List Tm),x=.slice (some ⟨b1,e1,none⟩) m1 d1∧y=.slice (some ⟨b2,e2,none⟩) m2 d2∧z=v∧m1≤n1∧m2≤n2∧m1≤d1∧m2≤d2∧Terms w (some ⟨b1,e1,none⟩) m1 us∧Terms w (some ⟨b2,e2,none⟩) m2 vs∧Hid (∀t∈us,1≤t.f∧t.f≤10006)∧Hid (∀t∈vs,1≤t.f∧t.f≤10006)∧Below w.heap.size w wr∧OwnR wr w.heap.size v os∧Hid (os++addT 1 us vs=R)) (fun x y _ _=>lenOf x+lenOf y)
 case atStart=>exact ⟨o1,n1,c1,o2,n2,c2,fs,gs,_,[],rfl,rfl,rfl,Nat.le_refl _,Nat.le_refl _,hc1,hc2,h1,h2,hf,hg,hbm,hO0,HR0⟩
 case round=>
  clear hbm hO0;obtain ⟨e1,m1,d1,e2,m2,d2,us,vs,v,os,rfl,rfl,rfl,hm1,hm2,hd1,hd2,t1,t2,hu,hv,hb,hO,hinv⟩:=hrel;obtain ⟨va,vn,vc,rfl⟩:=hO.isSlice
  have hos:os.length≤1000000:=by
   have e1:=hinv.out;have e2:=HLen.out;rw [←e1,List.length_append] at e2;omega
  have HP:=Lib.hid hos;clear hos;by_cases g1:0<m1
  · by_cases g2:0<m2
    · obtain ⟨t,us,m1,rfl,rfl,hbl1,hr10,ht⟩:=t1.first g1;obtain ⟨u,vs,m2,rfl,rfl,hbl2,hr20,hu'⟩:=t2.first g2;obtain ⟨mt,tf⟩:=t;obtain ⟨mu,uf⟩:=u;have hmt:IsMono mt:=ht.1;have hmu:IsMono mu:=hu'.1;have htf:1≤tf∧tf≤10006:=hu.out ⟨mt,tf⟩ (by simp);have huf:1≤uf∧uf≤10006:=hv.out ⟨mu,uf⟩ (by simp);obtain ⟨p0,p1,p2,p3,p4,p5,p6,p7,rfl⟩:=mono8 hmt;obtain ⟨q0,q1,q2,q3,q4,q5,q6,q7,rfl⟩:=mono8 hmu;have hr1:=rgK hr10 (hb.block b1 hbl1);have hr2:=rgK hr20 (hb.block b2 hbl2);have hx1:(0:Int)<((m1+1:Nat):Int):=(by omega);have hx2:(0:Int)<((m2+1:Nat):Int):=(by omega);by_cases heq:[p0,p1,p2,p3,p4,p5,p6,p7]=[q0,q1,q2,q3,q4,q5,q6,q7]
      · simp only [List.cons.injEq,and_true] at heq;obtain ⟨rfl,rfl,rfl,rfl,rfl,rfl,rfl,rfl⟩:=heq;obtain ⟨y0,y1,y2,y3,y4,y5,y6,y7,y8,y9,y10,y11,y12,y13,y14,y15,y16,y17⟩:=nine36 hr1 hr2;have hcv:cmpM [p0,p1,p2,p3,p4,p5,p6,p7] [p0,p1,p2,p3,p4,p5,p6,p7]=0:=cmpM_self _;obtain ⟨x,hx0⟩:∃x,num (tf+uf)=x:=⟨_,rfl⟩;have HX:=Lib.hid hx0;have HTF:=Lib.hid htf;have HUF:=Lib.hid huf;have s1:IntKind.i64.wrap (tf+uf)=tf+uf:=IntWalk.i64_in _ (by omega);have hadd:=addT_both hinv.out huf;rw [hx0] at hadd;have HADD:=Lib.hid hadd;clear hx0 hadd;go_upto_region 3 with fail
        replace hb:=Below.drew hb;replace hO:OwnR wr.drew w.heap.size (.slice va vn vc) os:=hO;replace hr1:wr.drew.rangeAt b1 e1 (tcells ⟨[p0,p1,p2,p3,p4,p5,p6,p7],tf⟩):=hr1;replace hr2:wr.drew.rangeAt b2 e2 (tcells ⟨[p0,p1,p2,p3,p4,p5,p6,p7],uf⟩):=hr2
        go_region_held3 (fun w'=>w'.cell? ⟨b1,e1,none⟩=some (.int .u8 p0)∧w'.cell? ⟨b1,e1+1,none⟩=some (.int .u8 p1)∧w'.cell? ⟨b1,e1+2,none⟩=some (.int .u8 p2)∧w'.cell? ⟨b1,e1+3,none⟩=some (.int .u8 p3)∧w'.cell? ⟨b1,e1+4,none⟩=some (.int .u8 p4)∧w'.cell? ⟨b1,e1+5,none⟩=some (.int .u8 p5)∧w'.cell? ⟨b1,e1+6,none⟩=some (.int .u8 p6)∧w'.cell? ⟨b1,e1+7,none⟩=some (.int .u8 p7)∧w'.cell? ⟨b1,e1+8,none⟩=some (.int .i64 tf)∧w'.cell? ⟨b2,e2,none⟩=some (.int .u8 p0)∧w'.cell? ⟨b2,e2+1,none⟩=some (.int .u8 p1)∧w'.cell? ⟨b2,e2+2,none⟩=some (.int .u8 p2)∧w'.cell? ⟨b2,e2+3,none⟩=some (.int .u8 p3)∧w'.cell? ⟨b2,e2+4,none⟩=some (.int .u8 p4)∧w'.cell? ⟨b2,e2+5,none⟩=some (.int .u8 p5)∧w'.cell? ⟨b2,e2+6,none⟩=some (.int .u8 p6)∧w'.cell? ⟨b2,e2+7,none⟩=some (.int .u8 p7)∧w'.cell? ⟨b2,e2+8,none⟩=some (.int .i64 uf)) (exact nine36 hr1 hr2)
         (first
          | (go_at_call 121;(refine (compareT8 hmt hmt hcv).mono ?_);rintro e wB ⟨rfl,hbB⟩;replace hb:=bT' hb hbB hb.size;replace hO:=hO.keep hbB;replace hr1:=rgK hr10 (hb.block b1 hbl1);replace hr2:=rgK hr20 (hb.block b2 hbl2);clear hbB))
        have hbB1:b1<wB.heap.size:=Nat.lt_of_lt_of_le hbl1 hb.size;have hbB2:b2<wB.heap.size:=Nat.lt_of_lt_of_le hbl2 hb.size;clear y0 y1 y2 y3 y4 y5 y6 y7 y8 y9 y10 y11 y12 y13 y14 y15 y16 y17;obtain ⟨y0,y1,y2,y3,y4,y5,y6,y7,y8,y9,y10,y11,y12,y13,y14,y15,y16,y17⟩:=nine36 hr1 hr2;go_upto_region 7 with fail
        go_quiet ((go_at_call 122;exact Calls.quiet_of_same (numberOf_v HX.out)))
        replace hb:=below_drewN hb nq;replace hO:OwnR (wB.drewN nq) w.heap.size (.slice va vn vc) os:=hO;replace hr1:(wB.drewN nq).rangeAt b1 e1 (tcells ⟨[p0,p1,p2,p3,p4,p5,p6,p7],tf⟩):=hr1;replace hr2:(wB.drewN nq).rangeAt b2 e2 (tcells ⟨[p0,p1,p2,p3,p4,p5,p6,p7],uf⟩):=hr2;clear y0 y1 y2 y3 y4 y5 y6 y7 y8 y9 y10 y11 y12 y13 y14 y15 y16 y17;generalize wB.drewN nq=wp at *;by_cases hz:x=0
        · subst hz;go_wp2_with fail
          go_upto_region 10 with fail
          go_quiet (fail)
          go_wp2_with fail
          go_roundw
          case rel=>exact ⟨_,m1,_,_,m2,_,us,vs,.slice va vn vc,os,slice_ite _ _ _ _,slice_ite _ _ _ _,rfl,by omega,by omega,by omega,by omega,t1.tail' hd1,t2.tail' hd2,Lib.hid (fun t ht=>hu.out t (by simp [ht])),Lib.hid (fun t ht=>hv.out t (by simp [ht])),below_drewN hb nq,hO,Lib.hid (own1_skip HADD.out rfl)⟩
          case measure=>simp only [lenOf];omega
        · have hzb:(x==0)=false:=(by simpa using hz);obtain ⟨y0,y1,y2,y3,y4,y5,y6,y7,y8,y9,y10,y11,y12,y13,y14,y15,y16,y17⟩:=nine36 hr1 hr2;have hOa:World.ownsRow (wp.alloc (.cells #[.int .u8 p0,.int .u8 p1,.int .u8 p2,.int .u8 p3,.int .u8 p4,.int .u8 p5,.int .u8 p6,.int .u8 p7,.int .i64 x] 88)) w.heap.size 88 9 (.slice va vn vc) os.length (rcells os):=hO.keep (bA1 wp (.cells #[.int .u8 p0,.int .u8 p1,.int .u8 p2,.int .u8 p3,.int .u8 p4,.int .u8 p5,.int .u8 p6,.int .u8 p7,.int .i64 x] 88));have hba:=bT' hb (bA1 wp (.cells #[.int .u8 p0,.int .u8 p1,.int .u8 p2,.int .u8 p3,.int .u8 p4,.int .u8 p5,.int .u8 p6,.int .u8 p7,.int .i64 x] 88)) hb.size
          have hnews:∀z u,([Value.int .u8 p0,.int .u8 p1,.int .u8 p2,.int .u8 p3,.int .u8 p4,.int .u8 p5,.int .u8 p6,.int .u8 p7,.int .i64 x]:List Value)[z]? = some u→(wp.alloc (.cells #[.int .u8 p0,.int .u8 p1,.int .u8 p2,.int .u8 p3,.int .u8 p4,.int .u8 p5,.int .u8 p6,.int .u8 p7,.int .i64 x] 88)).cell? ((⟨wp.heap.size,0,none⟩:Addr).add z)=some u:=fun z u hu=>by
           rw [Addr.add_mid];exact (Own.new wp 88 #[.int .u8 p0,.int .u8 p1,.int .u8 p2,.int .u8 p3,.int .u8 p4,.int .u8 p5,.int .u8 p6,.int .u8 p7,.int .i64 x]).range z u hu
          have hone:∀u∈([Value.int .u8 p0,.int .u8 p1,.int .u8 p2,.int .u8 p3,.int .u8 p4,.int .u8 p5,.int .u8 p6,.int .u8 p7,.int .i64 x]:List Value),u.oneCell'=true:=(by simp [Value.oneCell']);have HN:=Lib.hid hnews;have HO:=Lib.hid hone;clear hnews hone
          go_wp2_with (first
           | (refine wpList_append_own_wide _ rfl (.tmp 52) (.tmp 59) 59 rfl w.heap.size 88 ti tz 9 16 Try.underlying59 HI.out HZ.out HS.out HBt.out HZs.out (by omega) (.slice va vn vc) _ _ rfl hOa ⟨wp.heap.size, 0, none⟩ 1 1 [Value.int .u8 p0, .int .u8 p1, .int .u8 p2, .int .u8 p3, .int .u8 p4, .int .u8 p5, .int .u8 p6, .int .u8 p7, .int .i64 x] rfl rfl HN.out HO.out (by have := HP.out; simp only [maxLen]; omega) (by have := HP.out; omega) hba.size (fun v' w' h2 h3 h4 => ?_)
              obtain ⟨gg,vk,cp,rfl⟩:∃gg vk cp,v'=.slice gg vk cp:=by
               rcases h2.2 with ⟨h0,_⟩ | ⟨g,cap,cur,hv,_⟩
               · exact ⟨_,_,_,h0⟩
               · exact ⟨_,_,_,hv⟩
              have hb7:=grown_below hba h3 (fun q e=>(hOa.lt q e).1) hba.size;have hr17:=rgK hr10 (hb7.block b1 hbl1);have hr27:=rgK hr20 (hb7.block b2 hbl2);have H2:=Lib.hid h2
              clear h2 h3 h4 hOa hba HN HO))
          clear hb hr1 hr2 hO;go_upto_region 10 with fail
          go_quiet (fail)
          go_wp2_with fail
          go_roundw
          case rel=>exact ⟨_,m1,_,_,m2,_,us,vs,.slice gg vk cp,os++[⟨[p0,p1,p2,p3,p4,p5,p6,p7],x⟩],slice_ite _ _ _ _,slice_ite _ _ _ _,rfl,by omega,by omega,by omega,by omega,t1.tail' hd1,t2.tail' hd2,Lib.hid (fun t ht=>hu.out t (by simp [ht])),Lib.hid (fun t ht=>hv.out t (by simp [ht])),below_drewN hb7 nq,ownR_of H2.out (by simp) (by rw [rcells_append];rfl),Lib.hid (own1_put HADD.out rfl hz)⟩
          case measure=>simp only [lenOf];omega
      · obtain ⟨y0,y1,y2,y3,y4,y5,y6,y7,y8,y9,y10,y11,y12,y13,y14,y15,y16,y17⟩:=nine36 hr1 hr2;have hne:¬[p0,p1,p2,p3,p4,p5,p6,p7]=[q0,q1,q2,q3,q4,q5,q6,q7]:=heq;by_cases hbf:before [p0,p1,p2,p3,p4,p5,p6,p7] [q0,q1,q2,q3,q4,q5,q6,q7]=true
        · have hcv:cmpM [p0,p1,p2,p3,p4,p5,p6,p7] [q0,q1,q2,q3,q4,q5,q6,q7]=-1:=(by simpa [before] using hbf);go_upto_region 3 with fail
          replace hb:=Below.drew hb;replace hO:OwnR wr.drew w.heap.size (.slice va vn vc) os:=hO;replace hr1:wr.drew.rangeAt b1 e1 (tcells ⟨[p0,p1,p2,p3,p4,p5,p6,p7],tf⟩):=hr1;replace hr2:wr.drew.rangeAt b2 e2 (tcells ⟨[q0,q1,q2,q3,q4,q5,q6,q7],uf⟩):=hr2
          go_region_held3 (fun w'=>w'.cell? ⟨b1,e1,none⟩=some (.int .u8 p0)∧w'.cell? ⟨b1,e1+1,none⟩=some (.int .u8 p1)∧w'.cell? ⟨b1,e1+2,none⟩=some (.int .u8 p2)∧w'.cell? ⟨b1,e1+3,none⟩=some (.int .u8 p3)∧w'.cell? ⟨b1,e1+4,none⟩=some (.int .u8 p4)∧w'.cell? ⟨b1,e1+5,none⟩=some (.int .u8 p5)∧w'.cell? ⟨b1,e1+6,none⟩=some (.int .u8 p6)∧w'.cell? ⟨b1,e1+7,none⟩=some (.int .u8 p7)∧w'.cell? ⟨b1,e1+8,none⟩=some (.int .i64 tf)∧w'.cell? ⟨b2,e2,none⟩=some (.int .u8 q0)∧w'.cell? ⟨b2,e2+1,none⟩=some (.int .u8 q1)∧w'.cell? ⟨b2,e2+2,none⟩=some (.int .u8 q2)∧w'.cell? ⟨b2,e2+3,none⟩=some (.int .u8 q3)∧w'.cell? ⟨b2,e2+4,none⟩=some (.int .u8 q4)∧w'.cell? ⟨b2,e2+5,none⟩=some (.int .u8 q5)∧w'.cell? ⟨b2,e2+6,none⟩=some (.int .u8 q6)∧w'.cell? ⟨b2,e2+7,none⟩=some (.int .u8 q7)∧w'.cell? ⟨b2,e2+8,none⟩=some (.int .i64 uf)) (exact nine36 hr1 hr2)
           (first
            | (go_at_call 121;(refine (compareT8 hmt hmu hcv).mono ?_);rintro e wB ⟨rfl,hbB⟩;replace hb:=bT' hb hbB hb.size;replace hO:=hO.keep hbB;replace hr1:=rgK hr10 (hb.block b1 hbl1);replace hr2:=rgK hr20 (hb.block b2 hbl2);clear hbB))
          obtain ⟨y0,y1,y2,y3,y4,y5,y6,y7,y8,y9,y10,y11,y12,y13,y14,y15,y16,y17⟩:=nine36 hr1 hr2;have hOa:World.ownsRow (wB.alloc (.cells #[.int .u8 p0,.int .u8 p1,.int .u8 p2,.int .u8 p3,.int .u8 p4,.int .u8 p5,.int .u8 p6,.int .u8 p7,.int .i64 tf] 88)) w.heap.size 88 9 (.slice va vn vc) os.length (rcells os):=hO.keep (bA1 wB (.cells #[.int .u8 p0,.int .u8 p1,.int .u8 p2,.int .u8 p3,.int .u8 p4,.int .u8 p5,.int .u8 p6,.int .u8 p7,.int .i64 tf] 88));have hba:=bT' hb (bA1 wB (.cells #[.int .u8 p0,.int .u8 p1,.int .u8 p2,.int .u8 p3,.int .u8 p4,.int .u8 p5,.int .u8 p6,.int .u8 p7,.int .i64 tf] 88)) hb.size
          have hnews:∀z u,([Value.int .u8 p0,.int .u8 p1,.int .u8 p2,.int .u8 p3,.int .u8 p4,.int .u8 p5,.int .u8 p6,.int .u8 p7,.int .i64 tf]:List Value)[z]? = some u→(wB.alloc (.cells #[.int .u8 p0,.int .u8 p1,.int .u8 p2,.int .u8 p3,.int .u8 p4,.int .u8 p5,.int .u8 p6,.int .u8 p7,.int .i64 tf] 88)).cell? ((⟨wB.heap.size,0,none⟩:Addr).add z)=some u:=fun z u hu=>by
           rw [Addr.add_mid];exact (Own.new wB 88 #[.int .u8 p0,.int .u8 p1,.int .u8 p2,.int .u8 p3,.int .u8 p4,.int .u8 p5,.int .u8 p6,.int .u8 p7,.int .i64 tf]).range z u hu
          have hone:∀u∈([Value.int .u8 p0,.int .u8 p1,.int .u8 p2,.int .u8 p3,.int .u8 p4,.int .u8 p5,.int .u8 p6,.int .u8 p7,.int .i64 tf]:List Value),u.oneCell'=true:=(by simp [Value.oneCell']);have HN:=Lib.hid hnews;have HO:=Lib.hid hone;clear hnews hone
          go_wp2_with (first
           | (refine wpList_append_own_wide _ rfl (.tmp 68) (.tmp 72) 59 rfl w.heap.size 88 ti tz 9 16 Try.underlying59 HI.out HZ.out HS.out HBt.out HZs.out (by omega) (.slice va vn vc) _ _ rfl hOa ⟨wB.heap.size, 0, none⟩ 1 1 [Value.int .u8 p0, .int .u8 p1, .int .u8 p2, .int .u8 p3, .int .u8 p4, .int .u8 p5, .int .u8 p6, .int .u8 p7, .int .i64 tf] rfl rfl HN.out HO.out (by have := HP.out; simp only [maxLen]; omega) (by have := HP.out; omega) hba.size (fun v' w' h2 h3 h4 => ?_)
              obtain ⟨gg,vk,cp,rfl⟩:∃gg vk cp,v'=.slice gg vk cp:=by
               rcases h2.2 with ⟨h0,_⟩ | ⟨g,cap,cur,hv,_⟩
               · exact ⟨_,_,_,h0⟩
               · exact ⟨_,_,_,hv⟩
              have hb7:=grown_below hba h3 (fun q e=>(hOa.lt q e).1) hba.size;have hr17:=rgK hr10 (hb7.block b1 hbl1);have hr27:=rgK hr20 (hb7.block b2 hbl2);have H2:=Lib.hid h2
              clear h2 h3 h4 hOa hba HN HO))
          clear hb hr1 hr2 hO
          go_roundw
          case rel=>exact ⟨_,m1,_,e2,m2+1,d2,us,_,.slice gg vk cp,os++[⟨[p0,p1,p2,p3,p4,p5,p6,p7],tf⟩],slice_ite _ _ _ _,rfl,rfl,by omega,by omega,by omega,by omega,t1.tail' hd1,t2,Lib.hid (fun t ht=>hu.out t (by simp [ht])),hv,hb7,ownR_of H2.out (by simp) (by rw [rcells_append];rfl),Lib.hid (addT_put hinv.out hbf)⟩
          case measure=>simp only [lenOf];omega
        · have hbf':before [p0,p1,p2,p3,p4,p5,p6,p7] [q0,q1,q2,q3,q4,q5,q6,q7]=false:=by simpa using hbf
          have hcv:cmpM [p0,p1,p2,p3,p4,p5,p6,p7] [q0,q1,q2,q3,q4,q5,q6,q7]=1:=by
           rcases cmpM_range [p0,p1,p2,p3,p4,p5,p6,p7] [q0,q1,q2,q3,q4,q5,q6,q7] with h | h | h
           · rw [before,h] at hbf';simp at hbf'
           · exact absurd (cmpM_eq _ _ (by simp) h) hne
           · exact h
          have hbg:before [q0,q1,q2,q3,q4,q5,q6,q7] [p0,p1,p2,p3,p4,p5,p6,p7]=true:=(by rw [before,cmpM_turn [p0,p1,p2,p3,p4,p5,p6,p7] [q0,q1,q2,q3,q4,q5,q6,q7],hcv];rfl);go_upto_region 3 with fail
          replace hb:=Below.drew hb;replace hO:OwnR wr.drew w.heap.size (.slice va vn vc) os:=hO;replace hr1:wr.drew.rangeAt b1 e1 (tcells ⟨[p0,p1,p2,p3,p4,p5,p6,p7],tf⟩):=hr1;replace hr2:wr.drew.rangeAt b2 e2 (tcells ⟨[q0,q1,q2,q3,q4,q5,q6,q7],uf⟩):=hr2
          go_region_held3 (fun w'=>w'.cell? ⟨b1,e1,none⟩=some (.int .u8 p0)∧w'.cell? ⟨b1,e1+1,none⟩=some (.int .u8 p1)∧w'.cell? ⟨b1,e1+2,none⟩=some (.int .u8 p2)∧w'.cell? ⟨b1,e1+3,none⟩=some (.int .u8 p3)∧w'.cell? ⟨b1,e1+4,none⟩=some (.int .u8 p4)∧w'.cell? ⟨b1,e1+5,none⟩=some (.int .u8 p5)∧w'.cell? ⟨b1,e1+6,none⟩=some (.int .u8 p6)∧w'.cell? ⟨b1,e1+7,none⟩=some (.int .u8 p7)∧w'.cell? ⟨b1,e1+8,none⟩=some (.int .i64 tf)∧w'.cell? ⟨b2,e2,none⟩=some (.int .u8 q0)∧w'.cell? ⟨b2,e2+1,none⟩=some (.int .u8 q1)∧w'.cell? ⟨b2,e2+2,none⟩=some (.int .u8 q2)∧w'.cell? ⟨b2,e2+3,none⟩=some (.int .u8 q3)∧w'.cell? ⟨b2,e2+4,none⟩=some (.int .u8 q4)∧w'.cell? ⟨b2,e2+5,none⟩=some (.int .u8 q5)∧w'.cell? ⟨b2,e2+6,none⟩=some (.int .u8 q6)∧w'.cell? ⟨b2,e2+7,none⟩=some (.int .u8 q7)∧w'.cell? ⟨b2,e2+8,none⟩=some (.int .i64 uf)) (exact nine36 hr1 hr2)
           (first
            | (go_at_call 121;(refine (compareT8 hmt hmu hcv).mono ?_);rintro e wB ⟨rfl,hbB⟩;replace hb:=bT' hb hbB hb.size;replace hO:=hO.keep hbB;replace hr1:=rgK hr10 (hb.block b1 hbl1);replace hr2:=rgK hr20 (hb.block b2 hbl2);clear hbB))
          obtain ⟨y0,y1,y2,y3,y4,y5,y6,y7,y8,y9,y10,y11,y12,y13,y14,y15,y16,y17⟩:=nine36 hr1 hr2;have hOa:World.ownsRow (wB.alloc (.cells #[.int .u8 q0,.int .u8 q1,.int .u8 q2,.int .u8 q3,.int .u8 q4,.int .u8 q5,.int .u8 q6,.int .u8 q7,.int .i64 uf] 88)) w.heap.size 88 9 (.slice va vn vc) os.length (rcells os):=hO.keep (bA1 wB (.cells #[.int .u8 q0,.int .u8 q1,.int .u8 q2,.int .u8 q3,.int .u8 q4,.int .u8 q5,.int .u8 q6,.int .u8 q7,.int .i64 uf] 88));have hba:=bT' hb (bA1 wB (.cells #[.int .u8 q0,.int .u8 q1,.int .u8 q2,.int .u8 q3,.int .u8 q4,.int .u8 q5,.int .u8 q6,.int .u8 q7,.int .i64 uf] 88)) hb.size
          have hnews:∀z u,([Value.int .u8 q0,.int .u8 q1,.int .u8 q2,.int .u8 q3,.int .u8 q4,.int .u8 q5,.int .u8 q6,.int .u8 q7,.int .i64 uf]:List Value)[z]? = some u→(wB.alloc (.cells #[.int .u8 q0,.int .u8 q1,.int .u8 q2,.int .u8 q3,.int .u8 q4,.int .u8 q5,.int .u8 q6,.int .u8 q7,.int .i64 uf] 88)).cell? ((⟨wB.heap.size,0,none⟩:Addr).add z)=some u:=fun z u hu=>by
           rw [Addr.add_mid];exact (Own.new wB 88 #[.int .u8 q0,.int .u8 q1,.int .u8 q2,.int .u8 q3,.int .u8 q4,.int .u8 q5,.int .u8 q6,.int .u8 q7,.int .i64 uf]).range z u hu
          have hone:∀u∈([Value.int .u8 q0,.int .u8 q1,.int .u8 q2,.int .u8 q3,.int .u8 q4,.int .u8 q5,.int .u8 q6,.int .u8 q7,.int .i64 uf]:List Value),u.oneCell'=true:=(by simp [Value.oneCell']);have HN:=Lib.hid hnews;have HO:=Lib.hid hone;clear hnews hone
          go_wp2_with (first
           | (refine wpList_append_own_wide _ rfl (.tmp 29) (.tmp 33) 59 rfl w.heap.size 88 ti tz 9 16 Try.underlying59 HI.out HZ.out HS.out HBt.out HZs.out (by omega) (.slice va vn vc) _ _ rfl hOa ⟨wB.heap.size, 0, none⟩ 1 1 [Value.int .u8 q0, .int .u8 q1, .int .u8 q2, .int .u8 q3, .int .u8 q4, .int .u8 q5, .int .u8 q6, .int .u8 q7, .int .i64 uf] rfl rfl HN.out HO.out (by have := HP.out; simp only [maxLen]; omega) (by have := HP.out; omega) hba.size (fun v' w' h2 h3 h4 => ?_)
              obtain ⟨gg,vk,cp,rfl⟩:∃gg vk cp,v'=.slice gg vk cp:=by
               rcases h2.2 with ⟨h0,_⟩ | ⟨g,cap,cur,hv,_⟩
               · exact ⟨_,_,_,h0⟩
               · exact ⟨_,_,_,hv⟩
              have hb7:=grown_below hba h3 (fun q e=>(hOa.lt q e).1) hba.size;have hr17:=rgK hr10 (hb7.block b1 hbl1);have hr27:=rgK hr20 (hb7.block b2 hbl2);have H2:=Lib.hid h2
              clear h2 h3 h4 hOa hba HN HO))
          clear hb hr1 hr2 hO
          go_roundw
          case rel=>exact ⟨e1,m1+1,d1,_,m2,_,_,vs,.slice gg vk cp,os++[⟨[q0,q1,q2,q3,q4,q5,q6,q7],uf⟩],rfl,slice_ite _ _ _ _,rfl,by omega,by omega,by omega,by omega,t1,t2.tail' hd2,hu,Lib.hid (fun t ht=>hv.out t (by simp [ht])),hb7,ownR_of H2.out (by simp) (by rw [rcells_append];rfl),Lib.hid (addT_putR hinv.out hbg huf)⟩
          case measure=>simp only [lenOf];omega
    · have hvn:vs=[]:=List.length_eq_zero_iff.1 (by have:=t2.len;omega);have hfin:=addT_fin hinv.out (Or.inr hvn) hv.out;have ht1:=t1.len;have ht2:=t2.len
      have hlR:os.length+m1+m2≤1000000:=by
       have e2:=HLen.out;rw [←hfin] at e2;simp only [List.length_append] at e2;omega
      have HLR:=Lib.hid hlR;have HFN:=Lib.hid hfin;have N1:=Lib.hid (t1.news hb);clear hlR hfin hinv;have hOa:World.ownsRow wr w.heap.size 88 9 (.slice va vn vc) os.length (rcells os):=hO
      go_wp2_with (first
       | (refine wpList_append_own_wide _ rfl (.tmp 76) (.tmp 77) 59 rfl w.heap.size 88 ti tz 9 16 Try.underlying59 HI.out HZ.out HS.out HBt.out HZs.out (by omega) (.slice va vn vc) _ _ rfl hOa ⟨b1, e1, none⟩ m1 d1 (rcells us) rfl (by rw [rcells_length t1.2.1, ht1]) N1.out rcells_one (by have := HLR.out; simp only [maxLen]; omega) (by have := HLR.out; omega) hb.size (fun v' w' h2 h3 h4 => ?_)
          obtain ⟨gg,vk,cp,rfl⟩:∃gg vk cp,v'=.slice gg vk cp:=by
           rcases h2.2 with ⟨h0,_⟩ | ⟨g,cap,cur,hv,_⟩
           · exact ⟨_,_,_,h0⟩
           · exact ⟨_,_,_,hv⟩
          have hb7:=grown_below hb h3 (fun q e=>(hOa.lt q e).1) hb.size;have N2:=Lib.hid (t2.news hb7);have hOb:=h2
          clear h2 h3 h4 hOa)
       | (refine wpList_append_own_wide _ rfl (.tmp 78) (.tmp 79) 59 rfl w.heap.size 88 ti tz 9 16 Try.underlying59 HI.out HZ.out HS.out HBt.out HZs.out (by omega) (.slice gg vk cp) _ _ rfl hOb ⟨b2, e2, none⟩ m2 d2 (rcells vs) rfl (by rw [rcells_length t2.2.1, ht2]) N2.out rcells_one (by have := HLR.out; simp only [maxLen]; omega) (by have := HLR.out; omega) hb7.size (fun v' w' h2 h3 h4 => ?_)
          obtain ⟨g9,vk9,cp9,rfl⟩:∃gg vk cp,v'=.slice gg vk cp:=by
           rcases h2.2 with ⟨h0,_⟩ | ⟨g,cap,cur,hv,_⟩
           · exact ⟨_,_,_,h0⟩
           · exact ⟨_,_,_,hv⟩
          have hb9:=grown_below hb7 h3 (fun q e=>(hOb.lt q e).1) hb7.size;have H2:=Lib.hid h2
          clear h2 h3 h4 hOb))
      go_ret
      exact ⟨_,rfl,ownR_of H2.out (by rw [←HFN.out];simp only [List.length_append];omega) (by rw [←HFN.out,rcells_append,rcells_append]),hb9⟩
  · have hun:us=[]:=List.length_eq_zero_iff.1 (by have:=t1.len;omega);have hfin:=addT_fin hinv.out (Or.inl hun) hv.out;have ht1:=t1.len;have ht2:=t2.len
    have hlR:os.length+m1+m2≤1000000:=by
     have e2:=HLen.out;rw [←hfin] at e2;simp only [List.length_append] at e2;omega
    have HLR:=Lib.hid hlR;have HFN:=Lib.hid hfin;have N1:=Lib.hid (t1.news hb);clear hlR hfin hinv;have hOa:World.ownsRow wr w.heap.size 88 9 (.slice va vn vc) os.length (rcells os):=hO
    go_wp2_with (first
     | (refine wpList_append_own_wide _ rfl (.tmp 76) (.tmp 77) 59 rfl w.heap.size 88 ti tz 9 16 Try.underlying59 HI.out HZ.out HS.out HBt.out HZs.out (by omega) (.slice va vn vc) _ _ rfl hOa ⟨b1, e1, none⟩ m1 d1 (rcells us) rfl (by rw [rcells_length t1.2.1, ht1]) N1.out rcells_one (by have := HLR.out; simp only [maxLen]; omega) (by have := HLR.out; omega) hb.size (fun v' w' h2 h3 h4 => ?_)
        obtain ⟨gg,vk,cp,rfl⟩:∃gg vk cp,v'=.slice gg vk cp:=by
         rcases h2.2 with ⟨h0,_⟩ | ⟨g,cap,cur,hv,_⟩
         · exact ⟨_,_,_,h0⟩
         · exact ⟨_,_,_,hv⟩
        have hb7:=grown_below hb h3 (fun q e=>(hOa.lt q e).1) hb.size;have N2:=Lib.hid (t2.news hb7);have hOb:=h2
        clear h2 h3 h4 hOa)
     | (refine wpList_append_own_wide _ rfl (.tmp 78) (.tmp 79) 59 rfl w.heap.size 88 ti tz 9 16 Try.underlying59 HI.out HZ.out HS.out HBt.out HZs.out (by omega) (.slice gg vk cp) _ _ rfl hOb ⟨b2, e2, none⟩ m2 d2 (rcells vs) rfl (by rw [rcells_length t2.2.1, ht2]) N2.out rcells_one (by have := HLR.out; simp only [maxLen]; omega) (by have := HLR.out; omega) hb7.size (fun v' w' h2 h3 h4 => ?_)
        obtain ⟨g9,vk9,cp9,rfl⟩:∃gg vk cp,v'=.slice gg vk cp:=by
         rcases h2.2 with ⟨h0,_⟩ | ⟨g,cap,cur,hv,_⟩
         · exact ⟨_,_,_,h0⟩
         · exact ⟨_,_,_,hv⟩
        have hb9:=grown_below hb7 h3 (fun q e=>(hOb.lt q e).1) hb7.size;have H2:=Lib.hid h2
        clear h2 h3 h4 hOb))
    go_ret
    exact ⟨_,rfl,ownR_of H2.out (by rw [←HFN.out];simp only [List.length_append];omega) (by rw [←HFN.out,rcells_append,rcells_append]),hb9⟩
end Go.Proofs.Ytikldofmpkidbaa
