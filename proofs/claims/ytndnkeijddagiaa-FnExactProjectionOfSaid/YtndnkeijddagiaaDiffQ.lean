
import Derived.Test.YtndnkeijddagiaaDiffN
import Derived.Test.YtndnkeijddagiaaSumK
namespace Go.Proofs.Ytndnkeijddagiaa
set_option maxRecDepth 100000
open Go.RowKit Go.Deep Go.Maps
theorem MapIs.nocell {w:World} {b n:Nat} {S:List Int→Int} (h:MapIs w b n S) {o:Nat}:w.cell? ⟨b,o,none⟩=none:=by
 obtain ⟨D,⟨es,clock,hb,_⟩,_⟩:=h
 simp [World.cell?,hb]
theorem Terms.grown {w w':World} {a:Option Addr} {n b k:Nat} {ts:List Tm} {S:List Int→Int} (h:Terms w a n ts) (hM:MapIs w b k S) (hg:w.grownBy w' (some b)):Terms w' a n ts:=by
 obtain ⟨hl,hT,hr⟩:=h
 refine ⟨hl,hT,fun hn=>?_⟩
 obtain ⟨b',off,ha,hlt,hc⟩:=hr hn
 have hne:b'≠b:=by
  intro e;subst e;have hlen:=rcells_length hT;have h0:(rcells ts)[0]? = some (rcells ts)[0]:=List.getElem?_eq_getElem (by omega);have h1:=hc 0 _ h0;rw [hM.nocell] at h1;cases h1
 exact ⟨b',off,ha,Nat.lt_of_lt_of_le hlt hg.size,rgK hc (hg.block b' hlt (by simpa using hne))⟩
theorem Ints.grown {w w':World} {a:Option Addr} {n b k:Nat} {zs:List Int} {S:List Int→Int} (h:Ints w a n zs) (hM:MapIs w b k S) (hg:w.grownBy w' (some b)):Ints w' a n zs:=by
 obtain ⟨hl,hr⟩:=h
 refine ⟨hl,fun hn=>?_⟩
 obtain ⟨b',off,ha,hlt,hc⟩:=hr hn
 have hne:b'≠b:=by
  intro e;subst e;have h1:=hc 0 hn;rw [hM.nocell] at h1;cases h1
 exact ⟨b',off,ha,Nat.lt_of_lt_of_le hlt hg.size,fun i hi=>(World.cell?_of_block (a:=⟨b',off+i,none⟩) (hg.block b' hlt (by simpa using hne))).trans (hc i hi)⟩
theorem Own.grownM {w w':World} {g b k:Nat} {t:TypeId} {cs:Array Value} {S:List Int→Int} (h:Own w g t cs) (hM:MapIs w b k S) (hg:w.grownBy w' (some b)):Own w' g t cs:=by
 refine h.grown hg ?_
 intro e
 simp only [Option.some.injEq] at e
 subst e
 obtain ⟨D,⟨es,clock,hb,_⟩,_⟩:=hM
 have h0:w.heap[g]? = some (.cells cs t (0,0)):=h
 rw [h0] at hb
 cases hb
theorem grown_trans {a b c:World} {k:Nat} (h:a.grownBy b (some k)) (g:b.grownBy c (some k)):a.grownBy c (some k):=
 h.andThen g (fun _j hj=>Or.inr hj)
theorem grown_bel {a b c:World} {k:Nat} (h:a.grownBy b (some k)) (g:Below b.heap.size b c):a.grownBy c (some k):=
 h.andThen (row:=some k) (row':=none) ⟨g.os,g.tape,g.output,g.size,fun i hi _=>g.block i hi⟩ (fun j hj=>by cases hj)
set_option maxHeartbeats 4000000 in
theorem isZero_c {w : World} {b n : Nat} {S : List Int → Int} {Z : Bool} (h : MapIs w b n S) (hZ : Z = true ↔ ∀ m, IsMono m → S m = 0) :
    Calls Try.prog 78 #[.map (some b)] w fun e w'=>e=.returned (.bool Z)∧Below w.heap.size w w':=by
 have hbw:=h.lt
 have HZ:=Lib.hid hZ
 clear hZ
 obtain ⟨D,hown,hD,hat⟩:=h
 have HAT:=Lib.hid hat
 clear hat
 go_enter Try.func78,Try.ntmps78
 go_wp2_with (first
  | (at_range;refine wpList_range_own _ rfl _ 93 rfl 74 2 Try.keyM Try.underlying93 _ b n D rfl hown ?_;intro w0 hrg0 hg0 hs1)
  | go_in)
 go_frame
 have hP0:∀m,IsMono m→Maps.has D (kM m)=false→S m=0:=fun m hm hh=>by
  have:=HAT.out m hm;rw [atKey_of_not_has hh] at this;simp only [DataW.lit.injEq,Lit.int.injEq,true_and] at this;exact this.symm
 have hb0:Below w.heap.size w w0:=grown_below (Below.refl _ _) hg0 (fun k e=>by cases e) (Nat.le_refl _)
 go_loopw [4] (fun _ wr=>∃(left:Lit→Bool) (cnt:Nat),wr.ranges Try.prog 74 (plainElem Try.prog 2) b w.heap.size n D left cnt∧Below w.heap.size w wr∧Hid (∀m,IsMono m→left (kM m)=false→S m=0)) (fun _ wr=>wr.rangeLeft b w.heap.size)
 case atStart=>exact ⟨_,_,hrg0,hb0,hP0⟩
 case round=>
  clear hrg0 hb0 hP0 hg0 hs1 hown;obtain ⟨left,cnt,hrg,hb,hP⟩:=hrel
  go_wp2_with (first
   | (at_next;refine wpList_next_ranges (α:={m:List Int // IsMono m}) (β:=Int) _ rfl _ rfl 74 Try.keyM (plainElem Try.prog 2) (fun m=>.agg (mcells m.1).toArray) (Value.int .i64) (fun key kl hk=>by obtain ⟨m,hm,e,_⟩:=keyOf_M_inv hk;exact ⟨⟨m,hm⟩,e⟩) (fun v y hy=>by obtain ⟨c,e,_⟩:=plainElem_int_inv Try.underlying2 hy;exact ⟨c,e⟩) b w.heap.size n D _ _ rfl hrg ?_ ?_)
   | go_in)
  · intro _ hl0;have hz:Z=true:=HZ.out.2 (fun m hm=>hP.out m hm (hl0 _));go_wp2_with fail
    go_ret
    exact ⟨by rw [hz];rfl,hb⟩
  · intro m hm c kl y yp w1 cnt1 hkey hlk hRv hat hrg1 hlt hg1 hs1 hen
    obtain rfl:kl=kM m:=by
     have:=keyOf_M hm;rw [hkey] at this;exact Option.some.inj this
    have hc:c=S m:=by
     obtain ⟨c',e1,e2,_⟩:=plainElem_int_inv Try.underlying2 hRv;have h1:=hat (.lit (.int .i64 0));simp only [Prod.mk.injEq] at e2;rw [e2.1,HAT.out m hm] at h1;simp only [DataW.lit.injEq,Lit.int.injEq,true_and] at h1;simp only [Value.int.injEq,true_and] at e1;omega
    have hb1:=grown_below hb hg1 (fun k e=>by cases e;exact Nat.le_refl _) hb.size;have HC:=Lib.hid hc;have HM:=Lib.hid hrg.left_eq;clear hkey hRv hat hc hrg hg1 hs1 hb;by_cases hc0:c=0
    · subst hc0;go_wp2_with fail
      go_roundw
      case rel=>exact ⟨_,cnt1,hrg1,hb1,Lib.hid (fun k hk hl=>by
       by_cases e:k=m
       · rw [e,←HC.out]
       · rw [strike_other hm hk e] at hl
         exact hP.out k hk hl)⟩
      case measure=>rw [hrg1.left_eq,HM.out];exact hlt
    · have hcb:(c==0)=false:=by simpa using hc0
      have hz:Z=false:=by
       cases hZv:Z with
       | false=>rfl
       | true=>exact absurd (HC.out.trans (HZ.out.1 hZv m hm)) hc0
      go_wp2_with fail
      go_ret
      exact ⟨by rw [hz];rfl,hb1⟩
theorem productOfW8 {w : World} {a : Option Addr} {n : Nat} {zs : List Int} {p0 p1 p2 p3 p4 p5 p6 p7 q0 q1 q2 q3 q4 q5 q6 q7 r0 r1 r2 r3 r4 r5 r6 r7 s : Int} (c : Nat) (h : Ints w a n zs) (F : FitW zs [p0, p1, p2, p3, p4, p5, p6, p7] [q0, q1, q2, q3, q4, q5, q6, q7]) (hr : joinM zs [p0, p1, p2, p3, p4, p5, p6, p7] [q0, q1, q2, q3, q4, q5, q6, q7] = [r0, r1, r2, r3, r4, r5, r6, r7]) (hs : joinS zs [p0, p1, p2, p3, p4, p5, p6, p7] [q0, q1, q2, q3, q4, q5, q6, q7] = s) :
    Calls Try.prog 143 #[.slice a n c,.agg #[.int .u8 p0,.int .u8 p1,.int .u8 p2,.int .u8 p3,.int .u8 p4,.int .u8 p5,.int .u8 p6,.int .u8 p7],.agg #[.int .u8 q0,.int .u8 q1,.int .u8 q2,.int .u8 q3,.int .u8 q4,.int .u8 q5,.int .u8 q6,.int .u8 q7]] w fun e w'=>e=.returned (.tuple #[.agg #[.int .u8 r0,.int .u8 r1,.int .u8 r2,.int .u8 r3,.int .u8 r4,.int .u8 r5,.int .u8 r6,.int .u8 r7],.int .i64 s])∧Below w.heap.size w w':=by
 have:=productOf_w c h F
 rw [hr,hs] at this
 exact this
theorem addP_take {zs left right:List Int} {F:Int} {S:List Int→Int} {im:List Tm} {u:Tm} {j:Nat} (h:im[j]? = some u):addP zs left right F S (im.take (j+1))=pstep zs left right F (addP zs left right F S (im.take j)) u:=by
 rw [addP,addP,List.take_add_one,h,List.foldl_append];rfl
theorem pstep_bd {zs left right:List Int} {F:Int} {S:List Int→Int} {u:Tm} (h:∀m,0≤S m∧S m≤10006) (m:List Int):0≤pstep zs left right F S u m∧pstep zs left right F S u m≤10006:=by
 rw [pstep]
 split
 · exact h m
 · split
   · exact h m
   · rw [updS];split
     · have h1:=num_lo (S (joinM zs (joinM zs left u.m) right)+joinS zs left u.m * joinS zs (joinM zs left u.m) right * num F * u.f);have h2:=num_hi (S (joinM zs (joinM zs left u.m) right)+joinS zs left u.m * joinS zs (joinM zs left u.m) right * num F * u.f);omega
     · exact h m
theorem addP_bd {zs left right:List Int} {F:Int}:∀{im:List Tm} {S:List Int→Int},(∀m,0≤S m∧S m≤10006)→∀m,0≤addP zs left right F S im m∧addP zs left right F S im m≤10006
 | [],_,h=>h
 | u::im,S,h=>addP_bd (im:=im) (S:=pstep zs left right F S u) (pstep_bd h)
theorem pstep_no1 {zs left right:List Int} {F:Int} {S:List Int→Int} {u:Tm} (h:joinS zs left u.m=0):pstep zs left right F S u=S:=by rw [pstep,if_pos h]
theorem pstep_no2 {zs left right:List Int} {F:Int} {S:List Int→Int} {u:Tm} {r:List Int} (hr:joinM zs left u.m=r) (h:joinS zs r right=0):pstep zs left right F S u=S:=by
 subst hr
 rw [pstep]
 split
 · rfl
 · first | rfl | rw [if_pos h]
theorem pstep_yes {zs left right:List Int} {F z s1 s2:Int} {S:List Int→Int} {u:Tm} {r t:List Int} (hr:joinM zs left u.m=r) (ht:joinM zs r right=t) (h1:joinS zs left u.m=s1) (h2:joinS zs r right=s2) (n1:¬s1=0) (n2:¬s2=0) (hz:num F=z):pstep zs left right F S u=updS S t (num (S t+s1 * s2 * z * u.f)):=by
 subst hr ht h1 h2 hz
 rw [pstep,if_neg n1,if_neg n2]
theorem sign_mul {x y:Int} (hx:-1≤x∧x≤1) (hy:-1≤y∧y≤1):-1≤x * y∧x * y≤1:=by
 have a:x=-1∨x=0∨x=1:=by omega
 rcases a with h | h | h <;> subst h <;> omega
theorem sign_mul_b {x y B:Int} (hx:-1≤x∧x≤1) (hy:0≤y∧y≤B):-B≤x * y∧x * y≤B:=by
 have a:x=-1∨x=0∨x=1:=by omega
 rcases a with h | h | h <;> subst h <;> omega
theorem bd_mul {x y:Int} (hx:-10006≤x∧x≤10006) (hy:0≤y∧y≤10006):-100120036≤x * y∧x * y≤100120036:=by
 by_cases h:0≤x
 · have:=mul_b (a:=x) (b:=y) h (by omega) hy.1 (by omega);omega
 · have:=mul_b (a:=-x) (b:=y) (by omega) (by omega) hy.1 (by omega);rw [Int.neg_mul] at this;omega
set_option maxHeartbeats 8000000 in
theorem addProducts_c {w : World} {b N : Nat} {S : List Int → Int} {da : Option Addr} {dn : Nat} {zs : List Int} {a : Option Addr} {n : Nat} {im : List Tm} {p0 p1 p2 p3 p4 p5 p6 p7 q0 q1 q2 q3 q4 q5 q6 q7 F : Int} (dc c : Nat) (hM : MapIs w b N S) (hN : N + n < 1000000000) (hSb : ∀ m, 0 ≤ S m ∧ S m ≤ 10006) (hd : Ints w da dn zs) (h : Terms w a n im) (hn : n ≤ 1048576)
    (hf:∀u∈im,1≤u.f∧u.f≤10006) (hj:∀u∈im,FitW zs [p0,p1,p2,p3,p4,p5,p6,p7] u.m) (hj2:∀u∈im,FitW zs (joinM zs [p0,p1,p2,p3,p4,p5,p6,p7] u.m) [q0,q1,q2,q3,q4,q5,q6,q7]) :
    Calls Try.prog 141 #[.map (some b),.slice da dn dc,.agg #[.int .u8 p0,.int .u8 p1,.int .u8 p2,.int .u8 p3,.int .u8 p4,.int .u8 p5,.int .u8 p6,.int .u8 p7,.int .u8 q0,.int .u8 q1,.int .u8 q2,.int .u8 q3,.int .u8 q4,.int .u8 q5,.int .u8 q6,.int .u8 q7],.agg #[.slice a n c],.int .i64 F] w fun e w'=>e=.returned (.tuple #[])∧MapIs w' b (N+n) (addP zs [p0,p1,p2,p3,p4,p5,p6,p7] [q0,q1,q2,q3,q4,q5,q6,q7] F S im)∧w.grownBy w' (some b):=by
 have hl:=h.len
 have HF:=Lib.hid hf
 have HJ:=Lib.hid hj
 have HJ2:=Lib.hid hj2
 have HSB:=Lib.hid hSb
 have HH:=Lib.hid h
 have HD:=Lib.hid hd
 have HMM:=Lib.hid hM
 obtain ⟨z,hz⟩:∃z,num F=z:=⟨_,rfl⟩
 have hzb:0≤z∧z≤10006:=by have h1:=num_lo F;have h2:=num_hi F;omega
 have HZ:=Lib.hid hz
 clear hf hj hj2 hSb hz
 have hA:=(Own.new w 157 #[.int .u8 p0,.int .u8 p1,.int .u8 p2,.int .u8 p3,.int .u8 p4,.int .u8 p5,.int .u8 p6,.int .u8 p7,.int .u8 q0,.int .u8 q1,.int .u8 q2,.int .u8 q3,.int .u8 q4,.int .u8 q5,.int .u8 q6,.int .u8 q7]).alloc (.cells #[.slice a n c] 47)
 have hG:=Own.new (w.alloc (.cells #[.int .u8 p0,.int .u8 p1,.int .u8 p2,.int .u8 p3,.int .u8 p4,.int .u8 p5,.int .u8 p6,.int .u8 p7,.int .u8 q0,.int .u8 q1,.int .u8 q2,.int .u8 q3,.int .u8 q4,.int .u8 q5,.int .u8 q6,.int .u8 q7] 157)) 47 #[.slice a n c]
 simp only [sAl] at hG
 have hb:=bTn (bA1 w (.cells #[.int .u8 p0,.int .u8 p1,.int .u8 p2,.int .u8 p3,.int .u8 p4,.int .u8 p5,.int .u8 p6,.int .u8 p7,.int .u8 q0,.int .u8 q1,.int .u8 q2,.int .u8 q3,.int .u8 q4,.int .u8 q5,.int .u8 q6,.int .u8 q7] 157)) (bA1 _ (.cells #[.slice a n c] 47))
 replace hM:=hM.keep hb
 have hg:w.grownBy ((w.alloc (.cells #[.int .u8 p0,.int .u8 p1,.int .u8 p2,.int .u8 p3,.int .u8 p4,.int .u8 p5,.int .u8 p6,.int .u8 p7,.int .u8 q0,.int .u8 q1,.int .u8 q2,.int .u8 q3,.int .u8 q4,.int .u8 q5,.int .u8 q6,.int .u8 q7] 157)).alloc (.cells #[.slice a n c] 47)) (some b):=grown_bel (World.grownBy.refl _ _) hb
 clear hb
 have cG:=hG.cell 0
 generalize hg1:w.heap.size+1=gG at *
 generalize hg0:w.heap.size=gA at *
 go_enter Try.func141,Try.ntmps141
 go_upto_region 1 with fail
 generalize (w.alloc (.cells #[.int .u8 p0,.int .u8 p1,.int .u8 p2,.int .u8 p3,.int .u8 p4,.int .u8 p5,.int .u8 p6,.int .u8 p7,.int .u8 q0,.int .u8 q1,.int .u8 q2,.int .u8 q3,.int .u8 q4,.int .u8 q5,.int .u8 q6,.int .u8 q7] 157)).alloc (.cells #[.slice a n c] 47)=w0 at *
 try simp only [hg0,hg1]
 go_wp2_with fail
 clear cG
 go_loopw [19] (fun x wr=>∃i:Nat,i≤n∧x=.int .i64 i∧w.grownBy wr (some b)∧Own wr gA 157 #[.int .u8 p0,.int .u8 p1,.int .u8 p2,.int .u8 p3,.int .u8 p4,.int .u8 p5,.int .u8 p6,.int .u8 p7,.int .u8 q0,.int .u8 q1,.int .u8 q2,.int .u8 q3,.int .u8 q4,.int .u8 q5,.int .u8 q6,.int .u8 q7]∧MapIs wr b (N+i) (addP zs [p0,p1,p2,p3,p4,p5,p6,p7] [q0,q1,q2,q3,q4,q5,q6,q7] F S (im.take i))) (fun x _=>n - (intOf x).toNat)
 case atStart=>exact ⟨0,Nat.zero_le _,rfl,hg,hA,by rw [List.take_zero];exact hM⟩
 case round=>
  clear hg hA hM hG;obtain ⟨i,hi,rfl,hg,hA,hM⟩:=hrel;by_cases hi1:i<n
  · have hT:=HH.out.grown HMM.out hg;have hD:=HD.out.grown HMM.out hg;obtain ⟨b1,o1,u,rfl,hbl1,hr10,hu,hx⟩:=hT.at_ hi1;obtain ⟨mu,uf⟩:=u;have hmu:IsMono mu:=hu.1;have huf:1≤uf∧uf≤10006:=HF.out ⟨mu,uf⟩ (List.mem_of_getElem? hx.out);have FW1:FitW zs [p0,p1,p2,p3,p4,p5,p6,p7] mu:=HJ.out ⟨mu,uf⟩ (List.mem_of_getElem? hx.out);have FW2:FitW zs (joinM zs [p0,p1,p2,p3,p4,p5,p6,p7] mu) [q0,q1,q2,q3,q4,q5,q6,q7]:=HJ2.out ⟨mu,uf⟩ (List.mem_of_getElem? hx.out);obtain ⟨u0,u1,u2,u3,u4,u5,u6,u7,rfl⟩:=mono8 hmu;obtain ⟨r0,r1,r2,r3,r4,r5,r6,r7,hRe⟩:=mono8 (joinM_monoW FW1);rw [hRe] at FW2;obtain ⟨t0,t1,t2,t3,t4,t5,t6,t7,hTe⟩:=mono8 (joinM_monoW FW2);have hTm:IsMono [t0,t1,t2,t3,t4,t5,t6,t7]:=(by rw [←hTe];exact joinM_monoW FW2);obtain ⟨s1,hs1⟩:∃s,joinS zs [p0,p1,p2,p3,p4,p5,p6,p7] [u0,u1,u2,u3,u4,u5,u6,u7]=s:=⟨_,rfl⟩;obtain ⟨s2,hs2⟩:∃s,joinS zs [r0,r1,r2,r3,r4,r5,r6,r7] [q0,q1,q2,q3,q4,q5,q6,q7]=s:=⟨_,rfl⟩;have hs1b:=joinS_bd zs [p0,p1,p2,p3,p4,p5,p6,p7] [u0,u1,u2,u3,u4,u5,u6,u7];have hs2b:=joinS_bd zs [r0,r1,r2,r3,r4,r5,r6,r7] [q0,q1,q2,q3,q4,q5,q6,q7];rw [hs1] at hs1b;rw [hs2] at hs2b;have HRE:=Lib.hid hRe;have HTE:=Lib.hid hTe;have HS1:=Lib.hid hs1;have HS2:=Lib.hid hs2;clear hRe hTe hs1 hs2;obtain ⟨y0,y1,y2,y3,y4,y5,y6,y7,y8⟩:=nine hr10;have hU:=Own.new wr 76 #[.int .u8 u0,.int .u8 u1,.int .u8 u2,.int .u8 u3,.int .u8 u4,.int .u8 u5,.int .u8 u6,.int .u8 u7,.int .i64 uf];have hba:=bA1 wr (.cells #[.int .u8 u0,.int .u8 u1,.int .u8 u2,.int .u8 u3,.int .u8 u4,.int .u8 u5,.int .u8 u6,.int .u8 u7,.int .i64 uf] 76);replace hA:=hA.alloc (.cells #[.int .u8 u0,.int .u8 u1,.int .u8 u2,.int .u8 u3,.int .u8 u4,.int .u8 u5,.int .u8 u6,.int .u8 u7,.int .i64 uf] 76);replace hM:=hM.keep hba;replace hD:=hD.keep hba;replace hg:=grown_bel hg hba;have hi0:(0:Int)≤(i:Int):=(by omega);have hin:(i:Int)<(n:Int):=(by omega);have k0:=hA.cell 0;have k1:=hA.cell 1;have k2:=hA.cell 2;have k3:=hA.cell 3;have k4:=hA.cell 4;have k5:=hA.cell 5;have k6:=hA.cell 6;have k7:=hA.cell 7;have l0:=hU.cell 0;have l1:=hU.cell 1;have l2:=hU.cell 2;have l3:=hU.cell 3;have l4:=hU.cell 4;have l5:=hU.cell 5;have l6:=hU.cell 6;have l7:=hU.cell 7;go_wp2_with fail
    clear y0 y1 y2 y3 y4 y5 y6 y7 y8 k0 k1 k2 k3 k4 k5 k6 k7 l0 l1 l2 l3 l4 l5 l6 l7 hba hT;generalize wr.alloc (.cells #[.int .u8 u0,.int .u8 u1,.int .u8 u2,.int .u8 u3,.int .u8 u4,.int .u8 u5,.int .u8 u6,.int .u8 u7,.int .i64 uf] 76)=wu at *;generalize hgu:wr.heap.size=gU at *;clear hgu;refine (productOfW8 dc hD FW1 HRE.out HS1.out).mono ?_;rintro e wq ⟨rfl,hbq⟩;replace hg:=grown_bel hg hbq;replace hA:=hA.keep hbq hA.lt;replace hU:=hU.keep hbq hU.lt;replace hM:=hM.keep hbq;replace hD:=hD.keep hbq;clear hbq;have hba:=bA1 wq (.cells #[.int .u8 r0,.int .u8 r1,.int .u8 r2,.int .u8 r3,.int .u8 r4,.int .u8 r5,.int .u8 r6,.int .u8 r7] 74);have hL:=Own.new wq 74 #[.int .u8 r0,.int .u8 r1,.int .u8 r2,.int .u8 r3,.int .u8 r4,.int .u8 r5,.int .u8 r6,.int .u8 r7];replace hg:=grown_bel hg hba;replace hA:=hA.keep hba hA.lt;replace hU:=hU.keep hba hU.lt;replace hM:=hM.keep hba;replace hD:=hD.keep hba;clear hba;by_cases hs0:s1=0
    · subst hs0;go_wp2_with fail
      go_roundw
      case rel=>exact ⟨i+1,by omega,by go_num,hg,hA,by rw [addP_take hx.out,pstep_no1 HS1.out];exact hM.mono (by omega)⟩
      case measure=>simp [intOf] <;> omega
    · have hsb0:(s1==0)=false:=(by simpa using hs0);have k0:=hA.cell 8;have k1:=hA.cell 9;have k2:=hA.cell 10;have k3:=hA.cell 11;have k4:=hA.cell 12;have k5:=hA.cell 13;have k6:=hA.cell 14;have k7:=hA.cell 15;have l0:=hL.cell 0;have l1:=hL.cell 1;have l2:=hL.cell 2;have l3:=hL.cell 3;have l4:=hL.cell 4;have l5:=hL.cell 5;have l6:=hL.cell 6;have l7:=hL.cell 7;go_wp2_with fail
      clear k0 k1 k2 k3 k4 k5 k6 k7 l0 l1 l2 l3 l4 l5 l6 l7;generalize wq.alloc (.cells #[.int .u8 r0,.int .u8 r1,.int .u8 r2,.int .u8 r3,.int .u8 r4,.int .u8 r5,.int .u8 r6,.int .u8 r7] 74)=wv at *;generalize hgl:wq.heap.size=gL at *;clear hgl;refine (productOfW8 dc hD FW2 HTE.out HS2.out).mono ?_;rintro e wp ⟨rfl,hbq⟩;replace hg:=grown_bel hg hbq;replace hA:=hA.keep hbq hA.lt;replace hU:=hU.keep hbq hU.lt;replace hM:=hM.keep hbq;clear hbq hD hL;have hba:=bA1 wp (.cells #[.int .u8 t0,.int .u8 t1,.int .u8 t2,.int .u8 t3,.int .u8 t4,.int .u8 t5,.int .u8 t6,.int .u8 t7] 74);have hV:=Own.new wp 74 #[.int .u8 t0,.int .u8 t1,.int .u8 t2,.int .u8 t3,.int .u8 t4,.int .u8 t5,.int .u8 t6,.int .u8 t7];replace hg:=grown_bel hg hba;replace hA:=hA.keep hba hA.lt;replace hU:=hU.keep hba hU.lt;replace hM:=hM.keep hba;clear hba;by_cases ht0:s2=0
      · subst ht0;go_wp2_with fail
        go_roundw
        case rel=>exact ⟨i+1,by omega,by go_num,hg,hA,by rw [addP_take hx.out,pstep_no2 HRE.out HS2.out];exact hM.mono (by omega)⟩
        case measure=>simp [intOf] <;> omega
      · have htb0:(s2==0)=false:=(by simpa using ht0);have htn0:(s2 != 0)=true:=(by simpa using ht0);have e1:=sign_mul hs1b hs2b;have e2:=sign_mul_b e1 hzb;have e3:=bd_mul e2 (y:=uf) (by omega);have w1:IntKind.i64.wrap (s1 * s2)=s1 * s2:=IntWalk.i64_in _ (by omega);have w2:IntKind.i64.wrap (s1 * s2 * z)=s1 * s2 * z:=IntWalk.i64_in _ (by omega);have w3:IntKind.i64.wrap (s1 * s2 * z * uf)=s1 * s2 * z * uf:=IntWalk.i64_in _ (by omega);have hSb:=addP_bd (zs:=zs) (left:=[p0,p1,p2,p3,p4,p5,p6,p7]) (right:=[q0,q1,q2,q3,q4,q5,q6,q7]) (F:=F) (im:=im.take i) HSB.out [t0,t1,t2,t3,t4,t5,t6,t7];go_upto_region 8 with fail
        generalize hwv:(wp.alloc (.cells #[.int .u8 t0,.int .u8 t1,.int .u8 t2,.int .u8 t3,.int .u8 t4,.int .u8 t5,.int .u8 t6,.int .u8 t7] 74))=wv at *;generalize hgv:wp.heap.size=gV at *;clear hwv hgv;have hdr:=(Below.refl wv.heap.size wv).drew;replace hV:=hV.keep hdr hV.lt;replace hU:=hU.keep hdr hU.lt;replace hA:=hA.keep hdr hA.lt;replace hM:=hM.keep hdr;replace hg:=grown_bel hg hdr;clear hdr;refine wp_region_held_drew (S:=(fun w'=>w'.cell? ⟨gV,0,none⟩=some (.int .u8 t0)∧w'.cell? ⟨gV,1,none⟩=some (.int .u8 t1)∧w'.cell? ⟨gV,2,none⟩=some (.int .u8 t2)∧w'.cell? ⟨gV,3,none⟩=some (.int .u8 t3)∧w'.cell? ⟨gV,4,none⟩=some (.int .u8 t4)∧w'.cell? ⟨gV,5,none⟩=some (.int .u8 t5)∧w'.cell? ⟨gV,6,none⟩=some (.int .u8 t6)∧w'.cell? ⟨gV,7,none⟩=some (.int .u8 t7)∧w'.cell? ⟨gU,8,none⟩=some (.int .i64 uf))) (by kernel_rfl) ?_ (fun hHeld=>?_)
        · ((try dsimp only);(exact ⟨hV.cell 0,hV.cell 1,hV.cell 2,hV.cell 3,hV.cell 4,hV.cell 5,hV.cell 6,hV.cell 7,hU.cell 8⟩))
        refine hdT 0 ?_;refine hdT 1 ?_;refine hdT 2 ?_;refine hdT 3 ?_;refine hdT 4 ?_;refine hdT 5 ?_;refine hdT 8 ?_;refine hdT 9 ?_;refine hdC 6 (fun K hK=>?_)
        (go_simp;((go_at_call 145;refine (numberOf_c _ _).mono ?_;rintro e wM ⟨rfl,rfl⟩;rw [HZ.out]));go_wp2_with fail)
        refine hK.out _ _ ?_ (fun _=>?_)
        · ((try dsimp only);(exact ⟨hV.cell 0,hV.cell 1,hV.cell 2,hV.cell 3,hV.cell 4,hV.cell 5,hV.cell 6,hV.cell 7,hU.cell 8⟩))
        clear hK K
        (try simp only [Act.put,pA,pB,pC])
        refine hdT 7 ?_;refine hdT 10 ?_;refine hdC 11 (fun K hK=>?_)
        (go_simp;((go_at_call 144;refine (mapAdd8 hM (by omega) hTm hSb (by omega)).mono ?_;rintro e wz ⟨rfl,hM2,hgr⟩;have hV2:=hV.grownM hM hgr;have hU2:=hU.grownM hM hgr;have hA2:=hA.grownM hM hgr;replace hg:=grown_trans hg hgr));go_wp2_with fail)
        refine hK.out _ _ ?_ (fun _=>?_)
        · ((try dsimp only);(exact ⟨hV2.cell 0,hV2.cell 1,hV2.cell 2,hV2.cell 3,hV2.cell 4,hV2.cell 5,hV2.cell 6,hV2.cell 7,hU2.cell 8⟩))
        clear hK K
        (try simp only [Act.put,pA,pB,pC])
        refine wpAnyH_done (by kernel_rfl) ?_ _;go_wp2_with fail
        go_roundw
        case rel=>exact ⟨i+1,by omega,by go_num,hg,hA2,by rw [addP_take hx.out,pstep_yes HRE.out HTE.out HS1.out HS2.out hs0 ht0 HZ.out];exact hM2⟩
        case measure=>simp [intOf] <;> omega
  · have he:i=n:=(by omega);subst he;rw [List.take_of_length_le (Nat.le_of_eq hl)] at hM;go_wp2_with fail
    go_end0
    exact ⟨rfl,hM,hg⟩
end Go.Proofs.Ytndnkeijddagiaa
