
import Derived.Test.YtndnkeijddagiaaPart
import Derived.Test.YtndnkeijddagiaaAddM
namespace Go.Proofs.Ytndnkeijddagiaa
set_option maxRecDepth 100000
open Go.RowKit Go.Deep
theorem l01Mod_c (x:Int) (w:World) (_h1:-9223372036854775808≤x) (_h2:x≤9223372036854775807):Calls Try.prog 110 #[.int .i64 x] w fun e w'=>e=.returned (.int .i64 (num x))∧w=w':=by
 have hb:=tmod_lo x
 have hz:=num_tmod x
 have s1:IntKind.i64.wrap (x.tmod 10007)=x.tmod 10007:=IntWalk.i64_in _ (by omega)
 have s2:IntKind.i64.wrap (x.tmod 10007+10007)=x.tmod 10007+10007:=IntWalk.i64_in _ (by omega)
 have hn:=num_lo x
 have hm:=num_hi x
 have s3:IntKind.i64.wrap (num x)=num x:=IntWalk.i64_in _ (by omega)
 go_enter Try.func110,Try.ntmps110
 go_wp2
 go_ret
 exact ⟨ret_i (by go_num),rfl⟩
theorem rfl_i {a b:Int} (h:a=b):Value.int .i64 a=.int .i64 b:=by rw [h]
theorem addT_stepL {k:Int} {fs gs os R:List Tm} {i j:Nat} {t:Tm} (h:os++addT k (fs.drop i) (gs.drop j)=R) (ht:fs[i]? = some t) (hb:∀u,gs[j]? = some u→before t.m u.m=true):(os++[t])++addT k (fs.drop (i+1)) (gs.drop j)=R:=by
 obtain ⟨h1,rfl⟩:=List.getElem?_eq_some_iff.1 ht
 rw [List.drop_eq_getElem_cons h1] at h
 by_cases hj:j<gs.length
 · rw [List.drop_eq_getElem_cons hj] at h ⊢;rw [addT_lt (hb _ (List.getElem?_eq_getElem hj))] at h;simpa using h
 · rw [List.drop_eq_nil_of_le (show gs.length≤j by omega)] at h ⊢;rw [addT_right] at h ⊢;simpa using h
theorem addT_stepR {k:Int} {fs gs os R:List Tm} {i j:Nat} {u:Tm} (h:os++addT k (fs.drop i) (gs.drop j)=R) (hu:gs[j]? = some u) (hb:∀t,fs[i]? = some t→before u.m t.m=true):(os++own1 u.m (num (k * u.f)))++addT k (fs.drop i) (gs.drop (j+1))=R:=by
 obtain ⟨h1,rfl⟩:=List.getElem?_eq_some_iff.1 hu
 rw [List.drop_eq_getElem_cons h1] at h
 by_cases hi:i<fs.length
 · rw [List.drop_eq_getElem_cons hi] at h ⊢;rw [addT_gt (hb _ (List.getElem?_eq_getElem hi))] at h;simpa using h
 · rw [List.drop_eq_nil_of_le (show fs.length≤i by omega)] at h ⊢;rw [addT_left] at h;simpa using h
theorem addT_stepB {k:Int} {fs gs os R:List Tm} {i j:Nat} {t u:Tm} (h:os++addT k (fs.drop i) (gs.drop j)=R) (ht:fs[i]? = some t) (hu:gs[j]? = some u) (h1:before t.m u.m=false) (h2:before u.m t.m=false):(os++own1 t.m (num (t.f+num (k * u.f))))++addT k (fs.drop (i+1)) (gs.drop (j+1))=R:=by
 obtain ⟨hi,rfl⟩:=List.getElem?_eq_some_iff.1 ht
 obtain ⟨hj,rfl⟩:=List.getElem?_eq_some_iff.1 hu
 rw [List.drop_eq_getElem_cons hi,List.drop_eq_getElem_cons hj,addT_eq h1 h2] at h
 simpa using h
theorem addT_end {k:Int} {fs gs os R:List Tm} {i j:Nat} (h:os++addT k (fs.drop i) (gs.drop j)=R) (hi:fs.length≤i) (hj:gs.length≤j):os=R:=by
 rw [List.drop_eq_nil_of_le hi,List.drop_eq_nil_of_le hj,addT_right] at h
 simpa using h
theorem own1_skip {m:List Int} {x:Int} {os T R:List Tm} (h:(os++own1 m x)++T=R) (hx:x=0):os++T=R:=by rw [own1_no hx] at h;simpa using h
theorem own1_put {m:List Int} {x y:Int} {os T R:List Tm} (h:(os++own1 m x)++T=R) (hx:x=y) (hy:¬y=0):(os++[⟨m,y⟩])++T=R:=by subst hx;rw [own1_yes hy] at h;exact h
theorem cellsA11 {w':World} {F Gb n1 n2 c1 c2:Nat} {b1 o1 i:Nat} {p0 p1 p2 p3 p4 p5 p6 p7 tf:Int} {b2 o2 j:Nat} {q0 q1 q2 q3 q4 q5 q6 q7 uf:Int} {t1 t2:TypeId} (hF:Own w' F t1 #[.slice (some ⟨b1,o1,none⟩) n1 c1]) (hG:Own w' Gb t2 #[.slice (some ⟨b2,o2,none⟩) n2 c2]) (h1:w'.rangeAt b1 (o1+i * 9) (tcells ⟨[p0,p1,p2,p3,p4,p5,p6,p7],tf⟩)) (h2:w'.rangeAt b2 (o2+j * 9) (tcells ⟨[q0,q1,q2,q3,q4,q5,q6,q7],uf⟩)):w'.cell? ⟨F,0,none⟩=some (.slice (some ⟨b1,o1,none⟩) n1 c1)∧w'.cell? ⟨Gb,0,none⟩=some (.slice (some ⟨b2,o2,none⟩) n2 c2)∧w'.cell? ⟨b1,o1+i * 9,none⟩=some (.int .u8 p0)∧w'.cell? ⟨b1,o1+i * 9+1,none⟩=some (.int .u8 p1)∧w'.cell? ⟨b1,o1+i * 9+2,none⟩=some (.int .u8 p2)∧w'.cell? ⟨b1,o1+i * 9+3,none⟩=some (.int .u8 p3)∧w'.cell? ⟨b1,o1+i * 9+4,none⟩=some (.int .u8 p4)∧w'.cell? ⟨b1,o1+i * 9+5,none⟩=some (.int .u8 p5)∧w'.cell? ⟨b1,o1+i * 9+6,none⟩=some (.int .u8 p6)∧w'.cell? ⟨b1,o1+i * 9+7,none⟩=some (.int .u8 p7)∧w'.cell? ⟨b1,o1+i * 9+8,none⟩=some (.int .i64 tf)∧w'.cell? ⟨b2,o2+j * 9,none⟩=some (.int .u8 q0)∧w'.cell? ⟨b2,o2+j * 9+1,none⟩=some (.int .u8 q1)∧w'.cell? ⟨b2,o2+j * 9+2,none⟩=some (.int .u8 q2)∧w'.cell? ⟨b2,o2+j * 9+3,none⟩=some (.int .u8 q3)∧w'.cell? ⟨b2,o2+j * 9+4,none⟩=some (.int .u8 q4)∧w'.cell? ⟨b2,o2+j * 9+5,none⟩=some (.int .u8 q5)∧w'.cell? ⟨b2,o2+j * 9+6,none⟩=some (.int .u8 q6)∧w'.cell? ⟨b2,o2+j * 9+7,none⟩=some (.int .u8 q7)∧w'.cell? ⟨b2,o2+j * 9+8,none⟩=some (.int .i64 uf):=
 ⟨hF.cell 0,hG.cell 0,h1 0 _ rfl,h1 1 _ rfl,h1 2 _ rfl,h1 3 _ rfl,h1 4 _ rfl,h1 5 _ rfl,h1 6 _ rfl,h1 7 _ rfl,h1 8 _ rfl,h2 0 _ rfl,h2 1 _ rfl,h2 2 _ rfl,h2 3 _ rfl,h2 4 _ rfl,h2 5 _ rfl,h2 6 _ rfl,h2 7 _ rfl,h2 8 _ rfl⟩
theorem cellsA10 {w':World} {F Gb n1 n2 c1 c2:Nat} {b1 o1 i:Nat} {p0 p1 p2 p3 p4 p5 p6 p7 tf:Int} {a2:Option Addr} {t1 t2:TypeId} (hF:Own w' F t1 #[.slice (some ⟨b1,o1,none⟩) n1 c1]) (hG:Own w' Gb t2 #[.slice (a2) n2 c2]) (h1:w'.rangeAt b1 (o1+i * 9) (tcells ⟨[p0,p1,p2,p3,p4,p5,p6,p7],tf⟩)):w'.cell? ⟨F,0,none⟩=some (.slice (some ⟨b1,o1,none⟩) n1 c1)∧w'.cell? ⟨Gb,0,none⟩=some (.slice (a2) n2 c2)∧w'.cell? ⟨b1,o1+i * 9,none⟩=some (.int .u8 p0)∧w'.cell? ⟨b1,o1+i * 9+1,none⟩=some (.int .u8 p1)∧w'.cell? ⟨b1,o1+i * 9+2,none⟩=some (.int .u8 p2)∧w'.cell? ⟨b1,o1+i * 9+3,none⟩=some (.int .u8 p3)∧w'.cell? ⟨b1,o1+i * 9+4,none⟩=some (.int .u8 p4)∧w'.cell? ⟨b1,o1+i * 9+5,none⟩=some (.int .u8 p5)∧w'.cell? ⟨b1,o1+i * 9+6,none⟩=some (.int .u8 p6)∧w'.cell? ⟨b1,o1+i * 9+7,none⟩=some (.int .u8 p7)∧w'.cell? ⟨b1,o1+i * 9+8,none⟩=some (.int .i64 tf):=
 ⟨hF.cell 0,hG.cell 0,h1 0 _ rfl,h1 1 _ rfl,h1 2 _ rfl,h1 3 _ rfl,h1 4 _ rfl,h1 5 _ rfl,h1 6 _ rfl,h1 7 _ rfl,h1 8 _ rfl⟩
theorem cellsA01 {w':World} {F Gb n1 n2 c1 c2:Nat} {a1:Option Addr} {b2 o2 j:Nat} {q0 q1 q2 q3 q4 q5 q6 q7 uf:Int} {t1 t2:TypeId} (hF:Own w' F t1 #[.slice (a1) n1 c1]) (hG:Own w' Gb t2 #[.slice (some ⟨b2,o2,none⟩) n2 c2]) (h2:w'.rangeAt b2 (o2+j * 9) (tcells ⟨[q0,q1,q2,q3,q4,q5,q6,q7],uf⟩)):w'.cell? ⟨F,0,none⟩=some (.slice (a1) n1 c1)∧w'.cell? ⟨Gb,0,none⟩=some (.slice (some ⟨b2,o2,none⟩) n2 c2)∧w'.cell? ⟨b2,o2+j * 9,none⟩=some (.int .u8 q0)∧w'.cell? ⟨b2,o2+j * 9+1,none⟩=some (.int .u8 q1)∧w'.cell? ⟨b2,o2+j * 9+2,none⟩=some (.int .u8 q2)∧w'.cell? ⟨b2,o2+j * 9+3,none⟩=some (.int .u8 q3)∧w'.cell? ⟨b2,o2+j * 9+4,none⟩=some (.int .u8 q4)∧w'.cell? ⟨b2,o2+j * 9+5,none⟩=some (.int .u8 q5)∧w'.cell? ⟨b2,o2+j * 9+6,none⟩=some (.int .u8 q6)∧w'.cell? ⟨b2,o2+j * 9+7,none⟩=some (.int .u8 q7)∧w'.cell? ⟨b2,o2+j * 9+8,none⟩=some (.int .i64 uf):=
 ⟨hF.cell 0,hG.cell 0,h2 0 _ rfl,h2 1 _ rfl,h2 2 _ rfl,h2 3 _ rfl,h2 4 _ rfl,h2 5 _ rfl,h2 6 _ rfl,h2 7 _ rfl,h2 8 _ rfl⟩
set_option maxHeartbeats 8000000 in
theorem l01Add_c {w : World} {a1 a2 : Option Addr} {n1 n2 : Nat} {fs gs : List Tm} (c1 c2 : Nat) (k : Int) (hk0 : 0 ≤ k) (hk1 : k ≤ 10006) (h1 : Terms w a1 n1 fs) (h2 : Terms w a2 n2 gs) (hn : n1 + n2 ≤ 4000000) (hf : ∀ t ∈ fs, 0 ≤ t.f ∧ t.f ≤ 10006) (hg : ∀ t ∈ gs, 0 ≤ t.f ∧ t.f ≤ 10006) :
    Calls Try.prog 109 #[.agg #[.slice a1 n1 c1],.agg #[.slice a2 n2 c2],.int .i64 k] w fun e w'=>∃v,e=.returned (.agg #[v])∧OwnForm w' w.heap.size v (addT k fs gs)∧Below w.heap.size w w':=by
 have HL1:=Lib.hid h1.len
 have HL2:=Lib.hid h2.len
 have HFs:=Lib.hid hf
 have HGs:=Lib.hid hg
 have HLen:=Lib.hid (addT_len (k:=k) fs gs)
 generalize hR0:addT k fs gs=R at *
 have HR0:=Lib.hid hR0
 clear hR0 hf hg
 obtain ⟨ti,tz,hti,htz,hts,htb,htzs⟩:=Try.info_termA
 have HI:=Lib.hid hti
 have HZ:=Lib.hid htz
 have HS:=Lib.hid hts
 have HBt:=Lib.hid htb
 have HZs:=Lib.hid htzs
 clear hti htz hts htb htzs
 have hF:=(((Own.new w 47 #[.slice a1 n1 c1]).alloc (.cells #[.slice a2 n2 c2] 47)).alloc (.cells #[.slice none 0 0] 47)).alloc (.cells #[.slice none 0 0] 47)
 have hG:=((Own.new (w.alloc (.cells #[.slice a1 n1 c1] 47)) 47 #[.slice a2 n2 c2]).alloc (.cells #[.slice none 0 0] 47)).alloc (.cells #[.slice none 0 0] 47)
 have hR:=(Own.new ((w.alloc (.cells #[.slice a1 n1 c1] 47)).alloc (.cells #[.slice a2 n2 c2] 47)) 47 #[.slice none 0 0]).alloc (.cells #[.slice none 0 0] 47)
 have hT:=Own.new (((w.alloc (.cells #[.slice a1 n1 c1] 47)).alloc (.cells #[.slice a2 n2 c2] 47)).alloc (.cells #[.slice none 0 0] 47)) 47 #[.slice none 0 0]
 simp only [sAl] at hG hR hT
 have hb:=bTn (bTn (bTn (bA1 w (.cells #[.slice a1 n1 c1] 47)) (bA1 _ (.cells #[.slice a2 n2 c2] 47))) (bA1 _ (.cells #[.slice none 0 0] 47))) (bA1 _ (.cells #[.slice none 0 0] 47))
 go_enter Try.func109,Try.ntmps109
 go_wp2_with fail
 generalize (((w.alloc (.cells #[.slice a1 n1 c1] 47)).alloc (.cells #[.slice a2 n2 c2] 47)).alloc (.cells #[.slice none 0 0] 47)).alloc (.cells #[.slice none 0 0] 47)=w0 at *
 generalize hg7:w.heap.size+1+1+1=g7 at *
 generalize hg6:w.heap.size+1+1=g6 at *
 generalize hg1:w.heap.size+1=g1 at *
 go_loopw [8,9] (fun x y wr=>∃(i j:Nat) (v:Value) (os:List Tm),i≤n1∧j≤n2∧x=.int .i64 i∧y=.int .i64 j∧Below w.heap.size w wr∧Own wr w.heap.size 47 #[.slice a1 n1 c1]∧Own wr g1 47 #[.slice a2 n2 c2]∧Own wr g6 47 #[.slice none 0 0]∧Own wr g7 47 #[v]∧OwnForm wr (g7+1) v os∧Hid (os++addT k (fs.drop i) (gs.drop j)=R)) (fun x y _=>(n1 - (intOf x).toNat)+(n2 - (intOf y).toNat))
 case atStart=>exact ⟨0,0,.slice none 0 0,[],Nat.zero_le _,Nat.zero_le _,rfl,rfl,hb,hF,hG,hR,hT,⟨World.ownsRow_nil _ _ _ _,by simp⟩,by simp only [List.nil_append,List.drop_zero];exact HR0⟩
 case round=>
  clear hb hF hG hR hT;obtain ⟨i,j,v,os,hi,hj,rfl,rfl,hb,hF,hG,hR,hT,hO,hinv⟩:=hrel;obtain ⟨va,vn,vc,rfl⟩:=hO.isSlice;have cF:=hF.cell 0;have cG:=hG.cell 0
  have hos:os.length≤4000000:=by
   have e1:=hinv.out;have e2:=HLen.out;have e3:=HL1.out;have e4:=HL2.out;rw [←e1,List.length_append] at e2;omega
  have HP:=Lib.hid hos;clear hos;have hi0:(0:Int)≤(i:Int):=(by omega);have hj0:(0:Int)≤(j:Int):=(by omega);by_cases hi1:i<n1
  · by_cases hj1:j<n2
    · skip
      have hin:(i:Int)<(n1:Int):=(by omega);have hie:((i:Int)==(n1:Int))=false:=(by simp;omega);obtain ⟨b1,o1,t,rfl,hbl1,hr10,ht,hx⟩:=h1.at_ hi1;obtain ⟨mt,tf⟩:=t;have hm1:IsMono mt:=ht.1;have htf:0≤tf∧tf≤10006:=HFs.out ⟨mt,tf⟩ (List.mem_of_getElem? hx.out);obtain ⟨p0,p1,p2,p3,p4,p5,p6,p7,rfl⟩:=mono8 hm1;have hjn:(j:Int)<(n2:Int):=(by omega);have hje:((j:Int)==(n2:Int))=false:=(by simp;omega);obtain ⟨b2,o2,u,rfl,hbl2,hr20,hu,hy⟩:=h2.at_ hj1;obtain ⟨mu,uf⟩:=u;have hm2:IsMono mu:=hu.1;have huf:0≤uf∧uf≤10006:=HGs.out ⟨mu,uf⟩ (List.mem_of_getElem? hy.out);obtain ⟨q0,q1,q2,q3,q4,q5,q6,q7,rfl⟩:=mono8 hm2
      cases hbf:before [p0,p1,p2,p3,p4,p5,p6,p7] [q0,q1,q2,q3,q4,q5,q6,q7] with
      | true =>
        go_upto_region 9 with fail
        replace hF:Own wr.drew w.heap.size 47 #[.slice (some ⟨b1,o1,none⟩) n1 c1]:=hF;replace hG:Own wr.drew g1 47 #[.slice (some ⟨b2,o2,none⟩) n2 c2]:=hG;replace hR:Own wr.drew g6 47 #[.slice none 0 0]:=hR;replace hT:Own wr.drew g7 47 #[.slice va vn vc]:=hT;replace hO:OwnForm wr.drew (g7+1) (.slice va vn vc) os:=hO;replace hb:Below w.heap.size w wr.drew:=hb.drew;have hr1:=rgK hr10 (hb.block b1 hbl1);have hr2:=rgK hr20 (hb.block b2 hbl2);refine wp_region_held_drew (S:=(fun w'=>w'.cell? ⟨w.heap.size,0,none⟩=some (.slice (some ⟨b1,o1,none⟩) n1 c1)∧w'.cell? ⟨g1,0,none⟩=some (.slice (some ⟨b2,o2,none⟩) n2 c2)∧w'.cell? ⟨b1,o1+i * 9,none⟩=some (.int .u8 p0)∧w'.cell? ⟨b1,o1+i * 9+1,none⟩=some (.int .u8 p1)∧w'.cell? ⟨b1,o1+i * 9+2,none⟩=some (.int .u8 p2)∧w'.cell? ⟨b1,o1+i * 9+3,none⟩=some (.int .u8 p3)∧w'.cell? ⟨b1,o1+i * 9+4,none⟩=some (.int .u8 p4)∧w'.cell? ⟨b1,o1+i * 9+5,none⟩=some (.int .u8 p5)∧w'.cell? ⟨b1,o1+i * 9+6,none⟩=some (.int .u8 p6)∧w'.cell? ⟨b1,o1+i * 9+7,none⟩=some (.int .u8 p7)∧w'.cell? ⟨b1,o1+i * 9+8,none⟩=some (.int .i64 tf)∧w'.cell? ⟨b2,o2+j * 9,none⟩=some (.int .u8 q0)∧w'.cell? ⟨b2,o2+j * 9+1,none⟩=some (.int .u8 q1)∧w'.cell? ⟨b2,o2+j * 9+2,none⟩=some (.int .u8 q2)∧w'.cell? ⟨b2,o2+j * 9+3,none⟩=some (.int .u8 q3)∧w'.cell? ⟨b2,o2+j * 9+4,none⟩=some (.int .u8 q4)∧w'.cell? ⟨b2,o2+j * 9+5,none⟩=some (.int .u8 q5)∧w'.cell? ⟨b2,o2+j * 9+6,none⟩=some (.int .u8 q6)∧w'.cell? ⟨b2,o2+j * 9+7,none⟩=some (.int .u8 q7)∧w'.cell? ⟨b2,o2+j * 9+8,none⟩=some (.int .i64 uf))) (by kernel_rfl) ?_ (fun hHeld=>?_)
        · ((try dsimp only);(exact cellsA11 hF hG hr1 hr2))
        first | refine hdT 0 ?_ | refine hdU 0 ?_
        first | refine hdT 1 ?_ | refine hdU 1 ?_
        first | refine hdT 2 ?_ | refine hdU 2 ?_
        first | refine hdT 3 ?_ | refine hdU 3 ?_
        first | refine hdT 4 ?_ | refine hdU 4 ?_
        first | refine hdT 5 ?_ | refine hdU 5 ?_
        first | refine hdT 6 ?_ | refine hdU 6 ?_
        first | refine hdT 7 ?_ | refine hdU 7 ?_
        first | refine hdT 8 ?_ | refine hdU 8 ?_
        first | refine hdT 9 ?_ | refine hdU 9 ?_
        first | refine hdT 10 ?_ | refine hdU 10 ?_
        first | refine hdT 11 ?_ | refine hdU 11 ?_
        first | refine hdT 12 ?_ | refine hdU 12 ?_
        first | refine hdT 13 ?_ | refine hdU 13 ?_
        first | refine hdT 14 ?_ | refine hdU 14 ?_
        first | refine hdT 15 ?_ | refine hdU 15 ?_
        first | refine hdT 16 ?_ | refine hdU 16 ?_
        first | refine hdT 17 ?_ | refine hdU 17 ?_
        first | refine hdT 18 ?_ | refine hdU 18 ?_
        first | refine hdT 19 ?_ | refine hdU 19 ?_
        first | refine hdT 20 ?_ | refine hdU 20 ?_
        first | refine hdT 21 ?_ | refine hdU 21 ?_
        first | refine hdT 22 ?_ | refine hdU 22 ?_
        first | refine hdT 23 ?_ | refine hdU 23 ?_
        refine hdC 24 (fun K hK=>?_)
        (go_simp;(go_at_call 127;(refine (l01Before8 hm1 hm2 hbf).mono ?_);rintro e wB ⟨rfl,hbB⟩;replace hb:=bT' hb hbB hb.size;replace hF:=hF.keep hbB hF.lt;replace hG:=hG.keep hbB hG.lt;replace hR:=hR.keep hbB hR.lt;replace hT:=hT.keep hbB hT.lt;replace hO:=hO.keep hbB;replace hr1:=rgK hr10 (hb.block b1 hbl1);replace hr2:=rgK hr20 (hb.block b2 hbl2);clear hbB);go_wp2_with fail)
        refine hK.out _ _ ?_ (fun _=>?_)
        · ((try dsimp only);(exact cellsA11 hF hG hr1 hr2))
        clear hK K
        (try simp only [Act.put,pA,pB,pC])
        first | refine hdT 25 ?_ | refine hdU 25 ?_
        first | refine hdT 26 ?_ | refine hdU 26 ?_
        first | refine hdT 27 ?_ | refine hdU 27 ?_
        refine wpAnyH_done (by kernel_rfl) ?_ _;clear hr1 hr2;go_upto_region 10 with fail
        replace hF:Own wB.drew w.heap.size 47 #[.slice (some ⟨b1,o1,none⟩) n1 c1]:=hF;replace hG:Own wB.drew g1 47 #[.slice (some ⟨b2,o2,none⟩) n2 c2]:=hG;replace hR:Own wB.drew g6 47 #[.slice none 0 0]:=hR;replace hT:Own wB.drew g7 47 #[.slice va vn vc]:=hT;replace hO:OwnForm wB.drew (g7+1) (.slice va vn vc) os:=hO;replace hb:Below w.heap.size w wB.drew:=hb.drew;have hr1:=rgK hr10 (hb.block b1 hbl1);have hr2:=rgK hr20 (hb.block b2 hbl2);have cT:=hT.cell 0
        have hnews:∀z u,([Value.int .u8 p0,.int .u8 p1,.int .u8 p2,.int .u8 p3,.int .u8 p4,.int .u8 p5,.int .u8 p6,.int .u8 p7,.int .i64 tf]:List Value)[z]? = some u→(wB.drew.alloc (.cells #[.int .u8 p0,.int .u8 p1,.int .u8 p2,.int .u8 p3,.int .u8 p4,.int .u8 p5,.int .u8 p6,.int .u8 p7,.int .i64 tf] 76)).cell? ((⟨wB.heap.size,0,none⟩:Addr).add z)=some u:=fun z u hu=>by
         rw [Addr.add_mid];exact (Own.new wB.drew 76 #[.int .u8 p0,.int .u8 p1,.int .u8 p2,.int .u8 p3,.int .u8 p4,.int .u8 p5,.int .u8 p6,.int .u8 p7,.int .i64 tf]).range z u hu
        have hone:∀u∈([Value.int .u8 p0,.int .u8 p1,.int .u8 p2,.int .u8 p3,.int .u8 p4,.int .u8 p5,.int .u8 p6,.int .u8 p7,.int .i64 tf]:List Value),u.oneCell'=true:=(by simp [Value.oneCell']);have HN:=Lib.hid hnews;have HO:=Lib.hid hone;clear hnews hone;refine wp_region_held_drew (S:=(fun w'=>w'.cell? ⟨w.heap.size,0,none⟩=some (.slice (some ⟨b1,o1,none⟩) n1 c1)∧w'.cell? ⟨g1,0,none⟩=some (.slice (some ⟨b2,o2,none⟩) n2 c2)∧w'.cell? ⟨b1,o1+i * 9,none⟩=some (.int .u8 p0)∧w'.cell? ⟨b1,o1+i * 9+1,none⟩=some (.int .u8 p1)∧w'.cell? ⟨b1,o1+i * 9+2,none⟩=some (.int .u8 p2)∧w'.cell? ⟨b1,o1+i * 9+3,none⟩=some (.int .u8 p3)∧w'.cell? ⟨b1,o1+i * 9+4,none⟩=some (.int .u8 p4)∧w'.cell? ⟨b1,o1+i * 9+5,none⟩=some (.int .u8 p5)∧w'.cell? ⟨b1,o1+i * 9+6,none⟩=some (.int .u8 p6)∧w'.cell? ⟨b1,o1+i * 9+7,none⟩=some (.int .u8 p7)∧w'.cell? ⟨b1,o1+i * 9+8,none⟩=some (.int .i64 tf)∧w'.cell? ⟨b2,o2+j * 9,none⟩=some (.int .u8 q0)∧w'.cell? ⟨b2,o2+j * 9+1,none⟩=some (.int .u8 q1)∧w'.cell? ⟨b2,o2+j * 9+2,none⟩=some (.int .u8 q2)∧w'.cell? ⟨b2,o2+j * 9+3,none⟩=some (.int .u8 q3)∧w'.cell? ⟨b2,o2+j * 9+4,none⟩=some (.int .u8 q4)∧w'.cell? ⟨b2,o2+j * 9+5,none⟩=some (.int .u8 q5)∧w'.cell? ⟨b2,o2+j * 9+6,none⟩=some (.int .u8 q6)∧w'.cell? ⟨b2,o2+j * 9+7,none⟩=some (.int .u8 q7)∧w'.cell? ⟨b2,o2+j * 9+8,none⟩=some (.int .i64 uf))) (by kernel_rfl) ?_ (fun hHeld=>?_)
        · ((try dsimp only);(exact cellsA11 hF hG hr1 hr2))
        refine hdT 0 ?_;refine hdT 2 ?_;refine hdT 3 ?_;refine hdT 4 ?_;refine hdT 5 ?_;refine hdT 6 ?_;refine wpAnyH_ready (rs:=[1,7]) (by kernel_rfl) (by simp) ?_;refine AllReadyH.cons (hdAt (i:=1) rfl) (fun K hK=>?_) (AllReadyH.cons (hdAt (i:=7) rfl) (fun K hK=>?_) AllReadyH.nil)
        · (go_simp;try go_wp2_with fail)
          refine hK.out _ _ ?_ (fun _=>?_)
          · ((try dsimp only);(exact cellsA11 hF hG hr1 hr2))
          clear hK K
          (try simp only [Act.put,pA,pB,pC])
          refine hdC 7 (fun K hK=>?_)
          (go_simp;try go_wp2_with fail)
          replace hF:=hF.alloc (.cells #[.int .u8 p0,.int .u8 p1,.int .u8 p2,.int .u8 p3,.int .u8 p4,.int .u8 p5,.int .u8 p6,.int .u8 p7,.int .i64 tf] 76);replace hG:=hG.alloc (.cells #[.int .u8 p0,.int .u8 p1,.int .u8 p2,.int .u8 p3,.int .u8 p4,.int .u8 p5,.int .u8 p6,.int .u8 p7,.int .i64 tf] 76);replace hR:=hR.alloc (.cells #[.int .u8 p0,.int .u8 p1,.int .u8 p2,.int .u8 p3,.int .u8 p4,.int .u8 p5,.int .u8 p6,.int .u8 p7,.int .i64 tf] 76);replace hT:=hT.alloc (.cells #[.int .u8 p0,.int .u8 p1,.int .u8 p2,.int .u8 p3,.int .u8 p4,.int .u8 p5,.int .u8 p6,.int .u8 p7,.int .i64 tf] 76);have hOa:=(hO.keep (bA1 _ (.cells #[.int .u8 p0,.int .u8 p1,.int .u8 p2,.int .u8 p3,.int .u8 p4,.int .u8 p5,.int .u8 p6,.int .u8 p7,.int .i64 tf] 76))).1;replace hb:=bT' hb (bA1 _ (.cells #[.int .u8 p0,.int .u8 p1,.int .u8 p2,.int .u8 p3,.int .u8 p4,.int .u8 p5,.int .u8 p6,.int .u8 p7,.int .i64 tf] 76)) hb.size;replace hr1:=rgK hr10 (hb.block b1 hbl1);replace hr2:=rgK hr20 (hb.block b2 hbl2);refine hK.out _ _ ?_ (fun _=>?_)
          · ((try dsimp only);(exact cellsA11 hF hG hr1 hr2))
          clear hK K
          (try simp only [Act.put,pA,pB,pC])
          refine hdC 8 (fun K hK=>?_);rw [if_pos (by rfl)];refine wp_append_own_wide _ (.tmp 90) (.tmp 96) 45 rfl (g7+1) 76 ti tz 9 16 Try.underlying45 HI.out HZ.out HS.out HBt.out HZs.out (by omega) (.slice va vn vc) _ _ rfl hOa ⟨wB.heap.size,0,none⟩ 1 1 [Value.int .u8 p0,.int .u8 p1,.int .u8 p2,.int .u8 p3,.int .u8 p4,.int .u8 p5,.int .u8 p6,.int .u8 p7,.int .i64 tf] rfl rfl HN.out HO.out (by have:=HP.out;simp only [maxLen];omega) (by have:=HP.out;omega) (Nat.succ_le_of_lt hT.lt) (fun v' w' h2 h3 h4=>?_)
          obtain ⟨gg,vk,cp,rfl⟩:∃gg vk cp,v'=.slice gg vk cp:=by
           rcases h2.2 with ⟨h0,_⟩ | ⟨g,cap,cur,hv,_⟩
           · exact ⟨_,_,_,h0⟩
           · exact ⟨_,_,_,hv⟩
          replace hF:=hF.grown h3 (fun e=>by have:=(hOa.lt _ e.symm).1;omega);replace hG:=hG.grown h3 (fun e=>by have:=(hOa.lt _ e.symm).1;omega);replace hR:=hR.grown h3 (fun e=>by have:=(hOa.lt _ e.symm).1;omega);replace hT:=hT.grown h3 (fun e=>by have:=(hOa.lt _ e.symm).1;omega);replace hb:=grown_below hb h3 (fun q e=>by have:=(hOa.lt q e).1;omega) hb.size;replace hr1:=rgK hr10 (hb.block b1 hbl1);replace hr2:=rgK hr20 (hb.block b2 hbl2);have c7:=hT.cell 0;have f7:=hT.frozen 0;have H2:=Lib.hid h2;have H4:=Lib.hid h4;clear h2 h3 h4 hOa;refine hK.out _ _ ?_ (fun _=>?_)
          · ((try dsimp only);(exact cellsA11 hF hG hr1 hr2))
          clear hK K
          (try simp only [Act.put,pA,pB,pC])
          refine hdT 9 ?_;refine hdC 10 (fun K hK=>?_)
          (go_simp;go_wp2_with fail)
          replace hF:=hF.far (p:=⟨g7,0,none⟩) (by dsimp only;omega) (.slice gg vk cp);replace hG:=hG.far (p:=⟨g7,0,none⟩) (by dsimp only;omega) (.slice gg vk cp);replace hR:=hR.far (p:=⟨g7,0,none⟩) (by dsimp only;omega) (.slice gg vk cp);replace hb:=hb.setCell (p:=⟨g7,0,none⟩) (by dsimp only;omega) (.slice gg vk cp);replace hr1:=rgK hr10 (hb.block b1 hbl1);replace hr2:=rgK hr20 (hb.block b2 hbl2);refine hK.out _ _ ?_ (fun _=>?_)
          · ((try dsimp only);(exact cellsA11 hF hG hr1 hr2))
          clear hK K
          (try simp only [Act.put,pA,pB,pC])
          refine wpAnyH_done (by kernel_rfl) ?_ _;go_wp2_with fail
          go_roundw
          case rel=>
           refine ⟨i+1,j,.slice gg vk cp,os++[⟨[p0,p1,p2,p3,p4,p5,p6,p7],tf⟩],by omega,by omega,rfl_i (by go_num),rfl_i (by go_num),hb,hF,hG,hR,hT.set 0 _,OwnForm.set (p:=⟨g7,0,none⟩) (OwnForm.of H2.out (by simp) (by rw [rcells_append];rfl) ⟨fun e=>absurd (H4.out.1 e).2 (by omega),fun e=>by omega⟩) (by dsimp only;omega) _,Lib.hid (addT_stepL hinv.out hx.out (fun u hu=>by rw [hy.out] at hu;cases hu;exact hbf))⟩
          case measure=>simp [intOf] <;> omega
        · (go_simp;try go_wp2_with fail)
          replace hF:=hF.alloc (.cells #[.int .u8 p0,.int .u8 p1,.int .u8 p2,.int .u8 p3,.int .u8 p4,.int .u8 p5,.int .u8 p6,.int .u8 p7,.int .i64 tf] 76);replace hG:=hG.alloc (.cells #[.int .u8 p0,.int .u8 p1,.int .u8 p2,.int .u8 p3,.int .u8 p4,.int .u8 p5,.int .u8 p6,.int .u8 p7,.int .i64 tf] 76);replace hR:=hR.alloc (.cells #[.int .u8 p0,.int .u8 p1,.int .u8 p2,.int .u8 p3,.int .u8 p4,.int .u8 p5,.int .u8 p6,.int .u8 p7,.int .i64 tf] 76);replace hT:=hT.alloc (.cells #[.int .u8 p0,.int .u8 p1,.int .u8 p2,.int .u8 p3,.int .u8 p4,.int .u8 p5,.int .u8 p6,.int .u8 p7,.int .i64 tf] 76);have hOa:=(hO.keep (bA1 _ (.cells #[.int .u8 p0,.int .u8 p1,.int .u8 p2,.int .u8 p3,.int .u8 p4,.int .u8 p5,.int .u8 p6,.int .u8 p7,.int .i64 tf] 76))).1;replace hb:=bT' hb (bA1 _ (.cells #[.int .u8 p0,.int .u8 p1,.int .u8 p2,.int .u8 p3,.int .u8 p4,.int .u8 p5,.int .u8 p6,.int .u8 p7,.int .i64 tf] 76)) hb.size;replace hr1:=rgK hr10 (hb.block b1 hbl1);replace hr2:=rgK hr20 (hb.block b2 hbl2);refine hK.out _ _ ?_ (fun _=>?_)
          · ((try dsimp only);(exact cellsA11 hF hG hr1 hr2))
          clear hK K
          (try simp only [Act.put,pA,pB,pC])
          have cGa:(wB.alloc (.cells #[.int .u8 p0,.int .u8 p1,.int .u8 p2,.int .u8 p3,.int .u8 p4,.int .u8 p5,.int .u8 p6,.int .u8 p7,.int .i64 tf] 76)).drew.cell? ⟨g7,0,none⟩=some (.slice va vn vc):=hT.cell 0;refine hdC 1 (fun K hK=>?_)
          (go_simp;try go_wp2_with fail)
          refine hK.out _ _ ?_ (fun _=>?_)
          · ((try dsimp only);(exact cellsA11 hF hG hr1 hr2))
          clear hK K
          (try simp only [Act.put,pA,pB,pC])
          refine hdC 8 (fun K hK=>?_);rw [if_pos (by rfl)];refine wp_append_own_wide _ (.tmp 90) (.tmp 96) 45 rfl (g7+1) 76 ti tz 9 16 Try.underlying45 HI.out HZ.out HS.out HBt.out HZs.out (by omega) (.slice va vn vc) _ _ rfl hOa ⟨wB.heap.size,0,none⟩ 1 1 [Value.int .u8 p0,.int .u8 p1,.int .u8 p2,.int .u8 p3,.int .u8 p4,.int .u8 p5,.int .u8 p6,.int .u8 p7,.int .i64 tf] rfl rfl HN.out HO.out (by have:=HP.out;simp only [maxLen];omega) (by have:=HP.out;omega) (Nat.succ_le_of_lt hT.lt) (fun v' w' h2 h3 h4=>?_)
          obtain ⟨gg,vk,cp,rfl⟩:∃gg vk cp,v'=.slice gg vk cp:=by
           rcases h2.2 with ⟨h0,_⟩ | ⟨g,cap,cur,hv,_⟩
           · exact ⟨_,_,_,h0⟩
           · exact ⟨_,_,_,hv⟩
          replace hF:=hF.grown h3 (fun e=>by have:=(hOa.lt _ e.symm).1;omega);replace hG:=hG.grown h3 (fun e=>by have:=(hOa.lt _ e.symm).1;omega);replace hR:=hR.grown h3 (fun e=>by have:=(hOa.lt _ e.symm).1;omega);replace hT:=hT.grown h3 (fun e=>by have:=(hOa.lt _ e.symm).1;omega);replace hb:=grown_below hb h3 (fun q e=>by have:=(hOa.lt q e).1;omega) hb.size;replace hr1:=rgK hr10 (hb.block b1 hbl1);replace hr2:=rgK hr20 (hb.block b2 hbl2);have c7:=hT.cell 0;have f7:=hT.frozen 0;have H2:=Lib.hid h2;have H4:=Lib.hid h4;clear h2 h3 h4 hOa;refine hK.out _ _ ?_ (fun _=>?_)
          · ((try dsimp only);(exact cellsA11 hF hG hr1 hr2))
          clear hK K
          (try simp only [Act.put,pA,pB,pC])
          refine hdT 9 ?_;refine hdC 10 (fun K hK=>?_)
          (go_simp;go_wp2_with fail)
          replace hF:=hF.far (p:=⟨g7,0,none⟩) (by dsimp only;omega) (.slice gg vk cp);replace hG:=hG.far (p:=⟨g7,0,none⟩) (by dsimp only;omega) (.slice gg vk cp);replace hR:=hR.far (p:=⟨g7,0,none⟩) (by dsimp only;omega) (.slice gg vk cp);replace hb:=hb.setCell (p:=⟨g7,0,none⟩) (by dsimp only;omega) (.slice gg vk cp);replace hr1:=rgK hr10 (hb.block b1 hbl1);replace hr2:=rgK hr20 (hb.block b2 hbl2);refine hK.out _ _ ?_ (fun _=>?_)
          · ((try dsimp only);(exact cellsA11 hF hG hr1 hr2))
          clear hK K
          (try simp only [Act.put,pA,pB,pC])
          refine wpAnyH_done (by kernel_rfl) ?_ _;go_wp2_with fail
          go_roundw
          case rel=>
           refine ⟨i+1,j,.slice gg vk cp,os++[⟨[p0,p1,p2,p3,p4,p5,p6,p7],tf⟩],by omega,by omega,rfl_i (by go_num),rfl_i (by go_num),hb,hF,hG,hR,hT.set 0 _,OwnForm.set (p:=⟨g7,0,none⟩) (OwnForm.of H2.out (by simp) (by rw [rcells_append];rfl) ⟨fun e=>absurd (H4.out.1 e).2 (by omega),fun e=>by omega⟩) (by dsimp only;omega) _,Lib.hid (addT_stepL hinv.out hx.out (fun u hu=>by rw [hy.out] at hu;cases hu;exact hbf))⟩
          case measure=>simp [intOf] <;> omega
      | false =>
        go_upto_region 9 with fail
        replace hF:Own wr.drew w.heap.size 47 #[.slice (some ⟨b1,o1,none⟩) n1 c1]:=hF;replace hG:Own wr.drew g1 47 #[.slice (some ⟨b2,o2,none⟩) n2 c2]:=hG;replace hR:Own wr.drew g6 47 #[.slice none 0 0]:=hR;replace hT:Own wr.drew g7 47 #[.slice va vn vc]:=hT;replace hO:OwnForm wr.drew (g7+1) (.slice va vn vc) os:=hO;replace hb:Below w.heap.size w wr.drew:=hb.drew;have hr1:=rgK hr10 (hb.block b1 hbl1);have hr2:=rgK hr20 (hb.block b2 hbl2);refine wp_region_held_drew (S:=(fun w'=>w'.cell? ⟨w.heap.size,0,none⟩=some (.slice (some ⟨b1,o1,none⟩) n1 c1)∧w'.cell? ⟨g1,0,none⟩=some (.slice (some ⟨b2,o2,none⟩) n2 c2)∧w'.cell? ⟨b1,o1+i * 9,none⟩=some (.int .u8 p0)∧w'.cell? ⟨b1,o1+i * 9+1,none⟩=some (.int .u8 p1)∧w'.cell? ⟨b1,o1+i * 9+2,none⟩=some (.int .u8 p2)∧w'.cell? ⟨b1,o1+i * 9+3,none⟩=some (.int .u8 p3)∧w'.cell? ⟨b1,o1+i * 9+4,none⟩=some (.int .u8 p4)∧w'.cell? ⟨b1,o1+i * 9+5,none⟩=some (.int .u8 p5)∧w'.cell? ⟨b1,o1+i * 9+6,none⟩=some (.int .u8 p6)∧w'.cell? ⟨b1,o1+i * 9+7,none⟩=some (.int .u8 p7)∧w'.cell? ⟨b1,o1+i * 9+8,none⟩=some (.int .i64 tf)∧w'.cell? ⟨b2,o2+j * 9,none⟩=some (.int .u8 q0)∧w'.cell? ⟨b2,o2+j * 9+1,none⟩=some (.int .u8 q1)∧w'.cell? ⟨b2,o2+j * 9+2,none⟩=some (.int .u8 q2)∧w'.cell? ⟨b2,o2+j * 9+3,none⟩=some (.int .u8 q3)∧w'.cell? ⟨b2,o2+j * 9+4,none⟩=some (.int .u8 q4)∧w'.cell? ⟨b2,o2+j * 9+5,none⟩=some (.int .u8 q5)∧w'.cell? ⟨b2,o2+j * 9+6,none⟩=some (.int .u8 q6)∧w'.cell? ⟨b2,o2+j * 9+7,none⟩=some (.int .u8 q7)∧w'.cell? ⟨b2,o2+j * 9+8,none⟩=some (.int .i64 uf))) (by kernel_rfl) ?_ (fun hHeld=>?_)
        · ((try dsimp only);(exact cellsA11 hF hG hr1 hr2))
        first | refine hdT 0 ?_ | refine hdU 0 ?_
        first | refine hdT 1 ?_ | refine hdU 1 ?_
        first | refine hdT 2 ?_ | refine hdU 2 ?_
        first | refine hdT 3 ?_ | refine hdU 3 ?_
        first | refine hdT 4 ?_ | refine hdU 4 ?_
        first | refine hdT 5 ?_ | refine hdU 5 ?_
        first | refine hdT 6 ?_ | refine hdU 6 ?_
        first | refine hdT 7 ?_ | refine hdU 7 ?_
        first | refine hdT 8 ?_ | refine hdU 8 ?_
        first | refine hdT 9 ?_ | refine hdU 9 ?_
        first | refine hdT 10 ?_ | refine hdU 10 ?_
        first | refine hdT 11 ?_ | refine hdU 11 ?_
        first | refine hdT 12 ?_ | refine hdU 12 ?_
        first | refine hdT 13 ?_ | refine hdU 13 ?_
        first | refine hdT 14 ?_ | refine hdU 14 ?_
        first | refine hdT 15 ?_ | refine hdU 15 ?_
        first | refine hdT 16 ?_ | refine hdU 16 ?_
        first | refine hdT 17 ?_ | refine hdU 17 ?_
        first | refine hdT 18 ?_ | refine hdU 18 ?_
        first | refine hdT 19 ?_ | refine hdU 19 ?_
        first | refine hdT 20 ?_ | refine hdU 20 ?_
        first | refine hdT 21 ?_ | refine hdU 21 ?_
        first | refine hdT 22 ?_ | refine hdU 22 ?_
        first | refine hdT 23 ?_ | refine hdU 23 ?_
        refine hdC 24 (fun K hK=>?_)
        (go_simp;(go_at_call 127;(refine (l01Before8 hm1 hm2 hbf).mono ?_);rintro e wB ⟨rfl,hbB⟩;replace hb:=bT' hb hbB hb.size;replace hF:=hF.keep hbB hF.lt;replace hG:=hG.keep hbB hG.lt;replace hR:=hR.keep hbB hR.lt;replace hT:=hT.keep hbB hT.lt;replace hO:=hO.keep hbB;replace hr1:=rgK hr10 (hb.block b1 hbl1);replace hr2:=rgK hr20 (hb.block b2 hbl2);clear hbB);go_wp2_with fail)
        refine hK.out _ _ ?_ (fun _=>?_)
        · ((try dsimp only);(exact cellsA11 hF hG hr1 hr2))
        clear hK K
        (try simp only [Act.put,pA,pB,pC])
        first | refine hdT 25 ?_ | refine hdU 25 ?_
        first | refine hdT 26 ?_ | refine hdU 26 ?_
        first | refine hdT 27 ?_ | refine hdU 27 ?_
        refine wpAnyH_done (by kernel_rfl) ?_ _;clear hr1 hr2
        cases hbg:before [q0,q1,q2,q3,q4,q5,q6,q7] [p0,p1,p2,p3,p4,p5,p6,p7] with
        | true =>
          go_upto_region 12 with fail
          replace hF:Own wB.drew w.heap.size 47 #[.slice (some ⟨b1,o1,none⟩) n1 c1]:=hF;replace hG:Own wB.drew g1 47 #[.slice (some ⟨b2,o2,none⟩) n2 c2]:=hG;replace hR:Own wB.drew g6 47 #[.slice none 0 0]:=hR;replace hT:Own wB.drew g7 47 #[.slice va vn vc]:=hT;replace hO:OwnForm wB.drew (g7+1) (.slice va vn vc) os:=hO;replace hb:Below w.heap.size w wB.drew:=hb.drew;have hr1:=rgK hr10 (hb.block b1 hbl1);have hr2:=rgK hr20 (hb.block b2 hbl2);refine wp_region_held_drew (S:=(fun w'=>w'.cell? ⟨w.heap.size,0,none⟩=some (.slice (some ⟨b1,o1,none⟩) n1 c1)∧w'.cell? ⟨g1,0,none⟩=some (.slice (some ⟨b2,o2,none⟩) n2 c2)∧w'.cell? ⟨b1,o1+i * 9,none⟩=some (.int .u8 p0)∧w'.cell? ⟨b1,o1+i * 9+1,none⟩=some (.int .u8 p1)∧w'.cell? ⟨b1,o1+i * 9+2,none⟩=some (.int .u8 p2)∧w'.cell? ⟨b1,o1+i * 9+3,none⟩=some (.int .u8 p3)∧w'.cell? ⟨b1,o1+i * 9+4,none⟩=some (.int .u8 p4)∧w'.cell? ⟨b1,o1+i * 9+5,none⟩=some (.int .u8 p5)∧w'.cell? ⟨b1,o1+i * 9+6,none⟩=some (.int .u8 p6)∧w'.cell? ⟨b1,o1+i * 9+7,none⟩=some (.int .u8 p7)∧w'.cell? ⟨b1,o1+i * 9+8,none⟩=some (.int .i64 tf)∧w'.cell? ⟨b2,o2+j * 9,none⟩=some (.int .u8 q0)∧w'.cell? ⟨b2,o2+j * 9+1,none⟩=some (.int .u8 q1)∧w'.cell? ⟨b2,o2+j * 9+2,none⟩=some (.int .u8 q2)∧w'.cell? ⟨b2,o2+j * 9+3,none⟩=some (.int .u8 q3)∧w'.cell? ⟨b2,o2+j * 9+4,none⟩=some (.int .u8 q4)∧w'.cell? ⟨b2,o2+j * 9+5,none⟩=some (.int .u8 q5)∧w'.cell? ⟨b2,o2+j * 9+6,none⟩=some (.int .u8 q6)∧w'.cell? ⟨b2,o2+j * 9+7,none⟩=some (.int .u8 q7)∧w'.cell? ⟨b2,o2+j * 9+8,none⟩=some (.int .i64 uf))) (by kernel_rfl) ?_ (fun hHeld=>?_)
          · ((try dsimp only);(exact cellsA11 hF hG hr1 hr2))
          first | refine hdT 0 ?_ | refine hdU 0 ?_
          first | refine hdT 1 ?_ | refine hdU 1 ?_
          first | refine hdT 2 ?_ | refine hdU 2 ?_
          first | refine hdT 3 ?_ | refine hdU 3 ?_
          first | refine hdT 4 ?_ | refine hdU 4 ?_
          first | refine hdT 5 ?_ | refine hdU 5 ?_
          first | refine hdT 6 ?_ | refine hdU 6 ?_
          first | refine hdT 7 ?_ | refine hdU 7 ?_
          first | refine hdT 8 ?_ | refine hdU 8 ?_
          first | refine hdT 9 ?_ | refine hdU 9 ?_
          first | refine hdT 10 ?_ | refine hdU 10 ?_
          first | refine hdT 11 ?_ | refine hdU 11 ?_
          first | refine hdT 12 ?_ | refine hdU 12 ?_
          first | refine hdT 13 ?_ | refine hdU 13 ?_
          first | refine hdT 14 ?_ | refine hdU 14 ?_
          first | refine hdT 15 ?_ | refine hdU 15 ?_
          first | refine hdT 16 ?_ | refine hdU 16 ?_
          first | refine hdT 17 ?_ | refine hdU 17 ?_
          refine hdC 18 (fun K hK=>?_)
          (go_simp;(go_at_call 127;(refine (l01Before8 hm2 hm1 hbg).mono ?_);rintro e wC ⟨rfl,hbB⟩;replace hb:=bT' hb hbB hb.size;replace hF:=hF.keep hbB hF.lt;replace hG:=hG.keep hbB hG.lt;replace hR:=hR.keep hbB hR.lt;replace hT:=hT.keep hbB hT.lt;replace hO:=hO.keep hbB;replace hr1:=rgK hr10 (hb.block b1 hbl1);replace hr2:=rgK hr20 (hb.block b2 hbl2);clear hbB);go_wp2_with fail)
          refine hK.out _ _ ?_ (fun _=>?_)
          · ((try dsimp only);(exact cellsA11 hF hG hr1 hr2))
          clear hK K
          (try simp only [Act.put,pA,pB,pC])
          first | refine hdT 19 ?_ | refine hdU 19 ?_
          first | refine hdT 20 ?_ | refine hdU 20 ?_
          refine wpAnyH_done (by kernel_rfl) ?_ _;clear hr1 hr2;have hr1:=rgK hr10 (hb.block b1 hbl1);have hr2:=rgK hr20 (hb.block b2 hbl2);obtain ⟨x,hx0⟩:∃x,num (k * uf)=x:=⟨_,rfl⟩;have HX:=Lib.hid hx0;have hku:0≤k * uf∧k * uf≤100120036:=mul_b hk0 (by omega) huf.1 (by omega);have s1:IntKind.i64.wrap (k * uf)=k * uf:=IntWalk.i64_in _ (by omega);clear hx0;have cF:=hF.cell 0;have cG:=hG.cell 0;have cU:=hr2 8 _ rfl;go_wp2_with fail
          refine (l01Mod_c _ _ (by omega) (by omega)).mono ?_;rintro e wM ⟨rfl,rfl⟩;rw [HX.out];clear cF cG cU s1 hr1 hr2;by_cases hz:x=0
          · subst hz;go_wp2_with fail
            go_roundw
            case rel=>exact ⟨i,j+1,.slice va vn vc,os,by omega,by omega,rfl_i (by go_num),rfl_i (by go_num),hb,hF,hG,hR,hT,hO,Lib.hid (own1_skip (addT_stepR hinv.out hy.out (fun t ht=>by rw [hx.out] at ht;cases ht;exact hbg)) HX.out)⟩
            case measure=>simp [intOf] <;> omega
          · have hzb:(x==0)=false:=(by simpa using hz);go_upto_region 15 with fail
            replace hF:Own wC.drew w.heap.size 47 #[.slice (some ⟨b1,o1,none⟩) n1 c1]:=hF;replace hG:Own wC.drew g1 47 #[.slice (some ⟨b2,o2,none⟩) n2 c2]:=hG;replace hR:Own wC.drew g6 47 #[.slice none 0 0]:=hR;replace hT:Own wC.drew g7 47 #[.slice va vn vc]:=hT;replace hO:OwnForm wC.drew (g7+1) (.slice va vn vc) os:=hO;replace hb:Below w.heap.size w wC.drew:=hb.drew;have hr1:=rgK hr10 (hb.block b1 hbl1);have hr2:=rgK hr20 (hb.block b2 hbl2);have cT:=hT.cell 0
            have hnews:∀z u,([Value.int .u8 q0,.int .u8 q1,.int .u8 q2,.int .u8 q3,.int .u8 q4,.int .u8 q5,.int .u8 q6,.int .u8 q7,.int .i64 x]:List Value)[z]? = some u→(wC.drew.alloc (.cells #[.int .u8 q0,.int .u8 q1,.int .u8 q2,.int .u8 q3,.int .u8 q4,.int .u8 q5,.int .u8 q6,.int .u8 q7,.int .i64 x] 76)).cell? ((⟨wC.heap.size,0,none⟩:Addr).add z)=some u:=fun z u hu=>by
             rw [Addr.add_mid];exact (Own.new wC.drew 76 #[.int .u8 q0,.int .u8 q1,.int .u8 q2,.int .u8 q3,.int .u8 q4,.int .u8 q5,.int .u8 q6,.int .u8 q7,.int .i64 x]).range z u hu
            have hone:∀u∈([Value.int .u8 q0,.int .u8 q1,.int .u8 q2,.int .u8 q3,.int .u8 q4,.int .u8 q5,.int .u8 q6,.int .u8 q7,.int .i64 x]:List Value),u.oneCell'=true:=(by simp [Value.oneCell']);have HN:=Lib.hid hnews;have HO:=Lib.hid hone;clear hnews hone;refine wp_region_held_drew (S:=(fun w'=>w'.cell? ⟨w.heap.size,0,none⟩=some (.slice (some ⟨b1,o1,none⟩) n1 c1)∧w'.cell? ⟨g1,0,none⟩=some (.slice (some ⟨b2,o2,none⟩) n2 c2)∧w'.cell? ⟨b1,o1+i * 9,none⟩=some (.int .u8 p0)∧w'.cell? ⟨b1,o1+i * 9+1,none⟩=some (.int .u8 p1)∧w'.cell? ⟨b1,o1+i * 9+2,none⟩=some (.int .u8 p2)∧w'.cell? ⟨b1,o1+i * 9+3,none⟩=some (.int .u8 p3)∧w'.cell? ⟨b1,o1+i * 9+4,none⟩=some (.int .u8 p4)∧w'.cell? ⟨b1,o1+i * 9+5,none⟩=some (.int .u8 p5)∧w'.cell? ⟨b1,o1+i * 9+6,none⟩=some (.int .u8 p6)∧w'.cell? ⟨b1,o1+i * 9+7,none⟩=some (.int .u8 p7)∧w'.cell? ⟨b1,o1+i * 9+8,none⟩=some (.int .i64 tf)∧w'.cell? ⟨b2,o2+j * 9,none⟩=some (.int .u8 q0)∧w'.cell? ⟨b2,o2+j * 9+1,none⟩=some (.int .u8 q1)∧w'.cell? ⟨b2,o2+j * 9+2,none⟩=some (.int .u8 q2)∧w'.cell? ⟨b2,o2+j * 9+3,none⟩=some (.int .u8 q3)∧w'.cell? ⟨b2,o2+j * 9+4,none⟩=some (.int .u8 q4)∧w'.cell? ⟨b2,o2+j * 9+5,none⟩=some (.int .u8 q5)∧w'.cell? ⟨b2,o2+j * 9+6,none⟩=some (.int .u8 q6)∧w'.cell? ⟨b2,o2+j * 9+7,none⟩=some (.int .u8 q7)∧w'.cell? ⟨b2,o2+j * 9+8,none⟩=some (.int .i64 uf))) (by kernel_rfl) ?_ (fun hHeld=>?_)
            · ((try dsimp only);(exact cellsA11 hF hG hr1 hr2))
            refine hdT 0 ?_;refine hdT 2 ?_;refine hdT 3 ?_;refine hdT 4 ?_;refine hdT 5 ?_;refine hdT 6 ?_;refine hdT 7 ?_;refine hdT 8 ?_;refine hdT 9 ?_;refine wpAnyH_ready (rs:=[1,10]) (by kernel_rfl) (by simp) ?_;refine AllReadyH.cons (hdAt (i:=1) rfl) (fun K hK=>?_) (AllReadyH.cons (hdAt (i:=10) rfl) (fun K hK=>?_) AllReadyH.nil)
            · (go_simp;try go_wp2_with fail)
              refine hK.out _ _ ?_ (fun _=>?_)
              · ((try dsimp only);(exact cellsA11 hF hG hr1 hr2))
              clear hK K
              (try simp only [Act.put,pA,pB,pC])
              refine hdC 10 (fun K hK=>?_)
              (go_simp;try go_wp2_with fail)
              replace hF:=hF.alloc (.cells #[.int .u8 q0,.int .u8 q1,.int .u8 q2,.int .u8 q3,.int .u8 q4,.int .u8 q5,.int .u8 q6,.int .u8 q7,.int .i64 x] 76);replace hG:=hG.alloc (.cells #[.int .u8 q0,.int .u8 q1,.int .u8 q2,.int .u8 q3,.int .u8 q4,.int .u8 q5,.int .u8 q6,.int .u8 q7,.int .i64 x] 76);replace hR:=hR.alloc (.cells #[.int .u8 q0,.int .u8 q1,.int .u8 q2,.int .u8 q3,.int .u8 q4,.int .u8 q5,.int .u8 q6,.int .u8 q7,.int .i64 x] 76);replace hT:=hT.alloc (.cells #[.int .u8 q0,.int .u8 q1,.int .u8 q2,.int .u8 q3,.int .u8 q4,.int .u8 q5,.int .u8 q6,.int .u8 q7,.int .i64 x] 76);have hOa:=(hO.keep (bA1 _ (.cells #[.int .u8 q0,.int .u8 q1,.int .u8 q2,.int .u8 q3,.int .u8 q4,.int .u8 q5,.int .u8 q6,.int .u8 q7,.int .i64 x] 76))).1;replace hb:=bT' hb (bA1 _ (.cells #[.int .u8 q0,.int .u8 q1,.int .u8 q2,.int .u8 q3,.int .u8 q4,.int .u8 q5,.int .u8 q6,.int .u8 q7,.int .i64 x] 76)) hb.size;replace hr1:=rgK hr10 (hb.block b1 hbl1);replace hr2:=rgK hr20 (hb.block b2 hbl2);refine hK.out _ _ ?_ (fun _=>?_)
              · ((try dsimp only);(exact cellsA11 hF hG hr1 hr2))
              clear hK K
              (try simp only [Act.put,pA,pB,pC])
              refine hdC 11 (fun K hK=>?_);rw [if_pos (by rfl)];refine wp_append_own_wide _ (.tmp 134) (.tmp 143) 45 rfl (g7+1) 76 ti tz 9 16 Try.underlying45 HI.out HZ.out HS.out HBt.out HZs.out (by omega) (.slice va vn vc) _ _ rfl hOa ⟨wC.heap.size,0,none⟩ 1 1 [Value.int .u8 q0,.int .u8 q1,.int .u8 q2,.int .u8 q3,.int .u8 q4,.int .u8 q5,.int .u8 q6,.int .u8 q7,.int .i64 x] rfl rfl HN.out HO.out (by have:=HP.out;simp only [maxLen];omega) (by have:=HP.out;omega) (Nat.succ_le_of_lt hT.lt) (fun v' w' h2 h3 h4=>?_)
              obtain ⟨gg,vk,cp,rfl⟩:∃gg vk cp,v'=.slice gg vk cp:=by
               rcases h2.2 with ⟨h0,_⟩ | ⟨g,cap,cur,hv,_⟩
               · exact ⟨_,_,_,h0⟩
               · exact ⟨_,_,_,hv⟩
              replace hF:=hF.grown h3 (fun e=>by have:=(hOa.lt _ e.symm).1;omega);replace hG:=hG.grown h3 (fun e=>by have:=(hOa.lt _ e.symm).1;omega);replace hR:=hR.grown h3 (fun e=>by have:=(hOa.lt _ e.symm).1;omega);replace hT:=hT.grown h3 (fun e=>by have:=(hOa.lt _ e.symm).1;omega);replace hb:=grown_below hb h3 (fun q e=>by have:=(hOa.lt q e).1;omega) hb.size;replace hr1:=rgK hr10 (hb.block b1 hbl1);replace hr2:=rgK hr20 (hb.block b2 hbl2);have c7:=hT.cell 0;have f7:=hT.frozen 0;have H2:=Lib.hid h2;have H4:=Lib.hid h4;clear h2 h3 h4 hOa;refine hK.out _ _ ?_ (fun _=>?_)
              · ((try dsimp only);(exact cellsA11 hF hG hr1 hr2))
              clear hK K
              (try simp only [Act.put,pA,pB,pC])
              refine hdT 12 ?_;refine hdC 13 (fun K hK=>?_)
              (go_simp;go_wp2_with fail)
              replace hF:=hF.far (p:=⟨g7,0,none⟩) (by dsimp only;omega) (.slice gg vk cp);replace hG:=hG.far (p:=⟨g7,0,none⟩) (by dsimp only;omega) (.slice gg vk cp);replace hR:=hR.far (p:=⟨g7,0,none⟩) (by dsimp only;omega) (.slice gg vk cp);replace hb:=hb.setCell (p:=⟨g7,0,none⟩) (by dsimp only;omega) (.slice gg vk cp);replace hr1:=rgK hr10 (hb.block b1 hbl1);replace hr2:=rgK hr20 (hb.block b2 hbl2);refine hK.out _ _ ?_ (fun _=>?_)
              · ((try dsimp only);(exact cellsA11 hF hG hr1 hr2))
              clear hK K
              (try simp only [Act.put,pA,pB,pC])
              refine wpAnyH_done (by kernel_rfl) ?_ _;go_wp2_with fail
              go_roundw
              case rel=>
               refine ⟨i,j+1,.slice gg vk cp,os++[⟨[q0,q1,q2,q3,q4,q5,q6,q7],x⟩],by omega,by omega,rfl_i (by go_num),rfl_i (by go_num),hb,hF,hG,hR,hT.set 0 _,OwnForm.set (p:=⟨g7,0,none⟩) (OwnForm.of H2.out (by simp) (by rw [rcells_append];rfl) ⟨fun e=>absurd (H4.out.1 e).2 (by omega),fun e=>by omega⟩) (by dsimp only;omega) _,Lib.hid (own1_put (addT_stepR hinv.out hy.out (fun t ht=>by rw [hx.out] at ht;cases ht;exact hbg)) HX.out hz)⟩
              case measure=>simp [intOf] <;> omega
            · (go_simp;try go_wp2_with fail)
              replace hF:=hF.alloc (.cells #[.int .u8 q0,.int .u8 q1,.int .u8 q2,.int .u8 q3,.int .u8 q4,.int .u8 q5,.int .u8 q6,.int .u8 q7,.int .i64 x] 76);replace hG:=hG.alloc (.cells #[.int .u8 q0,.int .u8 q1,.int .u8 q2,.int .u8 q3,.int .u8 q4,.int .u8 q5,.int .u8 q6,.int .u8 q7,.int .i64 x] 76);replace hR:=hR.alloc (.cells #[.int .u8 q0,.int .u8 q1,.int .u8 q2,.int .u8 q3,.int .u8 q4,.int .u8 q5,.int .u8 q6,.int .u8 q7,.int .i64 x] 76);replace hT:=hT.alloc (.cells #[.int .u8 q0,.int .u8 q1,.int .u8 q2,.int .u8 q3,.int .u8 q4,.int .u8 q5,.int .u8 q6,.int .u8 q7,.int .i64 x] 76);have hOa:=(hO.keep (bA1 _ (.cells #[.int .u8 q0,.int .u8 q1,.int .u8 q2,.int .u8 q3,.int .u8 q4,.int .u8 q5,.int .u8 q6,.int .u8 q7,.int .i64 x] 76))).1;replace hb:=bT' hb (bA1 _ (.cells #[.int .u8 q0,.int .u8 q1,.int .u8 q2,.int .u8 q3,.int .u8 q4,.int .u8 q5,.int .u8 q6,.int .u8 q7,.int .i64 x] 76)) hb.size;replace hr1:=rgK hr10 (hb.block b1 hbl1);replace hr2:=rgK hr20 (hb.block b2 hbl2);refine hK.out _ _ ?_ (fun _=>?_)
              · ((try dsimp only);(exact cellsA11 hF hG hr1 hr2))
              clear hK K
              (try simp only [Act.put,pA,pB,pC])
              have cGa:(wC.alloc (.cells #[.int .u8 q0,.int .u8 q1,.int .u8 q2,.int .u8 q3,.int .u8 q4,.int .u8 q5,.int .u8 q6,.int .u8 q7,.int .i64 x] 76)).drew.cell? ⟨g7,0,none⟩=some (.slice va vn vc):=hT.cell 0;refine hdC 1 (fun K hK=>?_)
              (go_simp;try go_wp2_with fail)
              refine hK.out _ _ ?_ (fun _=>?_)
              · ((try dsimp only);(exact cellsA11 hF hG hr1 hr2))
              clear hK K
              (try simp only [Act.put,pA,pB,pC])
              refine hdC 11 (fun K hK=>?_);rw [if_pos (by rfl)];refine wp_append_own_wide _ (.tmp 134) (.tmp 143) 45 rfl (g7+1) 76 ti tz 9 16 Try.underlying45 HI.out HZ.out HS.out HBt.out HZs.out (by omega) (.slice va vn vc) _ _ rfl hOa ⟨wC.heap.size,0,none⟩ 1 1 [Value.int .u8 q0,.int .u8 q1,.int .u8 q2,.int .u8 q3,.int .u8 q4,.int .u8 q5,.int .u8 q6,.int .u8 q7,.int .i64 x] rfl rfl HN.out HO.out (by have:=HP.out;simp only [maxLen];omega) (by have:=HP.out;omega) (Nat.succ_le_of_lt hT.lt) (fun v' w' h2 h3 h4=>?_)
              obtain ⟨gg,vk,cp,rfl⟩:∃gg vk cp,v'=.slice gg vk cp:=by
               rcases h2.2 with ⟨h0,_⟩ | ⟨g,cap,cur,hv,_⟩
               · exact ⟨_,_,_,h0⟩
               · exact ⟨_,_,_,hv⟩
              replace hF:=hF.grown h3 (fun e=>by have:=(hOa.lt _ e.symm).1;omega);replace hG:=hG.grown h3 (fun e=>by have:=(hOa.lt _ e.symm).1;omega);replace hR:=hR.grown h3 (fun e=>by have:=(hOa.lt _ e.symm).1;omega);replace hT:=hT.grown h3 (fun e=>by have:=(hOa.lt _ e.symm).1;omega);replace hb:=grown_below hb h3 (fun q e=>by have:=(hOa.lt q e).1;omega) hb.size;replace hr1:=rgK hr10 (hb.block b1 hbl1);replace hr2:=rgK hr20 (hb.block b2 hbl2);have c7:=hT.cell 0;have f7:=hT.frozen 0;have H2:=Lib.hid h2;have H4:=Lib.hid h4;clear h2 h3 h4 hOa;refine hK.out _ _ ?_ (fun _=>?_)
              · ((try dsimp only);(exact cellsA11 hF hG hr1 hr2))
              clear hK K
              (try simp only [Act.put,pA,pB,pC])
              refine hdT 12 ?_;refine hdC 13 (fun K hK=>?_)
              (go_simp;go_wp2_with fail)
              replace hF:=hF.far (p:=⟨g7,0,none⟩) (by dsimp only;omega) (.slice gg vk cp);replace hG:=hG.far (p:=⟨g7,0,none⟩) (by dsimp only;omega) (.slice gg vk cp);replace hR:=hR.far (p:=⟨g7,0,none⟩) (by dsimp only;omega) (.slice gg vk cp);replace hb:=hb.setCell (p:=⟨g7,0,none⟩) (by dsimp only;omega) (.slice gg vk cp);replace hr1:=rgK hr10 (hb.block b1 hbl1);replace hr2:=rgK hr20 (hb.block b2 hbl2);refine hK.out _ _ ?_ (fun _=>?_)
              · ((try dsimp only);(exact cellsA11 hF hG hr1 hr2))
              clear hK K
              (try simp only [Act.put,pA,pB,pC])
              refine wpAnyH_done (by kernel_rfl) ?_ _;go_wp2_with fail
              go_roundw
              case rel=>
               refine ⟨i,j+1,.slice gg vk cp,os++[⟨[q0,q1,q2,q3,q4,q5,q6,q7],x⟩],by omega,by omega,rfl_i (by go_num),rfl_i (by go_num),hb,hF,hG,hR,hT.set 0 _,OwnForm.set (p:=⟨g7,0,none⟩) (OwnForm.of H2.out (by simp) (by rw [rcells_append];rfl) ⟨fun e=>absurd (H4.out.1 e).2 (by omega),fun e=>by omega⟩) (by dsimp only;omega) _,Lib.hid (own1_put (addT_stepR hinv.out hy.out (fun t ht=>by rw [hx.out] at ht;cases ht;exact hbg)) HX.out hz)⟩
              case measure=>simp [intOf] <;> omega
        | false =>
          go_upto_region 12 with fail
          replace hF:Own wB.drew w.heap.size 47 #[.slice (some ⟨b1,o1,none⟩) n1 c1]:=hF;replace hG:Own wB.drew g1 47 #[.slice (some ⟨b2,o2,none⟩) n2 c2]:=hG;replace hR:Own wB.drew g6 47 #[.slice none 0 0]:=hR;replace hT:Own wB.drew g7 47 #[.slice va vn vc]:=hT;replace hO:OwnForm wB.drew (g7+1) (.slice va vn vc) os:=hO;replace hb:Below w.heap.size w wB.drew:=hb.drew;have hr1:=rgK hr10 (hb.block b1 hbl1);have hr2:=rgK hr20 (hb.block b2 hbl2);refine wp_region_held_drew (S:=(fun w'=>w'.cell? ⟨w.heap.size,0,none⟩=some (.slice (some ⟨b1,o1,none⟩) n1 c1)∧w'.cell? ⟨g1,0,none⟩=some (.slice (some ⟨b2,o2,none⟩) n2 c2)∧w'.cell? ⟨b1,o1+i * 9,none⟩=some (.int .u8 p0)∧w'.cell? ⟨b1,o1+i * 9+1,none⟩=some (.int .u8 p1)∧w'.cell? ⟨b1,o1+i * 9+2,none⟩=some (.int .u8 p2)∧w'.cell? ⟨b1,o1+i * 9+3,none⟩=some (.int .u8 p3)∧w'.cell? ⟨b1,o1+i * 9+4,none⟩=some (.int .u8 p4)∧w'.cell? ⟨b1,o1+i * 9+5,none⟩=some (.int .u8 p5)∧w'.cell? ⟨b1,o1+i * 9+6,none⟩=some (.int .u8 p6)∧w'.cell? ⟨b1,o1+i * 9+7,none⟩=some (.int .u8 p7)∧w'.cell? ⟨b1,o1+i * 9+8,none⟩=some (.int .i64 tf)∧w'.cell? ⟨b2,o2+j * 9,none⟩=some (.int .u8 q0)∧w'.cell? ⟨b2,o2+j * 9+1,none⟩=some (.int .u8 q1)∧w'.cell? ⟨b2,o2+j * 9+2,none⟩=some (.int .u8 q2)∧w'.cell? ⟨b2,o2+j * 9+3,none⟩=some (.int .u8 q3)∧w'.cell? ⟨b2,o2+j * 9+4,none⟩=some (.int .u8 q4)∧w'.cell? ⟨b2,o2+j * 9+5,none⟩=some (.int .u8 q5)∧w'.cell? ⟨b2,o2+j * 9+6,none⟩=some (.int .u8 q6)∧w'.cell? ⟨b2,o2+j * 9+7,none⟩=some (.int .u8 q7)∧w'.cell? ⟨b2,o2+j * 9+8,none⟩=some (.int .i64 uf))) (by kernel_rfl) ?_ (fun hHeld=>?_)
          · ((try dsimp only);(exact cellsA11 hF hG hr1 hr2))
          first | refine hdT 0 ?_ | refine hdU 0 ?_
          first | refine hdT 1 ?_ | refine hdU 1 ?_
          first | refine hdT 2 ?_ | refine hdU 2 ?_
          first | refine hdT 3 ?_ | refine hdU 3 ?_
          first | refine hdT 4 ?_ | refine hdU 4 ?_
          first | refine hdT 5 ?_ | refine hdU 5 ?_
          first | refine hdT 6 ?_ | refine hdU 6 ?_
          first | refine hdT 7 ?_ | refine hdU 7 ?_
          first | refine hdT 8 ?_ | refine hdU 8 ?_
          first | refine hdT 9 ?_ | refine hdU 9 ?_
          first | refine hdT 10 ?_ | refine hdU 10 ?_
          first | refine hdT 11 ?_ | refine hdU 11 ?_
          first | refine hdT 12 ?_ | refine hdU 12 ?_
          first | refine hdT 13 ?_ | refine hdU 13 ?_
          first | refine hdT 14 ?_ | refine hdU 14 ?_
          first | refine hdT 15 ?_ | refine hdU 15 ?_
          first | refine hdT 16 ?_ | refine hdU 16 ?_
          first | refine hdT 17 ?_ | refine hdU 17 ?_
          refine hdC 18 (fun K hK=>?_)
          (go_simp;(go_at_call 127;(refine (l01Before8 hm2 hm1 hbg).mono ?_);rintro e wC ⟨rfl,hbB⟩;replace hb:=bT' hb hbB hb.size;replace hF:=hF.keep hbB hF.lt;replace hG:=hG.keep hbB hG.lt;replace hR:=hR.keep hbB hR.lt;replace hT:=hT.keep hbB hT.lt;replace hO:=hO.keep hbB;replace hr1:=rgK hr10 (hb.block b1 hbl1);replace hr2:=rgK hr20 (hb.block b2 hbl2);clear hbB);go_wp2_with fail)
          refine hK.out _ _ ?_ (fun _=>?_)
          · ((try dsimp only);(exact cellsA11 hF hG hr1 hr2))
          clear hK K
          (try simp only [Act.put,pA,pB,pC])
          first | refine hdT 19 ?_ | refine hdU 19 ?_
          first | refine hdT 20 ?_ | refine hdU 20 ?_
          refine wpAnyH_done (by kernel_rfl) ?_ _;clear hr1 hr2;obtain ⟨y,hy0⟩:∃y,num (k * uf)=y:=⟨_,rfl⟩;have HY:=Lib.hid hy0;have hyb:0≤y∧y<10007:=(by rw [←hy0];exact ⟨num_lo _,num_hi _⟩);obtain ⟨x,hx0⟩:∃x,num (tf+y)=x:=⟨_,rfl⟩;have HX:=Lib.hid hx0;have hku:0≤k * uf∧k * uf≤100120036:=mul_b hk0 (by omega) huf.1 (by omega);have s1:IntKind.i64.wrap (k * uf)=k * uf:=IntWalk.i64_in _ (by omega);have s2:IntKind.i64.wrap (tf+y)=tf+y:=IntWalk.i64_in _ (by omega);clear hx0 hy0;go_upto_region 4 with fail
          replace hF:Own wC.drew w.heap.size 47 #[.slice (some ⟨b1,o1,none⟩) n1 c1]:=hF;replace hG:Own wC.drew g1 47 #[.slice (some ⟨b2,o2,none⟩) n2 c2]:=hG;replace hR:Own wC.drew g6 47 #[.slice none 0 0]:=hR;replace hT:Own wC.drew g7 47 #[.slice va vn vc]:=hT;replace hO:OwnForm wC.drew (g7+1) (.slice va vn vc) os:=hO;replace hb:Below w.heap.size w wC.drew:=hb.drew;have hr1:=rgK hr10 (hb.block b1 hbl1);have hr2:=rgK hr20 (hb.block b2 hbl2);refine wp_region_held_drew (S:=(fun w'=>w'.cell? ⟨w.heap.size,0,none⟩=some (.slice (some ⟨b1,o1,none⟩) n1 c1)∧w'.cell? ⟨g1,0,none⟩=some (.slice (some ⟨b2,o2,none⟩) n2 c2)∧w'.cell? ⟨b1,o1+i * 9,none⟩=some (.int .u8 p0)∧w'.cell? ⟨b1,o1+i * 9+1,none⟩=some (.int .u8 p1)∧w'.cell? ⟨b1,o1+i * 9+2,none⟩=some (.int .u8 p2)∧w'.cell? ⟨b1,o1+i * 9+3,none⟩=some (.int .u8 p3)∧w'.cell? ⟨b1,o1+i * 9+4,none⟩=some (.int .u8 p4)∧w'.cell? ⟨b1,o1+i * 9+5,none⟩=some (.int .u8 p5)∧w'.cell? ⟨b1,o1+i * 9+6,none⟩=some (.int .u8 p6)∧w'.cell? ⟨b1,o1+i * 9+7,none⟩=some (.int .u8 p7)∧w'.cell? ⟨b1,o1+i * 9+8,none⟩=some (.int .i64 tf)∧w'.cell? ⟨b2,o2+j * 9,none⟩=some (.int .u8 q0)∧w'.cell? ⟨b2,o2+j * 9+1,none⟩=some (.int .u8 q1)∧w'.cell? ⟨b2,o2+j * 9+2,none⟩=some (.int .u8 q2)∧w'.cell? ⟨b2,o2+j * 9+3,none⟩=some (.int .u8 q3)∧w'.cell? ⟨b2,o2+j * 9+4,none⟩=some (.int .u8 q4)∧w'.cell? ⟨b2,o2+j * 9+5,none⟩=some (.int .u8 q5)∧w'.cell? ⟨b2,o2+j * 9+6,none⟩=some (.int .u8 q6)∧w'.cell? ⟨b2,o2+j * 9+7,none⟩=some (.int .u8 q7)∧w'.cell? ⟨b2,o2+j * 9+8,none⟩=some (.int .i64 uf))) (by kernel_rfl) ?_ (fun hHeld=>?_)
          · ((try dsimp only);(exact cellsA11 hF hG hr1 hr2))
          first | refine hdT 0 ?_ | refine hdU 0 ?_
          first | refine hdT 1 ?_ | refine hdU 1 ?_
          first | refine hdT 2 ?_ | refine hdU 2 ?_
          first | refine hdT 3 ?_ | refine hdU 3 ?_
          first | refine hdT 4 ?_ | refine hdU 4 ?_
          first | refine hdT 5 ?_ | refine hdU 5 ?_
          first | refine hdT 6 ?_ | refine hdU 6 ?_
          first | refine hdT 7 ?_ | refine hdU 7 ?_
          first | refine hdT 8 ?_ | refine hdU 8 ?_
          first | refine hdT 9 ?_ | refine hdU 9 ?_
          first | refine hdT 10 ?_ | refine hdU 10 ?_
          first | refine hdT 11 ?_ | refine hdU 11 ?_
          first | refine hdT 12 ?_ | refine hdU 12 ?_
          first | refine hdT 13 ?_ | refine hdU 13 ?_
          refine hdC 14 (fun K hK=>?_)
          (go_simp;(go_at_call 110;refine (l01Mod_c _ _ (by omega) (by omega)).mono ?_;rintro e wM ⟨rfl,rfl⟩;rw [HY.out]);go_wp2_with fail)
          refine hK.out _ _ ?_ (fun _=>?_)
          · ((try dsimp only);(exact cellsA11 hF hG hr1 hr2))
          clear hK K
          (try simp only [Act.put,pA,pB,pC])
          first | refine hdT 15 ?_ | refine hdU 15 ?_
          refine hdC 16 (fun K hK=>?_)
          (go_simp;(go_at_call 110;refine (l01Mod_c _ _ (by omega) (by omega)).mono ?_;rintro e wM ⟨rfl,rfl⟩;rw [HX.out]);go_wp2_with fail)
          refine hK.out _ _ ?_ (fun _=>?_)
          · ((try dsimp only);(exact cellsA11 hF hG hr1 hr2))
          clear hK K
          (try simp only [Act.put,pA,pB,pC])
          first | refine hdT 17 ?_ | refine hdU 17 ?_
          refine wpAnyH_done (by kernel_rfl) ?_ _;clear hku s1 s2 hr1 hr2;generalize wC.drew=wD at *;by_cases hz:x=0
          · subst hz;go_wp2_with fail
            go_roundw
            case rel=>exact ⟨i+1,j+1,.slice va vn vc,os,by omega,by omega,rfl_i (by go_num),rfl_i (by go_num),hb,hF,hG,hR,hT,hO,Lib.hid (own1_skip (addT_stepB hinv.out hx.out hy.out hbf hbg) (by rw [HY.out];exact HX.out))⟩
            case measure=>simp [intOf] <;> omega
          · have hzb:(x==0)=false:=(by simpa using hz);go_upto_region 6 with fail
            replace hF:Own wD.drew w.heap.size 47 #[.slice (some ⟨b1,o1,none⟩) n1 c1]:=hF;replace hG:Own wD.drew g1 47 #[.slice (some ⟨b2,o2,none⟩) n2 c2]:=hG;replace hR:Own wD.drew g6 47 #[.slice none 0 0]:=hR;replace hT:Own wD.drew g7 47 #[.slice va vn vc]:=hT;replace hO:OwnForm wD.drew (g7+1) (.slice va vn vc) os:=hO;replace hb:Below w.heap.size w wD.drew:=hb.drew;have hr1:=rgK hr10 (hb.block b1 hbl1);have hr2:=rgK hr20 (hb.block b2 hbl2);have cT:=hT.cell 0
            have hnews:∀z u,([Value.int .u8 p0,.int .u8 p1,.int .u8 p2,.int .u8 p3,.int .u8 p4,.int .u8 p5,.int .u8 p6,.int .u8 p7,.int .i64 x]:List Value)[z]? = some u→(wD.drew.alloc (.cells #[.int .u8 p0,.int .u8 p1,.int .u8 p2,.int .u8 p3,.int .u8 p4,.int .u8 p5,.int .u8 p6,.int .u8 p7,.int .i64 x] 76)).cell? ((⟨wD.heap.size,0,none⟩:Addr).add z)=some u:=fun z u hu=>by
             rw [Addr.add_mid];exact (Own.new wD.drew 76 #[.int .u8 p0,.int .u8 p1,.int .u8 p2,.int .u8 p3,.int .u8 p4,.int .u8 p5,.int .u8 p6,.int .u8 p7,.int .i64 x]).range z u hu
            have hone:∀u∈([Value.int .u8 p0,.int .u8 p1,.int .u8 p2,.int .u8 p3,.int .u8 p4,.int .u8 p5,.int .u8 p6,.int .u8 p7,.int .i64 x]:List Value),u.oneCell'=true:=(by simp [Value.oneCell']);have HN:=Lib.hid hnews;have HO:=Lib.hid hone;clear hnews hone;refine wp_region_held_drew (S:=(fun w'=>w'.cell? ⟨w.heap.size,0,none⟩=some (.slice (some ⟨b1,o1,none⟩) n1 c1)∧w'.cell? ⟨g1,0,none⟩=some (.slice (some ⟨b2,o2,none⟩) n2 c2)∧w'.cell? ⟨b1,o1+i * 9,none⟩=some (.int .u8 p0)∧w'.cell? ⟨b1,o1+i * 9+1,none⟩=some (.int .u8 p1)∧w'.cell? ⟨b1,o1+i * 9+2,none⟩=some (.int .u8 p2)∧w'.cell? ⟨b1,o1+i * 9+3,none⟩=some (.int .u8 p3)∧w'.cell? ⟨b1,o1+i * 9+4,none⟩=some (.int .u8 p4)∧w'.cell? ⟨b1,o1+i * 9+5,none⟩=some (.int .u8 p5)∧w'.cell? ⟨b1,o1+i * 9+6,none⟩=some (.int .u8 p6)∧w'.cell? ⟨b1,o1+i * 9+7,none⟩=some (.int .u8 p7)∧w'.cell? ⟨b1,o1+i * 9+8,none⟩=some (.int .i64 tf)∧w'.cell? ⟨b2,o2+j * 9,none⟩=some (.int .u8 q0)∧w'.cell? ⟨b2,o2+j * 9+1,none⟩=some (.int .u8 q1)∧w'.cell? ⟨b2,o2+j * 9+2,none⟩=some (.int .u8 q2)∧w'.cell? ⟨b2,o2+j * 9+3,none⟩=some (.int .u8 q3)∧w'.cell? ⟨b2,o2+j * 9+4,none⟩=some (.int .u8 q4)∧w'.cell? ⟨b2,o2+j * 9+5,none⟩=some (.int .u8 q5)∧w'.cell? ⟨b2,o2+j * 9+6,none⟩=some (.int .u8 q6)∧w'.cell? ⟨b2,o2+j * 9+7,none⟩=some (.int .u8 q7)∧w'.cell? ⟨b2,o2+j * 9+8,none⟩=some (.int .i64 uf))) (by kernel_rfl) ?_ (fun hHeld=>?_)
            · ((try dsimp only);(exact cellsA11 hF hG hr1 hr2))
            refine hdT 0 ?_;refine hdT 2 ?_;refine hdT 3 ?_;refine hdT 4 ?_;refine hdT 5 ?_;refine hdT 6 ?_;refine hdT 7 ?_;refine hdT 8 ?_;refine hdT 9 ?_;refine wpAnyH_ready (rs:=[1,10]) (by kernel_rfl) (by simp) ?_;refine AllReadyH.cons (hdAt (i:=1) rfl) (fun K hK=>?_) (AllReadyH.cons (hdAt (i:=10) rfl) (fun K hK=>?_) AllReadyH.nil)
            · (go_simp;try go_wp2_with fail)
              refine hK.out _ _ ?_ (fun _=>?_)
              · ((try dsimp only);(exact cellsA11 hF hG hr1 hr2))
              clear hK K
              (try simp only [Act.put,pA,pB,pC])
              refine hdC 10 (fun K hK=>?_)
              (go_simp;try go_wp2_with fail)
              replace hF:=hF.alloc (.cells #[.int .u8 p0,.int .u8 p1,.int .u8 p2,.int .u8 p3,.int .u8 p4,.int .u8 p5,.int .u8 p6,.int .u8 p7,.int .i64 x] 76);replace hG:=hG.alloc (.cells #[.int .u8 p0,.int .u8 p1,.int .u8 p2,.int .u8 p3,.int .u8 p4,.int .u8 p5,.int .u8 p6,.int .u8 p7,.int .i64 x] 76);replace hR:=hR.alloc (.cells #[.int .u8 p0,.int .u8 p1,.int .u8 p2,.int .u8 p3,.int .u8 p4,.int .u8 p5,.int .u8 p6,.int .u8 p7,.int .i64 x] 76);replace hT:=hT.alloc (.cells #[.int .u8 p0,.int .u8 p1,.int .u8 p2,.int .u8 p3,.int .u8 p4,.int .u8 p5,.int .u8 p6,.int .u8 p7,.int .i64 x] 76);have hOa:=(hO.keep (bA1 _ (.cells #[.int .u8 p0,.int .u8 p1,.int .u8 p2,.int .u8 p3,.int .u8 p4,.int .u8 p5,.int .u8 p6,.int .u8 p7,.int .i64 x] 76))).1;replace hb:=bT' hb (bA1 _ (.cells #[.int .u8 p0,.int .u8 p1,.int .u8 p2,.int .u8 p3,.int .u8 p4,.int .u8 p5,.int .u8 p6,.int .u8 p7,.int .i64 x] 76)) hb.size;replace hr1:=rgK hr10 (hb.block b1 hbl1);replace hr2:=rgK hr20 (hb.block b2 hbl2);refine hK.out _ _ ?_ (fun _=>?_)
              · ((try dsimp only);(exact cellsA11 hF hG hr1 hr2))
              clear hK K
              (try simp only [Act.put,pA,pB,pC])
              refine hdC 11 (fun K hK=>?_);rw [if_pos (by rfl)];refine wp_append_own_wide _ (.tmp 45) (.tmp 54) 45 rfl (g7+1) 76 ti tz 9 16 Try.underlying45 HI.out HZ.out HS.out HBt.out HZs.out (by omega) (.slice va vn vc) _ _ rfl hOa ⟨wD.heap.size,0,none⟩ 1 1 [Value.int .u8 p0,.int .u8 p1,.int .u8 p2,.int .u8 p3,.int .u8 p4,.int .u8 p5,.int .u8 p6,.int .u8 p7,.int .i64 x] rfl rfl HN.out HO.out (by have:=HP.out;simp only [maxLen];omega) (by have:=HP.out;omega) (Nat.succ_le_of_lt hT.lt) (fun v' w' h2 h3 h4=>?_)
              obtain ⟨gg,vk,cp,rfl⟩:∃gg vk cp,v'=.slice gg vk cp:=by
               rcases h2.2 with ⟨h0,_⟩ | ⟨g,cap,cur,hv,_⟩
               · exact ⟨_,_,_,h0⟩
               · exact ⟨_,_,_,hv⟩
              replace hF:=hF.grown h3 (fun e=>by have:=(hOa.lt _ e.symm).1;omega);replace hG:=hG.grown h3 (fun e=>by have:=(hOa.lt _ e.symm).1;omega);replace hR:=hR.grown h3 (fun e=>by have:=(hOa.lt _ e.symm).1;omega);replace hT:=hT.grown h3 (fun e=>by have:=(hOa.lt _ e.symm).1;omega);replace hb:=grown_below hb h3 (fun q e=>by have:=(hOa.lt q e).1;omega) hb.size;replace hr1:=rgK hr10 (hb.block b1 hbl1);replace hr2:=rgK hr20 (hb.block b2 hbl2);have c7:=hT.cell 0;have f7:=hT.frozen 0;have H2:=Lib.hid h2;have H4:=Lib.hid h4;clear h2 h3 h4 hOa;refine hK.out _ _ ?_ (fun _=>?_)
              · ((try dsimp only);(exact cellsA11 hF hG hr1 hr2))
              clear hK K
              (try simp only [Act.put,pA,pB,pC])
              refine hdT 12 ?_;refine hdC 13 (fun K hK=>?_)
              (go_simp;go_wp2_with fail)
              replace hF:=hF.far (p:=⟨g7,0,none⟩) (by dsimp only;omega) (.slice gg vk cp);replace hG:=hG.far (p:=⟨g7,0,none⟩) (by dsimp only;omega) (.slice gg vk cp);replace hR:=hR.far (p:=⟨g7,0,none⟩) (by dsimp only;omega) (.slice gg vk cp);replace hb:=hb.setCell (p:=⟨g7,0,none⟩) (by dsimp only;omega) (.slice gg vk cp);replace hr1:=rgK hr10 (hb.block b1 hbl1);replace hr2:=rgK hr20 (hb.block b2 hbl2);refine hK.out _ _ ?_ (fun _=>?_)
              · ((try dsimp only);(exact cellsA11 hF hG hr1 hr2))
              clear hK K
              (try simp only [Act.put,pA,pB,pC])
              refine wpAnyH_done (by kernel_rfl) ?_ _;go_wp2_with fail
              go_roundw
              case rel=>
               refine ⟨i+1,j+1,.slice gg vk cp,os++[⟨[p0,p1,p2,p3,p4,p5,p6,p7],x⟩],by omega,by omega,rfl_i (by go_num),rfl_i (by go_num),hb,hF,hG,hR,hT.set 0 _,OwnForm.set (p:=⟨g7,0,none⟩) (OwnForm.of H2.out (by simp) (by rw [rcells_append];rfl) ⟨fun e=>absurd (H4.out.1 e).2 (by omega),fun e=>by omega⟩) (by dsimp only;omega) _,Lib.hid (own1_put (addT_stepB hinv.out hx.out hy.out hbf hbg) (by rw [HY.out];exact HX.out) hz)⟩
              case measure=>simp [intOf] <;> omega
            · (go_simp;try go_wp2_with fail)
              replace hF:=hF.alloc (.cells #[.int .u8 p0,.int .u8 p1,.int .u8 p2,.int .u8 p3,.int .u8 p4,.int .u8 p5,.int .u8 p6,.int .u8 p7,.int .i64 x] 76);replace hG:=hG.alloc (.cells #[.int .u8 p0,.int .u8 p1,.int .u8 p2,.int .u8 p3,.int .u8 p4,.int .u8 p5,.int .u8 p6,.int .u8 p7,.int .i64 x] 76);replace hR:=hR.alloc (.cells #[.int .u8 p0,.int .u8 p1,.int .u8 p2,.int .u8 p3,.int .u8 p4,.int .u8 p5,.int .u8 p6,.int .u8 p7,.int .i64 x] 76);replace hT:=hT.alloc (.cells #[.int .u8 p0,.int .u8 p1,.int .u8 p2,.int .u8 p3,.int .u8 p4,.int .u8 p5,.int .u8 p6,.int .u8 p7,.int .i64 x] 76);have hOa:=(hO.keep (bA1 _ (.cells #[.int .u8 p0,.int .u8 p1,.int .u8 p2,.int .u8 p3,.int .u8 p4,.int .u8 p5,.int .u8 p6,.int .u8 p7,.int .i64 x] 76))).1;replace hb:=bT' hb (bA1 _ (.cells #[.int .u8 p0,.int .u8 p1,.int .u8 p2,.int .u8 p3,.int .u8 p4,.int .u8 p5,.int .u8 p6,.int .u8 p7,.int .i64 x] 76)) hb.size;replace hr1:=rgK hr10 (hb.block b1 hbl1);replace hr2:=rgK hr20 (hb.block b2 hbl2);refine hK.out _ _ ?_ (fun _=>?_)
              · ((try dsimp only);(exact cellsA11 hF hG hr1 hr2))
              clear hK K
              (try simp only [Act.put,pA,pB,pC])
              have cGa:(wD.alloc (.cells #[.int .u8 p0,.int .u8 p1,.int .u8 p2,.int .u8 p3,.int .u8 p4,.int .u8 p5,.int .u8 p6,.int .u8 p7,.int .i64 x] 76)).drew.cell? ⟨g7,0,none⟩=some (.slice va vn vc):=hT.cell 0;refine hdC 1 (fun K hK=>?_)
              (go_simp;try go_wp2_with fail)
              refine hK.out _ _ ?_ (fun _=>?_)
              · ((try dsimp only);(exact cellsA11 hF hG hr1 hr2))
              clear hK K
              (try simp only [Act.put,pA,pB,pC])
              refine hdC 11 (fun K hK=>?_);rw [if_pos (by rfl)];refine wp_append_own_wide _ (.tmp 45) (.tmp 54) 45 rfl (g7+1) 76 ti tz 9 16 Try.underlying45 HI.out HZ.out HS.out HBt.out HZs.out (by omega) (.slice va vn vc) _ _ rfl hOa ⟨wD.heap.size,0,none⟩ 1 1 [Value.int .u8 p0,.int .u8 p1,.int .u8 p2,.int .u8 p3,.int .u8 p4,.int .u8 p5,.int .u8 p6,.int .u8 p7,.int .i64 x] rfl rfl HN.out HO.out (by have:=HP.out;simp only [maxLen];omega) (by have:=HP.out;omega) (Nat.succ_le_of_lt hT.lt) (fun v' w' h2 h3 h4=>?_)
              obtain ⟨gg,vk,cp,rfl⟩:∃gg vk cp,v'=.slice gg vk cp:=by
               rcases h2.2 with ⟨h0,_⟩ | ⟨g,cap,cur,hv,_⟩
               · exact ⟨_,_,_,h0⟩
               · exact ⟨_,_,_,hv⟩
              replace hF:=hF.grown h3 (fun e=>by have:=(hOa.lt _ e.symm).1;omega);replace hG:=hG.grown h3 (fun e=>by have:=(hOa.lt _ e.symm).1;omega);replace hR:=hR.grown h3 (fun e=>by have:=(hOa.lt _ e.symm).1;omega);replace hT:=hT.grown h3 (fun e=>by have:=(hOa.lt _ e.symm).1;omega);replace hb:=grown_below hb h3 (fun q e=>by have:=(hOa.lt q e).1;omega) hb.size;replace hr1:=rgK hr10 (hb.block b1 hbl1);replace hr2:=rgK hr20 (hb.block b2 hbl2);have c7:=hT.cell 0;have f7:=hT.frozen 0;have H2:=Lib.hid h2;have H4:=Lib.hid h4;clear h2 h3 h4 hOa;refine hK.out _ _ ?_ (fun _=>?_)
              · ((try dsimp only);(exact cellsA11 hF hG hr1 hr2))
              clear hK K
              (try simp only [Act.put,pA,pB,pC])
              refine hdT 12 ?_;refine hdC 13 (fun K hK=>?_)
              (go_simp;go_wp2_with fail)
              replace hF:=hF.far (p:=⟨g7,0,none⟩) (by dsimp only;omega) (.slice gg vk cp);replace hG:=hG.far (p:=⟨g7,0,none⟩) (by dsimp only;omega) (.slice gg vk cp);replace hR:=hR.far (p:=⟨g7,0,none⟩) (by dsimp only;omega) (.slice gg vk cp);replace hb:=hb.setCell (p:=⟨g7,0,none⟩) (by dsimp only;omega) (.slice gg vk cp);replace hr1:=rgK hr10 (hb.block b1 hbl1);replace hr2:=rgK hr20 (hb.block b2 hbl2);refine hK.out _ _ ?_ (fun _=>?_)
              · ((try dsimp only);(exact cellsA11 hF hG hr1 hr2))
              clear hK K
              (try simp only [Act.put,pA,pB,pC])
              refine wpAnyH_done (by kernel_rfl) ?_ _;go_wp2_with fail
              go_roundw
              case rel=>
               refine ⟨i+1,j+1,.slice gg vk cp,os++[⟨[p0,p1,p2,p3,p4,p5,p6,p7],x⟩],by omega,by omega,rfl_i (by go_num),rfl_i (by go_num),hb,hF,hG,hR,hT.set 0 _,OwnForm.set (p:=⟨g7,0,none⟩) (OwnForm.of H2.out (by simp) (by rw [rcells_append];rfl) ⟨fun e=>absurd (H4.out.1 e).2 (by omega),fun e=>by omega⟩) (by dsimp only;omega) _,Lib.hid (own1_put (addT_stepB hinv.out hx.out hy.out hbf hbg) (by rw [HY.out];exact HX.out) hz)⟩
              case measure=>simp [intOf] <;> omega
    · have hje2:n2=j:=(by omega);subst hje2;have hin:(i:Int)<(n1:Int):=(by omega);have hie:((i:Int)==(n1:Int))=false:=(by simp;omega);obtain ⟨b1,o1,t,rfl,hbl1,hr10,ht,hx⟩:=h1.at_ hi1;obtain ⟨mt,tf⟩:=t;have hm1:IsMono mt:=ht.1;have htf:0≤tf∧tf≤10006:=HFs.out ⟨mt,tf⟩ (List.mem_of_getElem? hx.out);obtain ⟨p0,p1,p2,p3,p4,p5,p6,p7,rfl⟩:=mono8 hm1;go_upto_region 9 with fail
      replace hF:Own wr.drew w.heap.size 47 #[.slice (some ⟨b1,o1,none⟩) n1 c1]:=hF;replace hG:Own wr.drew g1 47 #[.slice (a2) n2 c2]:=hG;replace hR:Own wr.drew g6 47 #[.slice none 0 0]:=hR;replace hT:Own wr.drew g7 47 #[.slice va vn vc]:=hT;replace hO:OwnForm wr.drew (g7+1) (.slice va vn vc) os:=hO;replace hb:Below w.heap.size w wr.drew:=hb.drew;have hr1:=rgK hr10 (hb.block b1 hbl1);refine wp_region_held_drew (S:=(fun w'=>w'.cell? ⟨w.heap.size,0,none⟩=some (.slice (some ⟨b1,o1,none⟩) n1 c1)∧w'.cell? ⟨g1,0,none⟩=some (.slice (a2) n2 c2)∧w'.cell? ⟨b1,o1+i * 9,none⟩=some (.int .u8 p0)∧w'.cell? ⟨b1,o1+i * 9+1,none⟩=some (.int .u8 p1)∧w'.cell? ⟨b1,o1+i * 9+2,none⟩=some (.int .u8 p2)∧w'.cell? ⟨b1,o1+i * 9+3,none⟩=some (.int .u8 p3)∧w'.cell? ⟨b1,o1+i * 9+4,none⟩=some (.int .u8 p4)∧w'.cell? ⟨b1,o1+i * 9+5,none⟩=some (.int .u8 p5)∧w'.cell? ⟨b1,o1+i * 9+6,none⟩=some (.int .u8 p6)∧w'.cell? ⟨b1,o1+i * 9+7,none⟩=some (.int .u8 p7)∧w'.cell? ⟨b1,o1+i * 9+8,none⟩=some (.int .i64 tf))) (by kernel_rfl) ?_ (fun hHeld=>?_)
      · ((try dsimp only);(exact cellsA10 hF hG hr1))
      first | refine hdT 0 ?_ | refine hdU 0 ?_
      first | refine hdT 1 ?_ | refine hdU 1 ?_
      first | refine hdT 2 ?_ | refine hdU 2 ?_
      first | refine hdT 3 ?_ | refine hdU 3 ?_
      first | refine hdT 4 ?_ | refine hdU 4 ?_
      first | refine hdT 5 ?_ | refine hdU 5 ?_
      first | refine hdT 6 ?_ | refine hdU 6 ?_
      first | refine hdT 7 ?_ | refine hdU 7 ?_
      first | refine hdT 8 ?_ | refine hdU 8 ?_
      first | refine hdT 9 ?_ | refine hdU 9 ?_
      first | refine hdT 10 ?_ | refine hdU 10 ?_
      first | refine hdT 11 ?_ | refine hdU 11 ?_
      first | refine hdT 12 ?_ | refine hdU 12 ?_
      first | refine hdT 13 ?_ | refine hdU 13 ?_
      first | refine hdT 14 ?_ | refine hdU 14 ?_
      first | refine hdT 15 ?_ | refine hdU 15 ?_
      first | refine hdT 16 ?_ | refine hdU 16 ?_
      first | refine hdT 17 ?_ | refine hdU 17 ?_
      first | refine hdT 18 ?_ | refine hdU 18 ?_
      first | refine hdT 19 ?_ | refine hdU 19 ?_
      first | refine hdT 20 ?_ | refine hdU 20 ?_
      first | refine hdT 21 ?_ | refine hdU 21 ?_
      first | refine hdT 22 ?_ | refine hdU 22 ?_
      first | refine hdT 23 ?_ | refine hdU 23 ?_
      first | refine hdT 24 ?_ | refine hdU 24 ?_
      first | refine hdT 25 ?_ | refine hdU 25 ?_
      first | refine hdT 26 ?_ | refine hdU 26 ?_
      first | refine hdT 27 ?_ | refine hdU 27 ?_
      refine wpAnyH_done (by kernel_rfl) ?_ _;clear hr1;generalize wr.drew=w9 at *;go_upto_region 10 with fail
      replace hF:Own w9.drew w.heap.size 47 #[.slice (some ⟨b1,o1,none⟩) n1 c1]:=hF;replace hG:Own w9.drew g1 47 #[.slice (a2) n2 c2]:=hG;replace hR:Own w9.drew g6 47 #[.slice none 0 0]:=hR;replace hT:Own w9.drew g7 47 #[.slice va vn vc]:=hT;replace hO:OwnForm w9.drew (g7+1) (.slice va vn vc) os:=hO;replace hb:Below w.heap.size w w9.drew:=hb.drew;have hr1:=rgK hr10 (hb.block b1 hbl1);have cT:=hT.cell 0
      have hnews:∀z u,([Value.int .u8 p0,.int .u8 p1,.int .u8 p2,.int .u8 p3,.int .u8 p4,.int .u8 p5,.int .u8 p6,.int .u8 p7,.int .i64 tf]:List Value)[z]? = some u→(w9.drew.alloc (.cells #[.int .u8 p0,.int .u8 p1,.int .u8 p2,.int .u8 p3,.int .u8 p4,.int .u8 p5,.int .u8 p6,.int .u8 p7,.int .i64 tf] 76)).cell? ((⟨w9.heap.size,0,none⟩:Addr).add z)=some u:=fun z u hu=>by
       rw [Addr.add_mid];exact (Own.new w9.drew 76 #[.int .u8 p0,.int .u8 p1,.int .u8 p2,.int .u8 p3,.int .u8 p4,.int .u8 p5,.int .u8 p6,.int .u8 p7,.int .i64 tf]).range z u hu
      have hone:∀u∈([Value.int .u8 p0,.int .u8 p1,.int .u8 p2,.int .u8 p3,.int .u8 p4,.int .u8 p5,.int .u8 p6,.int .u8 p7,.int .i64 tf]:List Value),u.oneCell'=true:=(by simp [Value.oneCell']);have HN:=Lib.hid hnews;have HO:=Lib.hid hone;clear hnews hone;refine wp_region_held_drew (S:=(fun w'=>w'.cell? ⟨w.heap.size,0,none⟩=some (.slice (some ⟨b1,o1,none⟩) n1 c1)∧w'.cell? ⟨g1,0,none⟩=some (.slice (a2) n2 c2)∧w'.cell? ⟨b1,o1+i * 9,none⟩=some (.int .u8 p0)∧w'.cell? ⟨b1,o1+i * 9+1,none⟩=some (.int .u8 p1)∧w'.cell? ⟨b1,o1+i * 9+2,none⟩=some (.int .u8 p2)∧w'.cell? ⟨b1,o1+i * 9+3,none⟩=some (.int .u8 p3)∧w'.cell? ⟨b1,o1+i * 9+4,none⟩=some (.int .u8 p4)∧w'.cell? ⟨b1,o1+i * 9+5,none⟩=some (.int .u8 p5)∧w'.cell? ⟨b1,o1+i * 9+6,none⟩=some (.int .u8 p6)∧w'.cell? ⟨b1,o1+i * 9+7,none⟩=some (.int .u8 p7)∧w'.cell? ⟨b1,o1+i * 9+8,none⟩=some (.int .i64 tf))) (by kernel_rfl) ?_ (fun hHeld=>?_)
      · ((try dsimp only);(exact cellsA10 hF hG hr1))
      refine hdT 0 ?_;refine hdT 2 ?_;refine hdT 3 ?_;refine hdT 4 ?_;refine hdT 5 ?_;refine hdT 6 ?_;refine wpAnyH_ready (rs:=[1,7]) (by kernel_rfl) (by simp) ?_;refine AllReadyH.cons (hdAt (i:=1) rfl) (fun K hK=>?_) (AllReadyH.cons (hdAt (i:=7) rfl) (fun K hK=>?_) AllReadyH.nil)
      · (go_simp;try go_wp2_with fail)
        refine hK.out _ _ ?_ (fun _=>?_)
        · ((try dsimp only);(exact cellsA10 hF hG hr1))
        clear hK K
        (try simp only [Act.put,pA,pB,pC])
        refine hdC 7 (fun K hK=>?_)
        (go_simp;try go_wp2_with fail)
        replace hF:=hF.alloc (.cells #[.int .u8 p0,.int .u8 p1,.int .u8 p2,.int .u8 p3,.int .u8 p4,.int .u8 p5,.int .u8 p6,.int .u8 p7,.int .i64 tf] 76);replace hG:=hG.alloc (.cells #[.int .u8 p0,.int .u8 p1,.int .u8 p2,.int .u8 p3,.int .u8 p4,.int .u8 p5,.int .u8 p6,.int .u8 p7,.int .i64 tf] 76);replace hR:=hR.alloc (.cells #[.int .u8 p0,.int .u8 p1,.int .u8 p2,.int .u8 p3,.int .u8 p4,.int .u8 p5,.int .u8 p6,.int .u8 p7,.int .i64 tf] 76);replace hT:=hT.alloc (.cells #[.int .u8 p0,.int .u8 p1,.int .u8 p2,.int .u8 p3,.int .u8 p4,.int .u8 p5,.int .u8 p6,.int .u8 p7,.int .i64 tf] 76);have hOa:=(hO.keep (bA1 _ (.cells #[.int .u8 p0,.int .u8 p1,.int .u8 p2,.int .u8 p3,.int .u8 p4,.int .u8 p5,.int .u8 p6,.int .u8 p7,.int .i64 tf] 76))).1;replace hb:=bT' hb (bA1 _ (.cells #[.int .u8 p0,.int .u8 p1,.int .u8 p2,.int .u8 p3,.int .u8 p4,.int .u8 p5,.int .u8 p6,.int .u8 p7,.int .i64 tf] 76)) hb.size;replace hr1:=rgK hr10 (hb.block b1 hbl1);refine hK.out _ _ ?_ (fun _=>?_)
        · ((try dsimp only);(exact cellsA10 hF hG hr1))
        clear hK K
        (try simp only [Act.put,pA,pB,pC])
        refine hdC 8 (fun K hK=>?_);rw [if_pos (by rfl)];refine wp_append_own_wide _ (.tmp 90) (.tmp 96) 45 rfl (g7+1) 76 ti tz 9 16 Try.underlying45 HI.out HZ.out HS.out HBt.out HZs.out (by omega) (.slice va vn vc) _ _ rfl hOa ⟨w9.heap.size,0,none⟩ 1 1 [Value.int .u8 p0,.int .u8 p1,.int .u8 p2,.int .u8 p3,.int .u8 p4,.int .u8 p5,.int .u8 p6,.int .u8 p7,.int .i64 tf] rfl rfl HN.out HO.out (by have:=HP.out;simp only [maxLen];omega) (by have:=HP.out;omega) (Nat.succ_le_of_lt hT.lt) (fun v' w' h2 h3 h4=>?_)
        obtain ⟨gg,vk,cp,rfl⟩:∃gg vk cp,v'=.slice gg vk cp:=by
         rcases h2.2 with ⟨h0,_⟩ | ⟨g,cap,cur,hv,_⟩
         · exact ⟨_,_,_,h0⟩
         · exact ⟨_,_,_,hv⟩
        replace hF:=hF.grown h3 (fun e=>by have:=(hOa.lt _ e.symm).1;omega);replace hG:=hG.grown h3 (fun e=>by have:=(hOa.lt _ e.symm).1;omega);replace hR:=hR.grown h3 (fun e=>by have:=(hOa.lt _ e.symm).1;omega);replace hT:=hT.grown h3 (fun e=>by have:=(hOa.lt _ e.symm).1;omega);replace hb:=grown_below hb h3 (fun q e=>by have:=(hOa.lt q e).1;omega) hb.size;replace hr1:=rgK hr10 (hb.block b1 hbl1);have c7:=hT.cell 0;have f7:=hT.frozen 0;have H2:=Lib.hid h2;have H4:=Lib.hid h4;clear h2 h3 h4 hOa;refine hK.out _ _ ?_ (fun _=>?_)
        · ((try dsimp only);(exact cellsA10 hF hG hr1))
        clear hK K
        (try simp only [Act.put,pA,pB,pC])
        refine hdT 9 ?_;refine hdC 10 (fun K hK=>?_)
        (go_simp;go_wp2_with fail)
        replace hF:=hF.far (p:=⟨g7,0,none⟩) (by dsimp only;omega) (.slice gg vk cp);replace hG:=hG.far (p:=⟨g7,0,none⟩) (by dsimp only;omega) (.slice gg vk cp);replace hR:=hR.far (p:=⟨g7,0,none⟩) (by dsimp only;omega) (.slice gg vk cp);replace hb:=hb.setCell (p:=⟨g7,0,none⟩) (by dsimp only;omega) (.slice gg vk cp);replace hr1:=rgK hr10 (hb.block b1 hbl1);refine hK.out _ _ ?_ (fun _=>?_)
        · ((try dsimp only);(exact cellsA10 hF hG hr1))
        clear hK K
        (try simp only [Act.put,pA,pB,pC])
        refine wpAnyH_done (by kernel_rfl) ?_ _;go_wp2_with fail
        go_roundw
        case rel=>
         refine ⟨i+1,n2,.slice gg vk cp,os++[⟨[p0,p1,p2,p3,p4,p5,p6,p7],tf⟩],by omega,by omega,rfl_i (by go_num),rfl_i (by go_num),hb,hF,hG,hR,hT.set 0 _,OwnForm.set (p:=⟨g7,0,none⟩) (OwnForm.of H2.out (by simp) (by rw [rcells_append];rfl) ⟨fun e=>absurd (H4.out.1 e).2 (by omega),fun e=>by omega⟩) (by dsimp only;omega) _,Lib.hid (addT_stepL hinv.out hx.out (fun u hu=>by rw [List.getElem?_eq_none (by rw [HL2.out];exact Nat.le_refl _)] at hu;cases hu))⟩
        case measure=>simp [intOf] <;> omega
      · (go_simp;try go_wp2_with fail)
        replace hF:=hF.alloc (.cells #[.int .u8 p0,.int .u8 p1,.int .u8 p2,.int .u8 p3,.int .u8 p4,.int .u8 p5,.int .u8 p6,.int .u8 p7,.int .i64 tf] 76);replace hG:=hG.alloc (.cells #[.int .u8 p0,.int .u8 p1,.int .u8 p2,.int .u8 p3,.int .u8 p4,.int .u8 p5,.int .u8 p6,.int .u8 p7,.int .i64 tf] 76);replace hR:=hR.alloc (.cells #[.int .u8 p0,.int .u8 p1,.int .u8 p2,.int .u8 p3,.int .u8 p4,.int .u8 p5,.int .u8 p6,.int .u8 p7,.int .i64 tf] 76);replace hT:=hT.alloc (.cells #[.int .u8 p0,.int .u8 p1,.int .u8 p2,.int .u8 p3,.int .u8 p4,.int .u8 p5,.int .u8 p6,.int .u8 p7,.int .i64 tf] 76);have hOa:=(hO.keep (bA1 _ (.cells #[.int .u8 p0,.int .u8 p1,.int .u8 p2,.int .u8 p3,.int .u8 p4,.int .u8 p5,.int .u8 p6,.int .u8 p7,.int .i64 tf] 76))).1;replace hb:=bT' hb (bA1 _ (.cells #[.int .u8 p0,.int .u8 p1,.int .u8 p2,.int .u8 p3,.int .u8 p4,.int .u8 p5,.int .u8 p6,.int .u8 p7,.int .i64 tf] 76)) hb.size;replace hr1:=rgK hr10 (hb.block b1 hbl1);refine hK.out _ _ ?_ (fun _=>?_)
        · ((try dsimp only);(exact cellsA10 hF hG hr1))
        clear hK K
        (try simp only [Act.put,pA,pB,pC])
        have cGa:(w9.alloc (.cells #[.int .u8 p0,.int .u8 p1,.int .u8 p2,.int .u8 p3,.int .u8 p4,.int .u8 p5,.int .u8 p6,.int .u8 p7,.int .i64 tf] 76)).drew.cell? ⟨g7,0,none⟩=some (.slice va vn vc):=hT.cell 0;refine hdC 1 (fun K hK=>?_)
        (go_simp;try go_wp2_with fail)
        refine hK.out _ _ ?_ (fun _=>?_)
        · ((try dsimp only);(exact cellsA10 hF hG hr1))
        clear hK K
        (try simp only [Act.put,pA,pB,pC])
        refine hdC 8 (fun K hK=>?_);rw [if_pos (by rfl)];refine wp_append_own_wide _ (.tmp 90) (.tmp 96) 45 rfl (g7+1) 76 ti tz 9 16 Try.underlying45 HI.out HZ.out HS.out HBt.out HZs.out (by omega) (.slice va vn vc) _ _ rfl hOa ⟨w9.heap.size,0,none⟩ 1 1 [Value.int .u8 p0,.int .u8 p1,.int .u8 p2,.int .u8 p3,.int .u8 p4,.int .u8 p5,.int .u8 p6,.int .u8 p7,.int .i64 tf] rfl rfl HN.out HO.out (by have:=HP.out;simp only [maxLen];omega) (by have:=HP.out;omega) (Nat.succ_le_of_lt hT.lt) (fun v' w' h2 h3 h4=>?_)
        obtain ⟨gg,vk,cp,rfl⟩:∃gg vk cp,v'=.slice gg vk cp:=by
         rcases h2.2 with ⟨h0,_⟩ | ⟨g,cap,cur,hv,_⟩
         · exact ⟨_,_,_,h0⟩
         · exact ⟨_,_,_,hv⟩
        replace hF:=hF.grown h3 (fun e=>by have:=(hOa.lt _ e.symm).1;omega);replace hG:=hG.grown h3 (fun e=>by have:=(hOa.lt _ e.symm).1;omega);replace hR:=hR.grown h3 (fun e=>by have:=(hOa.lt _ e.symm).1;omega);replace hT:=hT.grown h3 (fun e=>by have:=(hOa.lt _ e.symm).1;omega);replace hb:=grown_below hb h3 (fun q e=>by have:=(hOa.lt q e).1;omega) hb.size;replace hr1:=rgK hr10 (hb.block b1 hbl1);have c7:=hT.cell 0;have f7:=hT.frozen 0;have H2:=Lib.hid h2;have H4:=Lib.hid h4;clear h2 h3 h4 hOa;refine hK.out _ _ ?_ (fun _=>?_)
        · ((try dsimp only);(exact cellsA10 hF hG hr1))
        clear hK K
        (try simp only [Act.put,pA,pB,pC])
        refine hdT 9 ?_;refine hdC 10 (fun K hK=>?_)
        (go_simp;go_wp2_with fail)
        replace hF:=hF.far (p:=⟨g7,0,none⟩) (by dsimp only;omega) (.slice gg vk cp);replace hG:=hG.far (p:=⟨g7,0,none⟩) (by dsimp only;omega) (.slice gg vk cp);replace hR:=hR.far (p:=⟨g7,0,none⟩) (by dsimp only;omega) (.slice gg vk cp);replace hb:=hb.setCell (p:=⟨g7,0,none⟩) (by dsimp only;omega) (.slice gg vk cp);replace hr1:=rgK hr10 (hb.block b1 hbl1);refine hK.out _ _ ?_ (fun _=>?_)
        · ((try dsimp only);(exact cellsA10 hF hG hr1))
        clear hK K
        (try simp only [Act.put,pA,pB,pC])
        refine wpAnyH_done (by kernel_rfl) ?_ _;go_wp2_with fail
        go_roundw
        case rel=>
         refine ⟨i+1,n2,.slice gg vk cp,os++[⟨[p0,p1,p2,p3,p4,p5,p6,p7],tf⟩],by omega,by omega,rfl_i (by go_num),rfl_i (by go_num),hb,hF,hG,hR,hT.set 0 _,OwnForm.set (p:=⟨g7,0,none⟩) (OwnForm.of H2.out (by simp) (by rw [rcells_append];rfl) ⟨fun e=>absurd (H4.out.1 e).2 (by omega),fun e=>by omega⟩) (by dsimp only;omega) _,Lib.hid (addT_stepL hinv.out hx.out (fun u hu=>by rw [List.getElem?_eq_none (by rw [HL2.out];exact Nat.le_refl _)] at hu;cases hu))⟩
        case measure=>simp [intOf] <;> omega
  · have hie2:n1=i:=(by omega);subst hie2;by_cases hj1:j<n2
    · skip
      have hjn:(j:Int)<(n2:Int):=(by omega);have hje:((j:Int)==(n2:Int))=false:=(by simp;omega);obtain ⟨b2,o2,u,rfl,hbl2,hr20,hu,hy⟩:=h2.at_ hj1;obtain ⟨mu,uf⟩:=u;have hm2:IsMono mu:=hu.1;have huf:0≤uf∧uf≤10006:=HGs.out ⟨mu,uf⟩ (List.mem_of_getElem? hy.out);obtain ⟨q0,q1,q2,q3,q4,q5,q6,q7,rfl⟩:=mono8 hm2;go_upto_region 9 with fail
      replace hF:Own wr.drew w.heap.size 47 #[.slice (a1) n1 c1]:=hF;replace hG:Own wr.drew g1 47 #[.slice (some ⟨b2,o2,none⟩) n2 c2]:=hG;replace hR:Own wr.drew g6 47 #[.slice none 0 0]:=hR;replace hT:Own wr.drew g7 47 #[.slice va vn vc]:=hT;replace hO:OwnForm wr.drew (g7+1) (.slice va vn vc) os:=hO;replace hb:Below w.heap.size w wr.drew:=hb.drew;have hr2:=rgK hr20 (hb.block b2 hbl2);refine wp_region_held_drew (S:=(fun w'=>w'.cell? ⟨w.heap.size,0,none⟩=some (.slice (a1) n1 c1)∧w'.cell? ⟨g1,0,none⟩=some (.slice (some ⟨b2,o2,none⟩) n2 c2)∧w'.cell? ⟨b2,o2+j * 9,none⟩=some (.int .u8 q0)∧w'.cell? ⟨b2,o2+j * 9+1,none⟩=some (.int .u8 q1)∧w'.cell? ⟨b2,o2+j * 9+2,none⟩=some (.int .u8 q2)∧w'.cell? ⟨b2,o2+j * 9+3,none⟩=some (.int .u8 q3)∧w'.cell? ⟨b2,o2+j * 9+4,none⟩=some (.int .u8 q4)∧w'.cell? ⟨b2,o2+j * 9+5,none⟩=some (.int .u8 q5)∧w'.cell? ⟨b2,o2+j * 9+6,none⟩=some (.int .u8 q6)∧w'.cell? ⟨b2,o2+j * 9+7,none⟩=some (.int .u8 q7)∧w'.cell? ⟨b2,o2+j * 9+8,none⟩=some (.int .i64 uf))) (by kernel_rfl) ?_ (fun hHeld=>?_)
      · ((try dsimp only);(exact cellsA01 hF hG hr2))
      first | refine hdT 0 ?_ | refine hdU 0 ?_
      first | refine hdT 1 ?_ | refine hdU 1 ?_
      first | refine hdT 2 ?_ | refine hdU 2 ?_
      first | refine hdT 3 ?_ | refine hdU 3 ?_
      first | refine hdT 4 ?_ | refine hdU 4 ?_
      first | refine hdT 5 ?_ | refine hdU 5 ?_
      first | refine hdT 6 ?_ | refine hdU 6 ?_
      first | refine hdT 7 ?_ | refine hdU 7 ?_
      first | refine hdT 8 ?_ | refine hdU 8 ?_
      first | refine hdT 9 ?_ | refine hdU 9 ?_
      first | refine hdT 10 ?_ | refine hdU 10 ?_
      first | refine hdT 11 ?_ | refine hdU 11 ?_
      first | refine hdT 12 ?_ | refine hdU 12 ?_
      first | refine hdT 13 ?_ | refine hdU 13 ?_
      first | refine hdT 14 ?_ | refine hdU 14 ?_
      first | refine hdT 15 ?_ | refine hdU 15 ?_
      first | refine hdT 16 ?_ | refine hdU 16 ?_
      first | refine hdT 17 ?_ | refine hdU 17 ?_
      first | refine hdT 18 ?_ | refine hdU 18 ?_
      first | refine hdT 19 ?_ | refine hdU 19 ?_
      first | refine hdT 20 ?_ | refine hdU 20 ?_
      first | refine hdT 21 ?_ | refine hdU 21 ?_
      first | refine hdT 22 ?_ | refine hdU 22 ?_
      first | refine hdT 23 ?_ | refine hdU 23 ?_
      first | refine hdT 24 ?_ | refine hdU 24 ?_
      first | refine hdT 25 ?_ | refine hdU 25 ?_
      first | refine hdT 26 ?_ | refine hdU 26 ?_
      first | refine hdT 27 ?_ | refine hdU 27 ?_
      refine wpAnyH_done (by kernel_rfl) ?_ _;clear hr2;generalize wr.drew=w9 at *;go_upto_region 12 with fail
      replace hF:Own w9.drew w.heap.size 47 #[.slice (a1) n1 c1]:=hF;replace hG:Own w9.drew g1 47 #[.slice (some ⟨b2,o2,none⟩) n2 c2]:=hG;replace hR:Own w9.drew g6 47 #[.slice none 0 0]:=hR;replace hT:Own w9.drew g7 47 #[.slice va vn vc]:=hT;replace hO:OwnForm w9.drew (g7+1) (.slice va vn vc) os:=hO;replace hb:Below w.heap.size w w9.drew:=hb.drew;have hr2:=rgK hr20 (hb.block b2 hbl2);refine wp_region_held_drew (S:=(fun w'=>w'.cell? ⟨w.heap.size,0,none⟩=some (.slice (a1) n1 c1)∧w'.cell? ⟨g1,0,none⟩=some (.slice (some ⟨b2,o2,none⟩) n2 c2)∧w'.cell? ⟨b2,o2+j * 9,none⟩=some (.int .u8 q0)∧w'.cell? ⟨b2,o2+j * 9+1,none⟩=some (.int .u8 q1)∧w'.cell? ⟨b2,o2+j * 9+2,none⟩=some (.int .u8 q2)∧w'.cell? ⟨b2,o2+j * 9+3,none⟩=some (.int .u8 q3)∧w'.cell? ⟨b2,o2+j * 9+4,none⟩=some (.int .u8 q4)∧w'.cell? ⟨b2,o2+j * 9+5,none⟩=some (.int .u8 q5)∧w'.cell? ⟨b2,o2+j * 9+6,none⟩=some (.int .u8 q6)∧w'.cell? ⟨b2,o2+j * 9+7,none⟩=some (.int .u8 q7)∧w'.cell? ⟨b2,o2+j * 9+8,none⟩=some (.int .i64 uf))) (by kernel_rfl) ?_ (fun hHeld=>?_)
      · ((try dsimp only);(exact cellsA01 hF hG hr2))
      first | refine hdT 0 ?_ | refine hdU 0 ?_
      first | refine hdT 1 ?_ | refine hdU 1 ?_
      first | refine hdT 2 ?_ | refine hdU 2 ?_
      first | refine hdT 3 ?_ | refine hdU 3 ?_
      first | refine hdT 4 ?_ | refine hdU 4 ?_
      first | refine hdT 5 ?_ | refine hdU 5 ?_
      first | refine hdT 6 ?_ | refine hdU 6 ?_
      first | refine hdT 7 ?_ | refine hdU 7 ?_
      first | refine hdT 8 ?_ | refine hdU 8 ?_
      first | refine hdT 9 ?_ | refine hdU 9 ?_
      first | refine hdT 10 ?_ | refine hdU 10 ?_
      first | refine hdT 11 ?_ | refine hdU 11 ?_
      first | refine hdT 12 ?_ | refine hdU 12 ?_
      first | refine hdT 13 ?_ | refine hdU 13 ?_
      first | refine hdT 14 ?_ | refine hdU 14 ?_
      first | refine hdT 15 ?_ | refine hdU 15 ?_
      first | refine hdT 16 ?_ | refine hdU 16 ?_
      first | refine hdT 17 ?_ | refine hdU 17 ?_
      first | refine hdT 18 ?_ | refine hdU 18 ?_
      first | refine hdT 19 ?_ | refine hdU 19 ?_
      first | refine hdT 20 ?_ | refine hdU 20 ?_
      refine wpAnyH_done (by kernel_rfl) ?_ _;clear hr2;generalize w9.drew=w12 at *;have hr2:=rgK hr20 (hb.block b2 hbl2);obtain ⟨x,hx0⟩:∃x,num (k * uf)=x:=⟨_,rfl⟩;have HX:=Lib.hid hx0;have hku:0≤k * uf∧k * uf≤100120036:=mul_b hk0 (by omega) huf.1 (by omega);have s1:IntKind.i64.wrap (k * uf)=k * uf:=IntWalk.i64_in _ (by omega);clear hx0;have cF:=hF.cell 0;have cG:=hG.cell 0;have cU:=hr2 8 _ rfl;go_wp2_with fail
      refine (l01Mod_c _ _ (by omega) (by omega)).mono ?_;rintro e wM ⟨rfl,rfl⟩;rw [HX.out];clear cF cG cU s1 hr2;by_cases hz:x=0
      · subst hz;go_wp2_with fail
        go_roundw
        case rel=>exact ⟨n1,j+1,.slice va vn vc,os,by omega,by omega,rfl_i (by go_num),rfl_i (by go_num),hb,hF,hG,hR,hT,hO,Lib.hid (own1_skip (addT_stepR hinv.out hy.out (fun t ht=>by rw [List.getElem?_eq_none (by rw [HL1.out];exact Nat.le_refl _)] at ht;cases ht)) HX.out)⟩
        case measure=>simp [intOf] <;> omega
      · have hzb:(x==0)=false:=(by simpa using hz);go_upto_region 15 with fail
        replace hF:Own w12.drew w.heap.size 47 #[.slice (a1) n1 c1]:=hF;replace hG:Own w12.drew g1 47 #[.slice (some ⟨b2,o2,none⟩) n2 c2]:=hG;replace hR:Own w12.drew g6 47 #[.slice none 0 0]:=hR;replace hT:Own w12.drew g7 47 #[.slice va vn vc]:=hT;replace hO:OwnForm w12.drew (g7+1) (.slice va vn vc) os:=hO;replace hb:Below w.heap.size w w12.drew:=hb.drew;have hr2:=rgK hr20 (hb.block b2 hbl2);have cT:=hT.cell 0
        have hnews:∀z u,([Value.int .u8 q0,.int .u8 q1,.int .u8 q2,.int .u8 q3,.int .u8 q4,.int .u8 q5,.int .u8 q6,.int .u8 q7,.int .i64 x]:List Value)[z]? = some u→(w12.drew.alloc (.cells #[.int .u8 q0,.int .u8 q1,.int .u8 q2,.int .u8 q3,.int .u8 q4,.int .u8 q5,.int .u8 q6,.int .u8 q7,.int .i64 x] 76)).cell? ((⟨w12.heap.size,0,none⟩:Addr).add z)=some u:=fun z u hu=>by
         rw [Addr.add_mid];exact (Own.new w12.drew 76 #[.int .u8 q0,.int .u8 q1,.int .u8 q2,.int .u8 q3,.int .u8 q4,.int .u8 q5,.int .u8 q6,.int .u8 q7,.int .i64 x]).range z u hu
        have hone:∀u∈([Value.int .u8 q0,.int .u8 q1,.int .u8 q2,.int .u8 q3,.int .u8 q4,.int .u8 q5,.int .u8 q6,.int .u8 q7,.int .i64 x]:List Value),u.oneCell'=true:=(by simp [Value.oneCell']);have HN:=Lib.hid hnews;have HO:=Lib.hid hone;clear hnews hone;refine wp_region_held_drew (S:=(fun w'=>w'.cell? ⟨w.heap.size,0,none⟩=some (.slice (a1) n1 c1)∧w'.cell? ⟨g1,0,none⟩=some (.slice (some ⟨b2,o2,none⟩) n2 c2)∧w'.cell? ⟨b2,o2+j * 9,none⟩=some (.int .u8 q0)∧w'.cell? ⟨b2,o2+j * 9+1,none⟩=some (.int .u8 q1)∧w'.cell? ⟨b2,o2+j * 9+2,none⟩=some (.int .u8 q2)∧w'.cell? ⟨b2,o2+j * 9+3,none⟩=some (.int .u8 q3)∧w'.cell? ⟨b2,o2+j * 9+4,none⟩=some (.int .u8 q4)∧w'.cell? ⟨b2,o2+j * 9+5,none⟩=some (.int .u8 q5)∧w'.cell? ⟨b2,o2+j * 9+6,none⟩=some (.int .u8 q6)∧w'.cell? ⟨b2,o2+j * 9+7,none⟩=some (.int .u8 q7)∧w'.cell? ⟨b2,o2+j * 9+8,none⟩=some (.int .i64 uf))) (by kernel_rfl) ?_ (fun hHeld=>?_)
        · ((try dsimp only);(exact cellsA01 hF hG hr2))
        refine hdT 0 ?_;refine hdT 2 ?_;refine hdT 3 ?_;refine hdT 4 ?_;refine hdT 5 ?_;refine hdT 6 ?_;refine hdT 7 ?_;refine hdT 8 ?_;refine hdT 9 ?_;refine wpAnyH_ready (rs:=[1,10]) (by kernel_rfl) (by simp) ?_;refine AllReadyH.cons (hdAt (i:=1) rfl) (fun K hK=>?_) (AllReadyH.cons (hdAt (i:=10) rfl) (fun K hK=>?_) AllReadyH.nil)
        · (go_simp;try go_wp2_with fail)
          refine hK.out _ _ ?_ (fun _=>?_)
          · ((try dsimp only);(exact cellsA01 hF hG hr2))
          clear hK K
          (try simp only [Act.put,pA,pB,pC])
          refine hdC 10 (fun K hK=>?_)
          (go_simp;try go_wp2_with fail)
          replace hF:=hF.alloc (.cells #[.int .u8 q0,.int .u8 q1,.int .u8 q2,.int .u8 q3,.int .u8 q4,.int .u8 q5,.int .u8 q6,.int .u8 q7,.int .i64 x] 76);replace hG:=hG.alloc (.cells #[.int .u8 q0,.int .u8 q1,.int .u8 q2,.int .u8 q3,.int .u8 q4,.int .u8 q5,.int .u8 q6,.int .u8 q7,.int .i64 x] 76);replace hR:=hR.alloc (.cells #[.int .u8 q0,.int .u8 q1,.int .u8 q2,.int .u8 q3,.int .u8 q4,.int .u8 q5,.int .u8 q6,.int .u8 q7,.int .i64 x] 76);replace hT:=hT.alloc (.cells #[.int .u8 q0,.int .u8 q1,.int .u8 q2,.int .u8 q3,.int .u8 q4,.int .u8 q5,.int .u8 q6,.int .u8 q7,.int .i64 x] 76);have hOa:=(hO.keep (bA1 _ (.cells #[.int .u8 q0,.int .u8 q1,.int .u8 q2,.int .u8 q3,.int .u8 q4,.int .u8 q5,.int .u8 q6,.int .u8 q7,.int .i64 x] 76))).1;replace hb:=bT' hb (bA1 _ (.cells #[.int .u8 q0,.int .u8 q1,.int .u8 q2,.int .u8 q3,.int .u8 q4,.int .u8 q5,.int .u8 q6,.int .u8 q7,.int .i64 x] 76)) hb.size;replace hr2:=rgK hr20 (hb.block b2 hbl2);refine hK.out _ _ ?_ (fun _=>?_)
          · ((try dsimp only);(exact cellsA01 hF hG hr2))
          clear hK K
          (try simp only [Act.put,pA,pB,pC])
          refine hdC 11 (fun K hK=>?_);rw [if_pos (by rfl)];refine wp_append_own_wide _ (.tmp 134) (.tmp 143) 45 rfl (g7+1) 76 ti tz 9 16 Try.underlying45 HI.out HZ.out HS.out HBt.out HZs.out (by omega) (.slice va vn vc) _ _ rfl hOa ⟨w12.heap.size,0,none⟩ 1 1 [Value.int .u8 q0,.int .u8 q1,.int .u8 q2,.int .u8 q3,.int .u8 q4,.int .u8 q5,.int .u8 q6,.int .u8 q7,.int .i64 x] rfl rfl HN.out HO.out (by have:=HP.out;simp only [maxLen];omega) (by have:=HP.out;omega) (Nat.succ_le_of_lt hT.lt) (fun v' w' h2 h3 h4=>?_)
          obtain ⟨gg,vk,cp,rfl⟩:∃gg vk cp,v'=.slice gg vk cp:=by
           rcases h2.2 with ⟨h0,_⟩ | ⟨g,cap,cur,hv,_⟩
           · exact ⟨_,_,_,h0⟩
           · exact ⟨_,_,_,hv⟩
          replace hF:=hF.grown h3 (fun e=>by have:=(hOa.lt _ e.symm).1;omega);replace hG:=hG.grown h3 (fun e=>by have:=(hOa.lt _ e.symm).1;omega);replace hR:=hR.grown h3 (fun e=>by have:=(hOa.lt _ e.symm).1;omega);replace hT:=hT.grown h3 (fun e=>by have:=(hOa.lt _ e.symm).1;omega);replace hb:=grown_below hb h3 (fun q e=>by have:=(hOa.lt q e).1;omega) hb.size;replace hr2:=rgK hr20 (hb.block b2 hbl2);have c7:=hT.cell 0;have f7:=hT.frozen 0;have H2:=Lib.hid h2;have H4:=Lib.hid h4;clear h2 h3 h4 hOa;refine hK.out _ _ ?_ (fun _=>?_)
          · ((try dsimp only);(exact cellsA01 hF hG hr2))
          clear hK K
          (try simp only [Act.put,pA,pB,pC])
          refine hdT 12 ?_;refine hdC 13 (fun K hK=>?_)
          (go_simp;go_wp2_with fail)
          replace hF:=hF.far (p:=⟨g7,0,none⟩) (by dsimp only;omega) (.slice gg vk cp);replace hG:=hG.far (p:=⟨g7,0,none⟩) (by dsimp only;omega) (.slice gg vk cp);replace hR:=hR.far (p:=⟨g7,0,none⟩) (by dsimp only;omega) (.slice gg vk cp);replace hb:=hb.setCell (p:=⟨g7,0,none⟩) (by dsimp only;omega) (.slice gg vk cp);replace hr2:=rgK hr20 (hb.block b2 hbl2);refine hK.out _ _ ?_ (fun _=>?_)
          · ((try dsimp only);(exact cellsA01 hF hG hr2))
          clear hK K
          (try simp only [Act.put,pA,pB,pC])
          refine wpAnyH_done (by kernel_rfl) ?_ _;go_wp2_with fail
          go_roundw
          case rel=>
           refine ⟨n1,j+1,.slice gg vk cp,os++[⟨[q0,q1,q2,q3,q4,q5,q6,q7],x⟩],by omega,by omega,rfl_i (by go_num),rfl_i (by go_num),hb,hF,hG,hR,hT.set 0 _,OwnForm.set (p:=⟨g7,0,none⟩) (OwnForm.of H2.out (by simp) (by rw [rcells_append];rfl) ⟨fun e=>absurd (H4.out.1 e).2 (by omega),fun e=>by omega⟩) (by dsimp only;omega) _,Lib.hid (own1_put (addT_stepR hinv.out hy.out (fun t ht=>by rw [List.getElem?_eq_none (by rw [HL1.out];exact Nat.le_refl _)] at ht;cases ht)) HX.out hz)⟩
          case measure=>simp [intOf] <;> omega
        · (go_simp;try go_wp2_with fail)
          replace hF:=hF.alloc (.cells #[.int .u8 q0,.int .u8 q1,.int .u8 q2,.int .u8 q3,.int .u8 q4,.int .u8 q5,.int .u8 q6,.int .u8 q7,.int .i64 x] 76);replace hG:=hG.alloc (.cells #[.int .u8 q0,.int .u8 q1,.int .u8 q2,.int .u8 q3,.int .u8 q4,.int .u8 q5,.int .u8 q6,.int .u8 q7,.int .i64 x] 76);replace hR:=hR.alloc (.cells #[.int .u8 q0,.int .u8 q1,.int .u8 q2,.int .u8 q3,.int .u8 q4,.int .u8 q5,.int .u8 q6,.int .u8 q7,.int .i64 x] 76);replace hT:=hT.alloc (.cells #[.int .u8 q0,.int .u8 q1,.int .u8 q2,.int .u8 q3,.int .u8 q4,.int .u8 q5,.int .u8 q6,.int .u8 q7,.int .i64 x] 76);have hOa:=(hO.keep (bA1 _ (.cells #[.int .u8 q0,.int .u8 q1,.int .u8 q2,.int .u8 q3,.int .u8 q4,.int .u8 q5,.int .u8 q6,.int .u8 q7,.int .i64 x] 76))).1;replace hb:=bT' hb (bA1 _ (.cells #[.int .u8 q0,.int .u8 q1,.int .u8 q2,.int .u8 q3,.int .u8 q4,.int .u8 q5,.int .u8 q6,.int .u8 q7,.int .i64 x] 76)) hb.size;replace hr2:=rgK hr20 (hb.block b2 hbl2);refine hK.out _ _ ?_ (fun _=>?_)
          · ((try dsimp only);(exact cellsA01 hF hG hr2))
          clear hK K
          (try simp only [Act.put,pA,pB,pC])
          have cGa:(w12.alloc (.cells #[.int .u8 q0,.int .u8 q1,.int .u8 q2,.int .u8 q3,.int .u8 q4,.int .u8 q5,.int .u8 q6,.int .u8 q7,.int .i64 x] 76)).drew.cell? ⟨g7,0,none⟩=some (.slice va vn vc):=hT.cell 0;refine hdC 1 (fun K hK=>?_)
          (go_simp;try go_wp2_with fail)
          refine hK.out _ _ ?_ (fun _=>?_)
          · ((try dsimp only);(exact cellsA01 hF hG hr2))
          clear hK K
          (try simp only [Act.put,pA,pB,pC])
          refine hdC 11 (fun K hK=>?_);rw [if_pos (by rfl)];refine wp_append_own_wide _ (.tmp 134) (.tmp 143) 45 rfl (g7+1) 76 ti tz 9 16 Try.underlying45 HI.out HZ.out HS.out HBt.out HZs.out (by omega) (.slice va vn vc) _ _ rfl hOa ⟨w12.heap.size,0,none⟩ 1 1 [Value.int .u8 q0,.int .u8 q1,.int .u8 q2,.int .u8 q3,.int .u8 q4,.int .u8 q5,.int .u8 q6,.int .u8 q7,.int .i64 x] rfl rfl HN.out HO.out (by have:=HP.out;simp only [maxLen];omega) (by have:=HP.out;omega) (Nat.succ_le_of_lt hT.lt) (fun v' w' h2 h3 h4=>?_)
          obtain ⟨gg,vk,cp,rfl⟩:∃gg vk cp,v'=.slice gg vk cp:=by
           rcases h2.2 with ⟨h0,_⟩ | ⟨g,cap,cur,hv,_⟩
           · exact ⟨_,_,_,h0⟩
           · exact ⟨_,_,_,hv⟩
          replace hF:=hF.grown h3 (fun e=>by have:=(hOa.lt _ e.symm).1;omega);replace hG:=hG.grown h3 (fun e=>by have:=(hOa.lt _ e.symm).1;omega);replace hR:=hR.grown h3 (fun e=>by have:=(hOa.lt _ e.symm).1;omega);replace hT:=hT.grown h3 (fun e=>by have:=(hOa.lt _ e.symm).1;omega);replace hb:=grown_below hb h3 (fun q e=>by have:=(hOa.lt q e).1;omega) hb.size;replace hr2:=rgK hr20 (hb.block b2 hbl2);have c7:=hT.cell 0;have f7:=hT.frozen 0;have H2:=Lib.hid h2;have H4:=Lib.hid h4;clear h2 h3 h4 hOa;refine hK.out _ _ ?_ (fun _=>?_)
          · ((try dsimp only);(exact cellsA01 hF hG hr2))
          clear hK K
          (try simp only [Act.put,pA,pB,pC])
          refine hdT 12 ?_;refine hdC 13 (fun K hK=>?_)
          (go_simp;go_wp2_with fail)
          replace hF:=hF.far (p:=⟨g7,0,none⟩) (by dsimp only;omega) (.slice gg vk cp);replace hG:=hG.far (p:=⟨g7,0,none⟩) (by dsimp only;omega) (.slice gg vk cp);replace hR:=hR.far (p:=⟨g7,0,none⟩) (by dsimp only;omega) (.slice gg vk cp);replace hb:=hb.setCell (p:=⟨g7,0,none⟩) (by dsimp only;omega) (.slice gg vk cp);replace hr2:=rgK hr20 (hb.block b2 hbl2);refine hK.out _ _ ?_ (fun _=>?_)
          · ((try dsimp only);(exact cellsA01 hF hG hr2))
          clear hK K
          (try simp only [Act.put,pA,pB,pC])
          refine wpAnyH_done (by kernel_rfl) ?_ _;go_wp2_with fail
          go_roundw
          case rel=>
           refine ⟨n1,j+1,.slice gg vk cp,os++[⟨[q0,q1,q2,q3,q4,q5,q6,q7],x⟩],by omega,by omega,rfl_i (by go_num),rfl_i (by go_num),hb,hF,hG,hR,hT.set 0 _,OwnForm.set (p:=⟨g7,0,none⟩) (OwnForm.of H2.out (by simp) (by rw [rcells_append];rfl) ⟨fun e=>absurd (H4.out.1 e).2 (by omega),fun e=>by omega⟩) (by dsimp only;omega) _,Lib.hid (own1_put (addT_stepR hinv.out hy.out (fun t ht=>by rw [List.getElem?_eq_none (by rw [HL1.out];exact Nat.le_refl _)] at ht;cases ht)) HX.out hz)⟩
          case measure=>simp [intOf] <;> omega
    · have hje2:n2=j:=(by omega);subst hje2;have c3:=hT.cell 0;have cR:=hR.cell 0;have fR:=hR.frozen 0;go_wp2_with fail
      have q:=hR.set 0 (.slice va vn vc);refine bodyPost_ret (results_cell_row rfl _ _ g6 47 #[.slice va vn vc] (0,0) _ rfl q Try.underlying47 rfl Try.info_form) rfl ⟨.slice va vn vc,rfl,?_,hb.setCell (p:=⟨g6,0,none⟩) (by dsimp only;omega) _⟩;rw [←addT_end hinv.out (by rw [HL1.out];exact Nat.le_refl _) (by rw [HL2.out];exact Nat.le_refl _)];exact (hO.set (p:=⟨g6,0,none⟩) (by dsimp only;omega) _).weaken (by omega)
end Go.Proofs.Ytndnkeijddagiaa
