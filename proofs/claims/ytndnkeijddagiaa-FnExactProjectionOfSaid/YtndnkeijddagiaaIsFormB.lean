
import Derived.Test.YtndnkeijddagiaaIsForm
namespace Go.Proofs.Ytndnkeijddagiaa
set_option maxRecDepth 100000
open Go.RowKit Go.Deep
theorem before_of {p m:List Int} {v:Int} (h:cmpM p m=v):before p m=decide (v=-1):=by rw [before,h]
set_option maxHeartbeats 2000000 in
theorem IsForm_c {w : World} {da : Option Addr} {dn : Nat} {zs : List Int} {a : Option Addr} {n : Nat} {ts : List Tm} (dc c : Nat) (hd : Ints w da dn zs) (hdn : dn ≤ 1048576) (h : Terms w a n ts) (hn : n ≤ 1048576) :
    Calls Try.prog 113 #[.slice da dn dc,.agg #[.slice a n c]] w fun e w'=>e=.returned (.bool (isForm zs ts))∧Below w.heap.size w w':=by
 have hl:=h.len
 have HL:=Lib.hid hl
 clear hl
 cases hdg:degsOk zs with
 | false =>
   go_enter Try.func113,Try.ntmps113
   go_wp2_with fail
   have hb0:=bA1 w (.cells #[.slice a n c] 47);generalize w.alloc (.cells #[.slice a n c] 47)=w0 at *;refine (AreDegrees_c dc (hd.keep hb0) hdn).mono ?_;rintro e w' ⟨rfl,rfl⟩;rw [hdg];go_wp2_with fail
   go_ret
   exact ⟨ret_b (by rw [isForm,hdg];rfl),hb0⟩
 | true=>
 have HD:=Lib.hid hdg
 clear hdg
 by_cases h400:n≤400
 · go_enter Try.func113,Try.ntmps113
   go_wp2_with fail
   have hb0:=bA1 w (.cells #[.slice a n c] 47);have hF0:=Own.new w 47 #[.slice a n c];have c0:=hF0.cell 0;generalize w.alloc (.cells #[.slice a n c] 47)=w0 at *;refine (AreDegrees_c dc (hd.keep hb0) hdn).mono ?_;rintro e w' ⟨rfl,rfl⟩;rw [HD.out];go_wp2_with fail
   clear c0
   go_loopw [19] (fun i wr=>∃k:Nat,k≤n∧i=.int .i64 k∧Below w.heap.size w wr∧Own wr w.heap.size 47 #[.slice a n c]∧Hid ((List.range k).all (okAt zs ts)=true)) (fun i _=>n - (intOf i).toNat)
   case atStart=>exact ⟨0,Nat.zero_le _,rfl,hb0,hF0,rfl⟩
   case round=>
    clear hb0 hF0;obtain ⟨k,hk,rfl,hb,hF0,H⟩:=hrel;by_cases hlt:k<n
    · obtain ⟨b,off,t,rfl,hbl,hr0,ht,hx⟩:=(h.keep hb).at_ hlt;obtain ⟨m,f⟩:=t;have hm:IsMono m:=ht.1;obtain ⟨m0,m1,m2,m3,m4,m5,m6,m7,rfl⟩:=mono8 hm;obtain ⟨x0,x1,x2,x3,x4,x5,x6,x7,x8⟩:=nine hr0;clear hr0;have hT00:=Own.new wr 76 #[.int .u8 m0,.int .u8 m1,.int .u8 m2,.int .u8 m3,.int .u8 m4,.int .u8 m5,.int .u8 m6,.int .u8 m7,.int .i64 f];have hF1:=hF0.alloc (.cells #[.int .u8 m0,.int .u8 m1,.int .u8 m2,.int .u8 m3,.int .u8 m4,.int .u8 m5,.int .u8 m6,.int .u8 m7,.int .i64 f] 76);have hba:=bA1 wr (.cells #[.int .u8 m0,.int .u8 m1,.int .u8 m2,.int .u8 m3,.int .u8 m4,.int .u8 m5,.int .u8 m6,.int .u8 m7,.int .i64 f] 76);have hbb0:=bT' hb hba hb.size;have hI0:=(hd.keep hb).keep hba;have hTs0:=(h.keep hb).keep hba;have hGw:w.heap.size≤wr.heap.size:=hb.size;clear hba hF0;by_cases h1:1≤f
      · by_cases h2:f≤10006
        · have hin:decide (1≤f∧f≤10006)=true:=(by simpa using ⟨h1,h2⟩);have HIN:=Lib.hid hin;clear hin
          cases hmo:monoOk zs [m0,m1,m2,m3,m4,m5,m6,m7] with
          | false =>
            have hres:=Lib.hid (okAt_bad hx.out (okTm_no1 (t:=⟨[m0,m1,m2,m3,m4,m5,m6,m7],f⟩) hmo));go_wp2_with fail
            generalize wr.alloc (.cells #[.int .u8 m0,.int .u8 m1,.int .u8 m2,.int .u8 m3,.int .u8 m4,.int .u8 m5,.int .u8 m6,.int .u8 m7,.int .i64 f] 76)=w1 at *;refine (expFit8 dc hI0 hdn hm hmo).mono ?_;rintro e w2 ⟨rfl,hb2⟩;go_wp2_with fail
            go_ret
            exact ⟨ret_b (by rw [isForm,listOk_no HL.out hlt hres.out,Bool.false_and,Bool.and_false]),bT' hbb0 hb2 hbb0.size⟩
          | true =>
            have HOK:=Lib.hid (okTm_yes (zs:=zs) (t:=⟨[m0,m1,m2,m3,m4,m5,m6,m7],f⟩) hmo HIN.out);go_wp2_with fail
            generalize wr.alloc (.cells #[.int .u8 m0,.int .u8 m1,.int .u8 m2,.int .u8 m3,.int .u8 m4,.int .u8 m5,.int .u8 m6,.int .u8 m7,.int .i64 f] 76)=w1 at *;refine (expFit8 dc hI0 hdn hm hmo).mono ?_;rintro e w2 ⟨rfl,hb2⟩;have hbb1:=bT' hbb0 hb2 hbb0.size;have hFc:=hF1.keep hb2 hF1.lt;have hTc:=hT00.keep hb2 hT00.lt;have hTs1:=hTs0.keep hb2;clear hbb0 hF1 hT00 hTs0 hI0 x0 x1 x2 x3 x4 x5 x6 x7 x8 hb2;go_upto_region 8 with fail
            go_cut [19,53] from 19 to 54 (fun i v wx=>i=.int .i64 (k:Nat)∧v=.bool (!okAt zs ts k)∧Below w.heap.size w wx∧Own wx w.heap.size 47 #[.slice (some ⟨b,off,none⟩) n c])
            case first=>
             have hF:Own w2.drew w.heap.size 47 #[.slice (some ⟨b,off,none⟩) n c]:=hFc;have hT:Own w2.drew wr.heap.size 76 #[.int .u8 m0,.int .u8 m1,.int .u8 m2,.int .u8 m3,.int .u8 m4,.int .u8 m5,.int .u8 m6,.int .u8 m7,.int .i64 f]:=hTc;have hbb:Below w.heap.size w w2.drew:=hbb1.drew;have hGl:w.heap.size≤w2.drew.heap.size:=hbb1.size;have hTs:Terms w2.drew (some ⟨b,off,none⟩) n ts:=hTs1;clear hFc hTc hbb1 hTs1
             cases k with
             | zero =>
               have hk0:((0:Nat):Int)=0:=rfl;have hres:=Lib.hid ((okAt_zero hx.out).trans HOK.out);refine wp_region_held_drew (S:=(fun w'=>w'.cell? ⟨w.heap.size,0,none⟩=some (.slice (some ⟨b,off,none⟩) n c)∧w'.cell? ⟨wr.heap.size,0,none⟩=some (.int .u8 m0)∧w'.cell? ⟨wr.heap.size,1,none⟩=some (.int .u8 m1)∧w'.cell? ⟨wr.heap.size,2,none⟩=some (.int .u8 m2)∧w'.cell? ⟨wr.heap.size,3,none⟩=some (.int .u8 m3)∧w'.cell? ⟨wr.heap.size,4,none⟩=some (.int .u8 m4)∧w'.cell? ⟨wr.heap.size,5,none⟩=some (.int .u8 m5)∧w'.cell? ⟨wr.heap.size,6,none⟩=some (.int .u8 m6)∧w'.cell? ⟨wr.heap.size,7,none⟩=some (.int .u8 m7)∧w'.cell? ⟨wr.heap.size,8,none⟩=some (.int .i64 f))) (by kernel_rfl) ?_ (fun hHeld=>?_)
               · ((try dsimp only);(exact cellsS1 hF hT))
               first | refine hdT 0 ?_ | refine hdU 0 ?_
               first | refine hdT 1 ?_ | refine hdU 1 ?_
               first | refine hdT 2 ?_ | refine hdU 2 ?_
               first | refine hdT 3 ?_ | refine hdU 3 ?_
               first | refine hdT 4 ?_ | refine hdU 4 ?_
               first | refine hdT 5 ?_ | refine hdU 5 ?_
               first | refine hdT 6 ?_ | refine hdU 6 ?_
               first | refine hdT 7 ?_ | refine hdU 7 ?_
               first | refine hdT 8 ?_ | refine hdU 8 ?_
               first | refine hdT 9 ?_ | refine hdU 9 ?_
               first | refine hdT 10 ?_ | refine hdU 10 ?_
               first | refine hdT 11 ?_ | refine hdU 11 ?_
               refine hdU 12 ?_
               first | refine hdT 13 ?_ | refine hdU 13 ?_
               first | refine hdT 14 ?_ | refine hdU 14 ?_
               refine wpAnyH_done (by kernel_rfl) ?_ _;go_wp2_with fail
               go_meet
               exact ⟨rfl,by rw [hres.out];rfl,hbb,hF⟩
             | succ j =>
               obtain ⟨b2,off2,tp,he2,hbl2,hr,htp,hxp⟩:=hTs.at_ (k:=j) (by omega);obtain ⟨rfl,rfl⟩:b=b2∧off=off2:=(by injection he2 with he2;injection he2 with h1 h2;exact ⟨h1,h2⟩);obtain ⟨mp,fp⟩:=tp;have hp:IsMono mp:=htp.1;obtain ⟨p0,p1,p2,p3,p4,p5,p6,p7,rfl⟩:=mono8 hp;have hbl:=hbl2;have hx0:(0:Int)<((j+1:Nat):Int):=by omega
               have hx1:IntKind.i64.wrap (((j+1:Nat):Int) - 1)=(j:Int):=by
                rw [show ((j+1:Nat):Int) - 1=(j:Int) by omega];exact IntWalk.i64_in _ (by omega)
               have hj0:(0:Int)≤(j:Int):=(by omega);have hjn:(j:Int)<(n:Int):=(by omega);generalize hxk:((j+1:Nat):Int)=x at hx0 hx1 ⊢;have hxk:(Value.int .i64 x)=.int .i64 ((j+1:Nat):Int):=by rw [hxk]
               rcases cmpM_range [p0,p1,p2,p3,p4,p5,p6,p7] [m0,m1,m2,m3,m4,m5,m6,m7] with hcv | hcv | hcv
               · have hres:=Lib.hid ((okAt_succ hx.out hxp.out).trans (by rw [HOK.out,before_of hcv];rfl):okAt zs ts (j+1)=decide ((-1:Int)=-1));refine wp_region_held_drew (S:=(fun w'=>w'.cell? ⟨w.heap.size,0,none⟩=some (.slice (some ⟨b,off,none⟩) n c)∧w'.cell? ⟨wr.heap.size,0,none⟩=some (.int .u8 m0)∧w'.cell? ⟨wr.heap.size,1,none⟩=some (.int .u8 m1)∧w'.cell? ⟨wr.heap.size,2,none⟩=some (.int .u8 m2)∧w'.cell? ⟨wr.heap.size,3,none⟩=some (.int .u8 m3)∧w'.cell? ⟨wr.heap.size,4,none⟩=some (.int .u8 m4)∧w'.cell? ⟨wr.heap.size,5,none⟩=some (.int .u8 m5)∧w'.cell? ⟨wr.heap.size,6,none⟩=some (.int .u8 m6)∧w'.cell? ⟨wr.heap.size,7,none⟩=some (.int .u8 m7)∧w'.cell? ⟨wr.heap.size,8,none⟩=some (.int .i64 f)∧w'.cell? ⟨b,off+j * 9,none⟩=some (.int .u8 p0)∧w'.cell? ⟨b,off+j * 9+1,none⟩=some (.int .u8 p1)∧w'.cell? ⟨b,off+j * 9+2,none⟩=some (.int .u8 p2)∧w'.cell? ⟨b,off+j * 9+3,none⟩=some (.int .u8 p3)∧w'.cell? ⟨b,off+j * 9+4,none⟩=some (.int .u8 p4)∧w'.cell? ⟨b,off+j * 9+5,none⟩=some (.int .u8 p5)∧w'.cell? ⟨b,off+j * 9+6,none⟩=some (.int .u8 p6)∧w'.cell? ⟨b,off+j * 9+7,none⟩=some (.int .u8 p7))) (by kernel_rfl) ?_ (fun hHeld=>?_)
                 · ((try dsimp only);(exact cellsS2 hF hT hr))
                 first | refine hdT 0 ?_ | refine hdU 0 ?_
                 first | refine hdT 1 ?_ | refine hdU 1 ?_
                 first | refine hdT 2 ?_ | refine hdU 2 ?_
                 first | refine hdT 3 ?_ | refine hdU 3 ?_
                 first | refine hdT 4 ?_ | refine hdU 4 ?_
                 first | refine hdT 5 ?_ | refine hdU 5 ?_
                 first | refine hdT 6 ?_ | refine hdU 6 ?_
                 first | refine hdT 7 ?_ | refine hdU 7 ?_
                 first | refine hdT 8 ?_ | refine hdU 8 ?_
                 first | refine hdT 9 ?_ | refine hdU 9 ?_
                 first | refine hdT 10 ?_ | refine hdU 10 ?_
                 first | refine hdT 11 ?_ | refine hdU 11 ?_
                 refine hdC 12 (fun K hK=>?_)
                 (go_simp;(go_at_call 131;(refine (compare8 hp hm hcv).mono ?_);rintro e wB ⟨rfl,hbB⟩;have hbb':=bT' hbb hbB hGl;have hF':=hF.keep hbB hF.lt;have hT':=hT.keep hbB hT.lt;have hGl':=Nat.le_trans hGl hbB.size;have hr':=rgK hr (hbB.block b hbl);have hbl':=Nat.lt_of_lt_of_le hbl hbB.size;clear hr hbl;have hr:=hr';have hbl:=hbl';clear hbb hF hT hGl;have hbb:=hbb';have hF:=hF';have hT:=hT';have hGl:=hGl');go_wp2_with fail)
                 refine hK.out _ _ ?_ (fun _=>?_)
                 · ((try dsimp only);(exact cellsS2 hF hT hr))
                 clear hK K
                 (try simp only [Act.put,pA,pB,pC])
                 first | refine hdT 13 ?_ | refine hdU 13 ?_
                 first | refine hdT 14 ?_ | refine hdU 14 ?_
                 refine wpAnyH_done (by kernel_rfl) ?_ _;go_wp2_with fail
                 go_meet
                 exact ⟨by first | rfl | simp,by rw [hres.out];rfl,hbb,hF⟩
               · have hres:=Lib.hid ((okAt_succ hx.out hxp.out).trans (by rw [HOK.out,before_of hcv];rfl):okAt zs ts (j+1)=decide ((0:Int)=-1));refine wp_region_held_drew (S:=(fun w'=>w'.cell? ⟨w.heap.size,0,none⟩=some (.slice (some ⟨b,off,none⟩) n c)∧w'.cell? ⟨wr.heap.size,0,none⟩=some (.int .u8 m0)∧w'.cell? ⟨wr.heap.size,1,none⟩=some (.int .u8 m1)∧w'.cell? ⟨wr.heap.size,2,none⟩=some (.int .u8 m2)∧w'.cell? ⟨wr.heap.size,3,none⟩=some (.int .u8 m3)∧w'.cell? ⟨wr.heap.size,4,none⟩=some (.int .u8 m4)∧w'.cell? ⟨wr.heap.size,5,none⟩=some (.int .u8 m5)∧w'.cell? ⟨wr.heap.size,6,none⟩=some (.int .u8 m6)∧w'.cell? ⟨wr.heap.size,7,none⟩=some (.int .u8 m7)∧w'.cell? ⟨wr.heap.size,8,none⟩=some (.int .i64 f)∧w'.cell? ⟨b,off+j * 9,none⟩=some (.int .u8 p0)∧w'.cell? ⟨b,off+j * 9+1,none⟩=some (.int .u8 p1)∧w'.cell? ⟨b,off+j * 9+2,none⟩=some (.int .u8 p2)∧w'.cell? ⟨b,off+j * 9+3,none⟩=some (.int .u8 p3)∧w'.cell? ⟨b,off+j * 9+4,none⟩=some (.int .u8 p4)∧w'.cell? ⟨b,off+j * 9+5,none⟩=some (.int .u8 p5)∧w'.cell? ⟨b,off+j * 9+6,none⟩=some (.int .u8 p6)∧w'.cell? ⟨b,off+j * 9+7,none⟩=some (.int .u8 p7))) (by kernel_rfl) ?_ (fun hHeld=>?_)
                 · ((try dsimp only);(exact cellsS2 hF hT hr))
                 first | refine hdT 0 ?_ | refine hdU 0 ?_
                 first | refine hdT 1 ?_ | refine hdU 1 ?_
                 first | refine hdT 2 ?_ | refine hdU 2 ?_
                 first | refine hdT 3 ?_ | refine hdU 3 ?_
                 first | refine hdT 4 ?_ | refine hdU 4 ?_
                 first | refine hdT 5 ?_ | refine hdU 5 ?_
                 first | refine hdT 6 ?_ | refine hdU 6 ?_
                 first | refine hdT 7 ?_ | refine hdU 7 ?_
                 first | refine hdT 8 ?_ | refine hdU 8 ?_
                 first | refine hdT 9 ?_ | refine hdU 9 ?_
                 first | refine hdT 10 ?_ | refine hdU 10 ?_
                 first | refine hdT 11 ?_ | refine hdU 11 ?_
                 refine hdC 12 (fun K hK=>?_)
                 (go_simp;(go_at_call 131;(refine (compare8 hp hm hcv).mono ?_);rintro e wB ⟨rfl,hbB⟩;have hbb':=bT' hbb hbB hGl;have hF':=hF.keep hbB hF.lt;have hT':=hT.keep hbB hT.lt;have hGl':=Nat.le_trans hGl hbB.size;have hr':=rgK hr (hbB.block b hbl);have hbl':=Nat.lt_of_lt_of_le hbl hbB.size;clear hr hbl;have hr:=hr';have hbl:=hbl';clear hbb hF hT hGl;have hbb:=hbb';have hF:=hF';have hT:=hT';have hGl:=hGl');go_wp2_with fail)
                 refine hK.out _ _ ?_ (fun _=>?_)
                 · ((try dsimp only);(exact cellsS2 hF hT hr))
                 clear hK K
                 (try simp only [Act.put,pA,pB,pC])
                 first | refine hdT 13 ?_ | refine hdU 13 ?_
                 first | refine hdT 14 ?_ | refine hdU 14 ?_
                 refine wpAnyH_done (by kernel_rfl) ?_ _;go_wp2_with fail
                 go_meet
                 exact ⟨by first | rfl | simp,by rw [hres.out];rfl,hbb,hF⟩
               · have hres:=Lib.hid ((okAt_succ hx.out hxp.out).trans (by rw [HOK.out,before_of hcv];rfl):okAt zs ts (j+1)=decide ((1:Int)=-1));refine wp_region_held_drew (S:=(fun w'=>w'.cell? ⟨w.heap.size,0,none⟩=some (.slice (some ⟨b,off,none⟩) n c)∧w'.cell? ⟨wr.heap.size,0,none⟩=some (.int .u8 m0)∧w'.cell? ⟨wr.heap.size,1,none⟩=some (.int .u8 m1)∧w'.cell? ⟨wr.heap.size,2,none⟩=some (.int .u8 m2)∧w'.cell? ⟨wr.heap.size,3,none⟩=some (.int .u8 m3)∧w'.cell? ⟨wr.heap.size,4,none⟩=some (.int .u8 m4)∧w'.cell? ⟨wr.heap.size,5,none⟩=some (.int .u8 m5)∧w'.cell? ⟨wr.heap.size,6,none⟩=some (.int .u8 m6)∧w'.cell? ⟨wr.heap.size,7,none⟩=some (.int .u8 m7)∧w'.cell? ⟨wr.heap.size,8,none⟩=some (.int .i64 f)∧w'.cell? ⟨b,off+j * 9,none⟩=some (.int .u8 p0)∧w'.cell? ⟨b,off+j * 9+1,none⟩=some (.int .u8 p1)∧w'.cell? ⟨b,off+j * 9+2,none⟩=some (.int .u8 p2)∧w'.cell? ⟨b,off+j * 9+3,none⟩=some (.int .u8 p3)∧w'.cell? ⟨b,off+j * 9+4,none⟩=some (.int .u8 p4)∧w'.cell? ⟨b,off+j * 9+5,none⟩=some (.int .u8 p5)∧w'.cell? ⟨b,off+j * 9+6,none⟩=some (.int .u8 p6)∧w'.cell? ⟨b,off+j * 9+7,none⟩=some (.int .u8 p7))) (by kernel_rfl) ?_ (fun hHeld=>?_)
                 · ((try dsimp only);(exact cellsS2 hF hT hr))
                 first | refine hdT 0 ?_ | refine hdU 0 ?_
                 first | refine hdT 1 ?_ | refine hdU 1 ?_
                 first | refine hdT 2 ?_ | refine hdU 2 ?_
                 first | refine hdT 3 ?_ | refine hdU 3 ?_
                 first | refine hdT 4 ?_ | refine hdU 4 ?_
                 first | refine hdT 5 ?_ | refine hdU 5 ?_
                 first | refine hdT 6 ?_ | refine hdU 6 ?_
                 first | refine hdT 7 ?_ | refine hdU 7 ?_
                 first | refine hdT 8 ?_ | refine hdU 8 ?_
                 first | refine hdT 9 ?_ | refine hdU 9 ?_
                 first | refine hdT 10 ?_ | refine hdU 10 ?_
                 first | refine hdT 11 ?_ | refine hdU 11 ?_
                 refine hdC 12 (fun K hK=>?_)
                 (go_simp;(go_at_call 131;(refine (compare8 hp hm hcv).mono ?_);rintro e wB ⟨rfl,hbB⟩;have hbb':=bT' hbb hbB hGl;have hF':=hF.keep hbB hF.lt;have hT':=hT.keep hbB hT.lt;have hGl':=Nat.le_trans hGl hbB.size;have hr':=rgK hr (hbB.block b hbl);have hbl':=Nat.lt_of_lt_of_le hbl hbB.size;clear hr hbl;have hr:=hr';have hbl:=hbl';clear hbb hF hT hGl;have hbb:=hbb';have hF:=hF';have hT:=hT';have hGl:=hGl');go_wp2_with fail)
                 refine hK.out _ _ ?_ (fun _=>?_)
                 · ((try dsimp only);(exact cellsS2 hF hT hr))
                 clear hK K
                 (try simp only [Act.put,pA,pB,pC])
                 first | refine hdT 13 ?_ | refine hdU 13 ?_
                 first | refine hdT 14 ?_ | refine hdU 14 ?_
                 refine wpAnyH_done (by kernel_rfl) ?_ _;go_wp2_with fail
                 go_meet
                 exact ⟨by first | rfl | simp,by rw [hres.out];rfl,hbb,hF⟩
            case rest=>
             clear hFc hTc hbb1 hTs1;obtain ⟨rfl,rfl,hb2,hF2⟩:=hcut
             cases hok:okAt zs ts k with
             | true =>
               go_wp2_with fail
               go_roundw
               case rel=>exact ⟨k+1,by omega,by go_num,hb2,hF2,range_all_step H.out hok⟩
               case measure=>simp [intOf] <;> omega
             | false =>
               go_wp2_with fail
               go_ret
               exact ⟨ret_b (by rw [isForm,listOk_no HL.out hlt hok,Bool.false_and,Bool.and_false]),hb2⟩
        · have hres:=Lib.hid (okAt_bad hx.out (okTm_no2 (zs:=zs) (t:=⟨[m0,m1,m2,m3,m4,m5,m6,m7],f⟩) (by simp only [decide_eq_false_iff_not];omega)));go_wp2_with fail
          go_ret
          exact ⟨ret_b (by rw [isForm,listOk_no HL.out hlt hres.out,Bool.false_and,Bool.and_false]),hbb0⟩
      · have hres:=Lib.hid (okAt_bad hx.out (okTm_no2 (zs:=zs) (t:=⟨[m0,m1,m2,m3,m4,m5,m6,m7],f⟩) (by simp only [decide_eq_false_iff_not];omega)));go_wp2_with fail
        go_ret
        exact ⟨ret_b (by rw [isForm,listOk_no HL.out hlt hres.out,Bool.false_and,Bool.and_false]),hbb0⟩
    · have he:k=n:=(by omega);subst he
      go_wp2
      go_ret
      exact ⟨ret_b (by rw [isForm,HD.out,listOk_end HL.out H.out,HL.out];simp only [Bool.true_and];exact (decide_eq_true h400).symm),hb⟩
 · go_enter Try.func113,Try.ntmps113
   go_wp2_with fail
   have hb0:=bA1 w (.cells #[.slice a n c] 47);have c0:=(Own.new w 47 #[.slice a n c]).cell 0;generalize w.alloc (.cells #[.slice a n c] 47)=w0 at *;refine (AreDegrees_c dc (hd.keep hb0) hdn).mono ?_;rintro e w' ⟨rfl,rfl⟩;rw [HD.out];go_wp2_with fail
   go_ret
   exact ⟨ret_b (by rw [isForm,HL.out,decide_eq_false h400,Bool.and_false,Bool.and_false]),hb0⟩
end Go.Proofs.Ytndnkeijddagiaa
