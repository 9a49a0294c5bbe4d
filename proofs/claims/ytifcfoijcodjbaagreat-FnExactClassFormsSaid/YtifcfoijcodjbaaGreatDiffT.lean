
import Derived.Test.YtifcfoijcodjbaaGreatShift
import Derived.Test.YtifcfoijcodjbaaGreatSumK
import Derived.Test.YtifcfoijcodjbaaGreatMap
import Derived.Test.YtifcfoijcodjbaaGreatLawMul
namespace Go.Proofs.YtifcfoijcodjbaaGreat
set_option maxRecDepth 100000
open Go.RowKit Go.Deep
theorem timesT_take {zs:List Int} {t:Tm} {out fs gs:List Tm} {i:Nat} (h:fs[i]? = some t):timesT zs gs out (fs.take (i+1))=addT 1 (timesT zs gs out (fs.take i)) (shiftT zs t gs):=by
 rw [timesT,timesT,List.take_add_one,h,List.foldl_append];rfl
theorem times_all {zs:List Int} {gs:List Tm} {p:List Int→Prop}:∀{fs out:List Tm},(∀x∈out,p x.m)→(∀t∈fs,∀u∈gs,¬joinS zs t.m u.m=0→p (joinM zs t.m u.m))→∀x∈timesT zs gs out fs,p x.m
 | [],out,ho,_=>ho
 | t :: fs, out, ho, h => by
   refine times_all (fs:=fs) (out:=addT 1 out (shiftT zs t gs)) (addT_all (p:=fun t=>p t.m) out _ ho (fun x hx _ _=>?_) (fun f hf _ _=>ho f hf)) (fun t ht=>h t (by simp [ht]));obtain ⟨u,hu,hj,hm,-⟩:=shiftT_mem hx;dsimp only;rw [hm];exact h t (by simp) u hu hj
theorem times_len {zs:List Int} {gs:List Tm}:∀(fs out:List Tm),(timesT zs gs out fs).length≤out.length+fs.length * gs.length
 | [],out=>by simp [timesT]
 | t :: fs, out => by
   have h1:=times_len (zs:=zs) (gs:=gs) fs (addT 1 out (shiftT zs t gs));have h2:=addT_len (k:=1) out (shiftT zs t gs);have h3:=shiftT_len zs t gs;show (timesT zs gs (addT 1 out (shiftT zs t gs)) fs).length≤_
   rw [List.length_cons,Nat.add_mul,Nat.one_mul];omega
structure Two (zs:List Int) (fs gs:List Tm):Prop where
 t1:∀t∈fs,IsTm t
 t2:∀t∈gs,IsTm t
 fit:∀t∈fs,∀u∈gs,FitW zs t.m u.m
 f1:∀t∈fs,1≤t.f∧t.f≤10006
 f2:∀t∈gs,1≤t.f∧t.f≤10006
 s2:Srt gs
theorem Two.take {zs:List Int} {fs gs:List Tm} (h:Two zs fs gs) (i:Nat):Two zs (fs.take i) gs:=
 ⟨fun t ht=>h.t1 t (List.mem_of_mem_take ht),h.t2,fun t ht=>h.fit t (List.mem_of_mem_take ht),fun t ht=>h.f1 t (List.mem_of_mem_take ht),h.f2,h.s2⟩
theorem Two.good {zs:List Int} {fs gs:List Tm} (h:Two zs fs gs):Good (timesT zs gs [] fs):=
 (times_coef (zs:=zs) (fun g hg=>(h.t2 g hg).1.1) h.s2 fs [] (coef []) (fun t ht=>(h.t1 t ht).1.1) good_nil (fun _=>rfl)).2
theorem Two.tm {zs:List Int} {fs gs:List Tm} (h:Two zs fs gs):∀x∈timesT zs gs [] fs,IsTm x:=by
 intro x hx
 have hm:IsMono x.m:=times_all (p:=IsMono) (by simp) (fun t ht u hu _=>joinM_monoW (h.fit t ht u hu)) x hx
 have:=h.good.nz x hx
 exact ⟨hm,by omega,by omega⟩
theorem Two.shift_tm {zs:List Int} {fs gs:List Tm} (h:Two zs fs gs) {t:Tm} (ht:t∈fs):∀x∈shiftT zs t gs,IsTm x:=by
 intro x hx
 have h1:=shiftT_bd x hx
 obtain ⟨u,hu,hj,hm,-⟩:=shiftT_mem hx
 exact ⟨by rw [hm];exact joinM_monoW (h.fit t ht u hu),by omega,by omega⟩
theorem cellsT9 {w':World} {F0 g1 n1 c1 n2 c2 b1 o1 i:Nat} {a2:Option Addr} {p0 p1 p2 p3 p4 p5 p6 p7 tf:Int} {t1 t2:TypeId} (hF:Own w' F0 t1 #[.slice (some ⟨b1,o1,none⟩) n1 c1]) (hG:Own w' g1 t2 #[.slice a2 n2 c2]) (h1:w'.rangeAt b1 (o1+i * 9) (tcells ⟨[p0,p1,p2,p3,p4,p5,p6,p7],tf⟩)):w'.cell? ⟨F0,0,none⟩=some (.slice (some ⟨b1,o1,none⟩) n1 c1)∧w'.cell? ⟨g1,0,none⟩=some (.slice a2 n2 c2)∧w'.cell? ⟨b1,o1+i * 9,none⟩=some (.int .u8 p0)∧w'.cell? ⟨b1,o1+i * 9+1,none⟩=some (.int .u8 p1)∧w'.cell? ⟨b1,o1+i * 9+2,none⟩=some (.int .u8 p2)∧w'.cell? ⟨b1,o1+i * 9+3,none⟩=some (.int .u8 p3)∧w'.cell? ⟨b1,o1+i * 9+4,none⟩=some (.int .u8 p4)∧w'.cell? ⟨b1,o1+i * 9+5,none⟩=some (.int .u8 p5)∧w'.cell? ⟨b1,o1+i * 9+6,none⟩=some (.int .u8 p6)∧w'.cell? ⟨b1,o1+i * 9+7,none⟩=some (.int .u8 p7)∧w'.cell? ⟨b1,o1+i * 9+8,none⟩=some (.int .i64 tf):=
 ⟨hF.cell 0,hG.cell 0,h1 0 _ rfl,h1 1 _ rfl,h1 2 _ rfl,h1 3 _ rfl,h1 4 _ rfl,h1 5 _ rfl,h1 6 _ rfl,h1 7 _ rfl,h1 8 _ rfl⟩
set_option maxHeartbeats 8000000 in
theorem l01Times_c {w : World} {da : Option Addr} {dn : Nat} {zs : List Int} {a1 a2 : Option Addr} {n1 n2 : Nat} {fs gs : List Tm} (dc c1 c2 : Nat) (hd : Ints w da dn zs) (h1 : Terms w a1 n1 fs) (hn1 : n1 ≤ 400) (h2 : Terms w a2 n2 gs) (hn2 : n2 ≤ 400) (HT : Two zs fs gs) :
    Calls Tryz.prog 82 #[.slice da dn dc,.agg #[.slice a1 n1 c1],.agg #[.slice a2 n2 c2]] w fun e w'=>∃v,e=.returned (.agg #[v])∧OwnForm w' w.heap.size v (timesT zs gs [] fs)∧Below w.heap.size w w':=by
 have HL1:=Lib.hid h1.len
 have HL2:=Lib.hid h2.len
 have HF2:=Lib.hid HT.f2
 have HTW:=Lib.hid HT
 clear HT
 have hF:=(((Own.new w 39 #[.slice a1 n1 c1]).alloc (.cells #[.slice a2 n2 c2] 39)).alloc (.cells #[.slice none 0 0] 39)).alloc (.cells #[.slice none 0 0] 39)
 have hG:=((Own.new (w.alloc (.cells #[.slice a1 n1 c1] 39)) 39 #[.slice a2 n2 c2]).alloc (.cells #[.slice none 0 0] 39)).alloc (.cells #[.slice none 0 0] 39)
 have hR:=(Own.new ((w.alloc (.cells #[.slice a1 n1 c1] 39)).alloc (.cells #[.slice a2 n2 c2] 39)) 39 #[.slice none 0 0]).alloc (.cells #[.slice none 0 0] 39)
 have hV:=Own.new (((w.alloc (.cells #[.slice a1 n1 c1] 39)).alloc (.cells #[.slice a2 n2 c2] 39)).alloc (.cells #[.slice none 0 0] 39)) 39 #[.slice none 0 0]
 simp only [sAl] at hG hR hV
 have hb:=bTn (bTn (bTn (bA1 w (.cells #[.slice a1 n1 c1] 39)) (bA1 _ (.cells #[.slice a2 n2 c2] 39))) (bA1 _ (.cells #[.slice none 0 0] 39))) (bA1 _ (.cells #[.slice none 0 0] 39))
 go_enter Tryz.func82,Tryz.ntmps82
 go_wp2_with fail
 generalize (((w.alloc (.cells #[.slice a1 n1 c1] 39)).alloc (.cells #[.slice a2 n2 c2] 39)).alloc (.cells #[.slice none 0 0] 39)).alloc (.cells #[.slice none 0 0] 39)=w0 at *
 generalize hg7:w.heap.size+1+1+1=g7 at *
 generalize hg6:w.heap.size+1+1=g6 at *
 generalize hg1:w.heap.size+1=g1 at *
 go_loopw [8] (fun y wr=>∃(i:Nat) (v:Value),i≤n1∧y=.int .i64 i∧Below w.heap.size w wr∧Own wr w.heap.size 39 #[.slice a1 n1 c1]∧Own wr g1 39 #[.slice a2 n2 c2]∧Own wr g6 39 #[.slice none 0 0]∧Own wr g7 39 #[v]∧OwnForm wr (g7+1) v (timesT zs gs [] (fs.take i))) (fun y _=>n1 - (intOf y).toNat)
 case atStart=>exact ⟨0,.slice none 0 0,Nat.zero_le _,rfl,hb,hF,hG,hR,hV,by rw [List.take_zero];exact ⟨World.ownsRow_nil _ _ _ _,by simp [timesT]⟩⟩
 case round=>
  clear hb hF hG hR hV;obtain ⟨i,v,hi,rfl,hb,hF,hG,hR,hV,hO⟩:=hrel;have hw2:=HTW.out.take i;obtain ⟨vn,hvn⟩:∃vn,(timesT zs gs [] (fs.take i)).length=vn:=⟨_,rfl⟩;obtain ⟨va,vc,rfl,-⟩:=hO.r.terms hw2.tm hvn;have cF:=hF.cell 0;by_cases hlt:i<n1
  · obtain ⟨b1,o1,t,rfl,hbl1,hr10,ht,hx⟩:=h1.at_ hlt;have htm:=List.mem_of_getElem? hx.out;have HST:=Lib.hid (HTW.out.shift_tm htm);have HSF:=Lib.hid (shiftT_bd (zs:=zs) (t:=t) (gs:=gs));have htf:=HTW.out.f1 t htm;have HO2:=Lib.hid (HTW.out.fit t htm)
    have hvb:vn≤160000:=by
     have h3:=times_len (zs:=zs) (gs:=gs) (fs.take i) [];have h4:=HL2.out;rw [List.length_take,h4,hvn,List.length_nil] at h3;have h5:min i fs.length * n2≤400 * 400:=Nat.mul_le_mul (by omega) hn2;omega
    have HOT:=Lib.hid hw2.tm;have HOF:=Lib.hid (fun x hx=>(show 0≤x.f∧x.f≤10006 by have:=hw2.good.nz x hx;omega):∀x∈timesT zs gs [] (fs.take i),0≤x.f∧x.f≤10006);obtain ⟨sn,hsn⟩:∃sn,(shiftT zs t gs).length=sn:=⟨_,rfl⟩;have hsb:sn≤400:=(by have:=shiftT_len zs t gs;have:=HL2.out;omega);have HSN:=Lib.hid hsn;clear hsn hvn hw2 htm;obtain ⟨mt,tf⟩:=t;have hmt:IsMono mt:=ht.1;obtain ⟨p0,p1,p2,p3,p4,p5,p6,p7,rfl⟩:=mono8 hmt;have hi0:(0:Int)≤(i:Int):=(by omega);have hin:(i:Int)<(n1:Int):=(by omega);have hgw:=hV.lt;go_upto_region 5 with fail
    clear cF;replace hF:Own wr.drew w.heap.size 39 #[.slice (some ⟨b1,o1,none⟩) n1 c1]:=hF;replace hG:Own wr.drew g1 39 #[.slice a2 n2 c2]:=hG;replace hR:Own wr.drew g6 39 #[.slice none 0 0]:=hR;replace hV:Own wr.drew g7 39 #[.slice va vn vc]:=hV;replace hO:OwnForm wr.drew (g7+1) (.slice va vn vc) (timesT zs gs [] (fs.take i)):=hO;replace hb:Below w.heap.size w wr.drew:=hb.drew;have hr1:=rgK hr10 (hb.block b1 hbl1);have cV:=hV.cell 0;refine wp_region_held_drew (S:=(fun w'=>w'.cell? ⟨w.heap.size,0,none⟩=some (.slice (some ⟨b1,o1,none⟩) n1 c1)∧w'.cell? ⟨g1,0,none⟩=some (.slice a2 n2 c2)∧w'.cell? ⟨b1,o1+i * 9,none⟩=some (.int .u8 p0)∧w'.cell? ⟨b1,o1+i * 9+1,none⟩=some (.int .u8 p1)∧w'.cell? ⟨b1,o1+i * 9+2,none⟩=some (.int .u8 p2)∧w'.cell? ⟨b1,o1+i * 9+3,none⟩=some (.int .u8 p3)∧w'.cell? ⟨b1,o1+i * 9+4,none⟩=some (.int .u8 p4)∧w'.cell? ⟨b1,o1+i * 9+5,none⟩=some (.int .u8 p5)∧w'.cell? ⟨b1,o1+i * 9+6,none⟩=some (.int .u8 p6)∧w'.cell? ⟨b1,o1+i * 9+7,none⟩=some (.int .u8 p7)∧w'.cell? ⟨b1,o1+i * 9+8,none⟩=some (.int .i64 tf))) (by kernel_rfl) ?_ (fun hHeld=>?_)
    · ((try dsimp only);(exact cellsT9 hF hG hr1))
    refine hdT 1 ?_;refine hdT 2 ?_;refine hdT 3 ?_;refine hdT 4 ?_;refine hdT 5 ?_;refine hdT 6 ?_;refine hdT 7 ?_;refine wpAnyH_ready (rs:=[0,8]) (by kernel_rfl) (by simp) ?_;refine AllReadyH.cons (hdAt (i:=0) rfl) (fun K hK=>?_) (AllReadyH.cons (hdAt (i:=8) rfl) (fun K hK=>?_) AllReadyH.nil)
    · (go_simp;try go_wp2_with fail)
      refine hK.out _ _ ?_ (fun _=>?_)
      · ((try dsimp only);(exact cellsT9 hF hG hr1))
      clear hK K
      (try simp only [Act.put,pA,pB,pC])
      refine hdC 8 (fun K hK=>?_)
      (go_simp;(go_at_call 139;(refine (l01Shift_c dc c2 (hd.keep hb) hmt htf (h2.keep hb) hn2 HF2.out HO2.out).mono ?_);rintro e wS ⟨v2,rfl,hSh,hbS⟩;obtain ⟨ua,uc,rfl,htS⟩:=hSh.r.terms HST.out HSN.out;clear hSh;replace hb:=bT' hb hbS hb.size;replace hF:=hF.keep hbS hF.lt;replace hG:=hG.keep hbS hG.lt;replace hR:=hR.keep hbS hR.lt;replace hV:=hV.keep hbS hV.lt;replace hO:=hO.keep hbS;replace hr1:=rgK hr10 (hb.block b1 hbl1);clear hbS);go_wp2_with fail)
      refine hK.out _ _ ?_ (fun _=>?_)
      · ((try dsimp only);(exact cellsT9 hF hG hr1))
      clear hK K
      (try simp only [Act.put,pA,pB,pC])
      refine hdC 9 (fun K hK=>?_)
      (go_simp;(go_at_call 138;(refine (l01Add_c vc uc 1 (by omega) (by omega) (hO.r.read HOT.out) (Terms.keep htS (Below.refl _ _)) (by omega) HOF.out HSF.out).mono ?_);rintro e wA ⟨v3,rfl,hA,hbA⟩;obtain ⟨xa,xn,xc,rfl⟩:=hA.isSlice;have hvl:=hV.lt;replace hb:=bT' hb hbA hb.size;replace hF:=hF.keep hbA hF.lt;replace hG:=hG.keep hbA hG.lt;replace hR:=hR.keep hbA hR.lt;replace hV:=hV.keep hbA hV.lt;replace hO:=hO.keep hbA;replace hr1:=rgK hr10 (hb.block b1 hbl1);clear hbA);go_wp2_with fail)
      have c7:=hV.cell 0;have f7:=hV.frozen 0;refine hK.out _ _ ?_ (fun _=>?_)
      · ((try dsimp only);(exact cellsT9 hF hG hr1))
      clear hK K
      (try simp only [Act.put,pA,pB,pC])
      refine hdC 10 (fun K hK=>?_)
      (go_simp;go_wp2_with fail)
      replace hF:=hF.far (p:=⟨g7,0,none⟩) (by dsimp only;omega) (.slice xa xn xc);replace hG:=hG.far (p:=⟨g7,0,none⟩) (by dsimp only;omega) (.slice xa xn xc);replace hR:=hR.far (p:=⟨g7,0,none⟩) (by dsimp only;omega) (.slice xa xn xc);replace hb:=hb.setCell (p:=⟨g7,0,none⟩) (by dsimp only;omega) (.slice xa xn xc);replace hr1:=rgK hr10 (hb.block b1 hbl1);refine hK.out _ _ ?_ (fun _=>?_)
      · ((try dsimp only);(exact cellsT9 hF hG hr1))
      clear hK K
      (try simp only [Act.put,pA,pB,pC])
      refine wpAnyH_done (by kernel_rfl) ?_ _;go_wp2_with fail
      go_roundw
      case rel=>
       refine ⟨i+1,.slice xa xn xc,by omega,by go_num,hb,hF,hG,hR,hV.set 0 _,?_⟩;rw [timesT_take hx.out];exact (OwnForm.set (p:=⟨g7,0,none⟩) (hA.weaken (B':=g7+1) (by omega)) (by dsimp only;omega) _)
      case measure=>simp [intOf] <;> omega
    · (go_simp;(go_at_call 139;(refine (l01Shift_c dc c2 (hd.keep hb) hmt htf (h2.keep hb) hn2 HF2.out HO2.out).mono ?_);rintro e wS ⟨v2,rfl,hSh,hbS⟩;obtain ⟨ua,uc,rfl,htS⟩:=hSh.r.terms HST.out HSN.out;clear hSh;replace hb:=bT' hb hbS hb.size;replace hF:=hF.keep hbS hF.lt;replace hG:=hG.keep hbS hG.lt;replace hR:=hR.keep hbS hR.lt;replace hV:=hV.keep hbS hV.lt;replace hO:=hO.keep hbS;replace hr1:=rgK hr10 (hb.block b1 hbl1);clear hbS);go_wp2_with fail)
      refine hK.out _ _ ?_ (fun _=>?_)
      · ((try dsimp only);(exact cellsT9 hF hG hr1))
      clear hK K
      (try simp only [Act.put,pA,pB,pC])
      have cVb:=hV.cell 0;refine hdC 0 (fun K hK=>?_)
      (go_simp;try go_wp2_with fail)
      refine hK.out _ _ ?_ (fun _=>?_)
      · ((try dsimp only);(exact cellsT9 hF hG hr1))
      clear hK K
      (try simp only [Act.put,pA,pB,pC])
      refine hdC 9 (fun K hK=>?_)
      (go_simp;(go_at_call 138;(refine (l01Add_c vc uc 1 (by omega) (by omega) (hO.r.read HOT.out) (Terms.keep htS (Below.refl _ _)) (by omega) HOF.out HSF.out).mono ?_);rintro e wA ⟨v3,rfl,hA,hbA⟩;obtain ⟨xa,xn,xc,rfl⟩:=hA.isSlice;have hvl:=hV.lt;replace hb:=bT' hb hbA hb.size;replace hF:=hF.keep hbA hF.lt;replace hG:=hG.keep hbA hG.lt;replace hR:=hR.keep hbA hR.lt;replace hV:=hV.keep hbA hV.lt;replace hO:=hO.keep hbA;replace hr1:=rgK hr10 (hb.block b1 hbl1);clear hbA);go_wp2_with fail)
      have c7:=hV.cell 0;have f7:=hV.frozen 0;refine hK.out _ _ ?_ (fun _=>?_)
      · ((try dsimp only);(exact cellsT9 hF hG hr1))
      clear hK K
      (try simp only [Act.put,pA,pB,pC])
      refine hdC 10 (fun K hK=>?_)
      (go_simp;go_wp2_with fail)
      replace hF:=hF.far (p:=⟨g7,0,none⟩) (by dsimp only;omega) (.slice xa xn xc);replace hG:=hG.far (p:=⟨g7,0,none⟩) (by dsimp only;omega) (.slice xa xn xc);replace hR:=hR.far (p:=⟨g7,0,none⟩) (by dsimp only;omega) (.slice xa xn xc);replace hb:=hb.setCell (p:=⟨g7,0,none⟩) (by dsimp only;omega) (.slice xa xn xc);replace hr1:=rgK hr10 (hb.block b1 hbl1);refine hK.out _ _ ?_ (fun _=>?_)
      · ((try dsimp only);(exact cellsT9 hF hG hr1))
      clear hK K
      (try simp only [Act.put,pA,pB,pC])
      refine wpAnyH_done (by kernel_rfl) ?_ _;go_wp2_with fail
      go_roundw
      case rel=>
       refine ⟨i+1,.slice xa xn xc,by omega,by go_num,hb,hF,hG,hR,hV.set 0 _,?_⟩;rw [timesT_take hx.out];exact (OwnForm.set (p:=⟨g7,0,none⟩) (hA.weaken (B':=g7+1) (by omega)) (by dsimp only;omega) _)
      case measure=>simp [intOf] <;> omega
  · have he:i=n1:=(by omega);subst he;rw [List.take_of_length_le (Nat.le_of_eq HL1.out)] at hO;have c3:=hV.cell 0;have cR:=hR.cell 0;have fR:=hR.frozen 0;go_wp2_with fail
    have q:=hR.set 0 (.slice va vn vc);exact bodyPost_ret (results_cell_row rfl _ _ g6 39 #[.slice va vn vc] (0,0) _ rfl q Tryz.underlying39 rfl Tryz.info_form) rfl ⟨.slice va vn vc,rfl,(hO.set (p:=⟨g6,0,none⟩) (by dsimp only;omega) _).weaken (by omega),hb.setCell (p:=⟨g6,0,none⟩) (by dsimp only;omega) _⟩
def zeroOr (zs:List Int) (ts:List Tm) (x:Int):Bool:=codF zs ts==0 && (degF zs ts==x || ts.length==0)
theorem isZeroOrOfDegree_c {w : World} {da : Option Addr} {dn : Nat} {zs : List Int} {a : Option Addr} {n : Nat} {ts : List Tm} {x : Int} (dc c : Nat) (hd : Ints w da dn zs) (hdn : dn ≤ 1048576) (h : Terms w a n ts) (hn : n ≤ 1048576) :
    Calls Tryz.prog 141 #[.slice da dn dc,.agg #[.slice a n c],.int .i64 x] w fun e w'=>e=.returned (.bool (zeroOr zs ts x))∧Below w.heap.size w w':=by
 have hl:=h.len
 obtain ⟨D,hD⟩:∃D,degF zs ts=D:=⟨_,rfl⟩
 obtain ⟨K,hK⟩:∃K,codF zs ts=K:=⟨_,rfl⟩
 have hZ:zeroOr zs ts x=(K==0 && (D==x || n==0)):=by rw [zeroOr,hD,hK,hl]
 rw [hZ]
 have HD:=Lib.hid hD
 have HK:=Lib.hid hK
 clear hZ hD hK hl
 have hb:=bA1 w (.cells #[.slice a n c] 39)
 have hF:=Own.new w 39 #[.slice a n c]
 have cF:=hF.cell 0
 go_enter Tryz.func141,Tryz.ntmps141
 go_upto_region 1 with fail
 generalize hw0:w.alloc (.cells #[.slice a n c] 39)=w0 at *
 clear hw0
 go_wp2_with fail
 refine (DegreeOfForm_c dc c (hd.keep hb) hdn (h.keep hb) hn).mono ?_
 rintro e w1 ⟨rfl,hb1⟩
 rw [HD.out,HK.out]
 replace hF:=hF.keep hb1 hF.lt
 replace hb:=bTn hb hb1
 clear hb1 cF
 have cF:=hF.cell 0
 by_cases hk:K=0
 · subst hk;by_cases hx:D=x
   · subst hx;go_wp2_with fail
     go_ret
     exact ⟨by simp,hb⟩
   · have hxb:(D==x)=false:=(by simpa using hx);by_cases h0:n=0
     · subst h0;go_wp2_with fail
       go_ret
       exact ⟨by simp,hb⟩
     · have h0b:((n:Int)==0)=false:=(by simp;omega);have h0c:(n==0)=false:=(by simpa using h0);go_wp2_with fail
       go_ret
       exact ⟨by simp [hxb,h0c],hb⟩
 · have hkb:(K==0)=false:=(by simpa using hk);go_wp2_with fail
   go_ret
   exact ⟨by simp [hkb],hb⟩
structure AlgOk (zs:List Int) (ims:List (List Tm)):Prop where
 h8:zs.length≤8
 ln:ims.length=zs.length
 fm:∀im∈ims,isForm zs im=true
 tm:∀im∈ims,∀u∈im,IsTm u
theorem isForm_srt {zs:List Int} {ts:List Tm} (h:isForm zs ts=true):Srt ts:=by
 simp only [isForm,Bool.and_eq_true,decide_eq_true_eq] at h
 exact listOk_srt h.2.1
theorem AlgOk.ims {zs:List Int} {ims:List (List Tm)} (h:AlgOk zs ims):Ims ims:=fun im hi=>
 ⟨isForm_srt (h.fm im hi),fun u hu=>(h.tm im hi u hu).1.1,isForm_f (h.fm im hi)⟩
theorem AlgOk.at_ {zs:List Int} {ims:List (List Tm)} (h:AlgOk zs ims) (i:Nat):(ims.getD i []).length≤400∧(∀u∈ims.getD i [],IsTm u)∧(∀u∈ims.getD i [],monoOk zs u.m=true)∧(∀u∈ims.getD i [],1≤u.f∧u.f≤10006)∧Srt (ims.getD i []):=by
 by_cases hi:i<ims.length
 · rw [List.getD_eq_getElem?_getD,List.getElem?_eq_getElem hi];have hm:=List.getElem_mem hi;have hf:=h.fm _ hm;exact ⟨isForm_400 hf,h.tm _ hm,isForm_fit hf,isForm_f hf,isForm_srt hf⟩
 · rw [List.getD_eq_getElem?_getD,List.getElem?_eq_none (by omega)];exact ⟨by simp,by simp,by simp,by simp,List.Pairwise.nil⟩
theorem left_mono {zs m:List Int} {i:Nat} (h8:zs.length≤8) (hm:IsMono m) (ok:monoOk zs m=true) (hi:i<zs.length) (hp:0<m.getD i 0):IsMono (leftM m i):=
 (left_in (i:=i) (ok_in hm ok) (by omega) (by rw [hm.1];omega) hp:In 20 (leftM m i)).isMono (leftM_len hm.1 (by omega)) (by omega)
theorem back_mono {zs m:List Int} {i:Nat} (hm:IsMono m) (ok:monoOk zs m=true) (hi:i<8):IsMono (backM m i):=
 (back_in (i:=i) (ok_in hm ok) (by omega):In 20 (backM m i)).isMono (backM_len hm.1 hi) (by omega)
theorem two_left {zs m : List Int} {i : Nat} {im : List Tm} (h8 : zs.length ≤ 8) (hm : IsMono m) (ok : monoOk zs m = true) (hi : i < zs.length) (hp : 0 < m.getD i 0)
    (ht:∀u∈im,IsTm u) (hk:∀u∈im,monoOk zs u.m=true) (hf:∀u∈im,1≤u.f∧u.f≤10006) (hs:Srt im):Two zs [⟨leftM m i,1⟩] im:=by
 have L:=left_mono h8 hm ok hi hp
 refine ⟨?_,ht,?_,?_,hf,hs⟩
 · intro t h;obtain rfl:t=⟨leftM m i,1⟩:=(by simpa using h);exact ⟨L,by dsimp only;omega,by dsimp only;omega⟩
 · intro t h u hu;obtain rfl:t=⟨leftM m i,1⟩:=(by simpa using h);exact (around_fit h8 hm ok (ht u hu).1 (hk u hu) hi hp).1
 · intro t h;obtain rfl:t=⟨leftM m i,1⟩:=(by simpa using h);exact ⟨by dsimp only;omega,by dsimp only;omega⟩
theorem two_back {zs m : List Int} {i : Nat} {im : List Tm} (h8 : zs.length ≤ 8) (hm : IsMono m) (ok : monoOk zs m = true) (hi : i < zs.length) (hp : 0 < m.getD i 0)
    (ht:∀u∈im,IsTm u) (hk:∀u∈im,monoOk zs u.m=true) (hf:∀u∈im,1≤u.f∧u.f≤10006) (hs:Srt im):Two zs (timesT zs im [] [⟨leftM m i,1⟩]) [⟨backM m i,1⟩]:=by
 have T1:=two_left h8 hm ok hi hp ht hk hf hs
 have K:=back_mono hm ok (show i<8 by omega)
 refine ⟨T1.tm,?_,?_,T1.good.nz,?_,List.pairwise_singleton _ _⟩
 · intro t h;obtain rfl:t=⟨backM m i,1⟩:=(by simpa using h);exact ⟨K,by dsimp only;omega,by dsimp only;omega⟩
 · intro t h u hu;obtain rfl:u=⟨backM m i,1⟩:=(by simpa using hu);refine times_all (p:=fun k=>FitW zs k (backM m i)) (by simp) (fun s hs u hu _=>?_) t h;obtain rfl:s=⟨leftM m i,1⟩:=(by simpa using hs);exact (around_fit h8 hm ok (ht u hu).1 (hk u hu) hi hp).2
 · intro t h;obtain rfl:t=⟨backM m i,1⟩:=(by simpa using h);exact ⟨by dsimp only;omega,by dsimp only;omega⟩
theorem own_len {zs l:List Int} {im:List Tm}:(timesT zs im [] [⟨l,1⟩]).length≤im.length:=by
 have:=times_len (zs:=zs) (gs:=im) [⟨l,1⟩] []
 simpa using this
theorem between_len {zs l r:List Int} {im:List Tm}:(between zs l r im).length≤im.length:=by
 have h1:=times_len (zs:=zs) (gs:=[⟨r,1⟩]) (timesT zs im [] [⟨l,1⟩]) []
 have h2:=own_len (zs:=zs) (l:=l) (im:=im)
 rw [List.length_nil,List.length_singleton,Nat.mul_one,Nat.zero_add] at h1
 exact Nat.le_trans h1 h2
structure Sum9 (out:List Tm) (N:Nat):Prop where
 tm:∀x∈out,IsTm x
 good:Good out
 len:out.length≤N
theorem Sum9.bd {out:List Tm} {N:Nat} (h:Sum9 out N):∀x∈out,0≤x.f∧x.f≤10006:=fun x hx=>by have:=h.good.nz x hx;omega
theorem Sum9.mono {out:List Tm} {N M:Nat} (h:Sum9 out N) (hN:N≤M):Sum9 out M:=⟨h.tm,h.good,Nat.le_trans h.len hN⟩
theorem sum9_nil:Sum9 [] 0:=⟨by simp,good_nil,by simp⟩
theorem Sum9.add {out gs:List Tm} {N M:Nat} (h:Sum9 out N) (k:Int) (g:Sum9 gs M):Sum9 (addT k out gs) (N+M):=by
 have hx:∀x,¬num x=0→1≤num x∧num x≤10006:=fun x h=>by have h1:=num_lo x;have h2:=num_hi x;omega
 refine ⟨addT_tm h.tm g.tm,⟨addT_srt _ _ h.good.len g.good.len h.good.srt g.good.srt,addT_all _ _ h.good.len (fun y hy _ _=>g.good.len y hy) (fun f hf _ _=>h.good.len f hf),addT_all _ _ h.good.nz (fun y _ x hn=>hx x hn) (fun f _ x hn=>hx x hn)⟩,?_⟩
 have:=addT_len (k:=k) out gs
 have:=h.len
 have:=g.len
 omega
theorem AlgOk.between {zs m:List Int} {ims:List (List Tm)} (h:AlgOk zs ims) {i:Nat} (hm:IsMono m) (ok:monoOk zs m=true) (hi:i<zs.length) (hp:0<m.getD i 0):Sum9 (between zs (leftM m i) (backM m i) (ims.getD i [])) 400:=by
 obtain ⟨h1,h2,h3,h4,h5⟩:=h.at_ i
 have T2:=two_back h.h8 hm ok hi hp h2 h3 h4 h5
 exact ⟨T2.tm,T2.good,Nat.le_trans between_len h1⟩
theorem AlgOk.term {zs:List Int} {ims:List (List Tm)} (h:AlgOk zs ims) {t:Tm} {out:List Tm} {N:Nat} (hm:IsMono t.m) (ok:monoOk zs t.m=true) (H:Sum9 out N):∀i:Nat,i≤zs.length→Sum9 (termT zs ims t out i) (N+i * 400)
 | 0,_=>by rw [termT];exact H.mono (by omega)
 | i + 1, hi => by
   have ih:=h.term hm ok H i (by omega);have hg:=getD_mono hm i;rw [termT];split
   · exact ih.mono (by omega)
   · exact (ih.add _ (h.between hm ok (by omega) (by omega))).mono (by omega)
theorem AlgOk.diff {zs:List Int} {ims:List (List Tm)} (h:AlgOk zs ims):∀(fs out:List Tm) (N:Nat),(∀t∈fs,IsTm t)→(∀t∈fs,monoOk zs t.m=true)→Sum9 out N→Sum9 (diffT zs ims out fs) (N+fs.length * 3200)
 | [],out,N,_,_,H=>H.mono (by omega)
 | t :: fs, out, N, ht, hk, H => by
   have h8:=h.h8;have:=h.diff fs _ _ (fun u hu=>ht u (by simp [hu])) (fun u hu=>hk u (by simp [hu])) (h.term (ht t (by simp)).1 (hk t (by simp)) H zs.length (Nat.le_refl _));refine this.mono ?_;rw [List.length_cons];omega
def closedB (zs:List Int) (ims:List (List Tm)) (fs:List Tm):Bool:=(diffT zs ims [] fs).length==0
theorem AlgOk.closed {zs:List Int} {ims:List (List Tm)} (h:AlgOk zs ims) {fs:List Tm} (ht:∀t∈fs,IsTm t) (hk:∀t∈fs,monoOk zs t.m=true):closedB zs ims fs=true↔∀m,IsMono m→diffS zs ims zeroL fs m=0:=by
 obtain ⟨e,-⟩:=diff_coef h.ims h.ln h.h8 fs [] zeroL (fun t hx=>(ht t hx).1) hk (fun _=>rfl) good_nil
 have S:=h.diff fs [] 0 ht hk sum9_nil
 rw [closedB]
 constructor
 · intro hh m _;have h0:diffT zs ims [] fs=[]:=List.length_eq_zero_iff.1 (by simpa using hh);rw [e m,h0];rfl
 · intro hh
   cases hT:diffT zs ims [] fs with
   | nil=>rfl
   | cons x xs =>
     rw [hT] at S;have h1:=hh x.m (S.tm x (by simp)).1;rw [e x.m,hT,coef_hit rfl] at h1;have:=S.good.nz x (by simp);omega
theorem termT_take {zs:List Int} {ims:List (List Tm)} {t:Tm} {fs:List Tm} {i:Nat} (h:fs[i]? = some t):diffT zs ims [] (fs.take (i+1))=termT zs ims t (diffT zs ims [] (fs.take i)) zs.length:=by
 rw [diffT,diffT,List.take_add_one,h,List.foldl_append];rfl
theorem wtTo_front {zs m:List Int} {i:Nat} (hl:m.length=8) (hi:i≤8):∀j:Nat,wtTo zs (frontM m i) j=wtTo zs m (min i j)
 | 0=>by rw [Nat.min_zero];rfl
 | j + 1 => by
   have ih:=wtTo_front (zs:=zs) hl hi j;rw [wtTo,ih];by_cases h:j<i
   · rw [show min i (j+1)=min i j+1 by omega,wtTo,show min i j=j by omega];congr 2
     rw [frontM,List.getD_eq_getElem?_getD,List.getElem?_append_left (by rw [List.length_take];omega),List.getElem?_take,if_pos h,←List.getD_eq_getElem?_getD]
   · rw [show min i (j+1)=min i j by omega]
     have:(frontM m i).getD j 0=0:=by
      rw [frontM,List.getD_eq_getElem?_getD,List.getElem?_append_right (by rw [List.length_take];omega),List.getElem?_replicate];split <;> rfl
     rw [this];omega
theorem wt_front {zs m:List Int} {i:Nat} (hl:m.length=8) (hz:zs.length≤8) (hi:i≤zs.length):wt zs (frontM m i)=wtTo zs m i:=by
 rw [wt,wtTo_front hl (by omega),Nat.min_eq_left hi]
def okIm (zs:List Int) (ims:List (List Tm)) (i:Nat):Bool:=zeroOr zs (ims.getD i []) (zs.getD i 0+1)
def okD (zs:List Int) (ims:List (List Tm)) (i:Nat):Bool:=closedB zs ims (ims.getD i [])
def allIm (zs:List Int) (ims:List (List Tm)):Bool:=(List.range ims.length).all (okIm zs ims)
def allD (zs:List Int) (ims:List (List Tm)):Bool:=(List.range ims.length).all (okD zs ims)
def isAlg (zs:List Int) (ims:List (List Tm)):Bool:=degsOk zs && (decide (ims.length=zs.length) && (allIm zs ims && allD zs ims))
theorem zeroOr_form {zs:List Int} {ts:List Tm} {x:Int} (h:zeroOr zs ts x=true):isForm zs ts=true:=by
 cases hf:isForm zs ts with
 | true=>rfl
 | false =>
   simp only [zeroOr,codF,hf,Bool.and_eq_true] at h;have h1:=h.1;simp at h1
theorem algOk_of {zs:List Int} {ims:List (List Tm)} (h1:degsOk zs=true) (h2:ims.length=zs.length) (h3:allIm zs ims=true) (ht:∀im∈ims,∀u∈im,IsTm u):AlgOk zs ims:=by
 refine ⟨degsOk_len h1,h2,fun im hi=>?_,ht⟩
 obtain ⟨i,hl,rfl⟩:=List.mem_iff_getElem.1 hi
 have:=List.all_eq_true.1 h3 i (by simpa using hl)
 have:=zeroOr_form this
 rwa [List.getD_eq_getElem?_getD,List.getElem?_eq_getElem hl] at this
theorem isAlg_ok {zs:List Int} {ims:List (List Tm)} (h:isAlg zs ims=true) (ht:∀im∈ims,∀u∈im,IsTm u):AlgOk zs ims:=by
 simp only [isAlg,Bool.and_eq_true,decide_eq_true_eq] at h
 exact algOk_of h.1 h.2.1 h.2.2.1 ht
end Go.Proofs.YtifcfoijcodjbaaGreat
