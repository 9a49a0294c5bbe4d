
import Derived.Test.YtndnkeijddagiaaShift
import Derived.Test.YtndnkeijddagiaaScaleS
namespace Go.Proofs.Ytndnkeijddagiaa
set_option maxRecDepth 100000
open Go.RowKit Go.Deep
theorem timesT_take {zs:List Int} {t:Tm} {out fs gs:List Tm} {i:Nat} (h:fs[i]? = some t):timesT zs gs out (fs.take (i+1))=addT 1 (timesT zs gs out (fs.take i)) (shiftT zs t gs):=by
 rw [timesT,timesT,List.take_add_one,h,List.foldl_append];rfl
theorem times_all {zs:List Int} {gs:List Tm} {p:List Int→Prop}:∀{fs out:List Tm},(∀x∈out,p x.m)→(∀t∈fs,∀u∈gs,¬joinS zs t.m u.m=0→p (joinM zs t.m u.m))→∀x∈timesT zs gs out fs,p x.m
 | [],out,ho,_=>ho
 | t :: fs, out, ho, h => by
   refine times_all (fs:=fs) (out:=addT 1 out (shiftT zs t gs)) (addT_all (p:=fun t=>p t.m) out _ ho (fun x hx _ _=>?_) (fun f hf _ _=>ho f hf)) (fun t ht=>h t (by simp [ht]));obtain ⟨u,hu,hj,hm,-⟩:=shiftT_mem hx;dsimp only;rw [hm];exact h t (by simp) u hu hj
theorem times_len {zs:List Int} {gs:List Tm}:∀(fs out:List Tm),(timesT zs gs out fs).length≤out.length+fs.length * gs.length
 | [],out=>by simp [timesT]
 | t :: fs, out => by
   have h1:=times_len (zs:=zs) (gs:=gs) fs (addT 1 out (shiftT zs t gs));have h2:=addT_len (k:=1) out (shiftT zs t gs);have h3:=shiftT_len zs t gs;show (timesT zs gs (addT 1 out (shiftT zs t gs)) fs).length≤_
   rw [List.length_cons,Nat.add_mul,Nat.one_mul];omega
structure Two (zs:List Int) (fs gs:List Tm):Prop where
 t1:∀t∈fs,IsTm t
 t2:∀t∈gs,IsTm t
 fit:∀t∈fs,∀u∈gs,FitW zs t.m u.m
 f1:∀t∈fs,1≤t.f∧t.f≤10006
 f2:∀t∈gs,1≤t.f∧t.f≤10006
 s2:Srt gs
theorem Two.take {zs:List Int} {fs gs:List Tm} (h:Two zs fs gs) (i:Nat):Two zs (fs.take i) gs:=
 ⟨fun t ht=>h.t1 t (List.mem_of_mem_take ht),h.t2,fun t ht=>h.fit t (List.mem_of_mem_take ht),fun t ht=>h.f1 t (List.mem_of_mem_take ht),h.f2,h.s2⟩
theorem Two.good {zs:List Int} {fs gs:List Tm} (h:Two zs fs gs):Good (timesT zs gs [] fs):=
 (times_coef (zs:=zs) (fun g hg=>(h.t2 g hg).1.1) h.s2 fs [] (coef []) (fun t ht=>(h.t1 t ht).1.1) good_nil (fun _=>rfl)).2
theorem Two.tm {zs:List Int} {fs gs:List Tm} (h:Two zs fs gs):∀x∈timesT zs gs [] fs,IsTm x:=by
 intro x hx
 have hm:IsMono x.m:=times_all (p:=IsMono) (by simp) (fun t ht u hu _=>joinM_monoW (h.fit t ht u hu)) x hx
 have:=h.good.nz x hx
 exact ⟨hm,by omega,by omega⟩
theorem Two.shift_tm {zs:List Int} {fs gs:List Tm} (h:Two zs fs gs) {t:Tm} (ht:t∈fs):∀x∈shiftT zs t gs,IsTm x:=by
 intro x hx
 have h1:=shiftT_bd x hx
 obtain ⟨u,hu,hj,hm,-⟩:=shiftT_mem hx
 exact ⟨by rw [hm];exact joinM_monoW (h.fit t ht u hu),by omega,by omega⟩
theorem cellsT9 {w':World} {F0 g1 n1 c1 n2 c2 b1 o1 i:Nat} {a2:Option Addr} {p0 p1 p2 p3 p4 p5 p6 p7 tf:Int} {t1 t2:TypeId} (hF:Own w' F0 t1 #[.slice (some ⟨b1,o1,none⟩) n1 c1]) (hG:Own w' g1 t2 #[.slice a2 n2 c2]) (h1:w'.rangeAt b1 (o1+i * 9) (tcells ⟨[p0,p1,p2,p3,p4,p5,p6,p7],tf⟩)):w'.cell? ⟨F0,0,none⟩=some (.slice (some ⟨b1,o1,none⟩) n1 c1)∧w'.cell? ⟨g1,0,none⟩=some (.slice a2 n2 c2)∧w'.cell? ⟨b1,o1+i * 9,none⟩=some (.int .u8 p0)∧w'.cell? ⟨b1,o1+i * 9+1,none⟩=some (.int .u8 p1)∧w'.cell? ⟨b1,o1+i * 9+2,none⟩=some (.int .u8 p2)∧w'.cell? ⟨b1,o1+i * 9+3,none⟩=some (.int .u8 p3)∧w'.cell? ⟨b1,o1+i * 9+4,none⟩=some (.int .u8 p4)∧w'.cell? ⟨b1,o1+i * 9+5,none⟩=some (.int .u8 p5)∧w'.cell? ⟨b1,o1+i * 9+6,none⟩=some (.int .u8 p6)∧w'.cell? ⟨b1,o1+i * 9+7,none⟩=some (.int .u8 p7)∧w'.cell? ⟨b1,o1+i * 9+8,none⟩=some (.int .i64 tf):=
 ⟨hF.cell 0,hG.cell 0,h1 0 _ rfl,h1 1 _ rfl,h1 2 _ rfl,h1 3 _ rfl,h1 4 _ rfl,h1 5 _ rfl,h1 6 _ rfl,h1 7 _ rfl,h1 8 _ rfl⟩
set_option maxHeartbeats 8000000 in
theorem l01Times_c {w : World} {da : Option Addr} {dn : Nat} {zs : List Int} {a1 a2 : Option Addr} {n1 n2 : Nat} {fs gs : List Tm} (dc c1 c2 : Nat) (hd : Ints w da dn zs) (h1 : Terms w a1 n1 fs) (hn1 : n1 ≤ 400) (h2 : Terms w a2 n2 gs) (hn2 : n2 ≤ 400) (HT : Two zs fs gs) :
    Calls Try.prog 107 #[.slice da dn dc,.agg #[.slice a1 n1 c1],.agg #[.slice a2 n2 c2]] w fun e w'=>∃v,e=.returned (.agg #[v])∧OwnForm w' w.heap.size v (timesT zs gs [] fs)∧Below w.heap.size w w':=by
 have HL1:=Lib.hid h1.len
 have HL2:=Lib.hid h2.len
 have HF2:=Lib.hid HT.f2
 have HTW:=Lib.hid HT
 clear HT
 have hF:=(((Own.new w 47 #[.slice a1 n1 c1]).alloc (.cells #[.slice a2 n2 c2] 47)).alloc (.cells #[.slice none 0 0] 47)).alloc (.cells #[.slice none 0 0] 47)
 have hG:=((Own.new (w.alloc (.cells #[.slice a1 n1 c1] 47)) 47 #[.slice a2 n2 c2]).alloc (.cells #[.slice none 0 0] 47)).alloc (.cells #[.slice none 0 0] 47)
 have hR:=(Own.new ((w.alloc (.cells #[.slice a1 n1 c1] 47)).alloc (.cells #[.slice a2 n2 c2] 47)) 47 #[.slice none 0 0]).alloc (.cells #[.slice none 0 0] 47)
 have hV:=Own.new (((w.alloc (.cells #[.slice a1 n1 c1] 47)).alloc (.cells #[.slice a2 n2 c2] 47)).alloc (.cells #[.slice none 0 0] 47)) 47 #[.slice none 0 0]
 simp only [sAl] at hG hR hV
 have hb:=bTn (bTn (bTn (bA1 w (.cells #[.slice a1 n1 c1] 47)) (bA1 _ (.cells #[.slice a2 n2 c2] 47))) (bA1 _ (.cells #[.slice none 0 0] 47))) (bA1 _ (.cells #[.slice none 0 0] 47))
 go_enter Try.func107,Try.ntmps107
 go_wp2_with fail
 generalize (((w.alloc (.cells #[.slice a1 n1 c1] 47)).alloc (.cells #[.slice a2 n2 c2] 47)).alloc (.cells #[.slice none 0 0] 47)).alloc (.cells #[.slice none 0 0] 47)=w0 at *
 generalize hg7:w.heap.size+1+1+1=g7 at *
 generalize hg6:w.heap.size+1+1=g6 at *
 generalize hg1:w.heap.size+1=g1 at *
 go_loopw [8] (fun y wr=>∃(i:Nat) (v:Value),i≤n1∧y=.int .i64 i∧Below w.heap.size w wr∧Own wr w.heap.size 47 #[.slice a1 n1 c1]∧Own wr g1 47 #[.slice a2 n2 c2]∧Own wr g6 47 #[.slice none 0 0]∧Own wr g7 47 #[v]∧OwnForm wr (g7+1) v (timesT zs gs [] (fs.take i))) (fun y _=>n1 - (intOf y).toNat)
 case atStart=>exact ⟨0,.slice none 0 0,Nat.zero_le _,rfl,hb,hF,hG,hR,hV,by rw [List.take_zero];exact ⟨World.ownsRow_nil _ _ _ _,by simp [timesT]⟩⟩
 case round=>
  clear hb hF hG hR hV;obtain ⟨i,v,hi,rfl,hb,hF,hG,hR,hV,hO⟩:=hrel;have hw2:=HTW.out.take i;obtain ⟨vn,hvn⟩:∃vn,(timesT zs gs [] (fs.take i)).length=vn:=⟨_,rfl⟩;obtain ⟨va,vc,rfl,-⟩:=hO.r.terms hw2.tm hvn;have cF:=hF.cell 0;by_cases hlt:i<n1
  · obtain ⟨b1,o1,t,rfl,hbl1,hr10,ht,hx⟩:=h1.at_ hlt;have htm:=List.mem_of_getElem? hx.out;have HST:=Lib.hid (HTW.out.shift_tm htm);have HSF:=Lib.hid (shiftT_bd (zs:=zs) (t:=t) (gs:=gs));have htf:=HTW.out.f1 t htm;have HO2:=Lib.hid (HTW.out.fit t htm)
    have hvb:vn≤160000:=by
     have h3:=times_len (zs:=zs) (gs:=gs) (fs.take i) [];have h4:=HL2.out;rw [List.length_take,h4,hvn,List.length_nil] at h3;have h5:min i fs.length * n2≤400 * 400:=Nat.mul_le_mul (by omega) hn2;omega
    have HOT:=Lib.hid hw2.tm;have HOF:=Lib.hid (fun x hx=>(show 0≤x.f∧x.f≤10006 by have:=hw2.good.nz x hx;omega):∀x∈timesT zs gs [] (fs.take i),0≤x.f∧x.f≤10006);obtain ⟨sn,hsn⟩:∃sn,(shiftT zs t gs).length=sn:=⟨_,rfl⟩;have hsb:sn≤400:=(by have:=shiftT_len zs t gs;have:=HL2.out;omega);have HSN:=Lib.hid hsn;clear hsn hvn hw2 htm;obtain ⟨mt,tf⟩:=t;have hmt:IsMono mt:=ht.1;obtain ⟨p0,p1,p2,p3,p4,p5,p6,p7,rfl⟩:=mono8 hmt;have hi0:(0:Int)≤(i:Int):=(by omega);have hin:(i:Int)<(n1:Int):=(by omega);have hgw:=hV.lt;go_upto_region 5 with fail
    clear cF;replace hF:Own wr.drew w.heap.size 47 #[.slice (some ⟨b1,o1,none⟩) n1 c1]:=hF;replace hG:Own wr.drew g1 47 #[.slice a2 n2 c2]:=hG;replace hR:Own wr.drew g6 47 #[.slice none 0 0]:=hR;replace hV:Own wr.drew g7 47 #[.slice va vn vc]:=hV;replace hO:OwnForm wr.drew (g7+1) (.slice va vn vc) (timesT zs gs [] (fs.take i)):=hO;replace hb:Below w.heap.size w wr.drew:=hb.drew;have hr1:=rgK hr10 (hb.block b1 hbl1);have cV:=hV.cell 0;refine wp_region_held_drew (S:=(fun w'=>w'.cell? ⟨w.heap.size,0,none⟩=some (.slice (some ⟨b1,o1,none⟩) n1 c1)∧w'.cell? ⟨g1,0,none⟩=some (.slice a2 n2 c2)∧w'.cell? ⟨b1,o1+i * 9,none⟩=some (.int .u8 p0)∧w'.cell? ⟨b1,o1+i * 9+1,none⟩=some (.int .u8 p1)∧w'.cell? ⟨b1,o1+i * 9+2,none⟩=some (.int .u8 p2)∧w'.cell? ⟨b1,o1+i * 9+3,none⟩=some (.int .u8 p3)∧w'.cell? ⟨b1,o1+i * 9+4,none⟩=some (.int .u8 p4)∧w'.cell? ⟨b1,o1+i * 9+5,none⟩=some (.int .u8 p5)∧w'.cell? ⟨b1,o1+i * 9+6,none⟩=some (.int .u8 p6)∧w'.cell? ⟨b1,o1+i * 9+7,none⟩=some (.int .u8 p7)∧w'.cell? ⟨b1,o1+i * 9+8,none⟩=some (.int .i64 tf))) (by kernel_rfl) ?_ (fun hHeld=>?_)
    · ((try dsimp only);(exact cellsT9 hF hG hr1))
    refine hdT 1 ?_;refine hdT 2 ?_;refine hdT 3 ?_;refine hdT 4 ?_;refine hdT 5 ?_;refine hdT 6 ?_;refine hdT 7 ?_;refine wpAnyH_ready (rs:=[0,8]) (by kernel_rfl) (by simp) ?_;refine AllReadyH.cons (hdAt (i:=0) rfl) (fun K hK=>?_) (AllReadyH.cons (hdAt (i:=8) rfl) (fun K hK=>?_) AllReadyH.nil)
    · (go_simp;try go_wp2_with fail)
      refine hK.out _ _ ?_ (fun _=>?_)
      · ((try dsimp only);(exact cellsT9 hF hG hr1))
      clear hK K
      (try simp only [Act.put,pA,pB,pC])
      refine hdC 8 (fun K hK=>?_)
      (go_simp;(go_at_call 128;(refine (l01Shift_c dc c2 (hd.keep hb) hmt htf (h2.keep hb) hn2 HF2.out HO2.out).mono ?_);rintro e wS ⟨v2,rfl,hSh,hbS⟩;obtain ⟨ua,uc,rfl,htS⟩:=hSh.r.terms HST.out HSN.out;clear hSh;replace hb:=bT' hb hbS hb.size;replace hF:=hF.keep hbS hF.lt;replace hG:=hG.keep hbS hG.lt;replace hR:=hR.keep hbS hR.lt;replace hV:=hV.keep hbS hV.lt;replace hO:=hO.keep hbS;replace hr1:=rgK hr10 (hb.block b1 hbl1);clear hbS);go_wp2_with fail)
      refine hK.out _ _ ?_ (fun _=>?_)
      · ((try dsimp only);(exact cellsT9 hF hG hr1))
      clear hK K
      (try simp only [Act.put,pA,pB,pC])
      refine hdC 9 (fun K hK=>?_)
      (go_simp;(go_at_call 109;(refine (l01Add_c vc uc 1 (by omega) (by omega) (hO.r.read HOT.out) (Terms.keep htS (Below.refl _ _)) (by omega) HOF.out HSF.out).mono ?_);rintro e wA ⟨v3,rfl,hA,hbA⟩;obtain ⟨xa,xn,xc,rfl⟩:=hA.isSlice;have hvl:=hV.lt;replace hb:=bT' hb hbA hb.size;replace hF:=hF.keep hbA hF.lt;replace hG:=hG.keep hbA hG.lt;replace hR:=hR.keep hbA hR.lt;replace hV:=hV.keep hbA hV.lt;replace hO:=hO.keep hbA;replace hr1:=rgK hr10 (hb.block b1 hbl1);clear hbA);go_wp2_with fail)
      have c7:=hV.cell 0;have f7:=hV.frozen 0;refine hK.out _ _ ?_ (fun _=>?_)
      · ((try dsimp only);(exact cellsT9 hF hG hr1))
      clear hK K
      (try simp only [Act.put,pA,pB,pC])
      refine hdC 10 (fun K hK=>?_)
      (go_simp;go_wp2_with fail)
      replace hF:=hF.far (p:=⟨g7,0,none⟩) (by dsimp only;omega) (.slice xa xn xc);replace hG:=hG.far (p:=⟨g7,0,none⟩) (by dsimp only;omega) (.slice xa xn xc);replace hR:=hR.far (p:=⟨g7,0,none⟩) (by dsimp only;omega) (.slice xa xn xc);replace hb:=hb.setCell (p:=⟨g7,0,none⟩) (by dsimp only;omega) (.slice xa xn xc);replace hr1:=rgK hr10 (hb.block b1 hbl1);refine hK.out _ _ ?_ (fun _=>?_)
      · ((try dsimp only);(exact cellsT9 hF hG hr1))
      clear hK K
      (try simp only [Act.put,pA,pB,pC])
      refine wpAnyH_done (by kernel_rfl) ?_ _;go_wp2_with fail
      go_roundw
      case rel=>
       refine ⟨i+1,.slice xa xn xc,by omega,by go_num,hb,hF,hG,hR,hV.set 0 _,?_⟩;rw [timesT_take hx.out];exact (OwnForm.set (p:=⟨g7,0,none⟩) (hA.weaken (B':=g7+1) (by omega)) (by dsimp only;omega) _)
      case measure=>simp [intOf] <;> omega
    · (go_simp;(go_at_call 128;(refine (l01Shift_c dc c2 (hd.keep hb) hmt htf (h2.keep hb) hn2 HF2.out HO2.out).mono ?_);rintro e wS ⟨v2,rfl,hSh,hbS⟩;obtain ⟨ua,uc,rfl,htS⟩:=hSh.r.terms HST.out HSN.out;clear hSh;replace hb:=bT' hb hbS hb.size;replace hF:=hF.keep hbS hF.lt;replace hG:=hG.keep hbS hG.lt;replace hR:=hR.keep hbS hR.lt;replace hV:=hV.keep hbS hV.lt;replace hO:=hO.keep hbS;replace hr1:=rgK hr10 (hb.block b1 hbl1);clear hbS);go_wp2_with fail)
      refine hK.out _ _ ?_ (fun _=>?_)
      · ((try dsimp only);(exact cellsT9 hF hG hr1))
      clear hK K
      (try simp only [Act.put,pA,pB,pC])
      have cVb:=hV.cell 0;refine hdC 0 (fun K hK=>?_)
      (go_simp;try go_wp2_with fail)
      refine hK.out _ _ ?_ (fun _=>?_)
      · ((try dsimp only);(exact cellsT9 hF hG hr1))
      clear hK K
      (try simp only [Act.put,pA,pB,pC])
      refine hdC 9 (fun K hK=>?_)
      (go_simp;(go_at_call 109;(refine (l01Add_c vc uc 1 (by omega) (by omega) (hO.r.read HOT.out) (Terms.keep htS (Below.refl _ _)) (by omega) HOF.out HSF.out).mono ?_);rintro e wA ⟨v3,rfl,hA,hbA⟩;obtain ⟨xa,xn,xc,rfl⟩:=hA.isSlice;have hvl:=hV.lt;replace hb:=bT' hb hbA hb.size;replace hF:=hF.keep hbA hF.lt;replace hG:=hG.keep hbA hG.lt;replace hR:=hR.keep hbA hR.lt;replace hV:=hV.keep hbA hV.lt;replace hO:=hO.keep hbA;replace hr1:=rgK hr10 (hb.block b1 hbl1);clear hbA);go_wp2_with fail)
      have c7:=hV.cell 0;have f7:=hV.frozen 0;refine hK.out _ _ ?_ (fun _=>?_)
      · ((try dsimp only);(exact cellsT9 hF hG hr1))
      clear hK K
      (try simp only [Act.put,pA,pB,pC])
      refine hdC 10 (fun K hK=>?_)
      (go_simp;go_wp2_with fail)
      replace hF:=hF.far (p:=⟨g7,0,none⟩) (by dsimp only;omega) (.slice xa xn xc);replace hG:=hG.far (p:=⟨g7,0,none⟩) (by dsimp only;omega) (.slice xa xn xc);replace hR:=hR.far (p:=⟨g7,0,none⟩) (by dsimp only;omega) (.slice xa xn xc);replace hb:=hb.setCell (p:=⟨g7,0,none⟩) (by dsimp only;omega) (.slice xa xn xc);replace hr1:=rgK hr10 (hb.block b1 hbl1);refine hK.out _ _ ?_ (fun _=>?_)
      · ((try dsimp only);(exact cellsT9 hF hG hr1))
      clear hK K
      (try simp only [Act.put,pA,pB,pC])
      refine wpAnyH_done (by kernel_rfl) ?_ _;go_wp2_with fail
      go_roundw
      case rel=>
       refine ⟨i+1,.slice xa xn xc,by omega,by go_num,hb,hF,hG,hR,hV.set 0 _,?_⟩;rw [timesT_take hx.out];exact (OwnForm.set (p:=⟨g7,0,none⟩) (hA.weaken (B':=g7+1) (by omega)) (by dsimp only;omega) _)
      case measure=>simp [intOf] <;> omega
  · have he:i=n1:=(by omega);subst he;rw [List.take_of_length_le (Nat.le_of_eq HL1.out)] at hO;have c3:=hV.cell 0;have cR:=hR.cell 0;have fR:=hR.frozen 0;go_wp2_with fail
    have q:=hR.set 0 (.slice va vn vc);exact bodyPost_ret (results_cell_row rfl _ _ g6 47 #[.slice va vn vc] (0,0) _ rfl q Try.underlying47 rfl Try.info_form) rfl ⟨.slice va vn vc,rfl,(hO.set (p:=⟨g6,0,none⟩) (by dsimp only;omega) _).weaken (by omega),hb.setCell (p:=⟨g6,0,none⟩) (by dsimp only;omega) _⟩
end Go.Proofs.Ytndnkeijddagiaa
