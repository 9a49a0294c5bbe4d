
import Derived.Test.YtikldofmpkidbaaMerge
import Derived.Test.YtikldofmpkidbaaToldF
namespace Go.Proofs.Ytikldofmpkidbaa
set_option maxRecDepth 100000
open Go.RowKit Go.Deep
def addV (zs:List Int) (fs gs:List Tm):List Tm:=if isForm zs fs=true∧isForm zs gs=true∧(addT 1 fs gs).length≤400 then addT 1 fs gs else []
def addE (zs:List Int) (fs gs:List Tm):Int:=if isForm zs fs=true∧isForm zs gs=true then (if (addT 1 fs gs).length≤400 then 0 else 3) else 1
theorem addE_1 {zs:List Int} {fs gs:List Tm} (h:isForm zs fs=false∨isForm zs gs=false):addE zs fs gs=1∧addV zs fs gs=[]:=by
 have h1:¬(isForm zs fs=true∧isForm zs gs=true):=fun ⟨a,b⟩=>by rcases h with h | h <;> simp [h] at a b
 exact ⟨by rw [addE,if_neg h1],by rw [addV,if_neg (fun h2=>h1 ⟨h2.1,h2.2.1⟩)]⟩
theorem addE_0 {zs:List Int} {fs gs:List Tm} (h1:isForm zs fs=true) (h2:isForm zs gs=true) (h:(addT 1 fs gs).length≤400):addE zs fs gs=0∧addV zs fs gs=addT 1 fs gs:=
 ⟨by rw [addE,if_pos ⟨h1,h2⟩,if_pos h],by rw [addV,if_pos ⟨h1,h2,h⟩]⟩
theorem addE_3 {zs:List Int} {fs gs:List Tm} (h1:isForm zs fs=true) (h2:isForm zs gs=true) (h:¬(addT 1 fs gs).length≤400):addE zs fs gs=3∧addV zs fs gs=[]:=
 ⟨by rw [addE,if_pos ⟨h1,h2⟩,if_neg h],by rw [addV,if_neg (fun h3=>h h3.2.2)]⟩
set_option maxHeartbeats 8000000 in
theorem AddForms_c {w : World} {da : Option Addr} {dn : Nat} {zs : List Int} {b1 o1 b2 o2 n1 n2 : Nat} {fs gs : List Tm} (dc c1 c2 : Nat) (hd : Ints w da dn zs) (hdn : dn ≤ 1048576) (h1 : Terms w (some ⟨b1, o1, none⟩) n1 fs) (hn1 : n1 ≤ 1048576) (hc1 : n1 ≤ c1) (h2 : Terms w (some ⟨b2, o2, none⟩) n2 gs) (hn2 : n2 ≤ 1048576) (hc2 : n2 ≤ c2) :
    Calls Try.prog 73 #[.slice da dn dc,.agg #[.slice (some ⟨b1,o1,none⟩) n1 c1],.agg #[.slice (some ⟨b2,o2,none⟩) n2 c2]] w fun e w'=>∃v,e=.returned (.tuple #[.agg #[v],.int .i64 (addE zs fs gs)])∧OwnR w' w.heap.size v (addV zs fs gs)∧Below w.heap.size w w':=by
 have HL:=Lib.hid hd.len
 have hF:=((Own.new w 61 #[.slice (some ⟨b1,o1,none⟩) n1 c1]).alloc (.cells #[.slice (some ⟨b2,o2,none⟩) n2 c2] 61)).alloc (.cells #[.slice none 0 0] 61)
 have hG:=(Own.new (w.alloc (.cells #[.slice (some ⟨b1,o1,none⟩) n1 c1] 61)) 61 #[.slice (some ⟨b2,o2,none⟩) n2 c2]).alloc (.cells #[.slice none 0 0] 61)
 have hR:=Own.new ((w.alloc (.cells #[.slice (some ⟨b1,o1,none⟩) n1 c1] 61)).alloc (.cells #[.slice (some ⟨b2,o2,none⟩) n2 c2] 61)) 61 #[.slice none 0 0]
 simp only [sAl] at hG hR
 have hb:=bTn (bTn (bA1 w (.cells #[.slice (some ⟨b1,o1,none⟩) n1 c1] 61)) (bA1 _ (.cells #[.slice (some ⟨b2,o2,none⟩) n2 c2] 61))) (bA1 _ (.cells #[.slice none 0 0] 61))
 have cF:=hF.cell 0
 have cG:=hG.cell 0
 generalize hg6:w.heap.size+1+1=g6 at *
 generalize hg1:w.heap.size+1=g1 at *
 cases i1:isForm zs fs with
 | false =>
   have hE:=Lib.hid (addE_1 (gs:=gs) (Or.inl i1));have I1:=Lib.hid i1;clear i1;go_enter Try.func73,Try.ntmps73
   go_upto_region 1 with fail
   generalize ((w.alloc (.cells #[.slice (some ⟨b1,o1,none⟩) n1 c1] 61)).alloc (.cells #[.slice (some ⟨b2,o2,none⟩) n2 c2] 61)).alloc (.cells #[.slice none 0 0] 61)=w0 at *
   try simp only [hg6,hg1]
   go_wp2_with fail
   refine (IsForm_c dc c1 (hd.keep hb) hdn (h1.keep hb) hn1).mono ?_;rintro e w1 ⟨rfl,hb1⟩;rw [I1.out];clear cF cG;replace hb:=bT' hb hb1 hb.size;replace hF:=hF.keep hb1 hF.lt;replace hG:=hG.keep hb1 hG.lt;replace hR:=hR.keep hb1 hR.lt;clear hb1;have cR:=hR.cell 0;have fR:=hR.frozen 0;go_wp2_with fail
   have q:=hR.set 0 (.slice none 0 0);refine bodyPost_ret (results_row2 rfl _ _ g6 61 #[.slice none 0 0] (0,0) _ rfl q Try.underlying61 rfl Try.info_form) rfl ⟨.slice none 0 0,by rw [hE.out.1];rfl,?_,hb.setCell (p:=⟨g6,0,none⟩) (by dsimp only;omega) _⟩;rw [hE.out.2];exact ownR_nil _ _
 | true =>
   have I1:=Lib.hid i1
   cases i2:isForm zs gs with
   | false =>
     have hE:=Lib.hid (addE_1 (fs:=fs) (Or.inr i2));have I2:=Lib.hid i2;clear i1 i2;go_enter Try.func73,Try.ntmps73
     go_upto_region 1 with fail
     generalize ((w.alloc (.cells #[.slice (some ⟨b1,o1,none⟩) n1 c1] 61)).alloc (.cells #[.slice (some ⟨b2,o2,none⟩) n2 c2] 61)).alloc (.cells #[.slice none 0 0] 61)=w0 at *
     try simp only [hg6,hg1]
     go_wp2_with fail
     refine (IsForm_c dc c1 (hd.keep hb) hdn (h1.keep hb) hn1).mono ?_;rintro e w1 ⟨rfl,hb1⟩;rw [I1.out];clear cF cG;replace hb:=bT' hb hb1 hb.size;replace hF:=hF.keep hb1 hF.lt;replace hG:=hG.keep hb1 hG.lt;replace hR:=hR.keep hb1 hR.lt;clear hb1;have cG:=hG.cell 0;go_wp2_with fail
     clear cG;refine (IsForm_c dc c2 (hd.keep hb) hdn (h2.keep hb) hn2).mono ?_;rintro e w2 ⟨rfl,hb2⟩;rw [I2.out];replace hb:=bT' hb hb2 hb.size;replace hF:=hF.keep hb2 hF.lt;replace hG:=hG.keep hb2 hG.lt;replace hR:=hR.keep hb2 hR.lt;clear hb2;have cR:=hR.cell 0;have fR:=hR.frozen 0;go_wp2_with fail
     have q:=hR.set 0 (.slice none 0 0);refine bodyPost_ret (results_row2 rfl _ _ g6 61 #[.slice none 0 0] (0,0) _ rfl q Try.underlying61 rfl Try.info_form) rfl ⟨.slice none 0 0,by rw [hE.out.1];rfl,?_,hb.setCell (p:=⟨g6,0,none⟩) (by dsimp only;omega) _⟩;rw [hE.out.2];exact ownR_nil _ _
   | true =>
     have I2:=Lib.hid i2;have hl1:=h1.len;have hl2:=h2.len;have f1:=isForm_400 i1;have f2:=isForm_400 i2;obtain ⟨nR,hnR⟩:∃nR,(addT 1 fs gs).length=nR:=⟨_,rfl⟩;have hE0:=fun h=>Lib.hid (addE_0 i1 i2 (by rw [hnR];exact h));have hE3:=fun h=>Lib.hid (addE_3 i1 i2 (by rw [hnR];exact h));have HM:=Lib.hid (isForm_f i1);have HM2:=Lib.hid (isForm_f i2);have HN:=Lib.hid hnR;have HT:=Lib.hid (addT_tm (k:=1) h1.2.1 h2.2.1);clear i1 i2 hnR;go_enter Try.func73,Try.ntmps73
     go_upto_region 1 with fail
     generalize ((w.alloc (.cells #[.slice (some ⟨b1,o1,none⟩) n1 c1] 61)).alloc (.cells #[.slice (some ⟨b2,o2,none⟩) n2 c2] 61)).alloc (.cells #[.slice none 0 0] 61)=w0 at *
     try simp only [hg6,hg1]
     go_wp2_with fail
     refine (IsForm_c dc c1 (hd.keep hb) hdn (h1.keep hb) hn1).mono ?_;rintro e w1 ⟨rfl,hb1⟩;rw [I1.out];clear cF cG;replace hb:=bT' hb hb1 hb.size;replace hF:=hF.keep hb1 hF.lt;replace hG:=hG.keep hb1 hG.lt;replace hR:=hR.keep hb1 hR.lt;clear hb1;have cG:=hG.cell 0;go_wp2_with fail
     clear cG;refine (IsForm_c dc c2 (hd.keep hb) hdn (h2.keep hb) hn2).mono ?_;rintro e w2 ⟨rfl,hb2⟩;rw [I2.out];replace hb:=bT' hb hb2 hb.size;replace hF:=hF.keep hb2 hF.lt;replace hG:=hG.keep hb2 hG.lt;replace hR:=hR.keep hb2 hR.lt;clear hb2;have cF:=hF.cell 0;have cG:=hG.cell 0;go_wp2_with fail
     clear cF cG;refine (mergeTerms_c c1 c2 (h1.keep hb) (h2.keep hb) hc1 hc2 (by omega) HM.out HM2.out).mono ?_;rintro e w3 ⟨v,rfl,hO,hb3⟩;obtain ⟨va,vc,rfl,-⟩:=hO.terms HT.out HN.out;have hl6:=hR.lt;replace hb:=bT' hb hb3 hb.size;replace hF:=hF.keep hb3 hF.lt;replace hG:=hG.keep hb3 hG.lt;replace hR:=hR.keep hb3 hR.lt;clear hb3;have cR:=hR.cell 0;have fR:=hR.frozen 0;by_cases h4:nR≤400
     · have hE:=hE0 h4;clear hE0 hE3;have h5:¬((400:Int)<(nR:Int)):=(by omega);go_wp2_with fail
       have q:=hR.set 0 (.slice va nR vc);refine bodyPost_ret (results_row2 rfl _ _ g6 61 #[.slice va nR vc] (0,0) _ rfl q Try.underlying61 rfl Try.info_form) rfl ⟨.slice va nR vc,by rw [hE.out.1];rfl,?_,hb.setCell (p:=⟨g6,0,none⟩) (by dsimp only;omega) _⟩;rw [hE.out.2];exact (hO.set (p:=⟨g6,0,none⟩) (by dsimp only;omega) _).weaken (by omega)
     · have hE:=hE3 h4;clear hE0 hE3;have h5:(400:Int)<(nR:Int):=(by omega);go_wp2_with fail
       have q:=hR.set 0 (.slice none 0 0);refine bodyPost_ret (results_row2 rfl _ _ g6 61 #[.slice none 0 0] (0,0) _ rfl q Try.underlying61 rfl Try.info_form) rfl ⟨.slice none 0 0,by rw [hE.out.1];rfl,?_,hb.setCell (p:=⟨g6,0,none⟩) (by dsimp only;omega) _⟩;rw [hE.out.2];exact ownR_nil _ _
end Go.Proofs.Ytikldofmpkidbaa
