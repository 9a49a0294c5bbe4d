
import Derived.Test.YtfheammnkmjabaaGreatFill
import Derived.Test.YtfheammnkmjabaaGreatAlgS
import Derived.Test.YtfheammnkmjabaaGreatAddM
namespace Go.Proofs.YtfheammnkmjabaaGreat
set_option maxRecDepth 100000
open Go.RowKit Go.Deep
def moE (zs:List Int) (x:Int):Int:=if degsOk zs=false then 1 else if ¬(0≤x∧x≤40) then 2 else if 400<cnt zs x.toNat then 3 else 0
def moV (zs:List Int) (x:Int):List (List Int):=if moE zs x=0 then ext [] (mons zs x.toNat) else []
theorem mo_err {zs:List Int} {x e:Int} (h:moE zs x=e) (h0:¬e=0):moE zs x=e∧moV zs x=[]:=⟨h,by rw [moV,if_neg (by rw [h];exact h0)]⟩
theorem mo_1 {zs:List Int} {x:Int} (h:degsOk zs=false):moE zs x=1:=by simp [moE,h]
theorem mo_2 {zs:List Int} {x:Int} (h:degsOk zs=true) (h2:¬(0≤x∧x≤40)):moE zs x=2:=by rw [moE,if_neg (by simp [h]),if_pos h2]
theorem mo_3 {zs:List Int} {r:Nat} (h:degsOk zs=true) (h2:r≤40) (h3:400<cnt zs r):moE zs r=3:=by
 rw [moE,if_neg (by simp [h]),if_neg (by omega),if_pos (by simpa using h3)]
theorem mo_0 {zs:List Int} {r:Nat} (h:degsOk zs=true) (h2:r≤40) (h3:¬400<cnt zs r):moE zs r=0∧moV zs r=ext [] (mons zs r):=by
 have e:moE zs r=0:=by rw [moE,if_neg (by simp [h]),if_neg (by omega),if_neg (by simpa using h3)]
 exact ⟨e,by rw [moV,if_pos e];simp⟩
def OwnM (w:World) (lo hi:Nat) (a:Option Addr) (n:Nat) (V:List (List Int)):Prop:=
 V.length=n∧(∀m∈V,IsMono m)∧(0<n→∃g cs,a=some ⟨g,0,none⟩∧lo≤g∧g<hi∧Own w g 69 cs∧n * 8≤cs.size∧∀(j:Nat) (v:Value),(mrowsV V)[j]? = some v→cs[j]? = some v)
theorem OwnM.none_ {w:World} {lo hi:Nat}:OwnM w lo hi none 0 []:=⟨rfl,by simp,fun h=>absurd h (by omega)⟩
theorem OwnM.keep {w w':World} {lo hi n:Nat} {a:Option Addr} {V:List (List Int)} (h:OwnM w lo hi a n V) (hb:Below w.heap.size w w'):OwnM w' lo hi a n V:=
 ⟨h.1,h.2.1,fun hn=>by obtain ⟨g,cs,h1,h2,h3,h4,h5⟩:=h.2.2 hn;exact ⟨g,cs,h1,h2,h3,h4.keep hb h4.lt,h5⟩⟩
theorem OwnM.touch {w w':World} {lo hi n:Nat} {a:Option Addr} {V:List (List Int)} {p:Nat→Prop} (h:OwnM w lo hi a n V) (ht:Touch p w w') (hp:∀g,lo≤g→g<hi→¬p g):OwnM w' lo hi a n V:=
 ⟨h.1,h.2.1,fun hn=>by obtain ⟨g,cs,h1,h2,h3,h4,h5⟩:=h.2.2 hn;exact ⟨g,cs,h1,h2,h3,ht.own h4 (hp g h2 h3),h5⟩⟩
theorem OwnM.weaken {w:World} {lo hi n:Nat} {a:Option Addr} {V:List (List Int)} {lo' hi':Nat} (h:OwnM w lo hi a n V) (h1:lo'≤lo) (h2:hi≤hi'):OwnM w lo' hi' a n V:=
 ⟨h.1,h.2.1,fun hn=>by obtain ⟨g,cs,e,h3,h4,h5⟩:=h.2.2 hn;exact ⟨g,cs,e,by omega,by omega,h5⟩⟩
theorem mrowsV_len {V:List (List Int)} (h:∀m∈V,IsMono m):(mrowsV V).length=V.length * 8:=by
 induction V with
 | nil=>rfl
 | cons m V ih =>
   have h1:=ih (fun x hx=>h x (by simp [hx]));have h2:=(h m (by simp)).1;rw [show m::V=[m]++V from rfl,mrowsV_app,mrowsV_one,List.length_append,mcells_length,h1,h2,List.length_append,List.length_singleton];omega
theorem OwnM.of_row {w:World} {B n:Nat} {v:Value} {V:List (List Int)} (h:w.ownsRow B 69 8 v n (mrowsV V)) (hV:∀m∈V,IsMono m):∃a c,v=.slice a n c∧OwnM w B w.heap.size a n V:=by
 have hl:V.length=n:=by have:=mrowsV_len hV;have:=h.1;omega
 rcases h.2 with ⟨hv,h0⟩ | ⟨g,cap,cur,hv,hb,hg,hn,_,hs,ht⟩
 · subst h0;exact ⟨none,0,hv,hl,hV,fun hp=>absurd hp (by omega)⟩
 · have ho:Own w g 69 cur:=hg;refine ⟨some ⟨g,0,none⟩,cap,hv,hl,hV,fun _=>⟨g,cur,rfl,hb,ho.lt,ho,by rw [hs];exact Nat.mul_le_mul_right _ hn,fun j u hu=>?_⟩⟩;have hj:=(List.getElem?_eq_some_iff.1 hu).1;rw [←ht] at hu hj;rw [List.getElem?_take] at hu;split at hu
   · rw [Array.getElem?_toList] at hu;exact hu
   · cases hu
theorem ext_mono {E:List Int} {L:List (List Int)} (hE:∀x∈E,0≤x∧x≤255) (h:∀m∈L,(E++m).length≤8∧∀x∈m,0≤x∧x≤255):∀m∈ext E L,IsMono m:=by
 intro m hm
 obtain ⟨x,hx,rfl⟩:=List.mem_map.1 hm
 obtain ⟨h1,h2⟩:=h x hx
 refine ⟨by rw [List.length_append,List.length_replicate];omega,fun y hy=>?_⟩
 rcases List.mem_append.1 hy with hy | hy
 · rcases List.mem_append.1 hy with hy | hy
   · exact hE y hy
   · exact h2 y hy
 · have:=List.eq_of_mem_replicate hy;omega
theorem mons_mono {zs:List Int} {r:Nat} (h:zs.length≤8):∀m∈ext [] (mons zs r),IsMono m:=
 ext_mono (by simp) (fun m hm=>by
  obtain ⟨h1,h2⟩:=mons_len hm
  exact ⟨by simp;omega,fun x hx=>by have:=h2 x hx;omega⟩)
theorem make_bytes8 (w : World) :
    (Instr.makeSlice 125 (.int .i64 8) (.int .i64 8)).run Tryz.prog w=.ok (.slice (some ⟨w.heap.size,0,none⟩) 8 8) (w.alloc (.cells #[.int .u8 0,.int .u8 0,.int .u8 0,.int .u8 0,.int .u8 0,.int .u8 0,.int .u8 0,.int .u8 0] 5)):=by
 have h3:(Tryz.prog.info? 5).map (fun i=>(i.zero,i.size,i.bytes))=some (some (.int .u8 0),1,1):=by kernel_rfl
 obtain ⟨i,hi,hzz⟩:=Option.map_eq_some_iff.1 h3
 simp only [Prod.mk.injEq] at hzz
 obtain ⟨hz,hs,hb⟩:=hzz
 have hr:=run_make (P:=Tryz.prog) w 125 5 i _ Tryz.underlying125 hi hz .i64 .i64 8 8 (by omega) (by omega) (by rw [hb];omega) (by omega)
 simp only [hs,Value.cells] at hr
 rw [show Int.toNat 8=8 from rfl,madeCells_one] at hr
 exact hr
set_option maxHeartbeats 4000000 in
theorem MonomialsOf_c {w : World} {a : Option Addr} {n : Nat} {zs : List Int} (c : Nat) (x : Int) (h : Ints w a n zs) (hn : n ≤ 1048576) :
    Calls Tryz.prog 54 #[.slice a n c,.int .i64 x] w fun e w'=>∃ra rn rc,e=.returned (.tuple #[.slice ra rn rc,.int .i64 (moE zs x)])∧OwnM w' w.heap.size w'.heap.size ra rn (moV zs x)∧Below w.heap.size w w':=by
 have HH:=Lib.hid h
 have HL:=Lib.hid h.len
 clear h
 cases hdg:degsOk zs with
 | false =>
   have HE:=Lib.hid (mo_err (mo_1 (x:=x) hdg) (by omega));have HDG:=Lib.hid hdg;clear hdg;rw [HE.out.1,HE.out.2];go_enter Tryz.func54,Tryz.ntmps54
   go_wp2_with fail
   refine (AreDegrees_c c HH.out hn).mono ?_;rintro e w1 ⟨rfl,rfl⟩;rw [HDG.out];go_wp2_with fail
   go_ret2
   exact ⟨none,0,0,rfl,OwnM.none_,Below.refl _ _⟩
 | true =>
   have HDG:=Lib.hid hdg;clear hdg;by_cases hx:0≤x∧x≤40
   case neg=>
    have HE:=Lib.hid (mo_err (mo_2 HDG.out hx) (by omega));rw [HE.out.1,HE.out.2];by_cases hx0:x<0
    · go_enter Tryz.func54,Tryz.ntmps54
      go_wp2_with fail
      refine (AreDegrees_c c HH.out hn).mono ?_;rintro e w1 ⟨rfl,rfl⟩;rw [HDG.out];go_wp2_with fail
      go_ret2
      exact ⟨none,0,0,rfl,OwnM.none_,Below.refl _ _⟩
    · have hx1:40<x:=(by omega);clear hx;go_enter Tryz.func54,Tryz.ntmps54
      go_wp2_with fail
      refine (AreDegrees_c c HH.out hn).mono ?_;rintro e w1 ⟨rfl,rfl⟩;rw [HDG.out];go_wp2_with fail
      go_ret2
      exact ⟨none,0,0,rfl,OwnM.none_,Below.refl _ _⟩
   obtain ⟨r,rfl⟩:∃r:Nat,x=(r:Int):=⟨x.toNat,by omega⟩;have hr:r≤40:=(by omega);have hx0:¬(r:Int)<0:=(by omega);have hx1:¬(40:Int)<(r:Int):=(by omega);have hr0:(0:Int)≤(r:Int):=(by omega);have hr1:(r:Int)<(r:Int)+1:=(by omega);have hn1:(0:Int)<(n:Int)+1:=(by omega);clear hx;obtain ⟨C0,hC0⟩:∃C0,cnt zs r=C0:=⟨_,rfl⟩;have HC0:=Lib.hid hC0;by_cases hbig:400<C0
   · have HE:=Lib.hid (mo_err (mo_3 HDG.out hr (by rw [hC0];exact hbig)) (by omega));have hbi:(400:Int)<(C0:Int):=(by omega);clear hC0;rw [HE.out.1,HE.out.2];go_enter Tryz.func54,Tryz.ntmps54
     go_wp2_with fail
     refine (AreDegrees_c c HH.out hn).mono ?_;rintro e w1 ⟨rfl,rfl⟩;rw [HDG.out];go_wp2_with fail
     refine (countMonomials_c c HH.out HDG.out (by omega)).mono ?_;rintro e w1 ⟨g,gf,rfl,hg,hgf,hC,hb⟩;have k1:=hC.own.cell 0;rw [tabC_get (Nat.le_refl _) (Nat.zero_le _)] at k1;have k2:=(hC.row 0 (Nat.le_refl _) (Nat.zero_le _)).cell r;rw [ofI_get (cntR_get (Nat.le_refl _)),List.drop_zero,HC0.out] at k2;go_wp2_with fail
     go_ret2
     exact ⟨none,0,0,rfl,OwnM.none_,hb⟩
   · have HE:=Lib.hid (mo_0 HDG.out hr (by rw [hC0];exact hbig));have hbi:¬(400:Int)<(C0:Int):=(by omega);clear hC0;rw [HE.out.1,HE.out.2];go_enter Tryz.func54,Tryz.ntmps54
     go_wp2_with fail
     refine (AreDegrees_c c HH.out hn).mono ?_;rintro e w1 ⟨rfl,rfl⟩;rw [HDG.out];go_wp2_with fail
     refine (countMonomials_c c HH.out HDG.out (by omega)).mono ?_;rintro e w1 ⟨g,gf,rfl,hg,hgf,hC,hb⟩;have k1:=hC.own.cell 0;rw [tabC_get (Nat.le_refl _) (Nat.zero_le _)] at k1;have k2:=(hC.row 0 (Nat.le_refl _) (Nat.zero_le _)).cell r;rw [ofI_get (cntR_get (Nat.le_refl _)),List.drop_zero,HC0.out] at k2;have hmk:=make_bytes8 w1;have hE:=Own.new w1 5 #[.int .u8 0,.int .u8 0,.int .u8 0,.int .u8 0,.int .u8 0,.int .u8 0,.int .u8 0,.int .u8 0];have hba:=bA1 w1 (.cells #[.int .u8 0,.int .u8 0,.int .u8 0,.int .u8 0,.int .u8 0,.int .u8 0,.int .u8 0,.int .u8 0] 5);have hbs:=hb.size;replace hC:=hC.keep hba;replace hb:=bT' hb hba hb.size;have hS:=Own.new (w1.alloc (.cells #[.int .u8 0,.int .u8 0,.int .u8 0,.int .u8 0,.int .u8 0,.int .u8 0,.int .u8 0,.int .u8 0] 5)) 127 #[.slice a n c,.slice (some ⟨g,0,none⟩) (n+1) (n+1),.slice (some ⟨w1.heap.size,0,none⟩) 8 8,.slice none 0 0];have hbc:=bA1 (w1.alloc (.cells #[.int .u8 0,.int .u8 0,.int .u8 0,.int .u8 0,.int .u8 0,.int .u8 0,.int .u8 0,.int .u8 0] 5)) (.cells #[.slice a n c,.slice (some ⟨g,0,none⟩) (n+1) (n+1),.slice (some ⟨w1.heap.size,0,none⟩) 8 8,.slice none 0 0] 127);rw [sAl] at hS;replace hC:=Lib.hid (hC.keep hbc);replace hE:=Lib.hid (hE.keep hbc hE.lt);replace hS:=Lib.hid hS;replace hb:=Lib.hid (bT' hb hbc hb.size);clear hba hbc;go_upto_region 9 with fail
     generalize ((w1.alloc (.cells #[.int .u8 0,.int .u8 0,.int .u8 0,.int .u8 0,.int .u8 0,.int .u8 0,.int .u8 0,.int .u8 0] 5)).alloc (.cells #[.slice a n c,.slice (some ⟨g,0,none⟩) (n+1) (n+1),.slice (some ⟨w1.heap.size,0,none⟩) 8 8,.slice none 0 0] 127))=w3 at *;generalize w1.heap.size=gE at *;clear k1 k2 hmk;have hl8:n≤8:=by have:=degsOk_len HDG.out;have:=HL.out;omega
     have HVS:Hid (VS w.heap.size w3 (gE+1) gE g gf a n c r zs nul8 [] (.slice none 0 0)):=Lib.hid ⟨hS.out,hE.out,hC.out,World.ownsRow_nil _ _ _ _,⟨rfl,by decide⟩,by
      rw [show nul8=List.replicate 8 (0:Int) from rfl,List.drop_replicate]⟩
     have hcn:([]:List (List Int)).length+cnt (zs.drop 0) r≤400:=by
      have:=HC0.out;rw [List.drop_zero];simp only [List.length_nil];omega
     have HVC:=Lib.hid (visit_c HH.out HDG.out (show r≤900 by omega) (show w.heap.size≤gE+1 by omega) (show w.heap.size≤gE by omega) n (i:=0) (rest:=r) (by omega) (Nat.le_refl _) hcn HVS.out hb.out);clear hcn;go_wp2_with fail
     refine HVC.out.mono ?_;rintro e w4 ⟨rfl,E',fv',hV,-,hb4⟩;rw [List.nil_append,List.take_zero,List.drop_zero] at hV;have HV:=Lib.hid hV;have s3:=hV.s.cell 3;have hb5:=Lib.hid hb4;have HMM:=Lib.hid (mons_mono (zs:=zs) (r:=r) (by rw [HL.out];exact hl8));obtain ⟨ra,rc,hrr,hO⟩:=OwnM.of_row HV.out.f HMM.out;have HOO:=Lib.hid hO;subst hrr;clear hV HVC HVS hb4 hO;go_wp2_with fail
     go_ret2
     exact ⟨ra,_,rc,rfl,HOO.out,hb5.out⟩
set_option maxHeartbeats 4000000 in
theorem l01Monomials_c {w : World} {a : Option Addr} {n r : Nat} {zs : List Int} (c : Nat) (h : Ints w a n zs) (hz : degsOk zs = true) (hr : r ≤ 900) :
    Calls Tryz.prog 21 #[.slice a n c,.int .i64 r] w fun e w'=>∃ra rn rc,e=.returned (.slice ra rn rc)∧OwnM w' w.heap.size w'.heap.size ra rn ((ext [] (mons zs r)).take 401)∧Below w.heap.size w w':=by
 have hl8:n≤8:=by have:=degsOk_len hz;have:=h.len;omega
 have HMM:=Lib.hid (mons_mono (zs:=zs) (r:=r) (by rw [h.len];exact hl8))
 have hf:=l01Fill_c (c:=c) h hz n (w:=w) (i:=0) (rest:=r) (E:=nul8) (X:=[]) (fa:=none) (fc:=0) (by omega) hr ⟨rfl,by decide⟩ (by rw [show nul8=List.replicate 8 (0:Int) from rfl,List.drop_replicate]) (by simp) (World.ownsRow_nil _ _ _ _) (Below.refl _ _)
 rw [List.nil_append,List.take_zero,List.drop_zero] at hf
 have HF:=Lib.hid hf
 clear hf h
 go_enter Tryz.func21,Tryz.ntmps21
 go_wp2_with fail
 refine HF.out.mono ?_
 rintro e w1 ⟨fv',rfl,hR,hG⟩
 obtain ⟨ra,rc,hrr,hO⟩:=OwnM.of_row hR (fun m hm=>HMM.out m (List.mem_of_mem_take hm))
 subst hrr
 have HO:=Lib.hid hO
 have HB:=Lib.hid (hG.below (B:=w.heap.size) (fun q hq=>by simp [Value.ownBlock] at hq) (Nat.le_refl _))
 clear hO hR hG
 go_wp2_with fail
 go_ret
 exact ⟨ra,((ext [] (mons zs r)).take 401).length,rc,by rw [List.length_take];rfl,HO.out,HB.out⟩
def Mos (w:World) (a:Option Addr) (n:Nat) (V:List (List Int)):Prop:=
 V.length=n∧(∀m∈V,IsMono m)∧(0<n→∃b off,a=some ⟨b,off,none⟩∧b<w.heap.size∧w.rangeAt b off (mrowsV V))
theorem OwnM.mos {w:World} {lo hi n:Nat} {a:Option Addr} {V:List (List Int)} (h:OwnM w lo hi a n V):Mos w a n V:=
 ⟨h.1,h.2.1,fun hn=>by
  obtain ⟨g,cs,rfl,h2,h3,h4,h5,h6⟩:=h.2.2 hn
  exact ⟨g,0,rfl,h4.lt,fun j v hv=>by rw [Nat.zero_add,h4.cell j];exact h6 j v hv⟩⟩
theorem Mos.keep {w w':World} {a:Option Addr} {n:Nat} {V:List (List Int)} (h:Mos w a n V) (hb:Below w.heap.size w w'):Mos w' a n V:=
 ⟨h.1,h.2.1,fun hn=>by
  obtain ⟨b,off,ha,hlt,hc⟩:=h.2.2 hn
  exact ⟨b,off,ha,Nat.lt_of_lt_of_le hlt hb.size,rgK hc (hb.block b hlt)⟩⟩
theorem mrowsV_get {V:List (List Int)} (h:∀m∈V,IsMono m):∀{k j:Nat} {m:List Int} {v:Value},V[k]? = some m→(mcells m)[j]? = some v→(mrowsV V)[k * 8+j]? = some v:=by
 induction V with
 | nil=>intro k j m v hm _;simp at hm
 | cons x V ih =>
   intro k j m v hm hv;have h8:=(h x (by simp)).1;rw [show x::V=[x]++V from rfl,mrowsV_app,mrowsV_one]
   cases k with
   | zero =>
     simp only [List.getElem?_cons_zero,Option.some.injEq] at hm;subst hm;rw [Nat.zero_mul,Nat.zero_add,List.getElem?_append_left (List.getElem?_eq_some_iff.1 hv).1];exact hv
   | succ k =>
     rw [List.getElem?_cons_succ] at hm;rw [List.getElem?_append_right (by rw [mcells_length];omega),mcells_length,h8,show (k+1) * 8+j - 8=k * 8+j by omega];exact ih (fun y hy=>h y (by simp [hy])) hm hv
theorem Mos.at_ {w:World} {a:Option Addr} {n:Nat} {V:List (List Int)} (h:Mos w a n V) {k:Nat} (hk:k<n):∃b off m,a=some ⟨b,off,none⟩∧b<w.heap.size∧w.rangeAt b (off+k * 8) (mcells m)∧IsMono m∧Hid (V[k]? = some m):=by
 obtain ⟨b,off,ha,hb,hr⟩:=h.2.2 (by omega)
 have hx:V[k]? = some (V[k]'(by have:=h.1;omega)):=List.getElem?_eq_getElem (by have:=h.1;omega)
 refine ⟨b,off,_,ha,hb,fun j v hv=>?_,h.2.1 _ (List.mem_of_getElem? hx),hx⟩
 have:=hr (k * 8+j) v (mrowsV_get h.2.1 hx hv)
 rwa [←Nat.add_assoc] at this
theorem eight {w:World} {b o:Nat} {m0 m1 m2 m3 m4 m5 m6 m7:Int} (h:w.rangeAt b o (mcells [m0,m1,m2,m3,m4,m5,m6,m7])):w.cell? ⟨b,o,none⟩=some (.int .u8 m0)∧w.cell? ⟨b,o+1,none⟩=some (.int .u8 m1)∧w.cell? ⟨b,o+2,none⟩=some (.int .u8 m2)∧w.cell? ⟨b,o+3,none⟩=some (.int .u8 m3)∧w.cell? ⟨b,o+4,none⟩=some (.int .u8 m4)∧w.cell? ⟨b,o+5,none⟩=some (.int .u8 m5)∧w.cell? ⟨b,o+6,none⟩=some (.int .u8 m6)∧w.cell? ⟨b,o+7,none⟩=some (.int .u8 m7):=
 ⟨h 0 _ rfl,h 1 _ rfl,h 2 _ rfl,h 3 _ rfl,h 4 _ rfl,h 5 _ rfl,h 6 _ rfl,h 7 _ rfl⟩
theorem OwnM.block {w : World} {lo hi n : Nat} {a : Option Addr} {V : List (List Int)} {gx : Nat} {tx : TypeId} {csx : Array Value} (h : OwnM w lo hi a n V) (hx : Own w gx tx csx) :
    ∃g t cs,Own w g t cs∧n * 8≤cs.size∧(0<n→a=some ⟨g,0,none⟩)∧(g=gx∨(lo≤g∧g<hi)):=by
 by_cases hn:0<n
 · obtain ⟨g,cs,e,h1,h2,h3,h4,-⟩:=h.2.2 hn;exact ⟨g,_,cs,h3,h4,fun _=>e,Or.inr ⟨h1,h2⟩⟩
 · exact ⟨gx,_,csx,hx,by omega,fun hh=>absurd hh hn,Or.inl rfl⟩
def Ord (V:List (List Int)):Prop:=V.Pairwise fun m k=>before m k=true
theorem Ord.lt {V:List (List Int)} (h:Ord V) {i j:Nat} {m k:List Int} (hi:V[i]? = some m) (hj:V[j]? = some k) (hij:i<j):cmpM m k=-1:=by
 obtain ⟨h1,e1⟩:=List.getElem?_eq_some_iff.1 hi
 obtain ⟨h2,e2⟩:=List.getElem?_eq_some_iff.1 hj
 have:=List.pairwise_iff_getElem.1 h i j h1 h2 hij
 rw [e1,e2,before,decide_eq_true_eq] at this
 exact this
theorem Ord.cmp {V:List (List Int)} (h:Ord V) {i j:Nat} {m k:List Int} (hi:V[i]? = some m) (hj:V[j]? = some k):cmpM k m=if j<i then -1 else if j=i then 0 else 1:=by
 by_cases h1:j<i
 · rw [if_pos h1];exact h.lt hj hi h1
 · rw [if_neg h1];by_cases h2:j=i
   · subst h2;rw [hi,Option.some.injEq] at hj;subst hj;rw [if_pos rfl,cmpM_self]
   · rw [if_neg h2,cmpM_turn m k,h.lt hi hj (by omega)];decide
theorem pair16 {A0 A1 A2 A3 A4 A5 A6 A7 B0 B1 B2 B3 B4 B5 B6 B7:Prop} (h:A0∧A1∧A2∧A3∧A4∧A5∧A6∧A7) (h':B0∧B1∧B2∧B3∧B4∧B5∧B6∧B7):A0∧A1∧A2∧A3∧A4∧A5∧A6∧A7∧B0∧B1∧B2∧B3∧B4∧B5∧B6∧B7:=⟨h.1,h.2.1,h.2.2.1,h.2.2.2.1,h.2.2.2.2.1,h.2.2.2.2.2.1,h.2.2.2.2.2.2.1,h.2.2.2.2.2.2.2,h'⟩
theorem cmp8 {w : World} {p0 p1 p2 p3 p4 p5 p6 p7 k0 k1 k2 k3 k4 k5 k6 k7 v : Int} (hm : IsMono [p0, p1, p2, p3, p4, p5, p6, p7]) (hk : IsMono [k0, k1, k2, k3, k4, k5, k6, k7]) (hv : cmpM [p0, p1, p2, p3, p4, p5, p6, p7] [k0, k1, k2, k3, k4, k5, k6, k7] = v) :
    Calls Tryz.prog 59 #[.agg #[.int .u8 p0,.int .u8 p1,.int .u8 p2,.int .u8 p3,.int .u8 p4,.int .u8 p5,.int .u8 p6,.int .u8 p7],.agg #[.int .u8 k0,.int .u8 k1,.int .u8 k2,.int .u8 k3,.int .u8 k4,.int .u8 k5,.int .u8 k6,.int .u8 k7]] w fun e w'=>e=.returned (.int .i64 v)∧Below w.heap.size w w':=by
 subst hv
 exact compareMonomials_c hm hk
set_option maxHeartbeats 4000000 in
theorem bsearch_c {w : World} {a : Option Addr} {n i : Nat} {V : List (List Int)} {k : List Int} (c : Nat) (h : Mos w a n V) (ho : Ord V) (hn : n ≤ 1048576) (hk : IsMono k) (hi : V[i]? = some k) :
    Calls Tryz.prog 58 #[.slice a n c,monoV k,.func (.func 59) #[] #[]] w fun e w'=>e=.returned (.tuple #[.int .i64 i,.bool true])∧Below w.heap.size w w':=by
 have hin:i<n:=by have:=(List.getElem?_eq_some_iff.1 hi).1;have:=h.1;omega
 obtain ⟨k0,k1,k2,k3,k4,k5,k6,k7,rfl⟩:=mono8 hk
 have HI:=Lib.hid hi
 have HO:=Lib.hid ho
 have HM:=Lib.hid (h.keep (bA1 w (.cells #[.int .u8 k0,.int .u8 k1,.int .u8 k2,.int .u8 k3,.int .u8 k4,.int .u8 k5,.int .u8 k6,.int .u8 k7] 69)))
 have hx:Own (w.alloc (.cells #[.int .u8 k0,.int .u8 k1,.int .u8 k2,.int .u8 k3,.int .u8 k4,.int .u8 k5,.int .u8 k6,.int .u8 k7] 69)) w.heap.size 69 (mcells [k0,k1,k2,k3,k4,k5,k6,k7]).toArray:=Own.new w 69 #[.int .u8 k0,.int .u8 k1,.int .u8 k2,.int .u8 k3,.int .u8 k4,.int .u8 k5,.int .u8 k6,.int .u8 k7]
 have hb:=bA1 w (.cells #[.int .u8 k0,.int .u8 k1,.int .u8 k2,.int .u8 k3,.int .u8 k4,.int .u8 k5,.int .u8 k6,.int .u8 k7] 69)
 clear hi ho h
 unfold monoV
 go_enter Tryz.func58,Tryz.ntmps58
 go_upto_region 3 with fail
 change Own (w.alloc (.cells (mcells [k0,k1,k2,k3,k4,k5,k6,k7]).toArray 69)) _ _ _ at hx
 change Below _ _ (w.alloc (.cells (mcells [k0,k1,k2,k3,k4,k5,k6,k7]).toArray 69)) at hb
 replace HM:Hid (Mos (w.alloc (.cells (mcells [k0,k1,k2,k3,k4,k5,k6,k7]).toArray 69)) a n V):=HM
 generalize w.alloc (.cells (mcells [k0,k1,k2,k3,k4,k5,k6,k7]).toArray 69)=w1 at *
 have HG:=Lib.hid hb.size
 generalize hge:w.heap.size=g at *
 have HGE:=Lib.hid hge
 clear hge
 go_wp2_with fail
 go_loopw [9,10] (fun p q wr=>∃l h:Nat,l≤i∧i≤h∧h≤n∧p=.int .i64 l∧q=.int .i64 h∧Below w1.heap.size w1 wr) (fun p q _=>(intOf q).toNat - (intOf p).toNat)
 case atStart=>exact ⟨0,n,Nat.zero_le _,by omega,Nat.le_refl _,rfl,rfl,Below.refl _ _⟩
 case round=>
  obtain ⟨l,h,hli,hih,hhn,rfl,rfl,hbr⟩:=hrel;by_cases hlh:l<h
  · have hlhi:(l:Int)<(h:Int):=(by omega);have e1:IntKind.i64.wrap ((l:Int)+(h:Int))=(l:Int)+(h:Int):=IntWalk.i64_in _ (by omega);have e2:IntKind.u64.wrap ((l:Int)+(h:Int))=(l:Int)+(h:Int):=IntWalk.u64_in _ (by omega);obtain ⟨d,hd⟩:∃d:Nat,((l:Int)+(h:Int)) / 2=(d:Int):=⟨(l+h) / 2,by omega⟩;have hd1:l≤d:=(by omega);have hd2:d<h:=(by omega);obtain ⟨b,off,p,rfl,hlb,hr,hp,hx'⟩:=(HM.out.keep hbr).at_ (show d<n by omega);have hxr:Own wr.drew g 69 (mcells [k0,k1,k2,k3,k4,k5,k6,k7]).toArray:=(hx.keep hbr.drew hx.lt);have hcm:=HO.out.cmp HI.out hx'.out;obtain ⟨p0,p1,p2,p3,p4,p5,p6,p7,rfl⟩:=mono8 hp;have hdi:(d:Int)<(n:Int):=(by omega);clear hx';go_upto_region 5 with fail
    clear e1 e2 hd;by_cases hdl:d<i
    · rw [if_pos hdl] at hcm;have HV:=Lib.hid hcm;clear hcm
      go_region_held3 (fun w'=>w'.cell? ⟨b,off+d * 8,none⟩=some (.int .u8 p0)∧w'.cell? ⟨b,off+d * 8+1,none⟩=some (.int .u8 p1)∧w'.cell? ⟨b,off+d * 8+2,none⟩=some (.int .u8 p2)∧w'.cell? ⟨b,off+d * 8+3,none⟩=some (.int .u8 p3)∧w'.cell? ⟨b,off+d * 8+4,none⟩=some (.int .u8 p4)∧w'.cell? ⟨b,off+d * 8+5,none⟩=some (.int .u8 p5)∧w'.cell? ⟨b,off+d * 8+6,none⟩=some (.int .u8 p6)∧w'.cell? ⟨b,off+d * 8+7,none⟩=some (.int .u8 p7)∧w'.cell? ⟨g,0,none⟩=some (.int .u8 k0)∧w'.cell? ⟨g,1,none⟩=some (.int .u8 k1)∧w'.cell? ⟨g,2,none⟩=some (.int .u8 k2)∧w'.cell? ⟨g,3,none⟩=some (.int .u8 k3)∧w'.cell? ⟨g,4,none⟩=some (.int .u8 k4)∧w'.cell? ⟨g,5,none⟩=some (.int .u8 k5)∧w'.cell? ⟨g,6,none⟩=some (.int .u8 k6)∧w'.cell? ⟨g,7,none⟩=some (.int .u8 k7)) (exact pair16 (eight hr) (own8 hxr))
       ((go_at_call 59;refine (cmp8 hp hk HV.out).mono ?_;rintro e w2 ⟨rfl,hb2⟩;have hr:=rgK hr (hb2.block b hlb);have hxr:=hxr.keep hb2 hxr.lt))
      all_goals go_wp2_with fail
      all_goals go_roundw
      all_goals first
       | (case measure=>simp [intOf] <;> omega)
       | skip
      all_goals exact ⟨d+1,h,by omega,by omega,hhn,by go_num,rfl,bT' hbr.drew hb2 hbr.size⟩
    · have hv : 0 ≤ cmpM [p0, p1, p2, p3, p4, p5, p6, p7] [k0, k1, k2, k3, k4, k5, k6, k7] := by
        rw [hcm,if_neg hdl];split <;> omega
      obtain ⟨v,hvv⟩:∃v,cmpM [p0,p1,p2,p3,p4,p5,p6,p7] [k0,k1,k2,k3,k4,k5,k6,k7]=v:=⟨_,rfl⟩;rw [hvv] at hv;have HV:=Lib.hid hvv;have hvn:¬v<0:=(by omega);clear hcm hvv
      go_region_held3 (fun w'=>w'.cell? ⟨b,off+d * 8,none⟩=some (.int .u8 p0)∧w'.cell? ⟨b,off+d * 8+1,none⟩=some (.int .u8 p1)∧w'.cell? ⟨b,off+d * 8+2,none⟩=some (.int .u8 p2)∧w'.cell? ⟨b,off+d * 8+3,none⟩=some (.int .u8 p3)∧w'.cell? ⟨b,off+d * 8+4,none⟩=some (.int .u8 p4)∧w'.cell? ⟨b,off+d * 8+5,none⟩=some (.int .u8 p5)∧w'.cell? ⟨b,off+d * 8+6,none⟩=some (.int .u8 p6)∧w'.cell? ⟨b,off+d * 8+7,none⟩=some (.int .u8 p7)∧w'.cell? ⟨g,0,none⟩=some (.int .u8 k0)∧w'.cell? ⟨g,1,none⟩=some (.int .u8 k1)∧w'.cell? ⟨g,2,none⟩=some (.int .u8 k2)∧w'.cell? ⟨g,3,none⟩=some (.int .u8 k3)∧w'.cell? ⟨g,4,none⟩=some (.int .u8 k4)∧w'.cell? ⟨g,5,none⟩=some (.int .u8 k5)∧w'.cell? ⟨g,6,none⟩=some (.int .u8 k6)∧w'.cell? ⟨g,7,none⟩=some (.int .u8 k7)) (exact pair16 (eight hr) (own8 hxr))
       ((go_at_call 59;refine (cmp8 hp hk HV.out).mono ?_;rintro e w2 ⟨rfl,hb2⟩;have hr:=rgK hr (hb2.block b hlb);have hxr:=hxr.keep hb2 hxr.lt))
      all_goals go_wp2_with fail
      all_goals go_roundw
      all_goals first
       | (case measure=>simp [intOf] <;> omega)
       | skip
      all_goals exact ⟨l,d,hli,by omega,by omega,rfl,rfl,bT' hbr.drew hb2 hbr.size⟩
  · have hlhi:¬(l:Int)<(h:Int):=(by omega);obtain rfl:l=i:=(by omega);have hli2:(l:Int)<(n:Int):=(by omega);obtain ⟨b,off,p,rfl,hlb,hr,hp,hx'⟩:=(HM.out.keep hbr).at_ hin
    obtain rfl:[k0,k1,k2,k3,k4,k5,k6,k7]=p:=by
     have:=HI.out.symm.trans hx'.out
     injection this
    have hxr:Own wr.drew g 69 (mcells [k0,k1,k2,k3,k4,k5,k6,k7]).toArray:=(hx.keep hbr.drew hx.lt);clear hx';go_upto_region 8 with fail
    go_region_held3 (fun w'=>w'.cell? ⟨b,off+l * 8,none⟩=some (.int .u8 k0)∧w'.cell? ⟨b,off+l * 8+1,none⟩=some (.int .u8 k1)∧w'.cell? ⟨b,off+l * 8+2,none⟩=some (.int .u8 k2)∧w'.cell? ⟨b,off+l * 8+3,none⟩=some (.int .u8 k3)∧w'.cell? ⟨b,off+l * 8+4,none⟩=some (.int .u8 k4)∧w'.cell? ⟨b,off+l * 8+5,none⟩=some (.int .u8 k5)∧w'.cell? ⟨b,off+l * 8+6,none⟩=some (.int .u8 k6)∧w'.cell? ⟨b,off+l * 8+7,none⟩=some (.int .u8 k7)∧w'.cell? ⟨g,0,none⟩=some (.int .u8 k0)∧w'.cell? ⟨g,1,none⟩=some (.int .u8 k1)∧w'.cell? ⟨g,2,none⟩=some (.int .u8 k2)∧w'.cell? ⟨g,3,none⟩=some (.int .u8 k3)∧w'.cell? ⟨g,4,none⟩=some (.int .u8 k4)∧w'.cell? ⟨g,5,none⟩=some (.int .u8 k5)∧w'.cell? ⟨g,6,none⟩=some (.int .u8 k6)∧w'.cell? ⟨g,7,none⟩=some (.int .u8 k7)) (exact pair16 (eight hr) (own8 hxr))
     ((go_at_call 59;refine (cmp8 hk hk (cmpM_self _)).mono ?_;rintro e w2 ⟨rfl,hb2⟩;have hr:=rgK hr (hb2.block b hlb);have hxr:=hxr.keep hb2 hxr.lt))
    all_goals go_wp2_with fail
    all_goals go_ret2
    all_goals exact ⟨rfl,by rw [HGE.out];exact hb.trans ((bT' hbr.drew hb2 hbr.size).mono HG.out)⟩
end Go.Proofs.YtfheammnkmjabaaGreat
