
import Derived.Test.YtfheammnkmjabaaGreatVector
import Derived.Test.YtfheammnkmjabaaGreatDiffD
import Derived.Test.YtfheammnkmjabaaGreatSingle
namespace Go.Proofs.YtfheammnkmjabaaGreat
set_option maxRecDepth 100000
open Go.RowKit Go.Deep
theorem row_drew {w:World} {B sz n:Nat} {t:TypeId} {v:Value} {xs:List Value} (h:w.ownsRow B t sz v n xs):w.drew.ownsRow B t sz v n xs:=h
theorem own_drew {w:World} {g:Nat} {t:TypeId} {cs:Array Value} (h:Own w g t cs):Own w.drew g t cs:=h
def RowsX (w:World) (lo:Nat) (V:List (List Int)) (k:Nat) (gs:List Nat):Prop:=
 gs.length=k∧(∀(i g:Nat) row,gs[i]? = some g→V[i]? = some row→Own w g 2 (ofI row))∧gs.Pairwise (· < ·)∧∀x∈gs,lo≤x∧x<w.heap.size
theorem RowsX.keep {w w':World} {lo k:Nat} {V:List (List Int)} {gs:List Nat} (h:RowsX w lo V k gs) (hb:Below w.heap.size w w'):RowsX w' lo V k gs:=
 ⟨h.1,fun i g row h1 h2=>(h.2.1 i g row h1 h2).keep hb (h.2.1 i g row h1 h2).lt,h.2.2.1,fun x hx=>⟨(h.2.2.2 x hx).1,Nat.lt_of_lt_of_le (h.2.2.2 x hx).2 hb.size⟩⟩
theorem RowsX.grown {w w':World} {lo k B m n:Nat} {V:List (List Int)} {gs:List Nat} {v:Value} {xs:List Value} (h:RowsX w lo V k gs) (ho:w.ownsRow B 22 m v n xs) (hg:w.grownBy w' v.ownBlock):RowsX w' lo V k gs:=
 ⟨h.1,fun i g row h1 h2=>(h.2.1 i g row h1 h2).grown hg (own_ne_row (h.2.1 i g row h1 h2) ho (by decide)),h.2.2.1,fun x hx=>⟨(h.2.2.2 x hx).1,Nat.lt_of_lt_of_le (h.2.2.2 x hx).2 hg.size⟩⟩
theorem RowsX.snoc {w : World} {lo k g : Nat} {V : List (List Int)} {gs : List Nat} {row : List Int} (h : RowsX w lo V k gs) (hx : V[k]? = some row) (hlt : ∀ x ∈ gs, x < g) (hlo : lo ≤ g)
    (hg:Own w g 2 (ofI row)):RowsX w lo V (k+1) (gs++[g]):=by
 refine ⟨by rw [List.length_append,h.1];rfl,fun i g' ts' h1 h2=>?_,?_,fun x hx=>?_⟩
 · by_cases hi:i<k
   · rw [List.getElem?_append_left (by rw [h.1];exact hi)] at h1;exact h.2.1 i g' ts' h1 h2
   · have hik : i = k := by
       have:=(List.getElem?_eq_some_iff.1 h1).1;rw [List.length_append,h.1] at this;simp at this
       omega
     subst hik;rw [List.getElem?_append_right (by rw [h.1];omega),h.1,Nat.sub_self] at h1
     injection h1 with h1
     subst h1;rw [hx] at h2
     injection h2 with h2
     subst h2;exact hg
 · refine List.pairwise_append.2 ⟨h.2.2.1,List.pairwise_singleton _ _,fun x hx y hy=>?_⟩;obtain rfl:y=g:=(by simpa using hy);exact hlt x hx
 · rcases List.mem_append.1 hx with hx | hx
   · exact h.2.2.2 x hx
   · obtain rfl:x=g:=(by simpa using hx);exact ⟨hlo,hg.lt⟩
theorem degs_mild {zs:List Int} (h:degsOk zs=true):Mild zs:=fun x hx=>by
 obtain ⟨i,hi,rfl⟩:=List.mem_iff_getElem.1 hx
 have:=degs_at h (List.getElem?_eq_getElem hi)
 omega
theorem news1 (w:World) (v:Value):∀j u,([v]:List Value)[j]? = some u→(w.alloc (.cells #[v] 22)).cell? ((⟨w.heap.size,0,none⟩:Addr).add j)=some u:=fun j u hu=>by
 rw [Addr.add_mid]
 exact (Own.new w 22 #[v]).range j u hu
def OM (w:World) (a:Option Addr) (n:Nat) (V:List (List Int)):Prop:=∃lo hi,OwnM w lo hi a n V
theorem OM.keep {w w':World} {a:Option Addr} {n:Nat} {V:List (List Int)} (h:OM w a n V) (hb:Below w.heap.size w w'):OM w' a n V:=by
 obtain ⟨lo,hi,h⟩:=h
 exact ⟨lo,hi,h.keep hb⟩
theorem OM.mos {w:World} {a:Option Addr} {n:Nat} {V:List (List Int)} (h:OM w a n V):Mos w a n V:=by
 obtain ⟨lo,hi,h⟩:=h
 exact h.mos
theorem OM.grown {w w':World} {a:Option Addr} {n B m k:Nat} {V:List (List Int)} {v:Value} {xs:List Value} (h:OM w a n V) (ho:w.ownsRow B 22 m v k xs) (hg:w.grownBy w' v.ownBlock):OM w' a n V:=by
 obtain ⟨lo,hi,h1,h2,h3⟩:=h
 refine ⟨lo,hi,h1,h2,fun hn=>?_⟩
 obtain ⟨g,cs,e,h4,h5,h6,h7⟩:=h3 hn
 exact ⟨g,cs,e,h4,h5,h6.grown hg (own_ne_row h6 ho (by decide)),h7⟩
theorem OM.range {w:World} {b off n j:Nat} {V:List (List Int)} {u:List Int} (h:OM w (some ⟨b,off,none⟩) n V) (hx:V[j]? = some u):w.rangeAt b (off+j * 8) (mcells u):=by
 have hM:=h.mos
 have hj:=(List.getElem?_eq_some_iff.1 hx).1
 obtain ⟨b',off',e,-,hr⟩:=hM.2.2 (by have:=hM.1;omega)
 injection e with e
 injection e with e1 e2
 subst e1 e2
 intro q v hv
 have:=hr (j * 8+q) v (mrowsV_get hM.2.1 hx hv)
 rwa [←Nat.add_assoc] at this
theorem side_take {zs:List Int} {n:Nat} (h:cnt zs n≤400):(ext [] (mons zs n)).take 401=side zs n:=by
 rw [side,List.take_of_length_le (by rw [ext_len];unfold cnt at h;omega)]
set_option maxHeartbeats 8000000 in
theorem l03Matrix_c {w : World} {da : Option Addr} {dn : Nat} {zs : List Int} {a : Option Addr} {k : Nat} {ims : List (List Tm)} {m : Nat} (dc c : Nat) (hd : Ints w da dn zs) (hF : Frms w a k ims) (HA : AlgOk zs ims) (hA : isAlg zs ims = true) (hz : degsOk zs = true) (hz1 : ∀ z ∈ zs, 1 ≤ z) (hm : m ≤ 20) (hc1 : cnt zs m ≤ 120) (hc2 : cnt zs (m + 1) ≤ 120) :
    Calls Tryz.prog 33 #[.agg #[.slice da dn dc,.slice a k c],.int .i64 m] w fun e w'=>∃ra rc,e=.returned (.slice ra (cnt zs m) rc)∧OwnT w' w.heap.size w'.heap.size ra (cnt zs m) ((side zs m).map (dRow zs ims (side zs (m+1))))∧Below w.heap.size w w':=by
 have HC1:Hid (∀w',Below w.heap.size w w'→Calls Tryz.prog 21 #[.slice da dn dc,.int .i64 (m:Int)] w' fun e w''=>∃ra rc,e=.returned (.slice ra (cnt zs m) rc)∧OwnM w'' w'.heap.size w''.heap.size ra (cnt zs m) (side zs m)∧Below w'.heap.size w' w''):=Lib.hid (fun w' hb=>by
  refine (l01Monomials_c (r:=m) dc (hd.keep hb) hz (by omega)).mono ?_;rintro e w'' ⟨ra,rn,rc,rfl,hM,hb2⟩;rw [side_take (by omega)] at hM;obtain rfl:cnt zs m=rn:=by rw [←hM.1,side_len]
  exact ⟨ra,rc,rfl,hM,hb2⟩)
 have HC2:Hid (∀w',Below w.heap.size w w'→Calls Tryz.prog 21 #[.slice da dn dc,.int .i64 ((m:Int)+1)] w' fun e w''=>∃ra rc,e=.returned (.slice ra (cnt zs (m+1)) rc)∧OwnM w'' w'.heap.size w''.heap.size ra (cnt zs (m+1)) (side zs (m+1))∧Below w'.heap.size w' w''):=Lib.hid (fun w' hb=>by
  refine (l01Monomials_c (r:=m+1) dc (hd.keep hb) hz (by omega)).mono ?_;rintro e w'' ⟨ra,rn,rc,rfl,hM,hb2⟩;rw [side_take (by omega)] at hM;obtain rfl:cnt zs (m+1)=rn:=by rw [←hM.1,side_len]
  exact ⟨ra,rc,rfl,hM,hb2⟩)
 obtain ⟨ti,tz,hti,htz,hts,htb,htzs⟩:=Tryz.info_intsA
 have HTI:=Lib.hid hti
 have HTZ:=Lib.hid htz
 have HTS:=Lib.hid hts
 have HTB:=Lib.hid htb
 have HTZs:=Lib.hid htzs
 clear hti htz hts htb htzs
 have HD:=Lib.hid hd
 have HF:=Lib.hid hF
 have HAO:=Lib.hid HA
 have HIA:=Lib.hid hA
 have HZ1:=Lib.hid hz1
 have HMI:=Lib.hid (degs_mild hz)
 have hO:=Own.new w 31 #[.slice da dn dc,.slice a k c]
 have hb:=bA1 w (.cells #[.slice da dn dc,.slice a k c] 31)
 have e1:IntKind.i64.wrap ((m:Int)+1)=(m:Int)+1:=IntWalk.i64_in _ (by omega)
 have HU:Hid ((side zs m).length=cnt zs m):=Lib.hid (side_len _ _)
 have HV:Hid ((side zs (m+1)).length=cnt zs (m+1)):=Lib.hid (side_len _ _)
 have HCC:Hid (cnt zs (m+1)≤400):=Lib.hid (by omega)
 clear hd hF HA hA hz hz1
 go_enter Tryz.func33,Tryz.ntmps33
 go_upto_region 1 with fail
 generalize hw0:w.alloc (.cells #[.slice da dn dc,.slice a k c] 31)=w0 at *
 have hs0:=Lib.hid hb.size
 clear hw0
 generalize hga:w.heap.size=gA at *
 have HGA:=Lib.hid hga
 clear hga
 generalize hUe:side zs m=U at *
 generalize hVe:side zs (m+1)=V at *
 have HUE:=Lib.hid hUe
 have HVE:=Lib.hid hVe
 clear hUe hVe
 generalize hNe:cnt zs m=N at *
 generalize hWe:cnt zs (m+1)=W at *
 have HNE:=Lib.hid hNe
 have HWE:=Lib.hid hWe
 clear hNe hWe
 go_cut [5,6,7] (fun p q o wr=>∃ua uc va vc oa oc,p=.slice ua N uc∧q=.slice va W vc∧o=.slice oa 0 oc∧OM wr ua N U∧OM wr va W V∧Own wr gA 31 #[.slice da dn dc,.slice a k c]∧Below gA w wr∧wr.ownsRow (gA+1) 22 1 (.slice oa 0 oc) 0 [])
 case first=>
  have hO':Own w0.drew gA 31 #[.slice da dn dc,.slice a k c]:=hO;have hbb:Below gA w w0.drew:=hb.drew
  go_region_held3 (fun w'=>w'.cell? ⟨gA,0,none⟩=some (.slice da dn dc)) (first | exact hO'.cell 0 | exact (hO'.alloc _).cell 0 | exact (own_drew (hO.alloc _)).cell 0)
   (first
    | (go_at_call 21;(first | ((with_reducible refine (HC1.out _ hbb).mono ?_);rintro e w2 ⟨ua,uc,rfl,hU,hb2⟩;have hU:OM _ _ _ _:=⟨_,_,hU⟩;(try (have hV:=hV.keep hb2));(try (have hRow:=row_keep hRow hb2));have hbb:=bT' hbb hb2 (Nat.le_of_lt hO'.lt);have hO':=hO'.keep hb2 hO'.lt) | ((with_reducible refine (HC1.out _ (hbb.alloc (Nat.le_of_lt hO'.lt) _)).mono ?_);rintro e w2 ⟨ua,uc,rfl,hU,hb2⟩;have hU:OM _ _ _ _:=⟨_,_,hU⟩;(try (have hV:=(hV.keep (bA1 _ _)).keep hb2));have hRow:=row_keep (empty_rowG _ 22 (B:=gA+1) hO'.lt) hb2;have hbb:=bT' (hbb.alloc (Nat.le_of_lt hO'.lt) _) hb2 (Nat.le_of_lt (hO'.alloc _).lt);have hO':=(hO'.alloc _).keep hb2 (hO'.alloc _).lt) | ((with_reducible refine (HC1.out _ ((hb.alloc (Nat.le_of_lt hO.lt) _).drew)).mono ?_);rintro e w2 ⟨ua,uc,rfl,hU,hb2⟩;have hU:OM _ _ _ _:=⟨_,_,hU⟩;have hRow:=row_keep (row_drew (empty_rowG w0 22 (B:=gA+1) hO.lt)) hb2;have hbb:=bT' ((hb.alloc (Nat.le_of_lt hO.lt) _).drew) hb2 (Nat.le_of_lt (hO.alloc _).lt);have hO':=(own_drew (hO.alloc _)).keep hb2 (hO.alloc _).lt)))
    | (go_at_call 21;(first | ((with_reducible refine (HC2.out _ hbb).mono ?_);rintro e w3 ⟨va,vc,rfl,hV,hb3⟩;have hV:OM _ _ _ _:=⟨_,_,hV⟩;(try (have hU:=hU.keep hb3));(try (have hRow:=row_keep hRow hb3));have hbb:=bT' hbb hb3 (Nat.le_of_lt hO'.lt);have hO':=hO'.keep hb3 hO'.lt) | ((with_reducible refine (HC2.out _ (hbb.alloc (Nat.le_of_lt hO'.lt) _)).mono ?_);rintro e w3 ⟨va,vc,rfl,hV,hb3⟩;have hV:OM _ _ _ _:=⟨_,_,hV⟩;(try (have hU:=(hU.keep (bA1 _ _)).keep hb3));have hRow:=row_keep (empty_rowG _ 22 (B:=gA+1) hO'.lt) hb3;have hbb:=bT' (hbb.alloc (Nat.le_of_lt hO'.lt) _) hb3 (Nat.le_of_lt (hO'.alloc _).lt);have hO':=(hO'.alloc _).keep hb3 (hO'.alloc _).lt) | ((with_reducible refine (HC2.out _ ((hb.alloc (Nat.le_of_lt hO.lt) _).drew)).mono ?_);rintro e w3 ⟨va,vc,rfl,hV,hb3⟩;have hV:OM _ _ _ _:=⟨_,_,hV⟩;have hRow:=row_keep (row_drew (empty_rowG w0 22 (B:=gA+1) hO.lt)) hb3;have hbb:=bT' ((hb.alloc (Nat.le_of_lt hO.lt) _).drew) hb3 (Nat.le_of_lt (hO.alloc _).lt);have hO':=(own_drew (hO.alloc _)).keep hb3 (hO.alloc _).lt))))
  all_goals go_wp2_with fail
  all_goals go_meet
  all_goals first
   | exact ⟨_,_,_,_,_,_,rfl,rfl,rfl,hU,hV,hO',hbb,hRow⟩
   | exact ⟨_,_,_,_,_,_,rfl,rfl,rfl,hU.keep (bA1 _ _),hV.keep (bA1 _ _),hO'.alloc _,hbb.alloc (Nat.le_of_lt hO'.lt) _,empty_rowG _ 22 (B:=gA+1) hO'.lt⟩
 case rest=>
  obtain ⟨ua,uc,va,vc,oa,oc,rfl,rfl,rfl,hU,hV,hO1,hb1,hRow⟩:=hcut;obtain ⟨Vr,hVr⟩:∃X,U.map (dRow zs ims V)=X:=⟨_,rfl⟩;have HVR:=Lib.hid hVr;have HW0:Hid (RowsX wc (gA+1) Vr 0 []):=Lib.hid ⟨rfl,by simp,by simp,by simp⟩;clear hVr hb hO hs0;clear w0;go_upto_region 3 with fail
  go_loopw [7,8] (fun o y wr=>∃(j:Nat) (oa:Option Addr) (oc:Nat) (gs:List Nat),j≤N∧y=.int .i64 j∧o=.slice oa j oc∧Below gA w wr∧Own wr gA 31 #[.slice da dn dc,.slice a k c]∧OM wr ua N U∧OM wr va W V∧wr.ownsRow (gA+1) 22 1 (.slice oa j oc) j (rowSl W gs)∧Hid (RowsX wr (gA+1) Vr j gs)) (fun _ y _=>N - (intOf y).toNat)
  case atStart=>exact ⟨0,_,_,[],Nat.zero_le _,rfl,rfl,hb1,hO1,hU,hV,hRow,HW0⟩
  case round=>
   clear hb1 hO1 hU hV hRow HW0;obtain ⟨j,oa,oc,gs,hj,rfl,rfl,hb,hO,hU,hV,hRow,HW⟩:=hrel;by_cases hlt:j<N
   · have hji:(j:Int)<(N:Int):=(by omega);have hj0:(0:Int)≤(j:Int):=(by omega);obtain ⟨b,off,u,rfl,hlb,hr,hmu,hx⟩:=hU.mos.at_ hlt;have HDF:=Lib.hid (diff_facts HIA.out HAO.out HZ1.out (n:=m) (by omega) (by rw [HWE.out];exact HCC.out) (u:=u) (by rw [←side,HUE.out];exact List.mem_of_getElem? hx.out) hmu);have HXR:Hid (Vr[j]? = some (dRow zs ims V u)):=Lib.hid (by rw [←HVR.out,List.getElem?_map,hx.out];rfl);obtain ⟨u0,u1,u2,u3,u4,u5,u6,u7,rfl⟩:=mono8 hmu;have HUX:=Lib.hid hx.out;have HORD:Hid (Ord V):=Lib.hid (by rw [←HVE.out];exact ext_ord _ _);have HMEM:Hid (∀t∈diffT zs ims [] [⟨[u0,u1,u2,u3,u4,u5,u6,u7],1⟩],t.m∈V):=Lib.hid (fun t ht=>by rw [←HVE.out];exact HDF.out.2.2.2.1 t ht);clear hx;go_upto_region 5 with fail
     replace hb:Below gA w wr.drew:=hb.drew;replace hO:Own wr.drew gA 31 #[.slice da dn dc,.slice a k c]:=hO;replace hU:OM wr.drew (some ⟨b,off,none⟩) N U:=hU;replace hV:OM wr.drew va W V:=hV;replace hRow:=row_drew hRow;replace HW:Hid (RowsX wr.drew (gA+1) Vr j gs):=HW;replace hr:wr.drew.rangeAt b (off+j * 8) (mcells [u0,u1,u2,u3,u4,u5,u6,u7]):=hr;replace hlb:b<wr.drew.heap.size:=hlb;refine wp_region_held_drew (S:=(fun w'=>w'.cell? ⟨gA,0,none⟩=some (.slice da dn dc)∧w'.cell? ⟨gA,1,none⟩=some (.slice a k c)∧w'.cell? ⟨b,off+j * 8,none⟩=some (.int .u8 u0)∧w'.cell? ⟨b,off+j * 8+1,none⟩=some (.int .u8 u1)∧w'.cell? ⟨b,off+j * 8+2,none⟩=some (.int .u8 u2)∧w'.cell? ⟨b,off+j * 8+3,none⟩=some (.int .u8 u3)∧w'.cell? ⟨b,off+j * 8+4,none⟩=some (.int .u8 u4)∧w'.cell? ⟨b,off+j * 8+5,none⟩=some (.int .u8 u5)∧w'.cell? ⟨b,off+j * 8+6,none⟩=some (.int .u8 u6)∧w'.cell? ⟨b,off+j * 8+7,none⟩=some (.int .u8 u7))) (by kernel_rfl) ?_ (fun _=>?_)
     · ((try dsimp only);(exact ⟨hO.cell 0,hO.cell 1,eight hr⟩))
     refine hdT 0 ?_;refine hdT 1 ?_;refine hdT 2 ?_;refine hdT 3 ?_;refine hdT 4 ?_;refine hdT 5 ?_;refine hdT 8 ?_;refine hdC 6 (fun K hK=>?_)
     (go_simp;(go_at_call 50;refine (l01Single_c hmu).mono ?_;rintro e w2 ⟨g1,rfl,hg1,hT1,hb2⟩;have hr:=rgK hr (hb2.block b hlb);have hlb:=Nat.lt_of_lt_of_le hlb (hb2).size;have hU:=hU.keep hb2;have hV:=hV.keep hb2;have hRow:=row_keep hRow hb2;have HW:=Lib.hid (HW.out.keep hb2);have hb:=bT' hb hb2 (Nat.le_of_lt hO.lt);have hO:=hO.keep hb2 hO.lt);go_wp2_with fail)
     refine hK.out _ _ ?_ (fun _=>?_)
     · ((try dsimp only);(exact ⟨hO.cell 0,hO.cell 1,eight hr⟩))
     clear hK K
     (try simp only [Act.put,pA,pB,pC])
     refine hdC 7 (fun K hK=>?_)
     (go_simp; (go_at_call 47; refine (l02D_c dc c 1 (HD.out.keep (by rw [HGA.out]; exact hb)) (HF.out.keep (by rw [HGA.out]; exact hb)) hT1 HAO.out HMI.out (fun t ht => by
           obtain rfl:t=⟨[u0,u1,u2,u3,u4,u5,u6,u7],1⟩:=by simpa using ht
           exact HDF.out.1) (fun t ht=>by
           obtain rfl:t=⟨[u0,u1,u2,u3,u4,u5,u6,u7],1⟩:=by simpa using ht
           exact ⟨by dsimp only;omega,by dsimp only;omega⟩) (by omega)).mono ?_;rintro e w3 ⟨v,rfl,hOF,hb3⟩;obtain ⟨fa,fn,fc,rfl⟩:=hOF.isSlice;have hT3:=hOF.r.read HDF.out.2.1;have hr:=rgK hr (hb3.block b hlb);have hlb:=Nat.lt_of_lt_of_le hlb (hb3).size;have hU:=hU.keep hb3;have hV:=hV.keep hb3;have hRow:=row_keep hRow hb3;have HW:=Lib.hid (HW.out.keep hb3);have hb:=bT' hb hb3 (Nat.le_of_lt hO.lt);have hO:=hO.keep hb3 hO.lt);go_wp2_with fail)
     refine hK.out _ _ ?_ (fun _=>?_)
     · ((try dsimp only);(exact ⟨hO.cell 0,hO.cell 1,eight hr⟩))
     clear hK K
     (try simp only [Act.put,pA,pB,pC])
     refine hdC 9 (fun K hK=>?_)
     (go_simp;(go_at_call 49;refine (vector3_c vc fc hV.mos HORD.out (by omega) hT3 (by have h9:=HDF.out.2.2.2.2.2.1;rw [hT3.len] at h9;omega) HDF.out.2.2.1.srt HMEM.out).mono ?_;rintro e w4 ⟨g4,rfl,hg4,hG4,hb4⟩;have hgl4:=Lib.hid hO.lt;have HS4:=Lib.hid HW.out;have hr:=rgK hr (hb4.block b hlb);have hlb:=Nat.lt_of_lt_of_le hlb (hb4).size;have hU:=hU.keep hb4;have hV:=hV.keep hb4;have hRow:=row_keep hRow hb4;have HW:=Lib.hid (HW.out.keep hb4);have hb:=bT' hb hb4 (Nat.le_of_lt hO.lt);have hO:=hO.keep hb4 hO.lt);go_wp2_with fail)
     refine hK.out _ _ ?_ (fun _=>?_)
     · ((try dsimp only);(exact ⟨hO.cell 0,hO.cell 1,eight hr⟩))
     clear hK K
     (try simp only [Act.put,pA,pB,pC])
     refine hdC 10 (fun K hK=>?_)
     (go_simp;try go_wp2_with fail)
     have hnb:=news1 w4 (Value.slice (some ⟨g4,0,none⟩) W W);have hG5:=hG4.alloc (.cells #[.slice (some ⟨g4,0,none⟩) W W] 22);have hbX:=bA1 w4 (.cells #[.slice (some ⟨g4,0,none⟩) W W] 22);have hr:=rgK hr (hbX.block b hlb);have hlb:=Nat.lt_of_lt_of_le hlb (hbX).size;have hU:=hU.keep hbX;have hV:=hV.keep hbX;have hRow:=row_keep hRow hbX;have HW:=Lib.hid (HW.out.keep hbX);have hb:=bT' hb hbX (Nat.le_of_lt hO.lt);have hO:=hO.keep hbX hO.lt;generalize w4.alloc (.cells #[.slice (some ⟨g4,0,none⟩) W W] 22)=w5 at *;generalize w4.heap.size=gN at *;refine hK.out _ _ ?_ (fun _=>?_)
     · ((try dsimp only);(exact ⟨hO.cell 0,hO.cell 1,eight hr⟩))
     clear hK K
     (try simp only [Act.put,pA,pB,pC])
     refine hdC 11 (fun K hK=>?_);have HRW:=Lib.hid hRow;have HNW:=Lib.hid hnb;have hszW:gA+1≤w5.heap.size:=hO.lt;rw [if_pos (by rfl)];refine wp_append_own_wide _ (.tmp 25) (.tmp 35) 64 rfl (gA+1) 22 ti tz 1 24 Tryz.underlying64 HTI.out HTZ.out HTS.out HTB.out HTZs.out (by omega) (.slice oa j oc) j _ rfl HRW.out ⟨gN,0,none⟩ 1 1 [Value.slice (some ⟨g4,0,none⟩) W W] rfl rfl HNW.out (by simp [Value.oneCell']) (by simp only [maxLen];omega) (by omega) hszW (fun v' w6 h2 h3 h4=>?_);obtain ⟨xa,xc,rfl⟩:=row_slice h2;replace hb:=grown_below hb h3 (fun q e=>by have:=(HRW.out.lt q e).1;omega) (Nat.le_of_lt hO.lt);replace hG5:=hG5.grown h3 (own_ne_row hG5 HRW.out (by decide));replace hO:=hO.grown h3 (own_ne_row hO HRW.out (by decide));replace hU:=hU.grown HRW.out h3;replace hV:=hV.grown HRW.out h3;replace HW:=Lib.hid (HW.out.grown HRW.out h3);replace hr:=hU.range HUX.out
     have hR6:w6.ownsRow (gA+1) 22 1 (.slice xa (j+1) xc) (j+1) (rowSl W (gs++[g4])):=by
      rw [rowSl,List.map_append];exact h2
     have HW6:=Lib.hid (HW.out.snoc HXR.out (fun x hx=>Nat.lt_of_lt_of_le (HS4.out.2.2.2 x hx).2 hg4) (by have:=hgl4.out;omega) hG5);clear HNW HRW hszW h2 h3 h4 hnb hRow;refine hK.out _ _ ?_ (fun _=>?_)
     · ((try dsimp only);(exact ⟨hO.cell 0,hO.cell 1,eight hr⟩))
     clear hK K
     (try simp only [Act.put,pA,pB,pC])
     refine hdT 12 ?_;refine wpAnyH_done (by kernel_rfl) ?_ _;go_wp2_with fail
     go_roundw
     case rel=>exact ⟨j+1,xa,xc,gs++[g4],by omega,by go_num,rfl,hb,hO,hU,hV,hR6,HW6⟩
     case measure=>simp [intOf] <;> omega
   · obtain rfl:j=N:=(by omega);have HR:=Lib.hid hRow;clear hRow;go_wp2_with fail
     go_ret
     obtain ⟨ra,rc,hrr,hOT⟩:=ownT_row (V:=Vr) (m:=W) (by rw [←HVR.out,List.length_map,HU.out]) HW.out.1 (by
      intro row hrow;rw [←HVR.out] at hrow;obtain ⟨u,-,rfl⟩:=List.mem_map.1 hrow
      rw [dRow,rowT_len,HV.out]) HR.out (fun i g row h1 h2=>HW.out.2.1 i g row h1 h2) (fun g hg=>(HW.out.2.2.2 g hg).1) HW.out.2.2.1
     simp only [Value.slice.injEq] at hrr;obtain ⟨rfl,-,rfl⟩:=hrr;rw [HNE.out,HUE.out,HVE.out,HVR.out,HGA.out];exact ⟨oa,oc,rfl,hOT.weaken (by omega) (Nat.le_refl _),hb⟩
end Go.Proofs.YtfheammnkmjabaaGreat
