
import Derived.Test.YtifcfoijcodjbaaGreatElimC
import Derived.WalkMore
import Derived.OwnWalk
import Derived.Test.YtifcfoijcodjbaaGreatHeld
namespace Go.Proofs.YtifcfoijcodjbaaGreat
set_option maxRecDepth 100000
open Go.RowKit Go.Deep
def ptrW (W:Nat) (p:Nat × Nat):Value:=.slice (some ⟨p.1,0,none⟩) W p.2
def slp (W:Nat) (ps:List (Nat × Nat)):List Value:=ps.map (ptrW W)
def InP (ps:List (Nat × Nat)) (k:Nat):Prop:=∃p∈ps,p.1=k
structure Rws (w:World) (ps:List (Nat × Nat)) (R:List (List Int)):Prop where
 len:ps.length=R.length
 nd:∀(i j:Nat) p q,ps[i]? = some p→ps[j]? = some q→p.1=q.1→i=j
 at_:∀(i:Nat) p r,ps[i]? = some p→R[i]? = some r→RowAt w p.1 r
section
variable {w w':World} {ps:List (Nat × Nat)} {R:List (List Int)}
theorem Rws.keep {B:Nat} (h:Rws w ps R) (hb:Below B w w') (hB:∀k,InP ps k→k<B):Rws w' ps R:=⟨h.len,h.nd,fun i p r h1 h2=>(h.at_ i p r h1 h2).keep hb (hB _ ⟨p,List.mem_of_getElem? h1,rfl⟩)⟩
theorem Rws.lt (h:Rws w ps R) {k:Nat} (hk:InP ps k):k<w.heap.size:=by
 obtain ⟨p,hp,rfl⟩:=hk
 obtain ⟨i,hi,rfl⟩:=List.mem_iff_getElem.1 hp
 exact (h.at_ i _ (R[i]'(by rw [←h.len];exact hi)) (List.getElem?_eq_getElem hi) (List.getElem?_eq_getElem (by rw [←h.len];exact hi))).lt
theorem Rws.touch {p:Nat→Prop} (h:Rws w ps R) (ht:Touch p w w') (hp:∀k,InP ps k→¬p k):Rws w' ps R:=⟨h.len,h.nd,fun i q r h1 h2=>(h.at_ i q r h1 h2).touch ht (hp _ ⟨q,List.mem_of_getElem? h1,rfl⟩)⟩
theorem Rws.grown {row:Option Nat} (h:Rws w ps R) (hb:w.grownBy w' row) (hg:∀k,InP ps k→some k≠row):Rws w' ps R:=⟨h.len,h.nd,fun i q r h1 h2=>(h.at_ i q r h1 h2).grown hb (hg _ ⟨q,List.mem_of_getElem? h1,rfl⟩)⟩
theorem Rws.far (h:Rws w ps R) {p:Addr} (hp:¬InP ps p.block) (u:Value):Rws (w.setCell p u) ps R:=⟨h.len,h.nd,fun i q r h1 h2=>(h.at_ i q r h1 h2).far (fun e=>hp ⟨q,List.mem_of_getElem? h1,e⟩) u⟩
theorem Rws.drew (h:Rws w ps R):Rws w.drew ps R:=h.keep (B:=w.heap.size) ((Below.refl _ _).drew) (fun _ hk=>h.lt hk)
theorem Rws.ne (h:Rws w ps R) {i j:Nat} {p q:Nat × Nat} (hi:ps[i]? = some p) (hj:ps[j]? = some q) (hne:¬i=j):¬p.1=q.1:=fun e=>hne (h.nd i j p q hi hj e)
theorem Rws.put (h:Rws w ps R) {j:Nat} {p:Nat × Nat} {r:List Int} (hj:ps[j]? = some p) (hr:RowAt w' p.1 r) (ht:Touch (fun k=>k=p.1) w w'):Rws w' ps (R.set j r):=by
 refine ⟨by rw [List.length_set];exact h.len,h.nd,fun i q s h1 h2=>?_⟩
 by_cases e:j=i
 · subst e;rw [hj,Option.some.injEq] at h1;subst h1;rw [List.getElem?_set_self (by rw [←h.len];exact (List.getElem?_eq_some_iff.1 hj).1),Option.some.injEq] at h2;subst h2;exact hr
 · rw [List.getElem?_set_ne e] at h2;exact (h.at_ i q s h1 h2).touch ht (fun e2=>h.ne hj h1 e e2.symm)
end
theorem rw_set {R:List (List Int)} {j q:Nat} {r:List Int} (hj:j<R.length):rw_ (R.set j r) q=if q=j then r else rw_ R q:=by
 rw [rw_,List.getD_eq_getElem?_getD]
 by_cases e:q=j
 · rw [e,List.getElem?_set_self hj,if_pos rfl];rfl
 · rw [List.getElem?_set_ne (fun h=>e h.symm),if_neg e,rw_,List.getD_eq_getElem?_getD]
theorem slp_get {W:Nat} {ps:List (Nat × Nat)} {q:Nat} {p:Nat × Nat} (h:ps[q]? = some p):(slp W ps).toArray[q]? = some (.slice (some ⟨p.1,0,none⟩) W p.2):=by
 rw [List.getElem?_toArray,slp,List.getElem?_map,h];rfl
theorem rw_get {R:List (List Int)} {j:Nat} (h:j<R.length):R[j]? = some (rw_ R j):=by
 rw [rw_,List.getD_eq_getElem?_getD,List.getElem?_eq_getElem h];rfl
theorem getD_get {r:List Int} {c W:Nat} (h:r.length=W) (hc:c<W):r[c]? = some (r.getD c 0):=by
 rw [List.getD_eq_getElem?_getD,List.getElem?_eq_getElem (by omega)];rfl
set_option maxHeartbeats 4000000 in
theorem clearColumnA_c {w : World} {gr W n i cc : Nat} {ps : List (Nat × Nat)} {R : List (List Int)} (c : Nat) (hM : Rws w ps R) (hpn : ps.length = n) (hok : ∀ r ∈ R, RowOk W r) (hn : n ≤ 1000) (hW : W ≤ 1000) (hi : i < n) (hcW : cc < W) (hgr : ¬ InP ps gr) (hR : Own w gr 82 (slp W ps).toArray)
    (hne:¬(rw_ R i).getD cc 0=0) :
    Calls Tryz.prog 183 #[.slice (some ⟨gr,0,none⟩) n c,.int .i64 i,.int .i64 cc] w fun e w'=>e=.returned (.tuple #[])∧∃R',Rws w' ps R'∧Hid ((∀r∈R',RowOk W r)∧∀q,q<n→rw_ R' q=if q=i then (rw_ R i).map (fun x=>num (x * invOf ((rw_ R i).getD cc 0))) else clr ((rw_ R i).map (fun x=>num (x * invOf ((rw_ R i).getD cc 0)))) cc (rw_ R q))∧Touch (InP ps) w w':=by
 have hRn:R.length=n:=by rw [←hM.len];exact hpn
 obtain ⟨pi,hpi⟩:∃p,ps[i]? = some p:=⟨_,List.getElem?_eq_getElem (by omega)⟩
 obtain ⟨g,ci⟩:=pi
 have hri:=rw_get (R:=R) (j:=i) (by omega)
 have hRok:=hok _ (List.mem_of_getElem? hri)
 have hrow:=hM.at_ i _ _ hpi hri
 obtain ⟨S,hRe⟩:∃S,rw_ R i=S:=⟨_,rfl⟩
 rw [hRe] at hne hRok hrow hri ⊢
 obtain ⟨x,hx⟩:∃x,S.getD cc 0=x:=⟨_,rfl⟩
 have hxb:=hRok.at_ cc
 have hcx0:=getD_get hRok.len hcW
 rw [hx] at hne hxb hcx0 ⊢
 have hx1:1≤x:=by omega
 have hvb:=invOf_bdE x
 obtain ⟨f,hf⟩:∃f,invOf x=f:=⟨_,rfl⟩
 rw [hf] at hvb ⊢
 obtain ⟨N,hN⟩:∃N,S.map (fun x=>num (x * f))=N:=⟨_,rfl⟩
 rw [hN]
 have hNok:RowOk W N:=⟨by rw [←hN,List.length_map,hRok.len],fun y hy=>by
  rw [←hN] at hy;obtain ⟨z,_,rfl⟩:=List.mem_map.1 hy
  exact ⟨num_lo _,by have:=num_hi (z * f);omega⟩⟩
 have hci:=hR.cell i
 rw [slp_get hpi] at hci
 have hcx:=hrow.cell hcx0
 have HSC:Hid (∀w',Rws w' ps R→Calls Tryz.prog 211 #[.slice (some ⟨g,0,none⟩) W ci,.int .i64 f] w' fun e w''=>e=.returned (.tuple #[])∧Rws w'' ps (R.set i N)∧Touch (fun k=>k=g) w' w''):=Lib.hid (fun w' h'=>by
  refine (scaleA_c ci f hRok.len hW (h'.at_ i _ _ hpi hri) hRok.bd hvb).mono ?_;rintro e w2 ⟨rfl,h1,h2⟩;rw [hN] at h1
  exact ⟨rfl,h'.put hpi h1 h2,h2⟩)
 have HX:=Lib.hid hx
 have HF:=Lib.hid hf
 have HNK:=Lib.hid hNok
 have HRK:=Lib.hid hRok
 have HOK:=Lib.hid hok
 have HPN:=Lib.hid hpn
 have HRN:=Lib.hid hRn
 have HPI:=Lib.hid hpi
 have HLN:=Lib.hid hM.len
 have hgin:InP ps g:=⟨_,List.mem_of_getElem? hpi,rfl⟩
 have hgg:¬gr=g:=fun e=>hgr (by rw [e];exact hgin)
 have hcc0:(0:Int)≤(cc:Int):=by omega
 have hccW:(cc:Int)<(W:Int):=by omega
 have hi0:(0:Int)≤(i:Int):=by omega
 have hin:(i:Int)<(n:Int):=by omega
 clear hRe hx hf hNok hRok hN hpn hRn hpi hri hrow hok hcx0
 go_enter Tryz.func183,Tryz.ntmps183
 go_upto_region 0 with fail
 replace hM:=hM.drew
 replace hcx:w.drew.cell? ⟨g,cc,none⟩=some (.int .i64 x):=hcx
 replace hci:w.drew.cell? ⟨gr,i,none⟩=some (.slice (some ⟨g,0,none⟩) W ci):=hci
 replace hR:Own w.drew gr 82 (slp W ps).toArray:=hR
 have ht:Touch (InP ps) w w.drew:=Touch.of_below ((Below.refl _ _).drew)
 have HCI:Hid (∀{w1:World},Own w1 gr 82 (slp W ps).toArray→w1.cell? ⟨gr,i,none⟩=some (.slice (some ⟨g,0,none⟩) W ci)):=Lib.hid (fun h=>by
  have:=h.cell i;rw [slp_get HPI.out] at this
  exact this)
 refine wp_region_held_drew (S:=(fun w'=>w'.cell? ⟨gr,i,none⟩=some (.slice (some ⟨g,0,none⟩) W ci))) (by kernel_rfl) ?_ (fun _=>?_)
 · ((try dsimp only);(exact hci))
 generalize w.drew=W0d at *
 refine hdT 0 ?_
 refine hdT 1 ?_
 refine hdT 2 ?_
 refine hdT 3 ?_
 refine hdT 4 ?_
 refine hdT 5 ?_
 refine hdT 6 ?_
 refine hdT 7 ?_
 refine hdT 8 ?_
 refine hdT 9 ?_
 refine hdC 10 (fun K hK=>?_)
 (go_simp;try go_wp2_with fail)
 refine hK.out _ _ ?_ (fun _=>?_)
 · ((try dsimp only);(exact hci))
 clear hK K
 (try simp only [Act.put,pA,pB,pC])
 refine hdC 11 (fun K hK=>?_)
 (go_simp;(go_at_call 212;refine (inverse3_c x _ hx1 hxb.2).mono ?_;rintro e w2 ⟨rfl,rfl⟩;rw [HF.out]);go_wp2_with fail)
 refine hK.out _ _ ?_ (fun _=>?_)
 · ((try dsimp only);(exact hci))
 clear hK K
 (try simp only [Act.put,pA,pB,pC])
 refine hdC 12 (fun K hK=>?_)
 (go_simp;(go_at_call 211;refine (HSC.out _ hM).mono ?_;rintro e W1 ⟨rfl,hO2,ht2⟩);go_wp2_with fail)
 replace ht:=ht.trans (ht2.mono (fun k hk=>by rw [hk];exact hgin))
 replace hR:=ht2.own hR hgg
 clear hM ht2 hcx hci
 have hci:=HCI.out hR
 refine hK.out _ _ ?_ (fun _=>?_)
 · ((try dsimp only);(exact hci))
 clear hK K
 (try simp only [Act.put,pA,pB,pC])
 refine wpAnyH_done (by kernel_rfl) ?_ _
 go_wp2_with fail
 have HF1:Hid ((∀r∈R.set i N,RowOk W r)∧∀q,q<n→rw_ (R.set i N) q=if q=i then N else if q<0 then clr N cc (rw_ R q) else rw_ R q):=Lib.hid ⟨fun r hr=>by
  rcases List.mem_or_eq_of_mem_set hr with h | h
  · exact HOK.out r h
  · rw [h];exact HNK.out,fun q hq=>by
  rw [rw_set (by have:=HRN.out;omega)];by_cases e:q=i
  · rw [if_pos e,if_pos e]
  · rw [if_neg e,if_neg e,if_neg (by omega)]⟩
 generalize R.set i N=R0 at *
 go_upto_region 2 with fail
 go_loopw [23] (fun y wr=>∃(j:Nat) (R1:List (List Int)),j≤n∧y=.int .i64 j∧Touch (InP ps) w wr∧Rws wr ps R1∧Own wr gr 82 (slp W ps).toArray∧Hid ((∀r∈R1,RowOk W r)∧∀q,q<n→rw_ R1 q=if q=i then N else if q<j then clr N cc (rw_ R q) else rw_ R q)) (fun y _=>n - (intOf y).toNat)
 case atStart=>exact ⟨0,R0,Nat.zero_le _,rfl,ht,hO2,hR,HF1⟩
 case round=>
  clear ht hO2 hR HF1 hci;obtain ⟨j,R1,hj,rfl,ht,hM,hR,H1⟩:=hrel;have hj0:(0:Int)≤(j:Int):=(by omega);by_cases hjn:j<n
  · have hji:(j:Int)<(n:Int):=(by omega);obtain ⟨pj,hpj⟩:∃p,ps[j]? = some p:=⟨_,List.getElem?_eq_getElem (by have:=HPN.out;omega)⟩;obtain ⟨g2,cj⟩:=pj;have hcj:=hR.cell j;rw [slp_get hpj] at hcj;by_cases hji2:j=i
    · subst hji2;have hjb:((j:Int) != (j:Int))=false:=(by simp);go_wp2_with fail
      go_roundw
      case rel=>
       refine ⟨j+1,R1,by omega,by go_num,ht,hM,hR,Lib.hid ⟨H1.out.1,fun q hq=>?_⟩⟩;rw [H1.out.2 q hq];by_cases e:q=j
       · rw [if_pos e,if_pos e]
       · rw [if_neg e,if_neg e];by_cases e2:q<j
         · rw [if_pos e2,if_pos (by omega)]
         · rw [if_neg e2,if_neg (by omega)]
      case measure=>simp [intOf] <;> omega
    · have hjb:((j:Int) != (i:Int))=true:=(by simp;omega);have hne2:=hM.ne hpj HPI.out hji2;have hR1n:R1.length=n:=(by rw [←hM.len];exact HPN.out);have hrj:=rw_get (R:=R1) (j:=j) (by omega);have hrj1:rw_ R1 j=rw_ R j:=(by rw [H1.out.2 j hjn,if_neg hji2,if_neg (by omega)]);have hrii:=rw_get (R:=R1) (j:=i) (by omega);have hNi:rw_ R1 i=N:=(by rw [H1.out.2 i hi,if_pos rfl]);obtain ⟨P,hP⟩:∃P,rw_ R j=P:=⟨_,rfl⟩;rw [hrj1,hP] at hrj;rw [hNi] at hrii;have hPok:=H1.out.1 _ (List.mem_of_getElem? hrj);obtain ⟨k,hk⟩:∃k,P.getD cc 0=k:=⟨_,rfl⟩;have hkb:=hPok.at_ cc;have hk0:=getD_get hPok.len hcW;rw [hk] at hkb hk0;have hck:=(hM.at_ j _ _ hpj hrj).cell hk0
      have HAD:Hid (∀w',Rws w' ps R1→Calls Tryz.prog 130 #[.slice (some ⟨g2,0,none⟩) W cj,.int .i64 (num (-k)),.slice (some ⟨g,0,none⟩) W ci] w' fun e w''=>e=.returned (.tuple #[])∧Rws w'' ps (R1.set j (clr N cc P))∧Touch (fun k=>k=g2) w' w''):=Lib.hid (fun w' h'=>by
       refine (addA_c (g2:=g) (off:=0) (O:=N) cj ci (num (-k)) hPok.len HNK.out.len hW (h'.at_ j _ _ hpj hrj) hPok.bd HNK.out.bd ⟨num_lo _,by have:=num_hi (-k);omega⟩ (fun w2 h2=>((h'.at_ i _ _ HPI.out hrii).touch h2 (fun e=>hne2 e.symm)).rd0)).mono ?_;rintro e w2 ⟨rfl,h1,h2⟩;rw [addR_clr hPok.len HNK.out.len] at h1;refine ⟨rfl,h'.put hpj ?_ h2,h2⟩;rw [clr,hk]
       exact h1)
      have HP:=Lib.hid hP;have HPK:=Lib.hid hPok;have HR1N:=Lib.hid hR1n;have hg2in:InP ps g2:=⟨_,List.mem_of_getElem? hpj,rfl⟩;have hgg2:¬gr=g2:=fun e=>hgr (by rw [e];exact hg2in);clear hP hPok hk hrj hrj1 hrii hNi hR1n hk0 hpj;go_upto_region 5 with fail
      replace hM:=hM.drew;replace hR:Own wr.drew gr 82 (slp W ps).toArray:=hR;replace hck:wr.drew.cell? ⟨g2,cc,none⟩=some (.int .i64 k):=hck;have hci:wr.drew.cell? ⟨gr,i,none⟩=some (.slice (some ⟨g,0,none⟩) W ci):=HCI.out hR;replace ht:Touch (InP ps) w wr.drew:=ht.trans (Touch.of_below ((Below.refl _ _).drew));clear hcj;refine wp_region_held_drew (S:=(fun w'=>w'.cell? ⟨gr,i,none⟩=some (.slice (some ⟨g,0,none⟩) W ci))) (by kernel_rfl) ?_ (fun _=>?_)
      · ((try dsimp only);(exact hci))
      generalize wr.drew=W0d at *;refine hdT 0 ?_;refine hdT 1 ?_;refine hdT 2 ?_;refine hdT 3 ?_;refine hdT 6 ?_;refine hdT 7 ?_;refine hdT 8 ?_;refine hdT 9 ?_;refine hdC 4 (fun K hK=>?_)
      (go_simp;try go_wp2_with fail)
      refine hK.out _ _ ?_ (fun _=>?_)
      · ((try dsimp only);(exact hci))
      clear hK K
      (try simp only [Act.put,pA,pB,pC])
      refine hdC 5 (fun K hK=>?_)
      (go_simp;(go_at_call 174;refine (opposite3_c k _ hkb).mono ?_;rintro e w2 ⟨rfl,rfl⟩);go_wp2_with fail)
      refine hK.out _ _ ?_ (fun _=>?_)
      · ((try dsimp only);(exact hci))
      clear hK K
      (try simp only [Act.put,pA,pB,pC])
      refine hdC 10 (fun K hK=>?_)
      (go_simp;(go_at_call 130;refine (HAD.out _ hM).mono ?_;rintro e W1 ⟨rfl,hO2,ht2⟩);go_wp2_with fail)
      replace ht:=ht.trans (ht2.mono (fun k hk=>by rw [hk];exact hg2in));replace hR:=ht2.own hR hgg2;clear hM ht2 hck hci;have hci:=HCI.out hR;refine hK.out _ _ ?_ (fun _=>?_)
      · ((try dsimp only);(exact hci))
      clear hK K
      (try simp only [Act.put,pA,pB,pC])
      refine wpAnyH_done (by kernel_rfl) ?_ _;go_wp2_with fail
      go_roundw
      case rel=>
       refine ⟨j+1,_,by omega,by go_num,ht,hO2,hR,Lib.hid ⟨fun r hr=>?_,fun q hq=>?_⟩⟩
       · rcases List.mem_or_eq_of_mem_set hr with h | h
         · exact H1.out.1 r h
         · rw [h];exact lessR_ok HPK.out.len HNK.out.len _
       · rw [rw_set (by have:=HR1N.out;omega)];by_cases e3:q=j
         · rw [if_pos e3,e3,if_neg hji2,if_pos (by omega),HP.out]
         · rw [if_neg e3,H1.out.2 q hq];by_cases e:q=i
           · rw [if_pos e,if_pos e]
           · rw [if_neg e,if_neg e];by_cases e2:q<j
             · rw [if_pos e2,if_pos (by omega)]
             · rw [if_neg e2,if_neg (by omega)]
      case measure=>simp [intOf] <;> omega
  · have he:j=n:=(by omega);subst he;go_wp2_with fail
    go_end0
    refine ⟨rfl,R1,hM,Lib.hid ⟨H1.out.1,fun q hq=>?_⟩,ht⟩;rw [H1.out.2 q hq];by_cases e:q=i
    · rw [if_pos e,if_pos e]
    · rw [if_neg e,if_neg e,if_pos hq]
theorem row_touch {w w':World} {p:Nat→Prop} {B sz n:Nat} {t:TypeId} {v:Value} {xs:List Value} (o:w.ownsRow B t sz v n xs) (h:Touch p w w') (hp:∀q,B≤q→¬p q):w'.ownsRow B t sz v n xs:=by
 obtain ⟨hl,h1⟩:=o
 refine ⟨hl,?_⟩
 rcases h1 with h0 | ⟨g,cap,cur,hv2,hb,hg,r⟩
 · exact Or.inl h0
 · exact Or.inr ⟨g,cap,cur,hv2,hb,(h.other g (Array.getElem?_eq_some_iff.1 hg).1 (hp g hb)).trans hg,r⟩
theorem row_farE {w:World} {B sz n:Nat} {t t':TypeId} {v:Value} {xs:List Value} {p:Addr} {os:Array Value} (h:w.ownsRow B t sz v n xs) (ho:Own w p.block t' os) (ht:t'≠t) (u:Value):(w.setCell p u).ownsRow B t sz v n xs:=
 ownsRow_setCell_other h (fun e=>own_ne_row ho h ht e.symm) u
theorem Touch.setNew {p:Nat→Prop} {w w':World} (h:Touch p w w') {b:Nat} (hb:w.heap.size≤b) (i:Nat) (v:Value):Touch p w (w'.setCell ⟨b,i,none⟩ v):=
 ⟨h.below.setCell (p:=⟨b,i,none⟩) (Nat.zero_le _) _,fun k hk hp=>(Below.heap_setCell _ ⟨b,i,none⟩ _ k (by dsimp only;omega)).trans (h.other k hk hp)⟩
theorem Tryz.info_intB:∃i z,Tryz.prog.info? 3=some i∧i.zero=some z∧i.size=1∧i.bytes=8∧z.cells.size=1:=by
 have h:(Tryz.prog.info? 3).map (fun i=>(i.zero,i.size,i.bytes))=some (some (.int .i64 0),1,8):=by kernel_rfl
 obtain ⟨i,hi,hzz⟩:=Option.map_eq_some_iff.1 h
 simp only [Prod.mk.injEq] at hzz
 obtain ⟨hz,hs,hb⟩:=hzz
 exact ⟨i,_,hi,hz,hs,hb,rfl⟩
theorem Tryz.info_basis:(Tryz.prog.info? 86).map (·.size)=some 2:=by kernel_rfl
theorem Tryz.sizeRow:∀w,(Go.sizeOf 82).run Tryz.prog w=.ok 1 w:=fun w=>by kernel_rfl
theorem sliceR_run (g o n c k : Nat) (h : k ≤ c) (w : World) :
    (Instr.slice 83 (.slice (some ⟨g,o,none⟩) n c) none (some (.int .i64 (k:Int))) none).run Tryz.prog w=.ok (.slice (some ⟨g,o,none⟩) k c) w:=by
 have he:Tryz.prog.elem 83=82:=by kernel_rfl
 have hu:Tryz.prog.underlying 83=some (.slice (Tryz.prog.elem 83)):=by rw [he];exact Tryz.underlying83
 have h:=run_slice_h (P:=Tryz.prog) w 83 (some ⟨g,o,none⟩) n c hu .i64 (k:Int) (by omega) (by omega)
 rw [h]
 have hs:=Tryz.sizeRow w
 rw [he,hs]
 simp [Result.andThen,sliced,Addr.add]
theorem cmb_place {x s:Vec} {q c:Nat}:∀{L:List (Nat × Vec)},L.Pairwise (fun a b=>a.1<b.1)→(q,s)∈L→x q=1→(∀f∈L,¬q=f.1→x f.1=0)→cmb x L c=s c
 | [],_,h,_,_=>by simp at h
 | e :: L, hs, h, h1, h0 => by
   rw [List.pairwise_cons] at hs;rw [List.mem_cons] at h
   rcases h with h | h
   · subst h;have:=cmb_none (x:=x) (c:=c) (L:=L) (fun f hf=>Or.inl (h0 f (by simp [hf]) (by have:=hs.1 f hf;omega)));simp only [cmb,h1,this]
     grind
   · have:=cmb_place (c:=c) hs.2 h h1 (fun f hf=>h0 f (by simp [hf]));have h2:=h0 e (by simp) (by have:=hs.1 _ h;omega);simp only [cmb,h2,this]
     grind
theorem sorted_ext:∀{A B:List Nat},A.Pairwise (· < ·)→B.Pairwise (· < ·)→(∀x,x∈A↔x∈B)→A=B
 | [],[],_,_,_=>rfl
 | [],b::B,_,_,h=>by have:=(h b).2 (by simp);simp at this
 | a::A,[],_,_,h=>by have:=(h a).1 (by simp);simp at this
 | a :: A, b :: B, ha, hb, h => by
   rw [List.pairwise_cons] at ha hb
   have e:a=b:=by
    have h1:=(h a).1 (by simp);have h2:=(h b).2 (by simp);rw [List.mem_cons] at h1 h2
    rcases h1 with h1 | h1
    · exact h1
    · rcases h2 with h2 | h2
      · exact h2.symm
      · have:=hb.1 a h1;have:=ha.1 b h2;omega
   subst e;congr 1
   refine sorted_ext ha.2 hb.2 (fun x=>⟨fun hx=>?_,fun hx=>?_⟩)
   · have:=(h x).1 (by simp [hx]);rw [List.mem_cons] at this
     rcases this with e | this
     · have:=ha.1 x hx;omega
     · exact this
   · have:=(h x).2 (by simp [hx]);rw [List.mem_cons] at this
     rcases this with e | this
     · have:=hb.1 x hx;omega
     · exact this
theorem vec_inj {m:Nat} {r s:List Int} (hr:RowOk m r) (hs:RowOk m s) (h:∀c,vec r c=vec s c):r=s:=by
 apply List.ext_getElem
 · rw [hr.len,hs.len]
 · intro i h1 h2;have:=h i;rw [vec,vec,List.getD_eq_getElem?_getD,List.getD_eq_getElem?_getD,List.getElem?_eq_getElem h1,List.getElem?_eq_getElem h2] at this;exact toK_inj (hr.bd _ (List.getElem_mem h1)) (hs.bd _ (List.getElem_mem h2)) this
theorem RedI.places {m:Nat} {L M:List (List Int)} (h:RedI m L) (h':RedI m M) (hs:SameSp (L.map vec) (M.map vec)) {s:List Int} (hm:s∈M):∃r∈L,fstN r=fstN s:=by
 obtain ⟨f,hf,e⟩:=h.red.place h'.red (fun e he=>by
  obtain ⟨t,ht,rfl⟩:=List.mem_map.1 he;rw [pairs_vec]
  exact hs.2 _ (List.mem_map.2 ⟨t,ht,rfl⟩)) _ (pairs_mem hm)
 obtain ⟨r,hr,rfl⟩:=List.mem_map.1 hf
 exact ⟨r,hr,e⟩
theorem RedI.sorted {m:Nat} {L:List (List Int)} (h:RedI m L):(L.map fstN).Pairwise (· < ·):=by
 have:=h.red.srt
 rw [pairs,List.pairwise_map] at this
 rw [List.pairwise_map]
 exact this
theorem RedI.uniq {m:Nat} {L M:List (List Int)} (h:RedI m L) (h':RedI m M) (hs:SameSp (L.map vec) (M.map vec)):L=M:=by
 have hp:L.map fstN=M.map fstN:=sorted_ext h.sorted h'.sorted (fun x=>⟨fun hx=>by
  obtain ⟨r,hr,rfl⟩:=List.mem_map.1 hx;obtain ⟨s,hs1,e⟩:=h'.places h hs.symm hr
  exact List.mem_map.2 ⟨s,hs1,e⟩,fun hx=>by
  obtain ⟨r,hr,rfl⟩:=List.mem_map.1 hx;obtain ⟨s,hs1,e⟩:=h.places h' hs hr
  exact List.mem_map.2 ⟨s,hs1,e⟩⟩)
 have hl:L.length=M.length:=by have:=congrArg List.length hp;simpa using this
 have hrow:∀r∈L,∀s∈M,fstN r=fstN s→r=s:=fun r hr s hsM e=>by
  refine vec_inj (h.ok r hr) (h'.ok s hsM) (fun c=>?_);have h1:=h'.red.span (x:=vec r) (by rw [pairs_vec];exact hs.1 _ (List.mem_map.2 ⟨r,hr,rfl⟩)) c;rw [h1];refine cmb_place (q:=fstN s) h'.red.srt (pairs_mem hsM) ?_ (fun f hf hne=>?_)
  · rw [←e];exact h.red.one _ (pairs_mem hr)
  · obtain ⟨t,ht,rfl⟩:=List.mem_map.1 hf;obtain ⟨u,hu,e2⟩:=h.places h' hs ht;have:=h.red.off _ (pairs_mem hr) _ (pairs_mem hu) (by dsimp only at hne ⊢;omega);dsimp only at this ⊢;rw [←e2];exact this
 apply List.ext_getElem hl
 intro i h1 h2
 refine hrow _ (List.getElem_mem h1) _ (List.getElem_mem h2) ?_
 have:(L.map fstN)[i]? = (M.map fstN)[i]? := by rw [hp]
 rw [List.getElem?_map,List.getElem?_map,List.getElem?_eq_getElem h1,List.getElem?_eq_getElem h2] at this
 simpa using this
theorem redR_redI {m:Nat} {V:List (List Int)} (hV:∀r∈V,RowOk m r):RedI m (redR V)∧SameSp ((redR V).map vec) (V.map vec):=by
 have:=redR_red (RedI.nil m) hV
 rw [redR]
 simpa using this
theorem redR_uniq {m:Nat} {V L:List (List Int)} (hV:∀r∈V,RowOk m r) (hL:RedI m L) (hs:SameSp (L.map vec) (V.map vec)):redR V=L:=
 (redR_redI hV).1.uniq hL ((redR_redI hV).2.trans hs.symm)
theorem redR_self {m:Nat} {L:List (List Int)} (hL:RedI m L):redR L=L:=redR_uniq hL.ok hL (SameSp.refl _)
theorem GJ.fstN_at {V:List Vec} {m c:Nat} {R:List (List Int)} {F:List Nat} (h:GJ V m R F c) {i f:Nat} (hi:F[i]? = some f):fstN (rw_ R i)=f:=
 fstN_eq (h.low i f hi) (by rw [h.one i f hi];omega)
theorem GJ.fsts {V:List Vec} {m c:Nat} {R:List (List Int)} {F:List Nat} (h:GJ V m R F c):(R.take F.length).map fstN=F:=by
 have hle:=h.le
 apply List.ext_getElem
 · rw [List.length_map,List.length_take];omega
 · intro i h1 h2;rw [List.getElem_map,List.getElem_take];have:=h.fstN_at (List.getElem?_eq_getElem h2)
   rwa [rw_at (List.getElem?_eq_getElem (show i<R.length by omega))] at this
theorem GJ.redI {V:List Vec} {m:Nat} {R:List (List Int)} {F:List Nat} (h:GJ V m R F m):RedI m (R.take F.length)∧SameSp ((R.take F.length).map vec) V:=by
 have hle:=h.le
 have hget:∀r∈R.take F.length,∃i f,F[i]? = some f∧r=rw_ R i∧i<R.length:=fun r hr=>by
  obtain ⟨i,hi,rfl⟩:=List.mem_iff_getElem.1 hr;rw [List.length_take] at hi;refine ⟨i,F[i]'(by omega),List.getElem?_eq_getElem (by omega),?_,by omega⟩;rw [List.getElem_take,rw_at (List.getElem?_eq_getElem (show i<R.length by omega))]
 have hok:∀r∈R.take F.length,RowOk m r:=fun r hr=>h.ok r (List.mem_of_mem_take hr)
 refine ⟨⟨hok,⟨?_,fun e he=>?_,fun e he c hc=>?_,fun e he f hf hne=>?_⟩,fun r hr=>?_⟩,fun v hv=>?_,fun v hv=>?_⟩
 · rw [pairs,List.pairwise_map];have:=h.srt;rw [←h.fsts,List.pairwise_map] at this;exact this
 · obtain ⟨r,hr,rfl⟩:=List.mem_map.1 he;obtain ⟨i,f,h1,rfl,h2⟩:=hget r hr;show toK ((rw_ R i).getD (fstN (rw_ R i)) 0)=1
   rw [h.fstN_at h1,h.one i f h1,toK_one]
 · obtain ⟨r,hr,rfl⟩:=List.mem_map.1 he;show toK (r.getD c 0)=0
   rw [fstN_low hc,toK_zero]
 · obtain ⟨r,hr,rfl⟩:=List.mem_map.1 he;obtain ⟨s,hs,rfl⟩:=List.mem_map.1 hf;obtain ⟨i,f,h1,rfl,h2⟩:=hget r hr;obtain ⟨j,k,h3,rfl,h4⟩:=hget s hs;show toK ((rw_ R i).getD (fstN (rw_ R j)) 0)=0
   dsimp only at hne;rw [h.fstN_at h3,h.off j k i h3 h2 (fun e=>hne (by rw [e])),toK_zero]
 · obtain ⟨i,f,h1,rfl,h2⟩:=hget r hr;rw [h.fstN_at h1];exact h.lt f (List.mem_of_getElem? h1)
 · refine Sp.of_sub (fun w hw=>h.span.1 w hw) (Sp.mem ?_);obtain ⟨r,hr,rfl⟩:=List.mem_map.1 hv;exact List.mem_map.2 ⟨r,List.mem_of_mem_take hr,rfl⟩
 · refine Sp.of_sub (fun w hw=>?_) (h.span.2 v hv);obtain ⟨r,hr,rfl⟩:=List.mem_map.1 hw;obtain ⟨j,hj,rfl⟩:=List.mem_iff_getElem.1 hr;by_cases e:j<F.length
   · refine Sp.mem (List.mem_map.2 ⟨R[j],?_,rfl⟩);rw [List.mem_iff_getElem];exact ⟨j,by rw [List.length_take];omega,by rw [List.getElem_take]⟩
   · have hz : vec R[j] = fun _ => 0 := by
       funext q
       have hok:=h.ok _ (List.getElem_mem hj);rw [vec_zero_iff hok];by_cases hq:q<m
       · have:=h.rest j (by omega) hj q hq
         rwa [rw_at (List.getElem?_eq_getElem hj)] at this
       · rw [List.getD_eq_getElem?_getD,List.getElem?_eq_none (by rw [hok.len];omega)];rfl
     rw [hz];exact Sp.zero
theorem GJ.redR {V0:List (List Int)} {m:Nat} {R:List (List Int)} {F:List Nat} (hV:∀r∈V0,RowOk m r) (h:GJ (V0.map vec) m R F m):R.take F.length=redR V0:=
 (redR_uniq hV h.redI.1 h.redI.2).symm
end Go.Proofs.YtifcfoijcodjbaaGreat
