
import Derived.Test.YtfheammnkmjabaaGreatRedS
import Derived.Test.YtfheammnkmjabaaGreatTabOf
namespace Go.Proofs.YtfheammnkmjabaaGreat
set_option maxRecDepth 100000
open Go.RowKit Go.Deep
theorem fstI_lt {m:Nat} {r:List Int} (h:r.length=m) (hf:fstN r<m):fstI r=(fstN r:Int):=by rw [fstI,if_pos (by omega)]
theorem fstI_no {m:Nat} {r:List Int} (h:r.length=m) (hf:¬fstN r<m):fstI r=-1:=by rw [fstI,if_neg (by omega)]
theorem rdrop {α:Type} {L:List α} {k:Nat} {s:α} (h:L[k]? = some s):L.drop k=s::L.drop (k+1):=by
 obtain ⟨hk,rfl⟩:=List.getElem?_eq_some_iff.1 h
 exact List.drop_eq_getElem_cons hk
set_option maxHeartbeats 1000000 in
theorem l03By_c {w : World} {a b : Option Addr} {m N : Nat} {r : List Int} {L : List (List Int)} (c c2 : Nat) (h : Ints w a m r) (hT : Tab w b N L) (hm : m ≤ 1000) (hN : N ≤ 1000) (hr : RowOk m r) (hL : ∀ s ∈ L, RowOk m s ∧ fstN s < m) :
    Calls Tryz.prog 68 #[.slice a m c,.slice b N c2] w fun e w'=>∃a' c',e=.returned (.slice a' m c')∧Ints w' a' m (byR r L)∧Below w.heap.size w w':=by
 have HT:=Lib.hid hT
 have HLn:=Lib.hid hT.1
 have HL:=Lib.hid hL
 have HR0:Hid (RowOk m r∧byR r L=byR r (L.drop 0)):=Lib.hid ⟨hr,by rw [List.drop_zero]⟩
 obtain ⟨Y,hY⟩:∃Y,byR r L=Y:=⟨_,rfl⟩
 rw [hY] at HR0 ⊢
 clear hT hL hr hY
 go_enter Tryz.func68,Tryz.ntmps68
 go_upto_region 2 with fail
 go_loopw [5,0] (fun y z wr=>∃(k:Nat) (ra:Option Addr) (rc:Nat) (r1:List Int),k≤N∧y=.int .i64 k∧z=.slice ra m rc∧Below w.heap.size w wr∧Ints wr ra m r1∧Hid (RowOk m r1∧Y=byR r1 (L.drop k))) (fun y _ _=>N - (intOf y).toNat)
 case atStart=>exact ⟨0,a,c,r,Nat.zero_le _,rfl,rfl,Below.refl _ _,h,HR0⟩
 case round=>
  clear h HR0;obtain ⟨k,ra,rc,r1,hk,rfl,rfl,hb,hI,HR⟩:=hrel;have hk0:(0:Int)≤(k:Int):=(by omega);by_cases hkn:k<N
  · have hki:(k:Int)<(N:Int):=(by omega);obtain ⟨b1,off,s,ai,mi,ci,rfl,hbl,hcs,hIs,hx⟩:=(HT.out.keep hb).at_ hkn;have hs:=HL.out s (List.mem_of_getElem? hx.out);obtain rfl:mi=m:=(by have:=hIs.len;have:=hs.1.len;omega);have hfs:=fstI_lt hs.1.len hs.2;obtain ⟨p,hp⟩:∃p,fstN s=p:=⟨_,rfl⟩;have hpm:p<mi:=(by rw [←hp];exact hs.2);rw [hp] at hfs;obtain ⟨b2,o2,x,rfl,hbl2,hcx,hxx⟩:=hI.at_ hpm;have hgx:r1.getD p 0=x:=by rw [List.getD_eq_getElem?_getD,hxx.out];rfl
    have HST:Hid (Y=byR (if x=0 then r1 else lessR r1 s x) (L.drop (k+1))):=Lib.hid (by
     rw [HR.out.2,rdrop hx.out,byR,hp,hgx])
    have hxb:=HR.out.1.at_ p;rw [hgx] at hxb;have HFS:=Lib.hid hfs;have HS:=Lib.hid hs.1;have HIS:=Lib.hid hIs;have hp0:(0:Int)≤(p:Int):=(by omega);have hpi:(p:Int)<(mi:Int):=(by omega);clear hs hfs hp hgx hIs;by_cases hx0:x=0
    · subst hx0;go_wp2_with (go_at_call 69;refine (l03First_c ci HIS.out (by omega)).mono ?_;rintro e w2 ⟨rfl,rfl⟩;rw [HFS.out])
      go_roundw
      case rel=>exact ⟨k+1,_,rc,r1,by omega,by go_num,rfl,hb,hI,Lib.hid ⟨HR.out.1,by have:=HST.out;simpa using this⟩⟩
      case measure=>simp [intOf] <;> omega
    · have hxn:(x != 0)=true:=(by simpa using hx0);go_upto_region 6 with (go_at_call 69;refine (l03First_c ci HIS.out (by omega)).mono ?_;rintro e w2 ⟨rfl,rfl⟩;rw [HFS.out])
      have HI:=Lib.hid hI;clear hI;have hI:Ints wr.drew (some ⟨b2,o2,none⟩) mi r1:=HI.out;have hIs:Ints wr.drew ai mi s:=HIS.out;replace hb:Below w.heap.size w wr.drew:=hb.drew;replace hcs:wr.drew.cell? ⟨b1,off+k,none⟩=some (.slice ai mi ci):=hcs;replace hcx:wr.drew.cell? ⟨b2,o2+p,none⟩=some (.int .i64 x):=hcx;replace hbl:b1<wr.drew.heap.size:=hbl;replace hbl2:b2<wr.drew.heap.size:=hbl2;clear HI HIS;refine wp_region_held_drew (S:=(fun w'=>w'.cell? ⟨b1,off+k,none⟩=some (.slice ai mi ci)∧w'.cell? ⟨b2,o2+p,none⟩=some (.int .i64 x))) (by kernel_rfl) ?_ (fun _=>?_)
      · ((try dsimp only);(exact ⟨hcs,hcx⟩))
      generalize wr.drew=W0d at *;refine hdT 0 ?_;refine hdT 1 ?_;refine hdT 2 ?_;refine hdT 3 ?_;refine hdT 4 ?_;refine hdT 5 ?_;refine hdT 6 ?_;refine hdT 7 ?_;refine hdT 8 ?_;refine hdC 9 (fun K hK=>?_)
      (go_simp;(go_at_call 70;refine (l03Less_c rc ci x hI hIs (by omega) HR.out.1.bd HS.out.bd (by omega)).mono ?_;rintro e W1 ⟨gN,rfl,hgN,hG,hbX⟩);go_wp2_with fail)
      replace hcs:=(hbX.cell (p:=⟨b1,off+k,none⟩) hbl).trans hcs;replace hcx:=(hbX.cell (p:=⟨b2,o2+p,none⟩) hbl2).trans hcx;replace hb:=bT' hb hbX hb.size;clear hI hIs hgN hbX;refine hK.out _ _ ?_ (fun _=>?_)
      · ((try dsimp only);(exact ⟨hcs,hcx⟩))
      clear hK K
      (try simp only [Act.put,pA,pB,pC])
      (refine hdTake (i:=10) (v:=?_) rfl (by kernel_rfl) (by kernel_rfl) (by kernel_rfl) (fun _ _ _ h=>h) (by rfl) ?_ (by assumption) ?_;rotate_left;(intro w hSw;(try dsimp only at hSw);go_simp;(try with_reducible rfl));(try simp only [Act.put,List.setIfInBounds_toArray,List.set_cons_zero]))
      refine wpAnyH_done (by kernel_rfl) ?_ _;go_wp2_with fail
      go_roundw
      case rel=>exact ⟨k+1,_,mi,lessR r1 s x,by omega,by go_num,rfl,hb,ints_of_own hG (lessR_ok HR.out.1.len HS.out.len x).len,Lib.hid ⟨lessR_ok HR.out.1.len HS.out.len x,by have:=HST.out;rwa [if_neg hx0] at this⟩⟩
      case measure=>simp [intOf] <;> omega
  · have he:k=N:=(by omega);subst he;go_wp2_with fail
    go_ret
    refine ⟨ra,rc,rfl,?_,hb⟩;rw [HR.out.2,List.drop_of_length_le (Nat.le_of_eq HLn.out)];exact hI
def VL (w:World) (m:Nat) (vals:List Value) (R:List (List Int)):Prop:=vals.length=R.length∧∀(q:Nat) t,R[q]? = some t→∃g,vals[q]? = some (.slice (some ⟨g,0,none⟩) m m)∧Own w g 2 (ofI t)
theorem VL.keep {w w':World} {m:Nat} {vals:List Value} {R:List (List Int)} (h:VL w m vals R) (hb:Below w.heap.size w w'):VL w' m vals R:=
 ⟨h.1,fun q t ht=>by obtain ⟨g,h1,h2⟩:=h.2 q t ht;exact ⟨g,h1,h2.keep hb h2.lt⟩⟩
theorem VL.grown {w w':World} {m B n:Nat} {vals xs:List Value} {v:Value} {R:List (List Int)} (h:VL w m vals R) (ho:w.ownsRow B 22 1 v n xs) (hg:w.grownBy w' v.ownBlock):VL w' m vals R:=
 ⟨h.1,fun q t ht=>by obtain ⟨g,h1,h2⟩:=h.2 q t ht;exact ⟨g,h1,h2.grown hg (own_ne_row h2 ho (by decide))⟩⟩
theorem VL.snoc {w:World} {m g:Nat} {vals:List Value} {R:List (List Int)} {t:List Int} (h:VL w m vals R) (hg:Own w g 2 (ofI t)):VL w m (vals++[.slice (some ⟨g,0,none⟩) m m]) (R++[t]):=
 ⟨by simp [h.1],fun q u hu=>by
  by_cases e:q<R.length
  · rw [List.getElem?_append_left e] at hu;obtain ⟨g1,h1,h2⟩:=h.2 q u hu;exact ⟨g1,by rw [List.getElem?_append_left (by rw [h.1];exact e),h1],h2⟩
  · rw [List.getElem?_append_right (by omega)] at hu;obtain ⟨h3,h4⟩:=List.getElem?_eq_some_iff.1 hu;simp at h3 h4
    subst h4
    exact ⟨g,by rw [List.getElem?_append_right (by rw [h.1];omega),h.1,h3];rfl,hg⟩⟩
theorem VL.tab {w:World} {m B n:Nat} {vals:List Value} {v:Value} {R:List (List Int)} (h:VL w m vals R) (hr:∀t∈R,t.length=m) (ho:w.ownsRow B 22 1 v n vals):∃a c,v=.slice a n c∧Tab w a n R:=by
 have hl:vals.length=n:=by have:=ho.1;omega
 have hc:=fun g=>World.ownsRow.cells (g:=g) ho
 obtain ⟨hl1,h1⟩:=ho
 rcases h1 with ⟨hv,h0⟩ | ⟨g,cap,cur,hv,hb,hg,hn,_,hs,h5⟩
 · have h00:n=0:=(by simpa using h0);subst h00;exact ⟨none,0,hv,by have:=h.1;omega,fun hh=>absurd hh (by omega)⟩
 · refine ⟨some ⟨g,0,none⟩,cap,hv,by have:=h.1;omega,fun hn0=>⟨g,0,rfl,(Array.getElem?_eq_some_iff.1 hg).1,fun i t ht=>?_⟩⟩;obtain ⟨gi,h6,h7⟩:=h.2 i t ht;refine ⟨some ⟨gi,0,none⟩,m,?_,?_⟩
   · rw [hr t (List.mem_of_getElem? ht),Nat.zero_add];have e:=hc g (by rw [hv];rfl) i _ h6
     rwa [Addr.add_mid,Nat.zero_add] at e
   · exact ints_of_own h7 rfl
def TabC (w:World) (a:Option Addr) (n:Nat) (T:List (List Int)):Prop:=Tab w a n T∧∀b off,a=some ⟨b,off,none⟩→b<w.heap.size→∀(i:Nat) r,T[i]? = some r→∃ai ci,w.cell? ⟨b,off+i,none⟩=some (.slice ai r.length ci)∧r.length≤ci
theorem TabC.keep {w w':World} {a:Option Addr} {n:Nat} {T:List (List Int)} (h:TabC w a n T) (hb:Below w.heap.size w w'):TabC w' a n T:=⟨h.1.keep hb,fun b off ha _ i r hi=>by
 have hn:0<n:=by have:=h.1.1;have:=(List.getElem?_eq_some_iff.1 hi).1;omega
 obtain ⟨b',off',e,hbl,-⟩:=h.1.2 hn
 have e2:=ha.symm.trans e
 injection e2 with e2
 injection e2 with e3 e4
 subst e3 e4
 obtain ⟨ai,ci,h1,h2⟩:=h.2 b off ha hbl i r hi
 exact ⟨ai,ci,(World.cell?_of_block (a:=⟨b,off+i,none⟩) (hb.block b hbl)).trans h1,h2⟩⟩
theorem TabC.at_ {w : World} {a : Option Addr} {n : Nat} {T : List (List Int)} (h : TabC w a n T) {k : Nat} (hk : k < n) :
    ∃b off r ai mi ci,a=some ⟨b,off,none⟩∧b<w.heap.size∧w.cell? ⟨b,off+k,none⟩=some (.slice ai mi ci)∧Ints w ai mi r∧Hid (T[k]? = some r)∧mi≤ci:=by
 obtain ⟨b,off,r,ai,mi,ci,ha,hbl,h1,h2,h3⟩:=h.1.at_ hk
 obtain ⟨ai',ci',h4,h5⟩:=h.2 b off ha hbl k r h3.out
 rw [h1] at h4
 simp only [Option.some.injEq,Value.slice.injEq] at h4
 obtain ⟨rfl,rfl,rfl⟩:=h4
 exact ⟨b,off,r,ai,_,ci,ha,hbl,h1,h2,h3,h5⟩
theorem TabC.none_ (w:World) (a:Option Addr):TabC w a 0 []:=⟨⟨rfl,fun h=>absurd h (by omega)⟩,fun _ _ _ _ _ _ h=>by simp at h⟩
theorem VL.tabC {w:World} {m B n:Nat} {vals:List Value} {v:Value} {R:List (List Int)} (h:VL w m vals R) (hr:∀t∈R,t.length=m) (ho:w.ownsRow B 22 1 v n vals):∃a c,v=.slice a n c∧TabC w a n R:=by
 obtain ⟨a,c,hv,hT⟩:=h.tab hr ho
 refine ⟨a,c,hv,hT,fun b off ha _ i t hi=>?_⟩
 obtain ⟨g,hg,-⟩:=h.2 i t hi
 have hc:=World.ownsRow.cells (g:=b) ho (by rw [hv,ha];rfl) i _ hg
 rw [Addr.add_mid] at hc
 have h0:off=0:=by
  rcases ho.2 with ⟨h0,_⟩ | ⟨g',cap,cur,h0,_⟩
  · rw [hv,ha] at h0;simp at h0
  · rw [hv,ha] at h0;simp only [Value.slice.injEq,Option.some.injEq,Addr.mk.injEq] at h0;exact h0.1.2.1
 have hl:=hr t (List.mem_of_getElem? hi)
 exact ⟨_,m,by rw [h0,hl];exact hc,by omega⟩
end Go.Proofs.YtfheammnkmjabaaGreat
