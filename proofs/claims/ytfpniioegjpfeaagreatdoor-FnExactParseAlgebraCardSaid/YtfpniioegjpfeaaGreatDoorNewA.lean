
import Derived.Test.YtfpniioegjpfeaaGreatDoorAlgS
import Derived.Deep.DeepAppendWide
import Derived.Deep.RegionWith
import Derived.Test.YtfpniioegjpfeaaGreatDoorHeld
import Derived.Test.YtfpniioegjpfeaaGreatDoorResult
import Derived.Test.YtfpniioegjpfeaaGreatDoorKeep
namespace Go.Proofs.YtfpniioegjpfeaaGreatDoor
set_option maxRecDepth 100000
open Go.RowKit Go.Deep
theorem Tryz.info_intA:∃i z,Tryz.prog.info? 2=some i∧i.zero=some z∧i.size=1∧i.bytes=8∧z.cells.size=1:=by
 obtain ⟨i,hi,hzz⟩:=Option.map_eq_some_iff.1 Tryz.info_int64
 simp only [Prod.mk.injEq] at hzz
 obtain ⟨hz,hs,hb⟩:=hzz
 exact ⟨i,_,hi,hz,hs,hb,rfl⟩
def OwnV (w:World) (lo hi:Nat) (a:Option Addr) (n:Nat) (V:List Int):Prop:=V.length=n∧(0<n→∃g cs,a=some ⟨g,0,none⟩∧lo≤g∧g<hi∧Own w g 2 cs∧n≤cs.size∧∀i,i<n→cs[i]? = some (.int .i64 (V.getD i 0)))
section
variable {w w':World} {lo hi n:Nat} {a:Option Addr} {V:List Int}
theorem OwnV.none_:OwnV w lo hi none 0 []:=⟨rfl,fun h=>absurd h (by omega)⟩
theorem OwnV.keep (h:OwnV w lo hi a n V) (hb:Below w.heap.size w w'):OwnV w' lo hi a n V:=
 ⟨h.1,fun hn=>by obtain ⟨g,cs,h1,h2,h3,h4,h5⟩:=h.2 hn;exact ⟨g,cs,h1,h2,h3,h4.keep hb h4.lt,h5⟩⟩
theorem OwnV.touch {p:Nat→Prop} (h:OwnV w lo hi a n V) (ht:Touch p w w') (hp:∀g,lo≤g→g<hi→¬p g):OwnV w' lo hi a n V:=
 ⟨h.1,fun hn=>by obtain ⟨g,cs,h1,h2,h3,h4,h5⟩:=h.2 hn;exact ⟨g,cs,h1,h2,h3,ht.own h4 (hp g h2 h3),h5⟩⟩
theorem OwnV.ints (h:OwnV w lo hi a n V):Ints w a n V:=
 ⟨h.1,fun hn=>by
  obtain ⟨g,cs,rfl,h2,h3,h4,h5,h6⟩:=h.2 hn
  exact ⟨g,0,rfl,h4.lt,fun i hi=>by rw [Nat.zero_add,h4.cell i];exact h6 i hi⟩⟩
theorem OwnV.weaken {lo' hi':Nat} (h:OwnV w lo hi a n V) (h1:lo'≤lo) (h2:hi≤hi'):OwnV w lo' hi' a n V:=
 ⟨h.1,fun hn=>by obtain ⟨g,cs,e,h3,h4,h5⟩:=h.2 hn;exact ⟨g,cs,e,by omega,by omega,h5⟩⟩
theorem OwnV.block {gx : Nat} {csx : Array Value} (h : OwnV w lo hi a n V) (hx : Own w gx 2 csx) :
    ∃g cs,Own w g 2 cs∧n≤cs.size∧(0<n→a=some ⟨g,0,none⟩)∧(g=gx∨(lo≤g∧g<hi)):=by
 by_cases hn:0<n
 · obtain ⟨g,cs,e,h1,h2,h3,h4,-⟩:=h.2 hn;exact ⟨g,cs,h3,h4,fun _=>e,Or.inr ⟨h1,h2⟩⟩
 · exact ⟨gx,csx,hx,by omega,fun hh=>absurd hh hn,Or.inl rfl⟩
theorem OwnV.of_row {B:Nat} {v:Value} (h:w.ownsRow B 2 1 v n (V.map (Value.int .i64))):∃a c,v=.slice a n c∧OwnV w B w.heap.size a n V:=by
 have hl:V.length=n:=by simpa using h.1
 have hc:=fun g=>World.ownsRow.cells (g:=g) h
 rcases h.2 with ⟨hv,h0⟩ | ⟨g,cap,cur,hv,hb,hg,hn,_,hs,_⟩
 · have h00:n=0:=(by simpa using h0);subst h00;exact ⟨none,0,hv,hl,fun hp=>absurd hp (by omega)⟩
 · have ho:Own w g 2 cur:=hg;refine ⟨some ⟨g,0,none⟩,cap,hv,hl,fun _=>⟨g,cur,rfl,hb,ho.lt,ho,by omega,fun i hi=>?_⟩⟩;have h1:=hc g (by rw [hv];rfl) i (.int .i64 (V.getD i 0)) (by rw [List.getElem?_map,getD_of (by omega)];rfl);rw [Addr.add_mid,ho.cell] at h1
   rwa [Nat.zero_add] at h1
end
theorem eq_nil_some {x:Addr} {n c:Nat} (w:World):(binOp BinOp.eql 22 (.slice (some x) n c) (.slice none 0 0)).run Tryz.prog w=.ok (.bool false) w:=by kernel_rfl
theorem rep_get (n i:Nat) (h:i<n) (v:Value):(Array.replicate n v)[i]? = some v:=by simp [h]
def OwnE (w:World) (lo hi:Nat) (a:Option Addr) (n:Nat):Prop:=0<n→∃g,a=some ⟨g,0,none⟩∧lo≤g∧g<hi∧Own w g 25 (Array.replicate n (Value.slice none 0 0))
theorem OwnE.keep {w w':World} {lo hi n:Nat} {a:Option Addr} (h:OwnE w lo hi a n) (hb:Below w.heap.size w w'):OwnE w' lo hi a n:=
 fun hn=>by obtain ⟨g,h1,h2,h3,h4⟩:=h hn;exact ⟨g,h1,h2,h3,h4.keep hb h4.lt⟩
theorem OwnE.weaken {w:World} {lo hi lo' hi' n:Nat} {a:Option Addr} (h:OwnE w lo hi a n) (h1:lo'≤lo) (h2:hi≤hi'):OwnE w lo' hi' a n:=
 fun hn=>by obtain ⟨g,e,h3,h4,h5⟩:=h hn;exact ⟨g,e,by omega,by omega,h5⟩
theorem OwnE.touch {p:Nat→Prop} {w w':World} {lo hi n:Nat} {a:Option Addr} (h:OwnE w lo hi a n) (ht:Touch p w w') (hp:∀g,lo≤g→g<hi→¬p g):OwnE w' lo hi a n:=
 fun hn=>by obtain ⟨g,h1,h2,h3,h4⟩:=h hn;exact ⟨g,h1,h2,h3,ht.own h4 (hp g h2 h3)⟩
theorem OwnE.frms {w:World} {lo hi n:Nat} {a:Option Addr} (h:OwnE w lo hi a n):Frms w a n (List.replicate n []):=by
 refine ⟨by simp,fun hn=>?_⟩
 obtain ⟨g,rfl,-,-,ho⟩:=h hn
 refine ⟨g,0,rfl,ho.lt,fun i ts hi=>?_⟩
 have hl:i<n:=by have:=(List.getElem?_eq_some_iff.1 hi).1;simpa using this
 obtain rfl:ts=[]:=by rw [List.getElem?_replicate,if_pos hl] at hi;injection hi with hi;exact hi.symm
 refine ⟨none,0,0,?_,⟨rfl,fun t ht=>absurd ht (by simp),fun hp=>absurd hp (by omega)⟩,by omega⟩
 rw [Nat.zero_add,ho.cell i]
 exact rep_get n i hl _
theorem row_keep {w w':World} {B sz n:Nat} {t:TypeId} {v:Value} {xs:List Value} (h:w.ownsRow B t sz v n xs) (hb:Below w.heap.size w w'):w'.ownsRow B t sz v n xs:=
 World.ownsRow.kept h (row:=none) ⟨hb.os,hb.tape,hb.output,hb.size,fun k hk _=>hb.block k hk⟩ (by cases h0:v.ownBlock <;> simp)
theorem cloneI_c {w : World} {g o n : Nat} {zs : List Int} (c : Nat) (h : Ints w (some ⟨g, o, none⟩) n zs) (hn : n ≤ 1048576) :
    Calls Tryz.prog 80 #[.slice (some ⟨g,o,none⟩) n c] w fun e w'=>∃a c',e=.returned (.slice a n c')∧w'.ownsRow w.heap.size 2 1 (.slice a n c') n (zs.map (Value.int .i64))∧Below w.heap.size w w':=by
 obtain ⟨ti,tz,hti,htz,hts,htb,htzs⟩:=Tryz.info_intA
 have hnews:∀j u,((zs.map (Value.int .i64)):List Value)[j]? = some u→(w.alloc (.cells #[] 2)).cell? ((⟨g,o,none⟩:Addr).add j)=some u:=fun j u hu=>by
  have hl:(zs.map (Value.int .i64)).length=n:=(by rw [List.length_map];exact h.1);have hj:=(List.getElem?_eq_some_iff.1 hu).1;obtain ⟨b,off,e,hb,hc⟩:=h.2 (by omega)
  injection e with e
  injection e with e1 e2
  subst e1 e2;rw [Addr.add_mid,World.cell?_alloc_lt _ _ _ hb,hc j (by omega)];rw [List.getElem?_map,getD_of (by rw [List.length_map] at hj;exact hj)] at hu;exact hu
 have hone:∀u∈((zs.map (Value.int .i64)):List Value),u.oneCell'=true:=by
  intro u hu;obtain ⟨x,-,rfl⟩:=List.mem_map.1 hu;rfl
 have hlen:((zs.map (Value.int .i64)):List Value).length=n * 1:=by rw [List.length_map,Nat.mul_one];exact h.1
 have hro:(w.alloc (.cells #[] 2)).ownsRow w.heap.size 2 1 (.slice (some ⟨w.heap.size,0,none⟩) 0 0) 0 []:=⟨rfl,Or.inr ⟨w.heap.size,0,#[],rfl,Nat.le_refl _,heap_alloc_new w _,Nat.le_refl _,by simp [maxLen],rfl,rfl⟩⟩
 have HN:=Lib.hid hnews
 have HO:=Lib.hid hone
 have HI:=Lib.hid hti
 have HZ:=Lib.hid htz
 have HS:=Lib.hid hts
 have HBt:=Lib.hid htb
 have HZs:=Lib.hid htzs
 have HLN:=Lib.hid hlen
 have HR:=Lib.hid hro
 have HEQ:=eq_nil_some (x:=⟨g,o,none⟩) (n:=n) (c:=c) w
 clear hnews hone hti htz hts htb htzs hlen hro h
 go_enter Tryz.func80,Tryz.ntmps80
 go_wp2_with (refine wpList_append_own_wide _ rfl (.tmp 5) (.tmp 6) 22 rfl w.heap.size 2 ti tz 1 8 Tryz.underlying22 HI.out HZ.out HS.out HBt.out HZs.out (by omega) (.slice (some ⟨w.heap.size,0,none⟩) 0 0) 0 [] rfl HR.out ⟨g,o,none⟩ n c (zs.map (Value.int .i64)) rfl HLN.out HN.out HO.out (by simp only [maxLen];omega) (by omega) (by rw [sAl];omega) (fun v' w' h2 h3 h4=>?_))
 rw [Nat.zero_add,List.nil_append] at h2
 obtain ⟨a',c',rfl⟩:=row_slice h2
 have hb:=grown_below (bA1 w (.cells #[] 2)) h3 (fun k e=>by have:w.heap.size=k:=(by simpa [Value.ownBlock] using e);omega) (by rw [sAl];omega)
 have H2:=Lib.hid h2
 clear h2 h3 h4
 go_wp2_with fail
 go_ret
 exact ⟨a',c',rfl,H2.out,hb⟩
set_option maxHeartbeats 2000000 in
theorem newAlgebra_c {w : World} {gd od dn gi oi n : Nat} {zs : List Int} {fss : List (List Tm)} (dc c : Nat) (hd : Ints w (some ⟨gd, od, none⟩) dn zs) (hdn : dn ≤ 1048576) (h : FrmsN w (some ⟨gi, oi, none⟩) n fss) (hn : n ≤ 1048576) (hT : ∀ ts ∈ fss, ∀ t ∈ ts, IsTm t) (hS : sumLen fss ≤ 1048576) :
    Calls Tryz.prog 55 #[.slice (some ⟨gd,od,none⟩) dn dc,.slice (some ⟨gi,oi,none⟩) n c] w fun e w'=>∃a ac b,e=.returned (.agg #[.slice a dn ac,.slice b n n])∧OwnV w' w.heap.size w'.heap.size a dn zs∧OwnF w' w.heap.size w'.heap.size b n fss∧Below w.heap.size w w':=by
 have HTT:=Lib.hid hT
 have HSS:=Lib.hid hS
 clear hT hS
 have hO:=Own.new w 36 #[.slice none 0 0,.slice none 0 0]
 have hb:=bA1 w (.cells #[.slice none 0 0,.slice none 0 0] 36)
 have hd1:=hd.keep hb
 have h1:=h.keep hb
 go_enter Tryz.func55,Tryz.ntmps55
 go_upto_region 1 with fail
 generalize w.alloc (.cells #[.slice none 0 0,.slice none 0 0] 36)=w0 at *
 generalize hg:w.heap.size=G at *
 have HG:=Lib.hid hg
 clear hg hd h
 have hl0:=hO.lt
 go_wp2_with fail
 refine (cloneI_c dc hd1 hdn).mono ?_
 rintro e w1 ⟨a,ac,rfl,hVr,hb1⟩
 obtain ⟨a',ac',hvv,hV⟩:=OwnV.of_row hVr
 simp only [Value.slice.injEq] at hvv
 obtain ⟨rfl,-,rfl⟩:=hvv
 clear hVr
 have hO1:=hO.keep hb1 hO.lt
 have h2:=h1.keep hb1
 have hb2:=bT' hb hb1 (by omega)
 have hV1:=hV.weaken (lo':=G+1) (by omega) (Nat.le_refl _)
 clear hO hb1 h1 hd1 hV hb
 have hl1:=hO1.lt
 go_wp2_with fail
 refine (keepForms_c c h2 hn HTT.out HSS.out).mono ?_
 rintro e w2 ⟨gb,rfl,hE,hb3⟩
 have hO2:=hO1.keep hb3 hO1.lt
 have hV2:=(hV1.keep hb3).weaken (Nat.le_refl _) hb3.size
 have hb4:=bT' hb2 hb3 (by omega)
 have hE1:=hE.weaken (lo':=G+1) (by omega) (Nat.le_refl _)
 clear hO1 hb2 hV1 hb3 h2 hE
 have k0:=hO2.cell 0
 have k1:=hO2.cell 1
 have f0:=hO2.frozen 0
 have f1:=hO2.frozen 1
 go_wp2_with fail
 have s2:=((hO2.set 0 (.slice a dn ac)).set 1 (.slice (some ⟨gb,0,none⟩) n n))
 have ht:Touch (fun k=>k=G) w2 ((w2.setCell ⟨G,0,none⟩ (.slice a dn ac)).setCell ⟨G,1,none⟩ (.slice (some ⟨gb,0,none⟩) n n)):=Touch.of_only (((Only.refl G w2).set 0 _).set 1 _)
 refine bodyPost_ret (results_cell_row rfl _ _ G 36 #[.slice a dn ac,.slice (some ⟨gb,0,none⟩) n n] (0,0) _ rfl s2 Tryz.underlying36 rfl Tryz.info_alg) rfl ⟨a,ac,some ⟨gb,0,none⟩,rfl,?_,?_,?_⟩
 · rw [HG.out];exact (hV2.touch ht (fun g h1 h2=>by omega)).weaken (by omega) (by simp)
 · rw [HG.out];exact (hE1.touch ht (fun g h1 h2=>by omega)).weaken (by omega) (by simp)
 · rw [HG.out];exact (hb4.setCell (p:=⟨G,0,none⟩) (by dsimp only;omega) _).setCell (p:=⟨G,1,none⟩) (by dsimp only;omega) _
end Go.Proofs.YtfpniioegjpfeaaGreatDoor
