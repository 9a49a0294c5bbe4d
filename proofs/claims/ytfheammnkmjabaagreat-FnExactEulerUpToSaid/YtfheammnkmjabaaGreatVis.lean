
import Derived.Test.YtfheammnkmjabaaGreatCnt
import Derived.Test.YtfheammnkmjabaaGreatNewA
import Derived.Laws.Cover3
namespace Go.Proofs.YtfheammnkmjabaaGreat
set_option maxRecDepth 100000
open Go.RowKit Go.Deep
def mrowsV (X:List (List Int)):List Value:=X.flatMap mcells
theorem mrowsV_app (X Y:List (List Int)):mrowsV (X++Y)=mrowsV X++mrowsV Y:=by simp [mrowsV]
theorem mrowsV_one (m:List Int):mrowsV [m]=mcells m:=by simp [mrowsV]
theorem Tryz.info_mono3:(Tryz.prog.info? 69).map (fun i=>(i.zero,i.size,i.bytes))=some (some (.agg #[.int .u8 0,.int .u8 0,.int .u8 0,.int .u8 0,.int .u8 0,.int .u8 0,.int .u8 0,.int .u8 0]),8,8):=by kernel_rfl
theorem Tryz.info_monoA:∃i z,Tryz.prog.info? 69=some i∧i.zero=some z∧i.size=8∧i.bytes=8∧z.cells.size=8:=by
 obtain ⟨i,hi,hzz⟩:=Option.map_eq_some_iff.1 Tryz.info_mono3
 simp only [Prod.mk.injEq] at hzz
 obtain ⟨hz,hs,hb⟩:=hzz
 exact ⟨i,_,hi,hz,hs,hb,rfl⟩
theorem CntT.grown {w w':World} {g B n' sz:Nat} {gf:Nat→Nat} {lo n r:Nat} {zs:List Int} {v:Value} {xs:List Value} (h:CntT w g gf lo n r zs) (ho:w.ownsRow B 69 sz v n' xs) (hg:w.grownBy w' v.ownBlock):CntT w' g gf lo n r zs:=
 ⟨h.own.grown hg (own_ne_row h.own ho (by decide)),fun j h1 h2=>(h.row j h1 h2).grown hg (own_ne_row (h.row j h1 h2) ho (by decide))⟩
theorem CntT.far {w:World} {g:Nat} {gf:Nat→Nat} {lo n r:Nat} {zs:List Int} {p:Addr} {t:TypeId} {cs:Array Value} (h:CntT w g gf lo n r zs) (ho:Own w p.block t cs) (h1:22≠t) (h2:2≠t) (u:Value):CntT (w.setCell p u) g gf lo n r zs:=
 ⟨h.own.far (own_neC h.own ho h1) u,fun j k1 k2=>(h.row j k1 k2).far (own_neC (h.row j k1 k2) ho h2) u⟩
theorem row_farV {w:World} {B sz n:Nat} {t t':TypeId} {v:Value} {xs:List Value} {p:Addr} {os:Array Value} (h:w.ownsRow B t sz v n xs) (ho:Own w p.block t' os) (ht:t'≠t) (u:Value):(w.setCell p u).ownsRow B t sz v n xs:=
 ownsRow_setCell_other h (fun e=>own_ne_row ho h ht e.symm) u
structure VS (B:Nat) (w:World) (gS gE g:Nat) (gf:Nat→Nat) (a:Option Addr) (n c r:Nat) (zs E:List Int) (X:List (List Int)) (fv:Value):Prop where
 s:Own w gS 127 #[.slice a n c,.slice (some ⟨g,0,none⟩) (n+1) (n+1),.slice (some ⟨gE,0,none⟩) 8 8,fv]
 e:Own w gE 5 ((E.map (Value.int .u8)).toArray)
 t:CntT w g gf 0 n r zs
 f:w.ownsRow B 69 8 fv X.length (mrowsV X)
 m:IsMono E
 z:E.drop n=List.replicate (8 - n) 0
def fillF (D:Nat) (zs:List Int) (i rest e:Nat):List (List Int):=(mons (zs.drop (i+1)) (rest - e * D)).map ((e:Int)::·)
theorem ext_nil {E:List Int} {n:Nat} (hm:IsMono E) (hn:n≤8) (hz:E.drop n=List.replicate (8 - n) 0):ext (E.take n) [[]]=[E]:=by
 have hl:(E.take n).length=n:=by rw [List.length_take,hm.1];omega
 simp only [ext,List.map_cons,List.map_nil,List.append_nil,hl]
 rw [←hz,List.take_append_drop]
theorem mono_set {E:List Int} {i:Nat} {x:Int} (hm:IsMono E) (h0:0≤x) (h1:x≤255):IsMono (E.set i x):=
 ⟨by rw [List.length_set];exact hm.1,fun y hy=>by
  rcases List.mem_or_eq_of_mem_set hy with h | h
  · exact hm.2 y h
  · rw [h];exact ⟨h0,h1⟩⟩
set_option maxHeartbeats 8000000 in
theorem visit_c {w0 : World} {gS gE g n c r : Nat} {gf : Nat → Nat} {a : Option Addr} {zs : List Int} (hd : Ints w0 a n zs) (hz : degsOk zs = true) (hr : r ≤ 900) (hgS : w0.heap.size ≤ gS) (hgE : w0.heap.size ≤ gE) :
    ∀(d:Nat) {w:World} {i rest:Nat} {E:List Int} {X:List (List Int)} {fv:Value},i+d=n→rest≤r→X.length+cnt (zs.drop i) rest≤400→VS w0.heap.size w gS gE g gf a n c r zs E X fv→Below w0.heap.size w0 w →
    Calls Tryz.prog 78 #[.pointer (some ⟨gS,0,none⟩),.int .i64 i,.int .i64 rest] w fun e w'=>e=.returned (.tuple #[])∧∃E' fv',VS w0.heap.size w' gS gE g gf a n c r zs E' (X++ext (E.take i) (mons (zs.drop i) rest)) fv'∧E'.take i=E.take i∧Below w0.heap.size w0 w':=by
 have HL:=Lib.hid hd.len
 have h8:n≤8:=by have:=degsOk_len hz;have:=HL.out;omega
 have HZ:=Lib.hid hz
 have HD:=Lib.hid hd
 clear hd hz
 intro d
 induction d with
 | zero =>
   intro w i rest E X fv hi hrr hX hV hb;obtain rfl:i=n:=(by omega);have hdr:zs.drop i=[]:=List.drop_of_length_le (Nat.le_of_eq HL.out);rw [hdr] at hX ⊢;have hS:=hV.s;have hE:=hV.e;have hC:=hV.t;have HF:=Lib.hid hV.f;have HM:=Lib.hid hV.m;have HZE:=Lib.hid hV.z;clear hV;have k0:=hS.cell 0;have k1:=hS.cell 1;have k2:=hC.own.cell i;rw [tabC_get (Nat.zero_le _) (Nat.le_refl _)] at k2;have hrow:=hC.row i (Nat.zero_le _) (Nat.le_refl _);rw [hdr] at hrow;have k3:=hrow.cell rest;rw [ofI_get (cntR_get hrr)] at k3;have hi0:(0:Int)≤(i:Int):=(by omega);have hi1:(i:Int)<(i:Int)+1:=(by omega);have hr0:(0:Int)≤(rest:Int):=(by omega);have hr1:(rest:Int)<(r:Int)+1:=(by omega);by_cases hz0:rest=0
   · subst hz0;have hc1:cnt [] 0=1:=(by simp [cnt,mons]);rw [hc1] at k3 hX;have hme:mons [] 0=[[]]:=rfl;rw [hme,ext_nil HM.out h8 HZE.out];obtain ⟨e0,e1,e2,e3,e4,e5,e6,e7,rfl⟩:=mono8 HM.out;replace hE:Own w gE 5 #[.int .u8 e0,.int .u8 e1,.int .u8 e2,.int .u8 e3,.int .u8 e4,.int .u8 e5,.int .u8 e6,.int .u8 e7]:=hE;obtain ⟨ti,tz,hti,htz,hts,htb,htzs⟩:=Tryz.info_monoA;have HI:=Lib.hid hti;have HZt:=Lib.hid htz;have HS:=Lib.hid hts;have HBt:=Lib.hid htb;have HZs:=Lib.hid htzs;clear hti htz hts htb htzs;obtain ⟨fa,fc,hfv⟩:=row_slice HF.out;subst hfv;have hat:∀w,(Instr.arrayAt 69 (.slice (some ⟨gE,0,none⟩) 8 8)).run Tryz.prog w=.ok (.pointer (some ⟨gE,0,none⟩)) w:=fun w=>run_arrayAt w 69 _ 8 _ 8 8 Tryz.underlying69 (Nat.le_refl _);have HON:Hid (∀u∈([.int .u8 e0,.int .u8 e1,.int .u8 e2,.int .u8 e3,.int .u8 e4,.int .u8 e5,.int .u8 e6,.int .u8 e7]:List Value),u.oneCell'=true):=Lib.hid (by simp [Value.oneCell']);go_enter Tryz.func78,Tryz.ntmps78
     go_upto_region 2 with fail
     clear k0 k1 k2 k3 hrow;have hF:=HF.out;clear HF;replace hS:Own w.drew gS 127 #[.slice a i c,.slice (some ⟨g,0,none⟩) (i+1) (i+1),.slice (some ⟨gE,0,none⟩) 8 8,.slice fa X.length fc]:=hS;replace hE:=hE.drew;replace hC:CntT w.drew g gf 0 i r zs:=⟨hC.own,hC.row⟩;replace hF:w.drew.ownsRow w0.heap.size 69 8 (.slice fa X.length fc) X.length (mrowsV X):=hF;replace hb:Below w0.heap.size w0 w.drew:=hb.drew;refine wp_region_held_drew (S:=(fun w'=>w'.cell? ⟨gS,2,none⟩=some (.slice (some ⟨gE,0,none⟩) 8 8)∧w'.cell? ⟨gE,0,none⟩=some (.int .u8 e0)∧w'.cell? ⟨gE,1,none⟩=some (.int .u8 e1)∧w'.cell? ⟨gE,2,none⟩=some (.int .u8 e2)∧w'.cell? ⟨gE,3,none⟩=some (.int .u8 e3)∧w'.cell? ⟨gE,4,none⟩=some (.int .u8 e4)∧w'.cell? ⟨gE,5,none⟩=some (.int .u8 e5)∧w'.cell? ⟨gE,6,none⟩=some (.int .u8 e6)∧w'.cell? ⟨gE,7,none⟩=some (.int .u8 e7))) (by kernel_rfl) ?_ (fun _=>?_)
     · ((try dsimp only);(exact ⟨hS.cell 2,hE.cell 0,hE.cell 1,hE.cell 2,hE.cell 3,hE.cell 4,hE.cell 5,hE.cell 6,hE.cell 7⟩))
     generalize w.drew=Wd at *;refine hdT 0 ?_;refine hdT 1 ?_;refine hdT 2 ?_;refine hdT 3 ?_;refine hdT 5 ?_;refine hdT 6 ?_;refine hdT 7 ?_;refine hdT 8 ?_;refine hdT 9 ?_;refine hdT 10 ?_;refine wpAnyH_ready (rs:=[4,11]) (by kernel_rfl) (by simp) ?_;refine AllReadyH.cons (hdAt (i:=4) rfl) (fun K hK=>?_) (AllReadyH.cons (hdAt (i:=11) rfl) (fun K hK=>?_) AllReadyH.nil)
     · skip
       have s3:=hS.cell 3
       (go_simp;try go_wp2_with fail)
       clear s3;refine hK.out _ _ ?_ (fun _=>?_)
       · ((try dsimp only);(exact ⟨hS.cell 2,hE.cell 0,hE.cell 1,hE.cell 2,hE.cell 3,hE.cell 4,hE.cell 5,hE.cell 6,hE.cell 7⟩))
       clear hK K
       (try simp only [Act.put,pA,pB,pC])
       refine hdC 11 (fun K hK=>?_)
       (go_simp;try go_wp2_with fail)
       have hN:=Own.new Wd 69 #[.int .u8 e0,.int .u8 e1,.int .u8 e2,.int .u8 e3,.int .u8 e4,.int .u8 e5,.int .u8 e6,.int .u8 e7];have hbX:=bA1 Wd (.cells #[.int .u8 e0,.int .u8 e1,.int .u8 e2,.int .u8 e3,.int .u8 e4,.int .u8 e5,.int .u8 e6,.int .u8 e7] 69);replace hS:=hS.keep hbX hS.lt;replace hE:=hE.keep hbX hE.lt;replace hC:=hC.keep hbX;replace hF:=row_keep hF hbX;replace hb:=bT' hb hbX hb.size;generalize Wd.alloc (.cells #[.int .u8 e0,.int .u8 e1,.int .u8 e2,.int .u8 e3,.int .u8 e4,.int .u8 e5,.int .u8 e6,.int .u8 e7] 69)=W1 at *;generalize hhNg:Wd.heap.size=ghN at *;clear hbX hhNg;refine hK.out _ _ ?_ (fun _=>?_)
       · ((try dsimp only);(exact ⟨hS.cell 2,hE.cell 0,hE.cell 1,hE.cell 2,hE.cell 3,hE.cell 4,hE.cell 5,hE.cell 6,hE.cell 7⟩))
       clear hK K
       (try simp only [Act.put,pA,pB,pC])
       refine hdC 12 (fun K hK=>?_);have HNW:Hid (∀j u,([.int .u8 e0,.int .u8 e1,.int .u8 e2,.int .u8 e3,.int .u8 e4,.int .u8 e5,.int .u8 e6,.int .u8 e7]:List Value)[j]? = some u→W1.cell? ((⟨ghN,0,none⟩:Addr).add j)=some u):=Lib.hid (fun j u hu=>by rw [Addr.add_mid];exact hN.range j u hu);have HRW:=Lib.hid hF;have hszW:w0.heap.size≤W1.heap.size:=hb.size;rw [if_pos (by rfl)];refine wp_append_own_wide _ (.tmp 30) (.tmp 37) 49 rfl w0.heap.size 69 ti tz 8 8 Tryz.underlying49 HI.out HZt.out HS.out HBt.out HZs.out (by omega) (.slice fa X.length fc) X.length _ rfl HRW.out ⟨ghN,0,none⟩ 1 1 [.int .u8 e0,.int .u8 e1,.int .u8 e2,.int .u8 e3,.int .u8 e4,.int .u8 e5,.int .u8 e6,.int .u8 e7] rfl rfl HNW.out HON.out (by simp only [maxLen];omega) (by omega) hszW (fun v' W2 h2 h3 h4=>?_);obtain ⟨xa9,xc9,rfl⟩:=row_slice h2;replace hS:=hS.grown h3 (own_ne_row hS HRW.out (by decide));replace hE:=hE.grown h3 (own_ne_row hE HRW.out (by decide));replace hb:=grown_below hb h3 (fun j e=>by have:=(HRW.out.lt j e).1;omega) hb.size;replace hC:=hC.grown HRW.out h3;clear hF hN;have hF:=h2;clear h2 h4;clear HNW HRW hszW h3;refine hK.out _ _ ?_ (fun _=>?_)
       · ((try dsimp only);(exact ⟨hS.cell 2,hE.cell 0,hE.cell 1,hE.cell 2,hE.cell 3,hE.cell 4,hE.cell 5,hE.cell 6,hE.cell 7⟩))
       clear hK K
       (try simp only [Act.put,pA,pB,pC])
       refine hdT 13 ?_;refine hdT 14 ?_;refine hdC 15 (fun K hK=>?_);have f3:=hS.frozen 3;have s3:=hS.cell 3
       (go_simp;go_wp2_with fail)
       clear f3 s3;replace hE:=hE.far (p:=⟨gS,3,none⟩) (own_neC hE hS (by decide)) (.slice xa9 (X.length+1) xc9);replace hC:=hC.far (p:=⟨gS,3,none⟩) hS (by decide) (by decide) (.slice xa9 (X.length+1) xc9);replace hF:=row_farV (p:=⟨gS,3,none⟩) hF hS (by decide) (.slice xa9 (X.length+1) xc9);replace hb:=hb.setCell (p:=⟨gS,3,none⟩) hgS (.slice xa9 (X.length+1) xc9);replace hS:=hS.set 3 (.slice xa9 (X.length+1) xc9);generalize W2.setCell ⟨gS,3,none⟩ (.slice xa9 (X.length+1) xc9)=W3 at *;refine hK.out _ _ ?_ (fun _=>?_)
       · ((try dsimp only);(exact ⟨hS.cell 2,hE.cell 0,hE.cell 1,hE.cell 2,hE.cell 3,hE.cell 4,hE.cell 5,hE.cell 6,hE.cell 7⟩))
       clear hK K
       (try simp only [Act.put,pA,pB,pC])
       refine wpAnyH_done (by kernel_rfl) ?_ _;go_wp2_with fail
       refine bodyPost_ret (results_none rfl _ _ _) rfl ⟨rfl,[e0,e1,e2,e3,e4,e5,e6,e7],.slice xa9 (X.length+1) xc9,⟨hS,hE,hC,?_,HM.out,HZE.out⟩,rfl,hb⟩;rw [List.length_append,mrowsV_app,mrowsV_one];exact hF
     · skip
       (go_simp;try go_wp2_with fail)
       have hN:=Own.new Wd 69 #[.int .u8 e0,.int .u8 e1,.int .u8 e2,.int .u8 e3,.int .u8 e4,.int .u8 e5,.int .u8 e6,.int .u8 e7];have hbX:=bA1 Wd (.cells #[.int .u8 e0,.int .u8 e1,.int .u8 e2,.int .u8 e3,.int .u8 e4,.int .u8 e5,.int .u8 e6,.int .u8 e7] 69);replace hS:=hS.keep hbX hS.lt;replace hE:=hE.keep hbX hE.lt;replace hC:=hC.keep hbX;replace hF:=row_keep hF hbX;replace hb:=bT' hb hbX hb.size;generalize Wd.alloc (.cells #[.int .u8 e0,.int .u8 e1,.int .u8 e2,.int .u8 e3,.int .u8 e4,.int .u8 e5,.int .u8 e6,.int .u8 e7] 69)=W4 at *;generalize hhNg:Wd.heap.size=ghN at *;clear hbX hhNg;refine hK.out _ _ ?_ (fun _=>?_)
       · ((try dsimp only);(exact ⟨hS.cell 2,hE.cell 0,hE.cell 1,hE.cell 2,hE.cell 3,hE.cell 4,hE.cell 5,hE.cell 6,hE.cell 7⟩))
       clear hK K
       (try simp only [Act.put,pA,pB,pC])
       refine hdC 4 (fun K hK=>?_);have s3:=hS.cell 3
       (go_simp;try go_wp2_with fail)
       clear s3;refine hK.out _ _ ?_ (fun _=>?_)
       · ((try dsimp only);(exact ⟨hS.cell 2,hE.cell 0,hE.cell 1,hE.cell 2,hE.cell 3,hE.cell 4,hE.cell 5,hE.cell 6,hE.cell 7⟩))
       clear hK K
       (try simp only [Act.put,pA,pB,pC])
       refine hdC 12 (fun K hK=>?_);have HNW:Hid (∀j u,([.int .u8 e0,.int .u8 e1,.int .u8 e2,.int .u8 e3,.int .u8 e4,.int .u8 e5,.int .u8 e6,.int .u8 e7]:List Value)[j]? = some u→W4.cell? ((⟨ghN,0,none⟩:Addr).add j)=some u):=Lib.hid (fun j u hu=>by rw [Addr.add_mid];exact hN.range j u hu);have HRW:=Lib.hid hF;have hszW:w0.heap.size≤W4.heap.size:=hb.size;rw [if_pos (by rfl)];refine wp_append_own_wide _ (.tmp 30) (.tmp 37) 49 rfl w0.heap.size 69 ti tz 8 8 Tryz.underlying49 HI.out HZt.out HS.out HBt.out HZs.out (by omega) (.slice fa X.length fc) X.length _ rfl HRW.out ⟨ghN,0,none⟩ 1 1 [.int .u8 e0,.int .u8 e1,.int .u8 e2,.int .u8 e3,.int .u8 e4,.int .u8 e5,.int .u8 e6,.int .u8 e7] rfl rfl HNW.out HON.out (by simp only [maxLen];omega) (by omega) hszW (fun v' W5 h2 h3 h4=>?_);obtain ⟨xa9,xc9,rfl⟩:=row_slice h2;replace hS:=hS.grown h3 (own_ne_row hS HRW.out (by decide));replace hE:=hE.grown h3 (own_ne_row hE HRW.out (by decide));replace hb:=grown_below hb h3 (fun j e=>by have:=(HRW.out.lt j e).1;omega) hb.size;replace hC:=hC.grown HRW.out h3;clear hF hN;have hF:=h2;clear h2 h4;clear HNW HRW hszW h3;refine hK.out _ _ ?_ (fun _=>?_)
       · ((try dsimp only);(exact ⟨hS.cell 2,hE.cell 0,hE.cell 1,hE.cell 2,hE.cell 3,hE.cell 4,hE.cell 5,hE.cell 6,hE.cell 7⟩))
       clear hK K
       (try simp only [Act.put,pA,pB,pC])
       refine hdT 13 ?_;refine hdT 14 ?_;refine hdC 15 (fun K hK=>?_);have f3:=hS.frozen 3;have s3:=hS.cell 3
       (go_simp;go_wp2_with fail)
       clear f3 s3;replace hE:=hE.far (p:=⟨gS,3,none⟩) (own_neC hE hS (by decide)) (.slice xa9 (X.length+1) xc9);replace hC:=hC.far (p:=⟨gS,3,none⟩) hS (by decide) (by decide) (.slice xa9 (X.length+1) xc9);replace hF:=row_farV (p:=⟨gS,3,none⟩) hF hS (by decide) (.slice xa9 (X.length+1) xc9);replace hb:=hb.setCell (p:=⟨gS,3,none⟩) hgS (.slice xa9 (X.length+1) xc9);replace hS:=hS.set 3 (.slice xa9 (X.length+1) xc9);generalize W5.setCell ⟨gS,3,none⟩ (.slice xa9 (X.length+1) xc9)=W6 at *;refine hK.out _ _ ?_ (fun _=>?_)
       · ((try dsimp only);(exact ⟨hS.cell 2,hE.cell 0,hE.cell 1,hE.cell 2,hE.cell 3,hE.cell 4,hE.cell 5,hE.cell 6,hE.cell 7⟩))
       clear hK K
       (try simp only [Act.put,pA,pB,pC])
       refine wpAnyH_done (by kernel_rfl) ?_ _;go_wp2_with fail
       refine bodyPost_ret (results_none rfl _ _ _) rfl ⟨rfl,[e0,e1,e2,e3,e4,e5,e6,e7],.slice xa9 (X.length+1) xc9,⟨hS,hE,hC,?_,HM.out,HZE.out⟩,rfl,hb⟩;rw [List.length_append,mrowsV_app,mrowsV_one];exact hF
   · have hc0:cnt [] rest=0:=(by simp [cnt,mons,hz0]);rw [hc0] at k3;have hme:mons [] rest=[]:=(by rw [mons,if_neg hz0]);rw [hme];go_enter Tryz.func78,Tryz.ntmps78
     go_wp2_with fail
     exact bodyPost_ret (results_none rfl _ _ _) rfl ⟨rfl,E,fv,by rw [show ext (E.take i) []=[] from rfl,List.append_nil];exact ⟨hS,hE,hC,HF.out,HM.out,HZE.out⟩,rfl,hb⟩
 | succ d ih =>
   intro w i rest E X fv hi hrr hX hV hb;have hin:i<n:=(by omega);obtain ⟨b,off,dd,ha,hbl,hcd,hxd⟩:=(HD.out).at_ (k:=i) hin;subst ha;have hdd:=degs_at HZ.out hxd.out;obtain ⟨D,rfl⟩:∃D:Nat,dd=(D:Int):=⟨dd.toNat,by omega⟩;obtain ⟨hD1,hD2⟩:1≤D∧D≤12:=(by omega);have HDR:=Lib.hid (drop_at hxd.out);have HCAP:=Lib.hid (capAt_gx hxd.out);have HDT:Hid ((D:Int).toNat=D):=Lib.hid (by omega);clear hdd;have hS:=hV.s;have hE:=hV.e;have hC:=hV.t;have HV:=Lib.hid hV;clear hV;have k0:=hS.cell 0;have k1:=hS.cell 1;have k2:=hC.own.cell i;rw [tabC_get (Nat.zero_le _) (by omega)] at k2;have k3:=(hC.row i (Nat.zero_le _) (by omega)).cell rest;rw [ofI_get (cntR_get hrr)] at k3;have hi0:(0:Int)≤(i:Int):=(by omega);have hi1:(i:Int)<(n:Int)+1:=(by omega);have hi2:(i:Int)<(n:Int):=(by omega);have hr0:(0:Int)≤(rest:Int):=(by omega);have hr1:(rest:Int)<(r:Int)+1:=(by omega);obtain ⟨C0,hC0⟩:∃C0,cnt (zs.drop i) rest=C0:=⟨_,rfl⟩;rw [hC0] at k3 hX;have HC0:=Lib.hid hC0;clear hC0;by_cases hcz:C0=0
   · subst hcz;have hme:mons (zs.drop i) rest=[]:=List.length_eq_zero_iff.1 HC0.out;rw [hme];go_enter Tryz.func78,Tryz.ntmps78
     go_wp2_with fail
     exact bodyPost_ret (results_none rfl _ _ _) rfl ⟨rfl,E,fv,by rw [show ext (E.take i) []=[] from rfl,List.append_nil];exact HV.out,rfl,hb⟩
   have hcz':¬(C0:Int)=0:=(by omega);have hin':¬(i:Int)=(n:Int):=(by omega);have hczb:((C0:Int)==0)=false:=(by simpa using hcz');have hinb:((i:Int)==(n:Int))=false:=(by simpa using hin');obtain ⟨G,hG⟩:∃G,gx (D:Int)=G:=⟨_,rfl⟩;have hgx:=gx_le (D:Int);rw [hG] at hgx HCAP;have s3:IntKind.i64.wrap (G:Int)=(G:Int):=IntWalk.i64_in _ (by omega);obtain ⟨Q,hQ⟩:∃Q,rest / D=Q:=⟨_,rfl⟩;have hQ2:Q≤rest:=(by rw [←hQ];exact Nat.div_le_self _ _);have s4:(rest:Int).tdiv (D:Int)=(Q:Int):=(by rw [←hQ];exact (Int.ofNat_tdiv rest D).symm);have s5:IntKind.i64.wrap (Q:Int)=(Q:Int):=IntWalk.i64_in _ (by omega);have hDn:¬(D:Int)=0:=(by omega);have hDn0:¬D=0:=(by omega);have hDnb:((D:Int)==0)=false:=(by simpa using hDn);have HG:=Lib.hid hG;have HQ:=Lib.hid hQ;clear hG hQ;have k4:w.cell? ⟨b,off+i,none⟩=some (.int .i64 D):=(World.cell?_of_block (a:=⟨b,off+i,none⟩) (hb.block b hbl)).trans hcd;go_enter Tryz.func78,Tryz.ntmps78
   go_upto_region 3 with fail
   clear k1 k2 k3;replace hS:=hS.drew;replace hE:=hE.drew;replace hC:CntT w.drew g gf 0 n r zs:=⟨hC.own,hC.row⟩;have HF:Hid (w.drew.ownsRow w0.heap.size 69 8 fv X.length (mrowsV X)):=Lib.hid HV.out.f;have HM:=Lib.hid HV.out.m;have HZE:=Lib.hid HV.out.z;clear HV;replace hb:Below w0.heap.size w0 w.drew:=hb.drew;replace k0:w.drew.cell? ⟨gS,0,none⟩=some (.slice (some ⟨b,off,none⟩) n c):=k0;replace k4:w.drew.cell? ⟨b,off+i,none⟩=some (.int .i64 D):=k4
   have HMON0:Hid (mons (zs.drop i) rest=down (fillF D zs i rest) (min G Q+1)):=Lib.hid (by
    rw [HDR.out,mons,HDT.out,HG.out,HQ.out]
    rfl)
   obtain ⟨M,hM⟩:∃M,min G Q=M:=⟨_,rfl⟩;rw [hM] at HMON0;have hcase:(Q<G∧Q=M)∨(¬Q<G∧G=M):=(by omega);clear hM
   rcases hcase with ⟨hqg,rfl⟩ | ⟨hqg,rfl⟩
   all_goals
    have HMON:=HMON0;clear HMON0
   · skip
     refine wp_region_held_drew (S:=(fun w'=>w'.cell? ⟨gS,0,none⟩=some (.slice (some ⟨b,off,none⟩) n c)∧w'.cell? ⟨b,off+i,none⟩=some (.int .i64 D))) (by kernel_rfl) ?_ (fun _=>?_)
     · ((try dsimp only);(exact ⟨k0,k4⟩))
     generalize w.drew=Wd at *;refine hdT 0 ?_;refine hdT 1 ?_;refine hdT 2 ?_;refine hdT 3 ?_;refine hdT 4 ?_;refine hdT 7 ?_;refine hdT 8 ?_;refine hdT 9 ?_;refine hdT 10 ?_;refine hdT 11 ?_;refine hdT 12 ?_;refine hdT 13 ?_;refine hdT 14 ?_;refine hdT 15 ?_;refine hdC 5 (fun K hK=>?_);have HIN:=Lib.hid (HD.out.keep hb)
     (go_simp;(go_at_call 91;refine (greatestExponent_c c i HIN.out (by omega) (by omega)).mono ?_;rintro e w3 ⟨rfl,rfl⟩;rw [HCAP.out]);go_wp2_with fail)
     clear HIN;refine hK.out _ _ ?_ (fun _=>?_)
     · ((try dsimp only);(exact ⟨k0,k4⟩))
     clear hK K
     (try simp only [Act.put,pA,pB,pC])
     refine hdT 6 ?_;refine hdC 16 (fun K hK=>?_)
     (go_simp;try go_wp2_with fail)
     refine hK.out _ _ ?_ (fun _=>?_)
     · ((try dsimp only);(exact ⟨k0,k4⟩))
     clear hK K
     (try simp only [Act.put,pA,pB,pC])
     refine hdT 17 ?_;refine wpAnyH_done (by kernel_rfl) ?_ _;go_upto_region 5 with fail
     clear k0 k4;have HVS:Hid (VS w0.heap.size Wd gS gE g gf (some ⟨b,off,none⟩) n c r zs E X fv):=Lib.hid ⟨hS,hE,hC,HF.out,HM.out,HZE.out⟩;clear hS hE hC HF HM HZE
     go_loopw [7] (fun x wr=>∃(k:Nat) (y:Int) (E':List Int) (X':List (List Int)) (fv':Value),k≤Q+1∧x=.int .i64 y∧Hid (y=(k:Int) - 1)∧Hid (VS w0.heap.size wr gS gE g gf (some ⟨b,off,none⟩) n c r zs E' X' fv')∧Hid (E'.take i=E.take i)∧Hid (X'++ext (E.take i) (down (fillF D zs i rest) k)=X++ext (E.take i) (mons (zs.drop i) rest))∧Below w0.heap.size w0 wr) (fun x _=>(intOf x+1).toNat)
     case atStart=>exact ⟨Q+1,(Q:Int),E,X,fv,Nat.le_refl _,rfl,Lib.hid (by omega),HVS,Lib.hid rfl,Lib.hid (by rw [HMON.out]),hb⟩
     case round=>
      clear HVS hb;obtain ⟨k,y,E',X',fv',hk,rfl,hy,HV,HT,HX,hb⟩:=hrel
      rcases Nat.eq_zero_or_pos k with rfl | hpos
      · obtain rfl:y=-1:=(by have:=hy.out;omega);go_wp2_with fail
        go_end0
        exact ⟨rfl,E',fv',by
         have e:=HX.out;rw [show ext (E.take i) (down (fillF D zs i rest) 0)=[] from rfl,List.append_nil] at e;rw [←e]
         exact HV.out,HT.out,hb⟩
      obtain ⟨e,rfl⟩:∃e,k=e+1:=⟨k - 1,by omega⟩;obtain rfl:y=(e:Int):=(by have:=hy.out;omega);clear hy hpos;have heQ:e≤Q:=(by omega);have heG:e≤20:=(by omega);obtain ⟨P,hP⟩:∃P,e * D=P:=⟨_,rfl⟩
      have hPr:P≤rest:=by
       rw [←hP];have:=(Nat.le_div_iff_mul_le (show 0<D by omega)).1 (show e≤rest / D by rw [HQ.out];exact heQ);exact this
      have s1:IntKind.i64.wrap ((e:Int) * (D:Int))=(P:Int):=(by rw [←Int.natCast_mul,hP];exact IntWalk.i64_in _ (by omega));obtain ⟨u,hu⟩:∃u,rest - P=u:=⟨_,rfl⟩;have s1p:IntKind.i64.wrap (P:Int)=(P:Int):=IntWalk.i64_in _ (by omega);have s6:(rest:Int) - (P:Int)=(u:Int):=(by omega);have s7:IntKind.i64.wrap (u:Int)=(u:Int):=IntWalk.i64_in _ (by omega);have s8:IntKind.u8.wrap (e:Int)=(e:Int):=IntWalk.u8_in _ (by omega);have hur:u≤r:=(by omega);have HPU:Hid (u=rest - e * D):=Lib.hid (by rw [hP];omega);clear hP hu;have HF:Hid (fillF D zs i rest e=(mons (zs.drop (i+1)) u).map ((e:Int)::·)):=Lib.hid (by rw [fillF,HPU.out])
      have HLN:Hid (X'.length+cnt (zs.drop (i+1)) u≤400):=Lib.hid (by
       have e1:=congrArg List.length HX.out;rw [List.length_append,List.length_append,ext_len,ext_len,down,List.length_append,HF.out,List.length_map] at e1;have e2:(mons (zs.drop i) rest).length=C0:=HC0.out;have e3:(mons (zs.drop (i+1)) u).length=cnt (zs.drop (i+1)) u:=rfl
       omega)
      have hS:=HV.out.s;have hE:=HV.out.e;have k2:=hS.cell 2;have f2:=hE.frozen i;obtain ⟨o2,ho2⟩:=hE.has (i:=i) (by have:=HV.out.m.1;simp;omega);have hi8:(i:Int)<8:=(by omega);go_upto_region 8 with fail
      have VS2:Hid (VS w0.heap.size (wr.setCell ⟨gE,i,none⟩ (.int .u8 e)) gS gE g gf (some ⟨b,off,none⟩) n c r zs (E'.set i e) X' fv'):=Lib.hid ⟨hS.far (p:=⟨gE,i,none⟩) (own_neC hS hE (by decide)) _,by have:=hE.set i (.int .u8 e);rw [set_u8] at this;exact this,HV.out.t.far (p:=⟨gE,i,none⟩) hE (by decide) (by decide) _,row_farV (p:=⟨gE,i,none⟩) HV.out.f hE (by decide) _,mono_set HV.out.m (by omega) (by omega),by rw [drop_set_lt hin];exact HV.out.z⟩;have hb2:=hb.setCell (p:=⟨gE,i,none⟩) hgE (.int .u8 e);have HE8:=Lib.hid HV.out.m.1;generalize wr.setCell ⟨gE,i,none⟩ (.int .u8 e)=w2 at *;clear k2 f2 ho2 hS hE HV hb;have k0:=VS2.out.s.cell 0;have k4:w2.cell? ⟨b,off+i,none⟩=some (.int .i64 D):=(World.cell?_of_block (a:=⟨b,off+i,none⟩) (hb2.block b hbl)).trans hcd;have hc:=ih (i:=i+1) (rest:=u) (by omega) hur HLN.out VS2.out hb2;rw [Int.natCast_add] at hc;have HC:=Lib.hid hc;clear hc;go_wp2_with fail
      refine HC.out.mono ?_;rintro e1 w3 ⟨rfl,E2,fv2,hV3,hT3,hb3⟩;clear HC k0 k4;have HV3:=Lib.hid hV3;have HT3:=Lib.hid hT3;clear hV3 hT3;go_wp2_with fail
      go_roundw
      case rel=>
       have e8:=HE8.out;have t1:=take_set_next (E:=E') (i:=i) (e:=(e:Int)) (by omega);refine ⟨e,(e:Int) - 1,E2,_,fv2,by omega,by go_num,Lib.hid rfl,HV3,Lib.hid ?_,Lib.hid ?_,hb3⟩
       · have:=congrArg (List.take i) HT3.out;rw [List.take_take,Nat.min_eq_left (by omega),t1,List.take_left' (by rw [List.length_take];omega)] at this;rw [this];exact HT.out
       · rw [t1,HT.out,←ext_cons,←HF.out,List.append_assoc,←ext_app];exact HX.out
      case measure=>simp [intOf] <;> omega
   · skip
     refine wp_region_held_drew (S:=(fun w'=>w'.cell? ⟨gS,0,none⟩=some (.slice (some ⟨b,off,none⟩) n c)∧w'.cell? ⟨b,off+i,none⟩=some (.int .i64 D))) (by kernel_rfl) ?_ (fun _=>?_)
     · ((try dsimp only);(exact ⟨k0,k4⟩))
     generalize w.drew=Wd at *;refine hdT 0 ?_;refine hdT 1 ?_;refine hdT 2 ?_;refine hdT 3 ?_;refine hdT 4 ?_;refine hdT 7 ?_;refine hdT 8 ?_;refine hdT 9 ?_;refine hdT 10 ?_;refine hdT 11 ?_;refine hdT 12 ?_;refine hdT 13 ?_;refine hdT 14 ?_;refine hdT 15 ?_;refine hdC 5 (fun K hK=>?_);have HIN:=Lib.hid (HD.out.keep hb)
     (go_simp;(go_at_call 91;refine (greatestExponent_c c i HIN.out (by omega) (by omega)).mono ?_;rintro e w3 ⟨rfl,rfl⟩;rw [HCAP.out]);go_wp2_with fail)
     clear HIN;refine hK.out _ _ ?_ (fun _=>?_)
     · ((try dsimp only);(exact ⟨k0,k4⟩))
     clear hK K
     (try simp only [Act.put,pA,pB,pC])
     refine hdT 6 ?_;refine hdC 16 (fun K hK=>?_)
     (go_simp;try go_wp2_with fail)
     refine hK.out _ _ ?_ (fun _=>?_)
     · ((try dsimp only);(exact ⟨k0,k4⟩))
     clear hK K
     (try simp only [Act.put,pA,pB,pC])
     refine hdT 17 ?_;refine wpAnyH_done (by kernel_rfl) ?_ _;go_upto_region 5 with fail
     clear k0 k4;have HVS:Hid (VS w0.heap.size Wd gS gE g gf (some ⟨b,off,none⟩) n c r zs E X fv):=Lib.hid ⟨hS,hE,hC,HF.out,HM.out,HZE.out⟩;clear hS hE hC HF HM HZE
     go_loopw [7] (fun x wr=>∃(k:Nat) (y:Int) (E':List Int) (X':List (List Int)) (fv':Value),k≤G+1∧x=.int .i64 y∧Hid (y=(k:Int) - 1)∧Hid (VS w0.heap.size wr gS gE g gf (some ⟨b,off,none⟩) n c r zs E' X' fv')∧Hid (E'.take i=E.take i)∧Hid (X'++ext (E.take i) (down (fillF D zs i rest) k)=X++ext (E.take i) (mons (zs.drop i) rest))∧Below w0.heap.size w0 wr) (fun x _=>(intOf x+1).toNat)
     case atStart=>exact ⟨G+1,(G:Int),E,X,fv,Nat.le_refl _,rfl,Lib.hid (by omega),HVS,Lib.hid rfl,Lib.hid (by rw [HMON.out]),hb⟩
     case round=>
      clear HVS hb;obtain ⟨k,y,E',X',fv',hk,rfl,hy,HV,HT,HX,hb⟩:=hrel
      rcases Nat.eq_zero_or_pos k with rfl | hpos
      · obtain rfl:y=-1:=(by have:=hy.out;omega);go_wp2_with fail
        go_end0
        exact ⟨rfl,E',fv',by
         have e:=HX.out;rw [show ext (E.take i) (down (fillF D zs i rest) 0)=[] from rfl,List.append_nil] at e;rw [←e]
         exact HV.out,HT.out,hb⟩
      obtain ⟨e,rfl⟩:∃e,k=e+1:=⟨k - 1,by omega⟩;obtain rfl:y=(e:Int):=(by have:=hy.out;omega);clear hy hpos;have heQ:e≤Q:=(by omega);have heG:e≤20:=(by omega);obtain ⟨P,hP⟩:∃P,e * D=P:=⟨_,rfl⟩
      have hPr:P≤rest:=by
       rw [←hP];have:=(Nat.le_div_iff_mul_le (show 0<D by omega)).1 (show e≤rest / D by rw [HQ.out];exact heQ);exact this
      have s1:IntKind.i64.wrap ((e:Int) * (D:Int))=(P:Int):=(by rw [←Int.natCast_mul,hP];exact IntWalk.i64_in _ (by omega));obtain ⟨u,hu⟩:∃u,rest - P=u:=⟨_,rfl⟩;have s1p:IntKind.i64.wrap (P:Int)=(P:Int):=IntWalk.i64_in _ (by omega);have s6:(rest:Int) - (P:Int)=(u:Int):=(by omega);have s7:IntKind.i64.wrap (u:Int)=(u:Int):=IntWalk.i64_in _ (by omega);have s8:IntKind.u8.wrap (e:Int)=(e:Int):=IntWalk.u8_in _ (by omega);have hur:u≤r:=(by omega);have HPU:Hid (u=rest - e * D):=Lib.hid (by rw [hP];omega);clear hP hu;have HF:Hid (fillF D zs i rest e=(mons (zs.drop (i+1)) u).map ((e:Int)::·)):=Lib.hid (by rw [fillF,HPU.out])
      have HLN:Hid (X'.length+cnt (zs.drop (i+1)) u≤400):=Lib.hid (by
       have e1:=congrArg List.length HX.out;rw [List.length_append,List.length_append,ext_len,ext_len,down,List.length_append,HF.out,List.length_map] at e1;have e2:(mons (zs.drop i) rest).length=C0:=HC0.out;have e3:(mons (zs.drop (i+1)) u).length=cnt (zs.drop (i+1)) u:=rfl
       omega)
      have hS:=HV.out.s;have hE:=HV.out.e;have k2:=hS.cell 2;have f2:=hE.frozen i;obtain ⟨o2,ho2⟩:=hE.has (i:=i) (by have:=HV.out.m.1;simp;omega);have hi8:(i:Int)<8:=(by omega);go_upto_region 8 with fail
      have VS2:Hid (VS w0.heap.size (wr.setCell ⟨gE,i,none⟩ (.int .u8 e)) gS gE g gf (some ⟨b,off,none⟩) n c r zs (E'.set i e) X' fv'):=Lib.hid ⟨hS.far (p:=⟨gE,i,none⟩) (own_neC hS hE (by decide)) _,by have:=hE.set i (.int .u8 e);rw [set_u8] at this;exact this,HV.out.t.far (p:=⟨gE,i,none⟩) hE (by decide) (by decide) _,row_farV (p:=⟨gE,i,none⟩) HV.out.f hE (by decide) _,mono_set HV.out.m (by omega) (by omega),by rw [drop_set_lt hin];exact HV.out.z⟩;have hb2:=hb.setCell (p:=⟨gE,i,none⟩) hgE (.int .u8 e);have HE8:=Lib.hid HV.out.m.1;generalize wr.setCell ⟨gE,i,none⟩ (.int .u8 e)=w2 at *;clear k2 f2 ho2 hS hE HV hb;have k0:=VS2.out.s.cell 0;have k4:w2.cell? ⟨b,off+i,none⟩=some (.int .i64 D):=(World.cell?_of_block (a:=⟨b,off+i,none⟩) (hb2.block b hbl)).trans hcd;have hc:=ih (i:=i+1) (rest:=u) (by omega) hur HLN.out VS2.out hb2;rw [Int.natCast_add] at hc;have HC:=Lib.hid hc;clear hc;go_wp2_with fail
      refine HC.out.mono ?_;rintro e1 w3 ⟨rfl,E2,fv2,hV3,hT3,hb3⟩;clear HC k0 k4;have HV3:=Lib.hid hV3;have HT3:=Lib.hid hT3;clear hV3 hT3;go_wp2_with fail
      go_roundw
      case rel=>
       have e8:=HE8.out;have t1:=take_set_next (E:=E') (i:=i) (e:=(e:Int)) (by omega);refine ⟨e,(e:Int) - 1,E2,_,fv2,by omega,by go_num,Lib.hid rfl,HV3,Lib.hid ?_,Lib.hid ?_,hb3⟩
       · have:=congrArg (List.take i) HT3.out;rw [List.take_take,Nat.min_eq_left (by omega),t1,List.take_left' (by rw [List.length_take];omega)] at this;rw [this];exact HT.out
       · rw [t1,HT.out,←ext_cons,←HF.out,List.append_assoc,←ext_app];exact HX.out
      case measure=>simp [intOf] <;> omega
end Go.Proofs.YtfheammnkmjabaaGreat
