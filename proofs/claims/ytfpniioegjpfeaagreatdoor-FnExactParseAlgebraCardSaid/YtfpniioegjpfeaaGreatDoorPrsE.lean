
import Derived.Test.YtfpniioegjpfeaaGreatDoorPrsD
namespace Go.Proofs.YtfpniioegjpfeaaGreatDoor
set_option maxRecDepth 100000
open Go.RowKit Go.Deep
theorem nine_put {w0 W:World} {B:Nat} {g:Nat} {t:TypeId} {z0 z1 z2 z3 z4 z5 z6 z7 z8:Value} (v0 v1 v2 v3 v4 v5 v6 v7 v8:Value) (h:Own W g t #[z0,z1,z2,z3,z4,z5,z6,z7,z8]) (hB:B≤g) (hb:Below B w0 W):∃w',(((((((((W.setCell ⟨g,0,none⟩ v0).setCell ⟨g,1,none⟩ v1).setCell ⟨g,2,none⟩ v2).setCell ⟨g,3,none⟩ v3).setCell ⟨g,4,none⟩ v4).setCell ⟨g,5,none⟩ v5).setCell ⟨g,6,none⟩ v6).setCell ⟨g,7,none⟩ v7).setCell ⟨g,8,none⟩ v8)=w'∧Own w' g t #[v0,v1,v2,v3,v4,v5,v6,v7,v8]∧Below B w0 w':=by
 have h0:Own _ g t #[v0,z1,z2,z3,z4,z5,z6,z7,z8]:=h.set 0 v0
 have h1:Own _ g t #[v0,v1,z2,z3,z4,z5,z6,z7,z8]:=h0.set 1 v1
 have h2:Own _ g t #[v0,v1,v2,z3,z4,z5,z6,z7,z8]:=h1.set 2 v2
 have h3:Own _ g t #[v0,v1,v2,v3,z4,z5,z6,z7,z8]:=h2.set 3 v3
 have h4:Own _ g t #[v0,v1,v2,v3,v4,z5,z6,z7,z8]:=h3.set 4 v4
 have h5:Own _ g t #[v0,v1,v2,v3,v4,v5,z6,z7,z8]:=h4.set 5 v5
 have h6:Own _ g t #[v0,v1,v2,v3,v4,v5,v6,z7,z8]:=h5.set 6 v6
 have h7:Own _ g t #[v0,v1,v2,v3,v4,v5,v6,v7,z8]:=h6.set 7 v7
 have h8:Own _ g t #[v0,v1,v2,v3,v4,v5,v6,v7,v8]:=h7.set 8 v8
 have o0:=hb.setCell (p:=⟨g,0,none⟩) hB v0
 have o1:=o0.setCell (p:=⟨g,1,none⟩) hB v1
 have o2:=o1.setCell (p:=⟨g,2,none⟩) hB v2
 have o3:=o2.setCell (p:=⟨g,3,none⟩) hB v3
 have o4:=o3.setCell (p:=⟨g,4,none⟩) hB v4
 have o5:=o4.setCell (p:=⟨g,5,none⟩) hB v5
 have o6:=o5.setCell (p:=⟨g,6,none⟩) hB v6
 have o7:=o6.setCell (p:=⟨g,7,none⟩) hB v7
 have o8:=o7.setCell (p:=⟨g,8,none⟩) hB v8
 exact ⟨_,rfl,h8,o8⟩
theorem nine_cells {W:World} {g:Nat} {t:TypeId} {z0 z1 z2 z3 z4 z5 z6 z7 z8:Value} (h:Own W g t #[z0,z1,z2,z3,z4,z5,z6,z7,z8]):(W.cell? ⟨g,0,none⟩=some z0∧W.cell? ⟨g,1,none⟩=some z1∧W.cell? ⟨g,2,none⟩=some z2∧W.cell? ⟨g,3,none⟩=some z3∧W.cell? ⟨g,4,none⟩=some z4∧W.cell? ⟨g,5,none⟩=some z5∧W.cell? ⟨g,6,none⟩=some z6∧W.cell? ⟨g,7,none⟩=some z7∧W.cell? ⟨g,8,none⟩=some z8)∧W.frozen? ⟨g,0,none⟩=false∧W.frozen? ⟨g,1,none⟩=false∧W.frozen? ⟨g,2,none⟩=false∧W.frozen? ⟨g,3,none⟩=false∧W.frozen? ⟨g,4,none⟩=false∧W.frozen? ⟨g,5,none⟩=false∧W.frozen? ⟨g,6,none⟩=false∧W.frozen? ⟨g,7,none⟩=false∧W.frozen? ⟨g,8,none⟩=false:=
 ⟨⟨h.cell 0,h.cell 1,h.cell 2,h.cell 3,h.cell 4,h.cell 5,h.cell 6,h.cell 7,h.cell 8⟩,h.frozen 0,h.frozen 1,h.frozen 2,h.frozen 3,h.frozen 4,h.frozen 5,h.frozen 6,h.frozen 7,h.frozen 8⟩
def RdO {α:Type} (E:Option α) (b:Bool) (v:α):Prop:=(b=true→E=some v)∧(b=false→E=none)
theorem RdO.no {α:Type} {E:Option α} {v:α} (h:E=none):RdO E false v:=⟨fun h=>(by cases h),fun _=>h⟩
theorem RdO.yes {α:Type} {E:Option α} {v:α} (h:E=some v):RdO E true v:=⟨fun _=>h,fun h=>(by cases h)⟩
def RdTm (l:List UInt8) (w:World) (e:Ending) (w':World):Prop:=∃(x0 x1 x2 x3 x4 x5 x6 x7 f:Int) (b:Bool),e=.returned (.tuple #[.agg #[.int .u8 x0,.int .u8 x1,.int .u8 x2,.int .u8 x3,.int .u8 x4,.int .u8 x5,.int .u8 x6,.int .u8 x7,.int .i64 f],.bool b])∧IsTm ⟨[x0,x1,x2,x3,x4,x5,x6,x7],f⟩∧RdO (rdT l) b ⟨[x0,x1,x2,x3,x4,x5,x6,x7],f⟩∧Below w.heap.size w w'
theorem info_term:(Tryz.prog.info? 65).map (·.size)=some 9:=by kernel_rfl
theorem parseI_c (l : List UInt8) (w : World) (hl : l.length ≤ 1048576) (hE : Errs w) :
    Calls Tryz.prog 54 #[str l,.int .i64 10,.int .i64 64] w fun e w'=>∃(x:Int) (ev:Value) (b:Bool),e=.returned (.tuple #[.int .i64 x,ev])∧((b=true∧ev=.nilIface∧Lib.parseIntB 64 l=.ok x)∨(b=false∧(∃te pe,ev=.iface te pe)∧∀u,Lib.parseIntB 64 l≠.ok u))∧Below w.heap.size w w':=by
 have hsz:(⟨l.toArray⟩:ByteArray).size=l.length:=by simp [ByteArray.size]
 obtain ⟨⟨e1,h1,k1⟩,⟨e2,h2,k2⟩,-⟩:=hE
 cases hp:Lib.parseIntB 64 l with
 | ok u =>
   refine (Tryz.strconv_ParseInt_10_at64_ok ⟨l.toArray⟩ (by omega) u (by simpa using hp) w).mono ?_;rintro e w' ⟨rfl,hw⟩;refine ⟨u,_,true,rfl,Or.inl ⟨rfl,rfl,rfl⟩,?_⟩
   rcases hw with rfl | ⟨t,rfl⟩
   · exact Below.refl _ _
   · exact Lib.bytesWorld_below _ _ _
 | range =>
   refine (Tryz.strconv_ParseInt_10_at64_range ⟨l.toArray⟩ (by omega) (by simpa using hp) e2 w h2 k2).mono ?_;rintro e w' ⟨n,rfl,-,-,hb⟩;exact ⟨_,_,false,rfl,Or.inr ⟨rfl,⟨_,_,rfl⟩,fun u h=>by cases h⟩,hb⟩
 | _ =>
   refine (Tryz.strconv_ParseInt_10_at64_syntax ⟨l.toArray⟩ (by omega) (by simpa using hp) e1 w h1 k1).mono ?_;rintro e w' ⟨n,rfl,-,-,hb⟩;exact ⟨0,_,false,rfl,Or.inr ⟨rfl,⟨_,_,rfl⟩,fun u h=>by cases h⟩,hb⟩
theorem cut_len (l s:List UInt8):(Lib.cut l s).1.length≤l.length∧(Lib.cut l s).2.1.length≤l.length:=by
 unfold Lib.cut
 split
 · simp only [List.length_take,List.length_drop];omega
 · simp
theorem rdT_no (l:List UInt8) (h:(Lib.cut l [42]).2.2=false∨(∀u,Lib.parseIntB 64 (Lib.cut l [42]).1≠.ok u)∨rdName (Lib.cut l [42]).2.1=none):rdT l=none:=by
 rw [rdT]
 split
 · rename_i f m hf hm
   rcases h with h | h | h
   · rw [h];rfl
   · exact absurd hf (h f)
   · rw [h] at hm;cases hm
 · rfl
theorem rdT_yes {l:List UInt8} {f:Int} {m:List Int} (h1:(Lib.cut l [42]).2.2=true) (h2:Lib.parseIntB 64 (Lib.cut l [42]).1=.ok f) (h3:rdName (Lib.cut l [42]).2.1=some m):rdT l=some ⟨m,f⟩:=by
 rw [rdT,h2,h3]
 simp only [h1,if_true]
set_option maxHeartbeats 4000000 in
theorem readTerm_c (l : List UInt8) (w : World) (hl : l.length ≤ 1048576) (hE : Errs w) :
    Calls Tryz.prog 43 #[str l] w fun e w'=>RdTm l w e w':=by
 have hsz:(⟨l.toArray⟩:ByteArray).size<4294967281:=by rw [show (⟨l.toArray⟩:ByteArray).size=l.length by simp [ByteArray.size]];omega
 have HE:=Lib.hid hE
 clear hE
 have hX:=Own.new w 65 #[.int .u8 0,.int .u8 0,.int .u8 0,.int .u8 0,.int .u8 0,.int .u8 0,.int .u8 0,.int .u8 0,.int .i64 0]
 have hb:=bA1 w (.cells #[.int .u8 0,.int .u8 0,.int .u8 0,.int .u8 0,.int .u8 0,.int .u8 0,.int .u8 0,.int .u8 0,.int .i64 0] 65)
 go_enter Tryz.func43,Tryz.ntmps43
 go_upto_region 1 with fail
 generalize w.alloc (.cells #[.int .u8 0,.int .u8 0,.int .u8 0,.int .u8 0,.int .u8 0,.int .u8 0,.int .u8 0,.int .u8 0,.int .i64 0] 65)=w1 at *
 obtain ⟨gX,hgX⟩:∃g,w.heap.size=g:=⟨_,rfl⟩
 rw [hgX] at hX
 try rw [hgX]
 have HGX:=Lib.hid hgX
 clear hgX
 obtain ⟨m,hm⟩:=(HE.out.keep (hb.mono (Nat.le_refl _))).2.2
 go_wp2_with fail
 refine (Tryz.strings_Cut ⟨l.toArray⟩ ⟨#[42]⟩ m w1 hsz hm).mono ?_
 rintro e w2 ⟨rfl,q,hw2⟩
 have hb2:Below w1.heap.size w1 w2:=by rw [hw2];exact below_drewN (Below.refl _ _) q
 clear hw2 hm
 rw [show Lib.cut (⟨l.toArray⟩:ByteArray).data.toList (⟨#[42]⟩:ByteArray).data.toList=Lib.cut l [42] by simp]
 have hcl:=cut_len l [42]
 have hno:=rdT_no l
 have hyes:=fun f m=>@rdT_yes l f m
 obtain ⟨ra,rb,fd,hcut⟩:∃ra rb fd,Lib.cut l [42]=(ra,rb,fd):=⟨_,_,_,rfl⟩
 rw [hcut] at hcl hno hyes ⊢
 simp only at hcl hno hyes
 have HNO:=Lib.hid hno
 have HYES:=Lib.hid hyes
 have hla:=hcl.1
 have hlb:=hcl.2
 clear hcl hno hyes hcut hsz
 replace hX:=hX.keep hb2 hX.lt
 replace hb:=bT' hb hb2 hb.size
 clear hb2
 go_wp2_with fail
 refine (parseI_c ra w2 (by omega) (HE.out.keep hb)).mono ?_
 rintro e w3 ⟨f,ev,b1,rfl,hcase,hb3⟩
 replace hX:=hX.keep hb3 hX.lt
 replace hb:=bT' hb hb3 hb.size
 clear hb3
 go_wp2_with fail
 refine (readMonomial_c rb w3 (by omega) (HE.out.keep hb)).mono ?_
 rintro e w4 ⟨x0,x1,x2,x3,x4,x5,x6,x7,b2,rfl,hmo,h2t,h2f,hb4⟩
 replace hX:=hX.keep hb4 hX.lt
 replace hb:=bT' hb hb4 hb.size
 clear hb4
 have hM:=Own.new w4 60 #[.int .u8 x0,.int .u8 x1,.int .u8 x2,.int .u8 x3,.int .u8 x4,.int .u8 x5,.int .u8 x6,.int .u8 x7]
 have hb5:=bA1 w4 (.cells #[.int .u8 x0,.int .u8 x1,.int .u8 x2,.int .u8 x3,.int .u8 x4,.int .u8 x5,.int .u8 x6,.int .u8 x7] 60)
 replace hX:=hX.keep hb5 hX.lt
 replace hb:=bT' hb hb5 hb.size
 clear hb5
 go_upto_region 4 with fail
 generalize w4.alloc (.cells #[.int .u8 x0,.int .u8 x1,.int .u8 x2,.int .u8 x3,.int .u8 x4,.int .u8 x5,.int .u8 x6,.int .u8 x7] 60)=w5 at *
 obtain ⟨gM,hgM⟩:∃g,w4.heap.size=g:=⟨_,rfl⟩
 rw [hgM] at hM
 try rw [hgM]
 clear hgM
 cases fd with
 | false =>
   have HF:=Lib.hid (HNO.out (Or.inl rfl));clear hcase h2t h2f;obtain ⟨⟨e0,e1,e2,e3,e4,e5,e6,e7,e8⟩,f0,f1,f2,f3,f4,f5,f6,f7,f8⟩:=nine_cells hX;go_wp2_with fail
   obtain ⟨w9,hw9,hX9,hb9⟩:=nine_put (.int .u8 0) (.int .u8 0) (.int .u8 0) (.int .u8 0) (.int .u8 0) (.int .u8 0) (.int .u8 0) (.int .u8 0) (.int .i64 0) hX (Nat.le_of_eq HGX.out) hb;rw [hw9];exact bodyPost_ret (results_row2 rfl _ _ gX 65 #[.int .u8 0,.int .u8 0,.int .u8 0,.int .u8 0,.int .u8 0,.int .u8 0,.int .u8 0,.int .u8 0,.int .i64 0] (0,0) _ rfl hX9 Tryz.underlying65 rfl info_term) rfl ⟨0,0,0,0,0,0,0,0,0,false,rfl,⟨zero8,by decide,by decide⟩,RdO.no HF.out,hb9⟩
 | true =>
   rcases hcase with ⟨rfl,rfl,hp⟩ | ⟨rfl,⟨te,pe,rfl⟩,hp⟩
   · cases b2 with
     | false =>
       have HF:=Lib.hid (HNO.out (Or.inr (Or.inr (h2f rfl))));clear h2t h2f hp;obtain ⟨⟨e0,e1,e2,e3,e4,e5,e6,e7,e8⟩,f0,f1,f2,f3,f4,f5,f6,f7,f8⟩:=nine_cells hX;go_wp2_with fail
       obtain ⟨w9,hw9,hX9,hb9⟩:=nine_put (.int .u8 0) (.int .u8 0) (.int .u8 0) (.int .u8 0) (.int .u8 0) (.int .u8 0) (.int .u8 0) (.int .u8 0) (.int .i64 0) hX (Nat.le_of_eq HGX.out) hb;rw [hw9];exact bodyPost_ret (results_row2 rfl _ _ gX 65 #[.int .u8 0,.int .u8 0,.int .u8 0,.int .u8 0,.int .u8 0,.int .u8 0,.int .u8 0,.int .u8 0,.int .i64 0] (0,0) _ rfl hX9 Tryz.underlying65 rfl info_term) rfl ⟨0,0,0,0,0,0,0,0,0,false,rfl,⟨zero8,by decide,by decide⟩,RdO.no HF.out,hb9⟩
     | true =>
       have HP:=Lib.hid hp;have HR:=Lib.hid (HYES.out f _ rfl hp (h2t rfl));clear h2t h2f hp;obtain ⟨⟨e0,e1,e2,e3,e4,e5,e6,e7,e8⟩,f0,f1,f2,f3,f4,f5,f6,f7,f8⟩:=nine_cells hX;obtain ⟨⟨a0,a1,a2,a3,a4,a5,a6,a7⟩,-⟩:=eight_cells hM;go_wp2_with fail
       obtain ⟨w9,hw9,hX9,hb9⟩:=nine_put (.int .u8 x0) (.int .u8 x1) (.int .u8 x2) (.int .u8 x3) (.int .u8 x4) (.int .u8 x5) (.int .u8 x6) (.int .u8 x7) (.int .i64 f) hX (Nat.le_of_eq HGX.out) hb;rw [hw9];have hfr:=parseI_le HP.out;exact bodyPost_ret (results_row2 rfl _ _ gX 65 #[.int .u8 x0,.int .u8 x1,.int .u8 x2,.int .u8 x3,.int .u8 x4,.int .u8 x5,.int .u8 x6,.int .u8 x7,.int .i64 f] (0,0) _ rfl hX9 Tryz.underlying65 rfl info_term) rfl ⟨x0,x1,x2,x3,x4,x5,x6,x7,f,true,rfl,⟨hmo,hfr.1,hfr.2⟩,RdO.yes HR.out,hb9⟩
   · have HF:=Lib.hid (HNO.out (Or.inr (Or.inl hp)));clear h2t h2f hp;obtain ⟨⟨e0,e1,e2,e3,e4,e5,e6,e7,e8⟩,f0,f1,f2,f3,f4,f5,f6,f7,f8⟩:=nine_cells hX;go_wp2_with fail
     obtain ⟨w9,hw9,hX9,hb9⟩:=nine_put (.int .u8 0) (.int .u8 0) (.int .u8 0) (.int .u8 0) (.int .u8 0) (.int .u8 0) (.int .u8 0) (.int .u8 0) (.int .i64 0) hX (Nat.le_of_eq HGX.out) hb;rw [hw9];exact bodyPost_ret (results_row2 rfl _ _ gX 65 #[.int .u8 0,.int .u8 0,.int .u8 0,.int .u8 0,.int .u8 0,.int .u8 0,.int .u8 0,.int .u8 0,.int .i64 0] (0,0) _ rfl hX9 Tryz.underlying65 rfl info_term) rfl ⟨0,0,0,0,0,0,0,0,0,false,rfl,⟨zero8,by decide,by decide⟩,RdO.no HF.out,hb9⟩
end Go.Proofs.YtfpniioegjpfeaaGreatDoor
