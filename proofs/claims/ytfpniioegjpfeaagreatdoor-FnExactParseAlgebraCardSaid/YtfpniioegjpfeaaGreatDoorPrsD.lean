
import Derived.Test.YtfpniioegjpfeaaGreatDoorPrsC
namespace Go.Proofs.YtfpniioegjpfeaaGreatDoor
set_option maxRecDepth 100000
open Go.RowKit Go.Deep
theorem eight_put {w0 W:World} {B:Nat} {g:Nat} {t:TypeId} {z0 z1 z2 z3 z4 z5 z6 z7:Value} (v0 v1 v2 v3 v4 v5 v6 v7:Value) (h:Own W g t #[z0,z1,z2,z3,z4,z5,z6,z7]) (hB:B≤g) (hb:Below B w0 W):∃w',((((((((W.setCell ⟨g,0,none⟩ v0).setCell ⟨g,1,none⟩ v1).setCell ⟨g,2,none⟩ v2).setCell ⟨g,3,none⟩ v3).setCell ⟨g,4,none⟩ v4).setCell ⟨g,5,none⟩ v5).setCell ⟨g,6,none⟩ v6).setCell ⟨g,7,none⟩ v7)=w'∧Own w' g t #[v0,v1,v2,v3,v4,v5,v6,v7]∧Below B w0 w':=by
 have h0:Own _ g t #[v0,z1,z2,z3,z4,z5,z6,z7]:=h.set 0 v0
 have h1:Own _ g t #[v0,v1,z2,z3,z4,z5,z6,z7]:=h0.set 1 v1
 have h2:Own _ g t #[v0,v1,v2,z3,z4,z5,z6,z7]:=h1.set 2 v2
 have h3:Own _ g t #[v0,v1,v2,v3,z4,z5,z6,z7]:=h2.set 3 v3
 have h4:Own _ g t #[v0,v1,v2,v3,v4,z5,z6,z7]:=h3.set 4 v4
 have h5:Own _ g t #[v0,v1,v2,v3,v4,v5,z6,z7]:=h4.set 5 v5
 have h6:Own _ g t #[v0,v1,v2,v3,v4,v5,v6,z7]:=h5.set 6 v6
 have h7:Own _ g t #[v0,v1,v2,v3,v4,v5,v6,v7]:=h6.set 7 v7
 have o0:=hb.setCell (p:=⟨g,0,none⟩) hB v0
 have o1:=o0.setCell (p:=⟨g,1,none⟩) hB v1
 have o2:=o1.setCell (p:=⟨g,2,none⟩) hB v2
 have o3:=o2.setCell (p:=⟨g,3,none⟩) hB v3
 have o4:=o3.setCell (p:=⟨g,4,none⟩) hB v4
 have o5:=o4.setCell (p:=⟨g,5,none⟩) hB v5
 have o6:=o5.setCell (p:=⟨g,6,none⟩) hB v6
 have o7:=o6.setCell (p:=⟨g,7,none⟩) hB v7
 exact ⟨_,rfl,h7,o7⟩
theorem eight_cells {W:World} {g:Nat} {t:TypeId} {z0 z1 z2 z3 z4 z5 z6 z7:Value} (h:Own W g t #[z0,z1,z2,z3,z4,z5,z6,z7]):(W.cell? ⟨g,0,none⟩=some z0∧W.cell? ⟨g,1,none⟩=some z1∧W.cell? ⟨g,2,none⟩=some z2∧W.cell? ⟨g,3,none⟩=some z3∧W.cell? ⟨g,4,none⟩=some z4∧W.cell? ⟨g,5,none⟩=some z5∧W.cell? ⟨g,6,none⟩=some z6∧W.cell? ⟨g,7,none⟩=some z7)∧W.frozen? ⟨g,0,none⟩=false∧W.frozen? ⟨g,1,none⟩=false∧W.frozen? ⟨g,2,none⟩=false∧W.frozen? ⟨g,3,none⟩=false∧W.frozen? ⟨g,4,none⟩=false∧W.frozen? ⟨g,5,none⟩=false∧W.frozen? ⟨g,6,none⟩=false∧W.frozen? ⟨g,7,none⟩=false:=
 ⟨⟨h.cell 0,h.cell 1,h.cell 2,h.cell 3,h.cell 4,h.cell 5,h.cell 6,h.cell 7⟩,h.frozen 0,h.frozen 1,h.frozen 2,h.frozen 3,h.frozen 4,h.frozen 5,h.frozen 6,h.frozen 7⟩
theorem info_mono:(Tryz.prog.info? 60).map (·.size)=some 8:=by kernel_rfl
theorem info_u8:(Tryz.prog.info? 5).map (fun i=>(i.zero,i.size,i.bytes))=some (some (.int .u8 0),1,1):=by kernel_rfl
theorem dgs_ascii:∀(j:Nat) b,(⟨#[48,49,50,51,52,53,54,55,56,57]⟩:ByteArray).data.toList[j]? = some b→b.toNat<128:=fun j b h=>by
 have h1:b∈dgs:=List.mem_of_getElem? h
 have h2:dgs.contains b=true:=by simpa using h1
 have:=(dgs_iff b).1 h2
 omega
theorem dgs_size:(⟨#[48,49,50,51,52,53,54,55,56,57]⟩:ByteArray).size<4294967281:=(by omega:(10:Nat)<4294967281)
theorem extract_one (c:UInt8) (t:List UInt8):(⟨(c::t).toArray⟩:ByteArray).extract 1 (t.length+1)=⟨t.toArray⟩:=by
 refine ByteArray.ext (Array.ext' ?_)
 rw [Lib.extract_data]
 simp
theorem extract_two (c:UInt8) (k r:List UInt8):(⟨(c::(k++r)).toArray⟩:ByteArray).extract 1 (k.length+1)=⟨k.toArray⟩:=by
 refine ByteArray.ext (Array.ext' ?_)
 rw [Lib.extract_data]
 simp
def exV (ex:List Int):List Value:=ex.map (Value.int .u8 ·)
theorem mono_list {m:List Int} (h:IsMono m):∃x0 x1 x2 x3 x4 x5 x6 x7,m=[x0,x1,x2,x3,x4,x5,x6,x7]:=by
 match m,h.1 with
 | [x0,x1,x2,x3,x4,x5,x6,x7],_=>exact ⟨x0,x1,x2,x3,x4,x5,x6,x7,rfl⟩
set_option maxHeartbeats 4000000 in
theorem readMonomial_c (l : List UInt8) (w : World) (hl : l.length ≤ 1048576) (hE : Errs w) :
    Calls Tryz.prog 68 #[str l] w fun e w'=>∃(x0 x1 x2 x3 x4 x5 x6 x7:Int) (b:Bool),e=.returned (.tuple #[.agg #[.int .u8 x0,.int .u8 x1,.int .u8 x2,.int .u8 x3,.int .u8 x4,.int .u8 x5,.int .u8 x6,.int .u8 x7],.bool b])∧IsMono [x0,x1,x2,x3,x4,x5,x6,x7]∧(b=true→rdName l=some [x0,x1,x2,x3,x4,x5,x6,x7])∧(b=false→rdName l=none)∧Below w.heap.size w w':=by
 have HE:=Lib.hid hE
 clear hE
 have hX:=Own.new w 60 #[.int .u8 0,.int .u8 0,.int .u8 0,.int .u8 0,.int .u8 0,.int .u8 0,.int .u8 0,.int .u8 0]
 have hb:=bA1 w (.cells #[.int .u8 0,.int .u8 0,.int .u8 0,.int .u8 0,.int .u8 0,.int .u8 0,.int .u8 0,.int .u8 0] 60)
 have hgw:w.heap.size≤w.heap.size:=Nat.le_refl _
 go_enter Tryz.func68,Tryz.ntmps68
 go_upto_region 1 with fail
 generalize w.alloc (.cells #[.int .u8 0,.int .u8 0,.int .u8 0,.int .u8 0,.int .u8 0,.int .u8 0,.int .u8 0,.int .u8 0] 60)=w1 at *
 obtain ⟨gX,hgX⟩:∃g,w.heap.size=g:=⟨_,rfl⟩
 rw [hgX] at hX
 try rw [hgX]
 have HGX:=Lib.hid hgX
 clear hgX
 cases hc:(l==[49]) with
 | true =>
   have he:l=[49]:=(by simpa using hc);subst he;obtain ⟨⟨e0,e1,e2,e3,e4,e5,e6,e7⟩,f0,f1,f2,f3,f4,f5,f6,f7⟩:=eight_cells hX;go_wp2_with fail
   obtain ⟨w2,hw2,hX2,hb2⟩:=eight_put (.int .u8 0) (.int .u8 0) (.int .u8 0) (.int .u8 0) (.int .u8 0) (.int .u8 0) (.int .u8 0) (.int .u8 0) hX (Nat.le_of_eq HGX.out) hb;rw [hw2];refine bodyPost_ret (results_row2 rfl _ _ gX 60 #[.int .u8 0,.int .u8 0,.int .u8 0,.int .u8 0,.int .u8 0,.int .u8 0,.int .u8 0,.int .u8 0] (0,0) _ rfl hX2 Tryz.underlying60 rfl info_mono) rfl ⟨0,0,0,0,0,0,0,0,true,rfl,zero8,fun _=>rfl,fun h=>(by cases h),hb2⟩
 | false =>
   have HN:Hid (rdName l=rdM rdE l (List.replicate 8 0)):=Lib.hid (by rw [rdName,if_neg (by intro e;subst e;cases hc)]);obtain ⟨R,hR⟩:∃R,rdName l=R:=⟨_,rfl⟩;have HR:=Lib.hid hR;have HN2:Hid (rdM rdE l (List.replicate 8 0)=R):=Lib.hid (by rw [←HN.out,hR]);clear hR
   have hmk:(Instr.makeSlice 73 (.int .i64 8) (.int .i64 8)).run Tryz.prog w1=.ok (.slice (some ⟨w1.heap.size,0,none⟩) 8 8) (w1.alloc (.cells #[.int .u8 0,.int .u8 0,.int .u8 0,.int .u8 0,.int .u8 0,.int .u8 0,.int .u8 0,.int .u8 0] 5)):=by
    have h:=run_make_row' (P:=Tryz.prog) 73 5 (.int .u8 0) 1 Tryz.underlying73 info_u8 rfl .i64 .i64 8 (by omega) (by omega) w1;rw [show madeCells #[Value.int .u8 0] 8=#[.int .u8 0,.int .u8 0,.int .u8 0,.int .u8 0,.int .u8 0,.int .u8 0,.int .u8 0,.int .u8 0] by (apply Array.ext';rw [toList_madeCells_one];rfl)] at h;exact h
   have hG:=Own.new w1 5 #[.int .u8 0,.int .u8 0,.int .u8 0,.int .u8 0,.int .u8 0,.int .u8 0,.int .u8 0,.int .u8 0];have hba:=bA1 w1 (.cells #[.int .u8 0,.int .u8 0,.int .u8 0,.int .u8 0,.int .u8 0,.int .u8 0,.int .u8 0,.int .u8 0] 5);have hX2:=hX.keep hba hX.lt;have hb2:=bT' hb hba hb.size;have hwG:=hb.size;have hXE:gX<w1.heap.size:=hX.lt;go_upto_region 4 with fail
   clear hmk hX hb hba;generalize w1.alloc (.cells #[.int .u8 0,.int .u8 0,.int .u8 0,.int .u8 0,.int .u8 0,.int .u8 0,.int .u8 0,.int .u8 0] 5)=w2 at *;obtain ⟨gE,hgE⟩:∃g,w1.heap.size=g:=⟨_,rfl⟩;rw [hgE] at hG hwG hXE
   try rw [hgE]
   clear hgE
   go_loopw [0] (fun y wr=>∃(t:List UInt8) (ex:List Int),y=str t∧t.length≤1048576∧rdM rdE t ex=R∧IsMono ex∧Own wr gE 5 (exV ex).toArray∧Own wr gX 60 #[.int .u8 0,.int .u8 0,.int .u8 0,.int .u8 0,.int .u8 0,.int .u8 0,.int .u8 0,.int .u8 0]∧Below w.heap.size w wr) (fun y _=>match y with | .string s=>s.size | _=>0)
   case atStart=>exact ⟨l,_,rfl,hl,HN2.out,zero8,hG,hX2,hb2⟩
   case round=>
    clear hG hX2 hb2;obtain ⟨t,ex,rfl,htl,hrd,hmo,hG,hX,hb⟩:=hrel
    cases t with
    | nil =>
      rw [rdM_nil] at hrd;obtain ⟨x0,x1,x2,x3,x4,x5,x6,x7,rfl⟩:=mono_list hmo;have hG':Own wr gE 5 #[.int .u8 x0,.int .u8 x1,.int .u8 x2,.int .u8 x3,.int .u8 x4,.int .u8 x5,.int .u8 x6,.int .u8 x7]:=hG;obtain ⟨⟨a0,a1,a2,a3,a4,a5,a6,a7⟩,-⟩:=eight_cells hG';obtain ⟨⟨b0,b1,b2,b3,b4,b5,b6,b7⟩,c0,c1,c2,c3,c4,c5,c6,c7⟩:=eight_cells hX;have hie:([]:List UInt8).isEmpty=true:=rfl;have hat:∀w,(Instr.arrayAt 60 (.slice (some ⟨gE,0,none⟩) 8 8)).run Tryz.prog w=.ok (.pointer (some ⟨gE,0,none⟩)) w:=fun w=>run_arrayAt w 60 _ 8 _ 8 8 Tryz.underlying60 (Nat.le_refl 8);go_wp2_with fail
      obtain ⟨w9,hw9,hX9,hb9⟩:=eight_put (.int .u8 x0) (.int .u8 x1) (.int .u8 x2) (.int .u8 x3) (.int .u8 x4) (.int .u8 x5) (.int .u8 x6) (.int .u8 x7) hX (Nat.le_of_eq HGX.out) hb;rw [hw9];refine bodyPost_ret (results_row2 rfl _ _ gX 60 #[.int .u8 x0,.int .u8 x1,.int .u8 x2,.int .u8 x3,.int .u8 x4,.int .u8 x5,.int .u8 x6,.int .u8 x7] (0,0) _ rfl hX9 Tryz.underlying60 rfl info_mono) rfl ⟨x0,x1,x2,x3,x4,x5,x6,x7,true,rfl,hmo,fun _=>HR.out.trans hrd.symm,fun h=>(by cases h),hb9⟩
    | cons c t =>
      have hie:(c::t).isEmpty=false:=rfl;have htl2:t.length+1≤1048576:=htl;go_wp2_with fail
      have hci:wrap64 (wrap64 (c.toNat:Int) - 97)=(c.toNat:Int) - 97:=by
       have:=c.toNat_lt;rw [IntWalk.wrap64_in (c.toNat:Int) (by omega),IntWalk.wrap64_in _ (by omega)]
      have hix:0<({ data:=(c::t).toArray }:ByteArray).size:=(by simp [ByteArray.size]);generalize hi:wrap64 (wrap64 ((({ data:=(c::t).toArray }:ByteArray)[0]'hix).toNat:Int) - 97)=i;have hi2:(c.toNat:Int) - 97=i:=(by rw [←hi];exact hci.symm);clear hi hci;rw [extract_one];refine (Tryz.strings_TrimLeft_set ⟨t.toArray⟩ _ wr dgs_size dgs_ascii).mono ?_;rintro e w5 ⟨rfl,hb5⟩;rw [show Lib.trimLeftS (⟨t.toArray⟩:ByteArray).data.toList (⟨#[48,49,50,51,52,53,54,55,56,57]⟩:ByteArray).data.toList=t.dropWhile (dgs.contains ·) by simp [Lib.trimLeftS,dgs]];have hsp:=List.takeWhile_append_dropWhile (p:=(dgs.contains ·)) (l:=t);rw [rdM_cons] at hrd;obtain ⟨r,hr⟩:∃r,t.dropWhile (dgs.contains ·)=r:=⟨_,rfl⟩;obtain ⟨k,hk⟩:∃k,t.takeWhile (dgs.contains ·)=k:=⟨_,rfl⟩;rw [hr,hk] at hrd hsp;rw [hr];clear hr hk;have hlen:k.length+r.length=t.length:=(by rw [←hsp,List.length_append]);have hG5:=hG.keep hb5 hG.lt;have hX5:=hX.keep hb5 hX.lt;have hb6:=bT' hb hb5 hb.size;clear hG hX hb hb5 hie;have HRD:=Lib.hid hrd;have HSP:=Lib.hid hsp
      have hex:(⟨(c::t).toArray⟩:ByteArray).extract 1 (t.length+1 - r.length)=⟨k.toArray⟩:=by
       rw [show t.length+1 - r.length=k.length+1 by omega,←hsp];exact extract_two c k r
      clear hrd hsp;go_wp2_with fail
      (try rw [hex])
      refine (readExponent_c k w5 (by omega) (HE.out.keep hb6)).mono ?_;rintro e w6 ⟨x,b,rfl,hx0,hx1,hxt,hxf,hb7⟩;have hG:=hG5.keep hb7 hG5.lt;have hX:=hX5.keep hb7 hX5.lt;have hb:=bT' hb6 hb7 hb6.size;clear hG5 hX5 hb6 hb7 hex;by_cases hcl:97≤c.toNat∧c.toNat<105
      · have hi0:¬i<0:=(by omega);have hi8:¬i ≥ 8:=(by omega);obtain ⟨j,rfl⟩:∃j:Nat,i=j:=⟨i.toNat,by omega⟩;have hj:c.toNat - 97=j:=(by omega);have hrd:=HRD.out;rw [if_pos hcl,hj] at hrd
        cases b with
        | true =>
          rw [hxt rfl] at hrd;simp only at hrd;rw [Int.toNat_of_nonneg hx0] at hrd;have HRE:=Lib.hid hrd;clear hrd hxt hxf HRD;have hj8:j<8:=(by omega);have hj80:(j:Int)<8:=(by omega);have hj00:(0:Int)≤(j:Int):=(by omega);have cE:wr.cell? ⟨gE,0,none⟩=wr.cell? ⟨gE,0,none⟩:=rfl;clear cE;obtain ⟨y,hy⟩:∃y,ex[j]? = some y:=⟨_,List.getElem?_eq_getElem (by have:=hmo.1;omega)⟩;have cE:w6.cell? ⟨gE,j,none⟩=some (.int .u8 y):=(by rw [hG.cell j];simp [exV,hy]);have fE:=hG.frozen j;have hG9:=hG.set j (.int .u8 x);have hbE:=hb.setCell (p:=⟨gE,j,none⟩) (by dsimp only;omega) (.int .u8 x);have hX9:=hX.far (p:=⟨gE,j,none⟩) (by dsimp only;have:=HGX.out;have:=hX.lt;omega) (.int .u8 x);have hset:(exV ex).toArray.setIfInBounds j (.int .u8 x)=(exV (ex.set j x)).toArray:=(by simp [exV]);rw [hset] at hG9
          have hmo9:IsMono (ex.set j x):=⟨by rw [List.length_set];exact hmo.1,fun z hz=>by
           rcases List.mem_or_eq_of_mem_set hz with h | h
           · exact hmo.2 z h
           · omega⟩
          clear hG hX hb hset hy;go_wp2_with fail
          go_roundw
          case rel=>exact ⟨r,ex.set j x,rfl,by omega,HRE.out,hmo9,hG9,hX9,hbE⟩
          case measure=>simp [ByteArray.size];omega
        | false =>
          rw [hxf rfl] at hrd;simp only at hrd;have HF:=Lib.hid hrd.symm;clear hrd hxt hxf HRD;obtain ⟨⟨e0,e1,e2,e3,e4,e5,e6,e7⟩,f0,f1,f2,f3,f4,f5,f6,f7⟩:=eight_cells hX;go_wp2_with fail
          obtain ⟨w9,hw9,hX9,hb9⟩:=eight_put (.int .u8 0) (.int .u8 0) (.int .u8 0) (.int .u8 0) (.int .u8 0) (.int .u8 0) (.int .u8 0) (.int .u8 0) hX (Nat.le_of_eq HGX.out) hb;rw [hw9];exact bodyPost_ret (results_row2 rfl _ _ gX 60 #[.int .u8 0,.int .u8 0,.int .u8 0,.int .u8 0,.int .u8 0,.int .u8 0,.int .u8 0,.int .u8 0] (0,0) _ rfl hX9 Tryz.underlying60 rfl info_mono) rfl ⟨0,0,0,0,0,0,0,0,false,rfl,zero8,fun h=>(by cases h),fun _=>HR.out.trans HF.out,hb9⟩
      · have HF:Hid (R=none):=Lib.hid (by rw [←HRD.out,if_neg hcl]);clear hxt hxf HRD;by_cases hi0:i<0
        · obtain ⟨⟨e0,e1,e2,e3,e4,e5,e6,e7⟩,f0,f1,f2,f3,f4,f5,f6,f7⟩:=eight_cells hX;go_wp2_with fail
          obtain ⟨w9,hw9,hX9,hb9⟩:=eight_put (.int .u8 0) (.int .u8 0) (.int .u8 0) (.int .u8 0) (.int .u8 0) (.int .u8 0) (.int .u8 0) (.int .u8 0) hX (Nat.le_of_eq HGX.out) hb;rw [hw9];exact bodyPost_ret (results_row2 rfl _ _ gX 60 #[.int .u8 0,.int .u8 0,.int .u8 0,.int .u8 0,.int .u8 0,.int .u8 0,.int .u8 0,.int .u8 0] (0,0) _ rfl hX9 Tryz.underlying60 rfl info_mono) rfl ⟨0,0,0,0,0,0,0,0,false,rfl,zero8,fun h=>(by cases h),fun _=>HR.out.trans HF.out,hb9⟩
        · obtain ⟨j,rfl⟩:∃j:Nat,i=j:=⟨i.toNat,by omega⟩;have hi8:(8:Int)≤(j:Int):=(by omega);have hi88:8≤j:=(by omega);clear hi2 hcl;obtain ⟨⟨e0,e1,e2,e3,e4,e5,e6,e7⟩,f0,f1,f2,f3,f4,f5,f6,f7⟩:=eight_cells hX;go_wp2_with fail
          obtain ⟨w9,hw9,hX9,hb9⟩:=eight_put (.int .u8 0) (.int .u8 0) (.int .u8 0) (.int .u8 0) (.int .u8 0) (.int .u8 0) (.int .u8 0) (.int .u8 0) hX (Nat.le_of_eq HGX.out) hb;rw [hw9];exact bodyPost_ret (results_row2 rfl _ _ gX 60 #[.int .u8 0,.int .u8 0,.int .u8 0,.int .u8 0,.int .u8 0,.int .u8 0,.int .u8 0,.int .u8 0] (0,0) _ rfl hX9 Tryz.underlying60 rfl info_mono) rfl ⟨0,0,0,0,0,0,0,0,false,rfl,zero8,fun h=>(by cases h),fun _=>HR.out.trans HF.out,hb9⟩
end Go.Proofs.YtfpniioegjpfeaaGreatDoor
