
import Derived.Test.YtndnkeijddagiaaSingle
import Derived.Test.YtndnkeijddagiaaKeep
namespace Go.Proofs.Ytndnkeijddagiaa
set_option maxRecDepth 100000
open Go.RowKit Go.Deep
def genM (i:Nat):List Int:=([0,0,0,0,0,0,0,0]:List Int).set i 1
theorem genM_mono (i:Nat):IsMono (genM i):=by
 refine ⟨by simp [genM],?_⟩
 intro x hx
 rcases List.mem_or_eq_of_mem_set hx with h | h
 · simp at h;omega
 · omega
theorem gen_cells {i:Nat} (hi:i<8):(#[.int .u8 0,.int .u8 0,.int .u8 0,.int .u8 0,.int .u8 0,.int .u8 0,.int .u8 0,.int .u8 0]:Array Value).setIfInBounds i (.int .u8 1)=((genM i).map (Value.int .u8)).toArray:=by
 match i,hi with
 | 0,_=>rfl
 | 1,_=>rfl
 | 2,_=>rfl
 | 3,_=>rfl
 | 4,_=>rfl
 | 5,_=>rfl
 | 6,_=>rfl
 | 7,_=>rfl
theorem ownR_one {w:World} {B g:Nat} {m:List Int} {f:Int} (hm:IsMono m) (h:Own w g 76 (tcells ⟨m,f⟩).toArray) (hB:B≤g):OwnR w B (.slice (some ⟨g,0,none⟩) 1 1) [⟨m,f⟩]:=by
 have hl:(tcells ⟨m,f⟩).length=9:=by simp [tcells,mcells,hm.1]
 have hr:rcells [(⟨m,f⟩:Tm)]=tcells ⟨m,f⟩:=by rw [rcells_cons];simp [rcells]
 refine ⟨by rw [hr,hl];rfl,Or.inr ⟨g,1,_,rfl,hB,h,Nat.le_refl _,by simp [maxLen],by rw [List.size_toArray,hl],?_⟩⟩
 rw [hr]
 exact List.take_of_length_le (by rw [hl];show 9≤1 * 9;omega)
set_option maxHeartbeats 1000000 in
theorem generatorForm_c {w : World} {i : Nat} {f : Int} (hi : i < 8) :
    Calls Try.prog 87 #[.int .i64 i,.int .i64 f] w fun e w'=>∃g,e=.returned (.agg #[.slice (some ⟨g,0,none⟩) 1 1])∧w.heap.size≤g∧Own w' g 76 (tcells ⟨genM i,f⟩).toArray∧Below w.heap.size w w':=by
 have hR:=(Own.new w 47 #[.slice none 0 0]).alloc (.cells #[.int .u8 0,.int .u8 0,.int .u8 0,.int .u8 0,.int .u8 0,.int .u8 0,.int .u8 0,.int .u8 0] 74)
 have hM:=Own.new (w.alloc (.cells #[.slice none 0 0] 47)) 74 #[.int .u8 0,.int .u8 0,.int .u8 0,.int .u8 0,.int .u8 0,.int .u8 0,.int .u8 0,.int .u8 0]
 rw [sAl] at hM
 have hb:=bTn (bA1 w (.cells #[.slice none 0 0] 47)) (bA1 _ (.cells #[.int .u8 0,.int .u8 0,.int .u8 0,.int .u8 0,.int .u8 0,.int .u8 0,.int .u8 0,.int .u8 0] 74))
 have HI:=Lib.hid hi
 have hi0:(0:Int)≤(i:Int):=by omega
 have hi8:(i:Int)<8:=by omega
 go_enter Try.func87,Try.ntmps87
 go_upto_region 2 with fail
 generalize (w.alloc (.cells #[.slice none 0 0] 47)).alloc (.cells #[.int .u8 0,.int .u8 0,.int .u8 0,.int .u8 0,.int .u8 0,.int .u8 0,.int .u8 0,.int .u8 0] 74)=w0 at *
 have f0:=hM.frozen i
 obtain ⟨u,hu⟩:=hM.has (i:=i) (show i<8 from hi)
 go_upto_region 3 with fail
 have hM2:=hM.set i (.int .u8 1)
 have hR2:=hR.far (p:=⟨w.heap.size+1,i,none⟩) (by dsimp only;omega) (.int .u8 1)
 have hb2:=hb.setCell (p:=⟨w.heap.size+1,i,none⟩) (by dsimp only;omega) (.int .u8 1)
 rw [gen_cells hi] at hM2
 generalize w0.setCell ⟨w.heap.size+1,i,none⟩ (.int .u8 1)=w1 at *
 clear hM hR hb f0 hu hi
 have HG:=Lib.hid (genM_mono i)
 obtain ⟨p0,p1,p2,p3,p4,p5,p6,p7,hp⟩:=mono8 HG.out
 have HP:=Lib.hid hp
 rw [hp] at hM2
 replace hM2:Own w1 (w.heap.size+1) 74 #[.int .u8 p0,.int .u8 p1,.int .u8 p2,.int .u8 p3,.int .u8 p4,.int .u8 p5,.int .u8 p6,.int .u8 p7]:=hM2
 clear hp
 obtain ⟨z0,z1,z2,z3,z4,z5,z6,z7⟩:w1.cell? ⟨w.heap.size+1,0,none⟩=some (.int .u8 p0)∧w1.cell? ⟨w.heap.size+1,1,none⟩=some (.int .u8 p1)∧w1.cell? ⟨w.heap.size+1,2,none⟩=some (.int .u8 p2)∧w1.cell? ⟨w.heap.size+1,3,none⟩=some (.int .u8 p3)∧w1.cell? ⟨w.heap.size+1,4,none⟩=some (.int .u8 p4)∧w1.cell? ⟨w.heap.size+1,5,none⟩=some (.int .u8 p5)∧w1.cell? ⟨w.heap.size+1,6,none⟩=some (.int .u8 p6)∧w1.cell? ⟨w.heap.size+1,7,none⟩=some (.int .u8 p7):=⟨hM2.cell 0,hM2.cell 1,hM2.cell 2,hM2.cell 3,hM2.cell 4,hM2.cell 5,hM2.cell 6,hM2.cell 7⟩
 have hN:=Own.new w1 76 #[.int .u8 p0,.int .u8 p1,.int .u8 p2,.int .u8 p3,.int .u8 p4,.int .u8 p5,.int .u8 p6,.int .u8 p7,.int .i64 f]
 have hR3:=hR2.alloc (.cells #[.int .u8 p0,.int .u8 p1,.int .u8 p2,.int .u8 p3,.int .u8 p4,.int .u8 p5,.int .u8 p6,.int .u8 p7,.int .i64 f] 76)
 have hb3:=bT' hb2 (bA1 w1 (.cells #[.int .u8 p0,.int .u8 p1,.int .u8 p2,.int .u8 p3,.int .u8 p4,.int .u8 p5,.int .u8 p6,.int .u8 p7,.int .i64 f] 76)) hb2.size
 have HL1:=Lib.hid hR2.lt
 have cR:=hR3.cell 0
 have fR:=hR3.frozen 0
 have HBS:=Lib.hid hb2.size
 have HB:=Lib.hid hb3
 have HN:=Lib.hid hN
 clear hb2 hM2 hR2 hb3 hN
 go_wp2_with fail
 have hR4:=hR3.set 0 (.slice (some ⟨w1.heap.size,0,none⟩) 1 1)
 refine bodyPost_ret (results_cell_row rfl _ _ w.heap.size 47 #[.slice (some ⟨w1.heap.size,0,none⟩) 1 1] (0,0) _ rfl hR4 Try.underlying47 rfl Try.info_form) rfl ⟨w1.heap.size,rfl,HBS.out,?_,HB.out.setCell (p:=⟨w.heap.size,0,none⟩) (by dsimp only;omega) _⟩
 rw [HP.out]
 exact HN.out.far (p:=⟨w.heap.size,0,none⟩) (by have:=HL1.out;dsimp only;omega) _
set_option maxHeartbeats 1000000 in
theorem l04Generator_c {w : World} {i : Nat} (hi : i < 8) :
    Calls Try.prog 86 #[.int .i64 i] w fun e w'=>∃g,e=.returned (.agg #[.slice (some ⟨g,0,none⟩) 1 1])∧w.heap.size≤g∧Own w' g 76 (tcells ⟨genM i,1⟩).toArray∧Below w.heap.size w w':=by
 have hR:=(Own.new w 47 #[.slice none 0 0]).alloc (.cells #[.int .u8 0,.int .u8 0,.int .u8 0,.int .u8 0,.int .u8 0,.int .u8 0,.int .u8 0,.int .u8 0] 74)
 have hM:=Own.new (w.alloc (.cells #[.slice none 0 0] 47)) 74 #[.int .u8 0,.int .u8 0,.int .u8 0,.int .u8 0,.int .u8 0,.int .u8 0,.int .u8 0,.int .u8 0]
 rw [sAl] at hM
 have hb:=bTn (bA1 w (.cells #[.slice none 0 0] 47)) (bA1 _ (.cells #[.int .u8 0,.int .u8 0,.int .u8 0,.int .u8 0,.int .u8 0,.int .u8 0,.int .u8 0,.int .u8 0] 74))
 have HI:=Lib.hid hi
 have hi0:(0:Int)≤(i:Int):=by omega
 have hi8:(i:Int)<8:=by omega
 go_enter Try.func86,Try.ntmps86
 go_upto_region 2 with fail
 generalize (w.alloc (.cells #[.slice none 0 0] 47)).alloc (.cells #[.int .u8 0,.int .u8 0,.int .u8 0,.int .u8 0,.int .u8 0,.int .u8 0,.int .u8 0,.int .u8 0] 74)=w0 at *
 have f0:=hM.frozen i
 obtain ⟨u,hu⟩:=hM.has (i:=i) (show i<8 from hi)
 go_upto_region 3 with fail
 have hM2:=hM.set i (.int .u8 1)
 have hR2:=hR.far (p:=⟨w.heap.size+1,i,none⟩) (by dsimp only;omega) (.int .u8 1)
 have hb2:=hb.setCell (p:=⟨w.heap.size+1,i,none⟩) (by dsimp only;omega) (.int .u8 1)
 rw [gen_cells hi] at hM2
 generalize w0.setCell ⟨w.heap.size+1,i,none⟩ (.int .u8 1)=w1 at *
 clear hM hR hb f0 hu hi
 have HG:=Lib.hid (genM_mono i)
 obtain ⟨p0,p1,p2,p3,p4,p5,p6,p7,hp⟩:=mono8 HG.out
 have HP:=Lib.hid hp
 have HPM:Hid (IsMono [p0,p1,p2,p3,p4,p5,p6,p7]):=Lib.hid (by rw [←hp];exact HG.out)
 rw [hp] at hM2
 replace hM2:Own w1 (w.heap.size+1) 74 #[.int .u8 p0,.int .u8 p1,.int .u8 p2,.int .u8 p3,.int .u8 p4,.int .u8 p5,.int .u8 p6,.int .u8 p7]:=hM2
 clear hp
 obtain ⟨z0,z1,z2,z3,z4,z5,z6,z7⟩:w1.cell? ⟨w.heap.size+1,0,none⟩=some (.int .u8 p0)∧w1.cell? ⟨w.heap.size+1,1,none⟩=some (.int .u8 p1)∧w1.cell? ⟨w.heap.size+1,2,none⟩=some (.int .u8 p2)∧w1.cell? ⟨w.heap.size+1,3,none⟩=some (.int .u8 p3)∧w1.cell? ⟨w.heap.size+1,4,none⟩=some (.int .u8 p4)∧w1.cell? ⟨w.heap.size+1,5,none⟩=some (.int .u8 p5)∧w1.cell? ⟨w.heap.size+1,6,none⟩=some (.int .u8 p6)∧w1.cell? ⟨w.heap.size+1,7,none⟩=some (.int .u8 p7):=⟨hM2.cell 0,hM2.cell 1,hM2.cell 2,hM2.cell 3,hM2.cell 4,hM2.cell 5,hM2.cell 6,hM2.cell 7⟩
 go_wp2_with fail
 refine (l01SingleO_c HPM.out).mono ?_
 rintro e w2 ⟨g,rfl,hg,hN,hb5⟩
 have hR3:=hR2.keep hb5 hR2.lt
 have hb3:=bT' hb2 hb5 hb2.size
 have hgl:w.heap.size+1<w1.heap.size:=hM2.lt
 have hbs:=hb2.size
 clear hb2 hM2 hR2 hb5 z0 z1 z2 z3 z4 z5 z6 z7
 have cR:=hR3.cell 0
 have fR:=hR3.frozen 0
 go_wp2_with fail
 have hR4:=hR3.set 0 (.slice (some ⟨g,0,none⟩) 1 1)
 refine bodyPost_ret (results_cell_row rfl _ _ w.heap.size 47 #[.slice (some ⟨g,0,none⟩) 1 1] (0,0) _ rfl hR4 Try.underlying47 rfl Try.info_form) rfl ⟨g,rfl,by omega,?_,hb3.setCell (p:=⟨w.heap.size,0,none⟩) (by dsimp only;omega) _⟩
 rw [HP.out]
 exact hN.far (p:=⟨w.heap.size,0,none⟩) (by dsimp only;omega) _
end Go.Proofs.Ytndnkeijddagiaa
