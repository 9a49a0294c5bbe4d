
import Derived.Test.YtndnkeijddagiaaIsAlg
import Derived.Test.YtndnkeijddagiaaSingle
import Derived.BigRegion
namespace Go.Proofs.Ytndnkeijddagiaa
set_option maxRecDepth 100000
open Go.RowKit Go.Deep
def mixF (m:List Int) (i k:Nat):List Int:=(List.range 8).map fun j=>if j<k∧i≤j then 0 else m.getD j 0
def mixB (m:List Int) (i k:Nat):List Int:=(List.range 8).map fun j=>if j<k∧j≤i then 0 else m.getD j 0
theorem mixF_get {m:List Int} {i k j:Nat} (h:j<8):(mixF m i k)[j]? = some (if j<k∧i≤j then 0 else m.getD j 0):=by simp [mixF,h]
theorem mixB_get {m:List Int} {i k j:Nat} (h:j<8):(mixB m i k)[j]? = some (if j<k∧j≤i then 0 else m.getD j 0):=by simp [mixB,h]
theorem mixF_len (m:List Int) (i k:Nat):(mixF m i k).length=8:=by simp [mixF]
theorem mixB_len (m:List Int) (i k:Nat):(mixB m i k).length=8:=by simp [mixB]
theorem ext8 {m k:List Int} (h1:m.length=8) (h2:k.length=8) (h:∀j,j<8→m[j]? = k[j]?):m=k:=by
 apply List.ext_getElem?
 intro j
 by_cases hj:j<8
 · exact h j hj
 · rw [List.getElem?_eq_none (by omega),List.getElem?_eq_none (by omega)]
theorem getD_some {m:List Int} {j:Nat} (h:j<m.length):m[j]? = some (m.getD j 0):=by
 rw [List.getD_eq_getElem?_getD,List.getElem?_eq_getElem h];rfl
theorem mixF_zero {m:List Int} (h:m.length=8) (i:Nat):mixF m i 0=m:=ext8 (mixF_len _ _ _) h fun j hj=>by
 rw [mixF_get hj,if_neg (by omega),getD_some (by omega)]
theorem mixB_zero {m:List Int} (h:m.length=8) (i:Nat):mixB m i 0=m:=ext8 (mixB_len _ _ _) h fun j hj=>by
 rw [mixB_get hj,if_neg (by omega),getD_some (by omega)]
theorem mixF_end {m:List Int} (h:m.length=8) {i:Nat} (hi:i≤8):mixF m i 8=frontM m i:=ext8 (mixF_len _ _ _) (frontM_len h hi) fun j hj=>by
 rw [mixF_get hj,frontM]
 by_cases hij:i≤j
 · rw [if_pos ⟨hj,hij⟩,List.getElem?_append_right (by rw [List.length_take];omega),List.getElem?_replicate,if_pos (by rw [List.length_take];omega)]
 · rw [if_neg (by omega),List.getElem?_append_left (by rw [List.length_take];omega),List.getElem?_take,if_pos (by omega),getD_some (by omega)]
theorem mixB_end {m:List Int} (h:m.length=8) {i:Nat} (hi:i<8):mixB m i 8=backM m i:=ext8 (mixB_len _ _ _) (backM_len h hi) fun j hj=>by
 rw [mixB_get hj,backM]
 by_cases hij:j≤i
 · rw [if_pos ⟨hj,hij⟩,List.getElem?_append_left (by rw [List.length_replicate];omega),List.getElem?_replicate,if_pos (by omega)]
 · rw [if_neg (by omega),List.getElem?_append_right (by rw [List.length_replicate];omega),List.length_replicate,List.getElem?_drop,show i+1+(j - (i+1))=j by omega,getD_some (by omega)]
theorem mixF_set {m:List Int} {i k:Nat} (hk:k<8) (h:i≤k):(mixF m i k).set k 0=mixF m i (k+1):=ext8 (by rw [List.length_set,mixF_len]) (mixF_len _ _ _) fun j hj=>by
 rw [List.getElem?_set,mixF_get hj,mixF_get hj,mixF_len]
 by_cases h1:k=j
 · subst h1;rw [if_pos rfl,if_pos hk,if_pos (by omega)]
 · rw [if_neg h1];congr 1
   by_cases h2:j<k∧i≤j
   · rw [if_pos h2,if_pos (by omega)]
   · rw [if_neg h2,if_neg (by omega)]
theorem mixF_stay {m:List Int} {i k:Nat} (h:k<i):mixF m i k=mixF m i (k+1):=ext8 (mixF_len _ _ _) (mixF_len _ _ _) fun j hj=>by
 rw [mixF_get hj,mixF_get hj]
 congr 1
 by_cases h2:j<k∧i≤j
 · omega
 · rw [if_neg h2,if_neg (by omega)]
theorem mixB_set {m:List Int} {i k:Nat} (hk:k<8) (h:k≤i):(mixB m i k).set k 0=mixB m i (k+1):=ext8 (by rw [List.length_set,mixB_len]) (mixB_len _ _ _) fun j hj=>by
 rw [List.getElem?_set,mixB_get hj,mixB_get hj,mixB_len]
 by_cases h1:k=j
 · subst h1;rw [if_pos rfl,if_pos hk,if_pos (by omega)]
 · rw [if_neg h1];congr 1
   by_cases h2:j<k∧j≤i
   · rw [if_pos h2,if_pos (by omega)]
   · rw [if_neg h2,if_neg (by omega)]
theorem mixB_stay {m:List Int} {i k:Nat} (h:i<k):mixB m i k=mixB m i (k+1):=ext8 (mixB_len _ _ _) (mixB_len _ _ _) fun j hj=>by
 rw [mixB_get hj,mixB_get hj]
 congr 1
 by_cases h2:j<k∧j≤i
 · rw [if_pos h2,if_pos (by omega)]
 · rw [if_neg h2,if_neg (by omega)]
theorem termT_zero {zs:List Int} {ims:List (List Tm)} {t:Tm} {T:List Tm} {i:Nat} (h:t.m[i]? = some 0):termT zs ims t T (i+1)=termT zs ims t T i:=by
 rw [termT,if_pos (by rw [List.getD_eq_getElem?_getD,h];rfl)]
structure DEnv (w wr:World) (g0 g1 g6 g7 gM b1 o n dc c n2 c2:Nat) (da a a2:Option Addr) (P:Array Value) (t:Tm) (v:Value) (T:List Tm):Prop where
 hb:Below g0 w wr
 hA:Own wr g0 29 #[.slice da n dc,.slice a n c]
 hF1:Own wr g1 47 #[.slice a2 n2 c2]
 hR:Own wr g6 47 #[.slice none 0 0]
 hV:Own wr g7 47 #[v]
 hM:Own wr gM 74 P
 hr1:wr.rangeAt b1 o (tcells t)
 hbl:b1<wr.heap.size
 hO:OwnForm wr (g7+1) v T
def Apart (q g0 g1 g6 g7 gM b1:Nat) (v:Value):Prop:=g0<q∧g1<q∧g6<q∧g7<q∧gM<q∧b1<q∧v.ownBlock≠some q
section
variable {w wr wr':World} {g0 g1 g6 g7 gM b1 o n dc c n2 c2:Nat} {da a a2:Option Addr} {P:Array Value} {t:Tm} {v:Value} {T:List Tm}
theorem DEnv.keep (h:DEnv w wr g0 g1 g6 g7 gM b1 o n dc c n2 c2 da a a2 P t v T) (k:Below wr.heap.size wr wr'):DEnv w wr' g0 g1 g6 g7 gM b1 o n dc c n2 c2 da a a2 P t v T:=
 ⟨bT' h.hb k (Nat.le_of_lt h.hA.lt),h.hA.keep k h.hA.lt,h.hF1.keep k h.hF1.lt,h.hR.keep k h.hR.lt,h.hV.keep k h.hV.lt,h.hM.keep k h.hM.lt,rgK h.hr1 (k.block b1 h.hbl),Nat.lt_of_lt_of_le h.hbl k.size,h.hO.keep k⟩
theorem DEnv.apart (h:DEnv w wr g0 g1 g6 g7 gM b1 o n dc c n2 c2 da a a2 P t v T) {q:Nat} (hq:wr.heap.size≤q):Apart q g0 g1 g6 g7 gM b1 v:=
 ⟨Nat.lt_of_lt_of_le h.hA.lt hq,Nat.lt_of_lt_of_le h.hF1.lt hq,Nat.lt_of_lt_of_le h.hR.lt hq,Nat.lt_of_lt_of_le h.hV.lt hq,Nat.lt_of_lt_of_le h.hM.lt hq,Nat.lt_of_lt_of_le h.hbl hq,fun e=>by have:=(h.hO.r.at_ e).2;omega⟩
theorem DEnv.far (h:DEnv w wr g0 g1 g6 g7 gM b1 o n dc c n2 c2 da a a2 P t v T) {p:Addr} (k:Apart p.block g0 g1 g6 g7 gM b1 v) (u:Value):DEnv w (wr.setCell p u) g0 g1 g6 g7 gM b1 o n dc c n2 c2 da a a2 P t v T:=by
 obtain ⟨k0,k1,k6,k7,kM,kb,kv⟩:=k
 refine ⟨h.hb.setCell (by omega) u,h.hA.far (by omega) u,h.hF1.far (by omega) u,h.hR.far (by omega) u,h.hV.far (by omega) u,h.hM.far (by omega) u,rgK h.hr1 (Below.heap_setCell wr p u b1 (by omega)),?_,⟨h.hO.r.far kv u,h.hO.2⟩⟩
 exact Nat.lt_of_lt_of_le h.hbl ((Below.refl 0 wr).setCell (p:=p) (Nat.zero_le _) u).size
theorem DEnv.put (h:DEnv w wr g0 g1 g6 g7 gM b1 o n dc c n2 c2 da a a2 P t v T) {B:Nat} {v':Value} {T':List Tm} (hO:OwnForm wr B v' T') (hB:g7+1≤B) (k:g0<g7∧g1<g7∧g6<g7∧g7<gM∧b1<g7):DEnv w (wr.setCell ⟨g7,0,none⟩ v') g0 g1 g6 g7 gM b1 o n dc c n2 c2 da a a2 P t v' T':=by
 obtain ⟨k0,k1,k6,kM,kb⟩:=k
 refine ⟨h.hb.setCell (p:=⟨g7,0,none⟩) (by dsimp only;omega) _,h.hA.far (by dsimp only;omega) _,h.hF1.far (by dsimp only;omega) _,h.hR.far (by dsimp only;omega) _,h.hV.set 0 _,h.hM.far (by dsimp only;omega) _,rgK h.hr1 (Below.heap_setCell wr ⟨g7,0,none⟩ _ b1 (by dsimp only;omega)),?_,OwnForm.set (p:=⟨g7,0,none⟩) (hO.weaken hB) (by dsimp only;omega) _⟩
 exact Nat.lt_of_lt_of_le h.hbl ((Below.refl 0 wr).setCell (p:=⟨g7,0,none⟩) (Nat.zero_le _) _).size
end
theorem cellsF {w':World} {g0 gl n dc c bi oi j ni ci:Nat} {da ai:Option Addr} {t1 t2:TypeId} {l0 l1 l2 l3 l4 l5 l6 l7:Int} (hA:Own w' g0 t1 #[.slice da n dc,.slice (some ⟨bi,oi,none⟩) n c]) (hL:Own w' gl t2 #[.int .u8 l0,.int .u8 l1,.int .u8 l2,.int .u8 l3,.int .u8 l4,.int .u8 l5,.int .u8 l6,.int .u8 l7]) (hc:w'.cell? ⟨bi,oi+j,none⟩=some (.slice ai ni ci)):w'.cell? ⟨g0,0,none⟩=some (.slice da n dc)∧w'.cell? ⟨g0,1,none⟩=some (.slice (some ⟨bi,oi,none⟩) n c)∧w'.cell? ⟨gl,0,none⟩=some (.int .u8 l0)∧w'.cell? ⟨gl,1,none⟩=some (.int .u8 l1)∧w'.cell? ⟨gl,2,none⟩=some (.int .u8 l2)∧w'.cell? ⟨gl,3,none⟩=some (.int .u8 l3)∧w'.cell? ⟨gl,4,none⟩=some (.int .u8 l4)∧w'.cell? ⟨gl,5,none⟩=some (.int .u8 l5)∧w'.cell? ⟨gl,6,none⟩=some (.int .u8 l6)∧w'.cell? ⟨gl,7,none⟩=some (.int .u8 l7)∧w'.cell? ⟨bi,oi+j,none⟩=some (.slice ai ni ci):=
 ⟨hA.cell 0,hA.cell 1,hL.cell 0,hL.cell 1,hL.cell 2,hL.cell 3,hL.cell 4,hL.cell 5,hL.cell 6,hL.cell 7,hc⟩
theorem cellsG {w':World} {g0 gb g14 n dc c on oc:Nat} {da a oa:Option Addr} {t1 t2 t3:TypeId} {k0 k1 k2 k3 k4 k5 k6 k7:Int} (hA:Own w' g0 t1 #[.slice da n dc,.slice a n c]) (hB:Own w' gb t2 #[.int .u8 k0,.int .u8 k1,.int .u8 k2,.int .u8 k3,.int .u8 k4,.int .u8 k5,.int .u8 k6,.int .u8 k7]) (hN:Own w' g14 t3 #[.slice oa on oc]):w'.cell? ⟨g0,0,none⟩=some (.slice da n dc)∧w'.cell? ⟨g14,0,none⟩=some (.slice oa on oc)∧w'.cell? ⟨gb,0,none⟩=some (.int .u8 k0)∧w'.cell? ⟨gb,1,none⟩=some (.int .u8 k1)∧w'.cell? ⟨gb,2,none⟩=some (.int .u8 k2)∧w'.cell? ⟨gb,3,none⟩=some (.int .u8 k3)∧w'.cell? ⟨gb,4,none⟩=some (.int .u8 k4)∧w'.cell? ⟨gb,5,none⟩=some (.int .u8 k5)∧w'.cell? ⟨gb,6,none⟩=some (.int .u8 k6)∧w'.cell? ⟨gb,7,none⟩=some (.int .u8 k7):=
 ⟨hA.cell 0,hN.cell 0,hB.cell 0,hB.cell 1,hB.cell 2,hB.cell 3,hB.cell 4,hB.cell 5,hB.cell 6,hB.cell 7⟩
theorem two_new (w:World) (t:TypeId) (A B:Array Value):Own ((w.alloc (.cells A t)).alloc (.cells B t)).drew w.heap.size t A∧Own ((w.alloc (.cells A t)).alloc (.cells B t)).drew (w.heap.size+1) t B∧Below w.heap.size w ((w.alloc (.cells A t)).alloc (.cells B t)).drew:=by
 have o1:=(Own.new w t A).alloc (.cells B t)
 have o2:=Own.new (w.alloc (.cells A t)) t B
 rw [sAl] at o2
 exact ⟨o1,o2,(bTn (bA1 w _) (bA1 _ _)).drew⟩
theorem front_in {B:Int} {m:List Int} {i:Nat} (h:In B m) (hB:0≤B):In B (frontM m i):=fun y hy=>by
 rw [frontM,List.mem_append] at hy
 rcases hy with e | e
 · exact h y (List.mem_of_mem_take e)
 · have:=(List.mem_replicate.1 e).2;omega
theorem front_mono {zs m:List Int} {i:Nat} (hm:IsMono m) (ok:monoOk zs m=true) (hi:i≤8):IsMono (frontM m i):=
 (front_in (i:=i) (ok_in hm ok) (by omega):In 20 (frontM m i)).isMono (frontM_len hm.1 hi) (by omega)
set_option maxHeartbeats 16000000 in
theorem l02D_c {w : World} {da : Option Addr} {dn : Nat} {zs : List Int} {a : Option Addr} {n : Nat} {ims : List (List Tm)} {a2 : Option Addr} {n2 : Nat} {fs : List Tm} (dc c c2 : Nat) (hd : Ints w da dn zs) (hF : Frms w a n ims) (h : Terms w a2 n2 fs) (HA : AlgOk zs ims) (hmild : Mild zs) (hk : ∀ t ∈ fs, monoOk zs t.m = true) (hf : ∀ t ∈ fs, 1 ≤ t.f ∧ t.f ≤ 10006) (h400 : n2 ≤ 400) :
    Calls Try.prog 72 #[.agg #[.slice da dn dc,.slice a n c],.agg #[.slice a2 n2 c2]] w fun e w'=>∃v,e=.returned (.agg #[v])∧OwnForm w' w.heap.size v (diffT zs ims [] fs)∧Below w.heap.size w w':=by
 have HDL:=Lib.hid hd.len
 have HIL:=Lib.hid hF.len
 have HFL:=Lib.hid h.len
 have HD:=Lib.hid hd
 have HFF:=Lib.hid hF
 have HT:=Lib.hid h
 have HAO:=Lib.hid HA
 have HMI:=Lib.hid hmild
 have HK:=Lib.hid hk
 have HFB:=Lib.hid hf
 have h8:dn≤8:=by have:=HA.h8;have:=hd.len;omega
 have hnd:n=dn:=by have:=HA.ln;have:=hd.len;have:=hF.len;omega
 subst hnd
 clear HA hmild hk hf
 have hA:=(((Own.new w 29 #[.slice da n dc,.slice a n c]).alloc (.cells #[.slice a2 n2 c2] 47)).alloc (.cells #[.slice none 0 0] 47)).alloc (.cells #[.slice none 0 0] 47)
 have hF1:=((Own.new (w.alloc (.cells #[.slice da n dc,.slice a n c] 29)) 47 #[.slice a2 n2 c2]).alloc (.cells #[.slice none 0 0] 47)).alloc (.cells #[.slice none 0 0] 47)
 have hR:=(Own.new ((w.alloc (.cells #[.slice da n dc,.slice a n c] 29)).alloc (.cells #[.slice a2 n2 c2] 47)) 47 #[.slice none 0 0]).alloc (.cells #[.slice none 0 0] 47)
 have hV:=Own.new (((w.alloc (.cells #[.slice da n dc,.slice a n c] 29)).alloc (.cells #[.slice a2 n2 c2] 47)).alloc (.cells #[.slice none 0 0] 47)) 47 #[.slice none 0 0]
 simp only [sAl] at hF1 hR hV
 have hb:=bTn (bTn (bTn (bA1 w (.cells #[.slice da n dc,.slice a n c] 29)) (bA1 _ (.cells #[.slice a2 n2 c2] 47))) (bA1 _ (.cells #[.slice none 0 0] 47))) (bA1 _ (.cells #[.slice none 0 0] 47))
 go_enter Try.func72,Try.ntmps72
 go_wp2_with fail
 generalize (((w.alloc (.cells #[.slice da n dc,.slice a n c] 29)).alloc (.cells #[.slice a2 n2 c2] 47)).alloc (.cells #[.slice none 0 0] 47)).alloc (.cells #[.slice none 0 0] 47)=w0 at *
 generalize hg7:w.heap.size+1+1+1=g7 at *
 generalize hg6:w.heap.size+1+1=g6 at *
 generalize hg1:w.heap.size+1=g1 at *
 generalize hg0:w.heap.size=g0 at *
 have HG:=Lib.hid hg0
 clear hg0
 go_loopw [6] (fun y wr=>∃(i:Nat) (v:Value),i≤n2∧y=.int .i64 i∧Below g0 w wr∧Own wr g0 29 #[.slice da n dc,.slice a n c]∧Own wr g1 47 #[.slice a2 n2 c2]∧Own wr g6 47 #[.slice none 0 0]∧Own wr g7 47 #[v]∧OwnForm wr (g7+1) v (diffT zs ims [] (fs.take i))) (fun y _=>n2 - (intOf y).toNat)
 case atStart=>exact ⟨0,.slice none 0 0,Nat.zero_le _,rfl,hb,hA,hF1,hR,hV,by rw [List.take_zero];exact ⟨World.ownsRow_nil _ _ _ _,by simp [diffT]⟩⟩
 case round=>
  clear hb hA hF1 hR hV;obtain ⟨i,v,hi,rfl,hb,hA,hF1,hR,hV,hO⟩:=hrel;have hbw:Below w.heap.size w wr:=(by rw [HG.out];exact hb);have cF:=hF1.cell 0;by_cases hlt:i<n2
  · obtain ⟨b1,o1,t,rfl,hbl0,hr0,ht,hx⟩:=HT.out.at_ hlt;have hr1:=rgK hr0 (hbw.block b1 hbl0);have hbl1:=Nat.lt_of_lt_of_le hbl0 hbw.size
    have HB0:Hid (b1<g0):=by
     rw [HG.out] at hbl0;exact Lib.hid hbl0
    clear hr0 hbl0;have hmem:=List.mem_of_getElem? hx.out;have htf1:=(HFB.out t hmem).1;have htf2:=(HFB.out t hmem).2;have HOK:=Lib.hid (HK.out t hmem);have HTM:=Lib.hid ht;have HS:=Lib.hid (HAO.out.diff (fs.take i) [] 0 (fun u hu=>HT.out.2.1 u (List.mem_of_mem_take hu)) (fun u hu=>HK.out u (List.mem_of_mem_take hu)) sum9_nil);have HDT:=Lib.hid (termT_take (zs:=zs) (ims:=ims) hx.out);obtain ⟨T0,hT0⟩:∃T0,diffT zs ims [] (fs.take i)=T0:=⟨_,rfl⟩;rw [hT0] at hO
    have HS0:Hid (Sum9 T0 (i * 3200)):=by
     have:=HS.out;rw [hT0] at this;exact Lib.hid (this.mono (by rw [List.length_take];have:=Nat.min_le_left i fs.length;omega))
    have HDT0:Hid (diffT zs ims [] (fs.take (i+1))=termT zs ims t T0 zs.length):=by
     have:=HDT.out;rw [hT0] at this;exact Lib.hid this
    clear HS HDT hT0 hmem;obtain ⟨mt,tf⟩:=t;have hmt:IsMono mt:=ht.1;obtain ⟨p0,p1,p2,p3,p4,p5,p6,p7,rfl⟩:=mono8 hmt;obtain ⟨y0,y1,y2,y3,y4,y5,y6,y7,y8⟩:=nine hr1;have hi0:(0:Int)≤(i:Int):=(by omega);have hin:(i:Int)<(n2:Int):=(by omega);replace htf1:1≤tf:=htf1;replace htf2:tf≤10006:=htf2;have HPM:=Lib.hid hmt;clear hmt ht;have hM:=Own.new wr 74 #[.int .u8 p0,.int .u8 p1,.int .u8 p2,.int .u8 p3,.int .u8 p4,.int .u8 p5,.int .u8 p6,.int .u8 p7];have hba:=bA1 wr (.cells #[.int .u8 p0,.int .u8 p1,.int .u8 p2,.int .u8 p3,.int .u8 p4,.int .u8 p5,.int .u8 p6,.int .u8 p7] 74);have hgw:g7<wr.heap.size:=hV.lt;go_upto_region 6 with fail
    replace hr1:=rgK hr1 (hba.block b1 hbl1);replace hA:=hA.keep hba hA.lt;replace hF1:=hF1.keep hba hF1.lt;replace hR:=hR.keep hba hR.lt;replace hV:=hV.keep hba hV.lt;replace hO:=hO.keep hba;replace hb:=bT' hb hba (by omega);replace hbl1:b1<(wr.alloc (.cells #[.int .u8 p0,.int .u8 p1,.int .u8 p2,.int .u8 p3,.int .u8 p4,.int .u8 p5,.int .u8 p6,.int .u8 p7] 74)).heap.size:=Nat.lt_of_lt_of_le hbl1 hba.size;generalize wr.alloc (.cells #[.int .u8 p0,.int .u8 p1,.int .u8 p2,.int .u8 p3,.int .u8 p4,.int .u8 p5,.int .u8 p6,.int .u8 p7] 74)=wu at *;generalize hgM:wr.heap.size=gM at *;clear hgM hba hbw cF y0 y1 y2 y3 y4 y5 y6 y7 y8;have hr1u:=Lib.hid hr1;have hbl1u:=Lib.hid hbl1;go_wp2_with fail
    have hE:DEnv w wu g0 g1 g6 g7 gM b1 (o1+i * 9) n dc c n2 c2 da a (some ⟨b1,o1,none⟩) #[.int .u8 p0,.int .u8 p1,.int .u8 p2,.int .u8 p3,.int .u8 p4,.int .u8 p5,.int .u8 p6,.int .u8 p7] ⟨[p0,p1,p2,p3,p4,p5,p6,p7],tf⟩ v T0:=⟨hb,hA,hF1,hR,hV,hM,hr1,hbl1,hO⟩;clear hb hA hF1 hR hV hM hr1 hbl1 hO hr1u hbl1u
    go_loopw [8] (fun x wx=>∃(j:Nat) (v:Value),j≤n∧x=.int .i64 j∧DEnv w wx g0 g1 g6 g7 gM b1 (o1+i * 9) n dc c n2 c2 da a (some ⟨b1,o1,none⟩) #[.int .u8 p0,.int .u8 p1,.int .u8 p2,.int .u8 p3,.int .u8 p4,.int .u8 p5,.int .u8 p6,.int .u8 p7] ⟨[p0,p1,p2,p3,p4,p5,p6,p7],tf⟩ v (termT zs ims ⟨[p0,p1,p2,p3,p4,p5,p6,p7],tf⟩ T0 j)) (fun x _=>n - (intOf x).toNat)
    case atStart=>exact ⟨0,v,Nat.zero_le _,rfl,hE⟩
    case round=>
     clear hE;obtain ⟨j,v,hj,rfl,hE⟩:=hrel;have c0:=hE.hA.cell 0;by_cases hlt2:j<n
     · have hj8:j<8:=(by omega);obtain ⟨y,hy0,hy1,hy,HY⟩:=mono_at HPM.out hj8;have hy20:y≤20:=mono20 HOK.out hj8 HY.out
       have HCM:Hid (∀wx:World,Own wx gM 74 #[.int .u8 p0,.int .u8 p1,.int .u8 p2,.int .u8 p3,.int .u8 p4,.int .u8 p5,.int .u8 p6,.int .u8 p7]→wx.cell? ⟨gM,j,none⟩=some (.int .u8 y)):=by
        refine Lib.hid (fun wx hO=>?_);rw [hO.cell j];show (mcells [p0,p1,p2,p3,p4,p5,p6,p7]).toArray[j]? = _
        rw [List.getElem?_toArray];exact hy
       have cM:=HCM.out wr hE.hM;have hj0:(0:Int)≤(j:Int):=(by omega);have hjn:(j:Int)<(n:Int):=(by omega);have hj8':(j:Int)<8:=(by omega);by_cases hy00:y=0
       · subst hy00;go_wp2_with fail
         go_roundw
         case rel=>exact ⟨j+1,v,by omega,by go_num,by rw [termT_zero HY.out];exact hE⟩
         case measure=>simp [intOf] <;> omega
       · have hyb:(y==0)=false:=(by simpa using hy00);have hyp:0<y:=(by omega);clear hy00 hy;obtain ⟨T,hTe⟩:∃T,termT zs ims ⟨[p0,p1,p2,p3,p4,p5,p6,p7],tf⟩ T0 j=T:=⟨_,rfl⟩;rw [hTe] at hE;have HTE:=Lib.hid hTe;clear hTe;go_upto_region 10 with fail
         have q0:=hE.hM.cell 0;have q1:=hE.hM.cell 1;have q2:=hE.hM.cell 2;have q3:=hE.hM.cell 3;have q4:=hE.hM.cell 4;have q5:=hE.hM.cell 5;have q6:=hE.hM.cell 6;have q7:=hE.hM.cell 7
         go_cut [9,10] from 29 to 101 (fun p q wz=>∃gf gb,p=.pointer (some ⟨gf,0,none⟩)∧q=.pointer (some ⟨gb,0,none⟩)∧gf≠gb∧wr.heap.size≤gf∧wr.heap.size≤gb∧Below wr.heap.size wr wz∧Own wz gf 74 #[.int .u8 p0,.int .u8 p1,.int .u8 p2,.int .u8 p3,.int .u8 p4,.int .u8 p5,.int .u8 p6,.int .u8 p7]∧Own wz gb 74 #[.int .u8 p0,.int .u8 p1,.int .u8 p2,.int .u8 p3,.int .u8 p4,.int .u8 p5,.int .u8 p6,.int .u8 p7])
         case first=>
          obtain ⟨z1,z2,zb⟩:=two_new wr 74 #[.int .u8 p0,.int .u8 p1,.int .u8 p2,.int .u8 p3,.int .u8 p4,.int .u8 p5,.int .u8 p6,.int .u8 p7] #[.int .u8 p0,.int .u8 p1,.int .u8 p2,.int .u8 p3,.int .u8 p4,.int .u8 p5,.int .u8 p6,.int .u8 p7];have hgl:=hE.hM.lt
          go_region
          all_goals go_wp2_with fail
          all_goals go_meet
          · exact ⟨_,_,rfl,rfl,by omega,by omega,by omega,zb,z1,z2⟩
          · exact ⟨_,_,rfl,rfl,by omega,by omega,by omega,zb,z2,z1⟩
         case rest=>
          clear q0 q1 q2 q3 q4 q5 q6 q7 cM c0;obtain ⟨gf,gb,rfl,rfl,hfb,hgf,hgb,hbR,hFr,hBk⟩:=hcut;have HPf:=Lib.hid (hE.apart hgf);have HPb:=Lib.hid (hE.apart hgb);have HFB2:=Lib.hid hfb;have hE1:=hE.keep hbR;clear hE hbR hgf hgb hfb;go_wp2_with fail
          go_loopw [11] (fun x wx=>∃k:Nat,k≤8∧x=.int .i64 k∧DEnv w wx g0 g1 g6 g7 gM b1 (o1+i * 9) n dc c n2 c2 da a (some ⟨b1,o1,none⟩) #[.int .u8 p0,.int .u8 p1,.int .u8 p2,.int .u8 p3,.int .u8 p4,.int .u8 p5,.int .u8 p6,.int .u8 p7] ⟨[p0,p1,p2,p3,p4,p5,p6,p7],tf⟩ v T∧Own wx gf 74 (mcells (mixF [p0,p1,p2,p3,p4,p5,p6,p7] j k)).toArray∧Own wx gb 74 (mcells (mixB [p0,p1,p2,p3,p4,p5,p6,p7] j k)).toArray) (fun x _=>8 - (intOf x).toNat)
          case atStart=>exact ⟨0,Nat.zero_le _,rfl,hE1,by rw [mixF_zero HPM.out.1];exact hFr,by rw [mixB_zero HPM.out.1];exact hBk⟩
          case round=>
           clear hE1 hFr hBk;obtain ⟨k,hk,rfl,hE,hFr,hBk⟩:=hrel;by_cases hk8:k<8
           · have hk8':(k:Int)<8:=(by omega);have hk0:(0:Int)≤(k:Int):=(by omega);obtain ⟨of,cf⟩:=hFr.has (i:=k) (by simp [mcells_length,mixF_len];omega);have ff:=hFr.frozen k;by_cases hge:j≤k
             · have hge':(j:Int)≤(k:Int):=(by omega);go_upto_region 16 with fail
               have hE2:=hE.far (p:=⟨gf,k,none⟩) HPf.out (.int .u8 0);have hF2:=hFr.set k (.int .u8 0);have hB2:=hBk.far (p:=⟨gf,k,none⟩) (by dsimp only;have:=HFB2.out;omega) (.int .u8 0);rw [mcells_set,mixF_set hk8 hge] at hF2;generalize wr.setCell ⟨gf,k,none⟩ (.int .u8 0)=w2 at *;clear hE hFr hBk cf ff;obtain ⟨ob,cb⟩:=hB2.has (i:=k) (by simp [mcells_length,mixB_len];omega);have fb:=hB2.frozen k;by_cases hle:k≤j
               · have hle':(k:Int)≤(j:Int):=(by omega);go_wp2_with fail
                 go_roundw
                 case rel=>exact ⟨k+1,by omega,by go_num,hE2.far (p:=⟨gb,k,none⟩) HPb.out _,hF2.far (p:=⟨gb,k,none⟩) (by dsimp only;have:=HFB2.out;omega) _,by rw [←mixB_set hk8 hle,←mcells_set];exact hB2.set k _⟩
                 case measure=>simp [intOf] <;> omega
               · have hle':¬(k:Int)≤(j:Int):=(by omega);go_wp2_with fail
                 go_roundw
                 case rel=>exact ⟨k+1,by omega,by go_num,hE2,hF2,by rw [←mixB_stay (by omega)];exact hB2⟩
                 case measure=>simp [intOf] <;> omega
             · have hge':¬(j:Int)≤(k:Int):=(by omega);have hle':(k:Int)≤(j:Int):=(by omega);clear cf ff;obtain ⟨ob,cb⟩:=hBk.has (i:=k) (by simp [mcells_length,mixB_len];omega);have fb:=hBk.frozen k;go_wp2_with fail
               go_roundw
               case rel=>exact ⟨k+1,by omega,by go_num,hE.far (p:=⟨gb,k,none⟩) HPb.out _,by rw [←mixF_stay (by omega)];exact hFr.far (p:=⟨gb,k,none⟩) (by dsimp only;have:=HFB2.out;omega) _,by rw [←mixB_set hk8 (by omega),←mcells_set];exact hBk.set k _⟩
               case measure=>simp [intOf] <;> omega
           · have he:k=8:=(by omega);subst he;clear hk hk8;rw [mixF_end HPM.out.1 (by omega)] at hFr;rw [mixB_end HPM.out.1 hj8] at hBk;have hFm:=front_mono HPM.out HOK.out (show j≤8 by omega);have hBm:=back_mono HPM.out HOK.out hj8;have hgd:[p0,p1,p2,p3,p4,p5,p6,p7].getD j 0=y:=(by rw [List.getD_eq_getElem?_getD,HY.out];rfl);have hLm:=left_mono HAO.out.h8 HPM.out HOK.out (show j<zs.length by have:=HDL.out;omega) (by rw [hgd];exact hyp);obtain ⟨f0,f1,f2,f3,f4,f5,f6,f7,hFe⟩:=mono8 hFm;obtain ⟨k0,k1,k2,k3,k4,k5,k6,k7,hBe⟩:=mono8 hBm;obtain ⟨l0,l1,l2,l3,l4,l5,l6,l7,hLe⟩:=mono8 hLm;have hLs:[f0,f1,f2,f3,f4,f5,f6,f7].set j (y - 1)=[l0,l1,l2,l3,l4,l5,l6,l7]:=(by rw [←hLe,leftM,hgd,hFe]);rw [hFe] at hFr hFm;rw [hBe] at hBk hBm;rw [hLe] at hLm;replace hFr:Own wr gf 74 #[.int .u8 f0,.int .u8 f1,.int .u8 f2,.int .u8 f3,.int .u8 f4,.int .u8 f5,.int .u8 f6,.int .u8 f7]:=hFr;replace hBk:Own wr gb 74 #[.int .u8 k0,.int .u8 k1,.int .u8 k2,.int .u8 k3,.int .u8 k4,.int .u8 k5,.int .u8 k6,.int .u8 k7]:=hBk;have HFE:=Lib.hid hFe;have HBE:=Lib.hid hBe;have HLE:=Lib.hid hLe;have HLS:=Lib.hid hLs;have HGD:=Lib.hid hgd;clear hFe hBe hLe hLs hgd;have q0:=hFr.cell 0;have q1:=hFr.cell 1;have q2:=hFr.cell 2;have q3:=hFr.cell 3;have q4:=hFr.cell 4;have q5:=hFr.cell 5;have q6:=hFr.cell 6;have q7:=hFr.cell 7;go_upto_region 19 with fail
             clear q0 q1 q2 q3 q4 q5 q6 q7;have hba:=bA1 wr (.cells #[.int .u8 f0,.int .u8 f1,.int .u8 f2,.int .u8 f3,.int .u8 f4,.int .u8 f5,.int .u8 f6,.int .u8 f7] 74);have hL:=Own.new wr 74 #[.int .u8 f0,.int .u8 f1,.int .u8 f2,.int .u8 f3,.int .u8 f4,.int .u8 f5,.int .u8 f6,.int .u8 f7];have hE2:=hE.keep hba;have hF2:=hFr.keep hba hFr.lt;have hB2:=hBk.keep hba hBk.lt;have HPl:=Lib.hid (hE.apart (Nat.le_refl wr.heap.size));have HNf:=Lib.hid (Nat.ne_of_lt hFr.lt);have HNb:=Lib.hid (Nat.ne_of_lt hBk.lt);generalize wr.alloc (.cells #[.int .u8 f0,.int .u8 f1,.int .u8 f2,.int .u8 f3,.int .u8 f4,.int .u8 f5,.int .u8 f6,.int .u8 f7] 74)=wl at *;generalize wr.heap.size=gl at *;clear hba hE hFr hBk;have cM:=HCM.out wl hE2.hM;obtain ⟨ol,cl⟩:=hL.has (i:=j) (by simp;omega);have fl:=hL.frozen j;have w8:IntKind.u8.wrap (y - 1)=y - 1:=(by simp only [IntKind.wrap,IntKind.signed,IntKind.bits];simp;omega);go_upto_region 20 with fail
             have hE3:=hE2.far (p:=⟨gl,j,none⟩) HPl.out (.int .u8 (y - 1));have hF3:=hF2.far (p:=⟨gl,j,none⟩) (by dsimp only;exact HNf.out) (.int .u8 (y - 1));have hB3:=hB2.far (p:=⟨gl,j,none⟩) (by dsimp only;exact HNb.out) (.int .u8 (y - 1));have hL3:Own (wl.setCell ⟨gl,j,none⟩ (.int .u8 (y - 1))) gl 74 ((mcells [f0,f1,f2,f3,f4,f5,f6,f7]).toArray.setIfInBounds j (.int .u8 (y - 1))):=hL.set j (.int .u8 (y - 1));rw [mcells_set,HLS.out] at hL3;generalize wl.setCell ⟨gl,j,none⟩ (.int .u8 (y - 1))=ws at *;clear hE2 hF2 hB2 hL cM cl fl w8;replace hL3:Own ws gl 74 #[.int .u8 l0,.int .u8 l1,.int .u8 l2,.int .u8 l3,.int .u8 l4,.int .u8 l5,.int .u8 l6,.int .u8 l7]:=hL3;have cM:=HCM.out ws hE3.hM;have cF:=hE3.hF1.cell 0;have ct:ws.cell? ⟨b1,o1+i * 9+8,none⟩=some (.int .i64 tf):=hE3.hr1 8 _ rfl;have m0:=mul_b (a:=tf) (b:=y) (by omega) (by omega) (by omega) (by omega);have m1:0≤tf * y:=m0.1;have m2:tf * y≤100120036:=m0.2;clear m0;have x0:IntKind.i64.wrap y=y:=IntWalk.i64_in _ (by omega);have x1:IntKind.i64.wrap (tf * y)=tf * y:=IntWalk.i64_in _ (by omega)
             go_quiet (fail)
             have hbq:=below_drewN (Below.refl ws.heap.size ws) nq;have hE4:=hE3.keep hbq;have hF4:=hF3.keep hbq hF3.lt;have hB4:=hB3.keep hbq hB3.lt;have hL4:=hL3.keep hbq hL3.lt;generalize ws.drewN nq=wd at *;clear hbq hE3 hF3 hB3 hL3 cM cF ct x0 x1;have hbw4:Below w.heap.size w wd:=(by rw [HG.out];exact hE4.hb);obtain ⟨bi,oi,im,ai,ni,ci,rfl,hbi0,hci0,hTi0,hni,hxi⟩:=HFF.out.at_ hlt2;have hgi:ims.getD j []=im:=(by rw [List.getD_eq_getElem?_getD,hxi.out];rfl);obtain ⟨a1,a2,a3,a4,a5⟩:=HAO.out.at_ j;rw [hgi] at a1 a2 a3 a4 a5;have hjz:j<zs.length:=by have:=HDL.out;omega
             have HT1:Hid (Two zs [⟨[l0,l1,l2,l3,l4,l5,l6,l7],1⟩] im):=by
              have:=two_left HAO.out.h8 HPM.out HOK.out hjz (by rw [HGD.out];exact hyp) a2 a3 a4 a5;rw [HLE.out] at this;exact Lib.hid this
             have HT2:Hid (Two zs (timesT zs im [] [⟨[l0,l1,l2,l3,l4,l5,l6,l7],1⟩]) [⟨[k0,k1,k2,k3,k4,k5,k6,k7],1⟩]):=by
              have:=two_back HAO.out.h8 HPM.out HOK.out hjz (by rw [HGD.out];exact hyp) a2 a3 a4 a5;rw [HLE.out,HBE.out] at this;exact Lib.hid this
             have hni4:ni≤400:=(by have:=hTi0.len;omega);have hol:=own_len (zs:=zs) (l:=[l0,l1,l2,l3,l4,l5,l6,l7]) (im:=im);obtain ⟨V1,hV1⟩:∃V1,timesT zs im [] [⟨[l0,l1,l2,l3,l4,l5,l6,l7],1⟩]=V1:=⟨_,rfl⟩;have hbt:=between_len (zs:=zs) (l:=[l0,l1,l2,l3,l4,l5,l6,l7]) (r:=[k0,k1,k2,k3,k4,k5,k6,k7]) (im:=im);rw [between] at hbt;rw [hV1] at hol hbt
             have HT2':Hid (Two zs V1 [⟨[k0,k1,k2,k3,k4,k5,k6,k7],1⟩]):=by
              have:=HT2.out;rw [hV1] at this;exact Lib.hid this
             obtain ⟨V2,hV2⟩:∃V2,timesT zs [⟨[k0,k1,k2,k3,k4,k5,k6,k7],1⟩] [] V1=V2:=⟨_,rfl⟩;rw [hV2] at hbt;obtain ⟨X,hXe⟩:∃X,(if wtTo zs [p0,p1,p2,p3,p4,p5,p6,p7] j % 2=0 then tf * y else -(tf * y))=X:=⟨_,rfl⟩;have hXb:-100120036≤X∧X≤100120036:=by rw [←hXe];split <;> omega
             have HTT:Hid (termT zs ims ⟨[p0,p1,p2,p3,p4,p5,p6,p7],tf⟩ T0 (j+1)=addT (num X) T V2):=by
              refine Lib.hid ?_;rw [termT,if_neg (by show ¬[p0,p1,p2,p3,p4,p5,p6,p7].getD j 0=0;rw [HGD.out];omega),HTE.out,hgi];show addT (num (if wtTo zs [p0,p1,p2,p3,p4,p5,p6,p7] j % 2=0 then tf * [p0,p1,p2,p3,p4,p5,p6,p7].getD j 0 else -(tf * [p0,p1,p2,p3,p4,p5,p6,p7].getD j 0))) T (between zs (leftM [p0,p1,p2,p3,p4,p5,p6,p7] j) (backM [p0,p1,p2,p3,p4,p5,p6,p7] j) im)=_
              rw [HGD.out,hXe,HLE.out,HBE.out,between,hV1,hV2]
             have HST:Hid (Sum9 T (i * 3200+j * 400)):=by
              have:=HAO.out.term (t:=⟨[p0,p1,p2,p3,p4,p5,p6,p7],tf⟩) HPM.out HOK.out HS0.out j (by omega);rw [HTE.out] at this;exact Lib.hid this
             obtain ⟨on,hon⟩:∃on,V1.length=on:=⟨_,rfl⟩;obtain ⟨vn2,hvn2⟩:∃vn2,V2.length=vn2:=⟨_,rfl⟩;have hon4:on≤400:=(by omega);have hvn4:vn2≤400:=(by omega);have HV1:=Lib.hid hV1;have HV2:=Lib.hid hV2;have HON:=Lib.hid hon;have HVN:=Lib.hid hvn2;have HXE:=Lib.hid hXe
             have hwt:Hid (wt zs [f0,f1,f2,f3,f4,f5,f6,f7]=wtTo zs [p0,p1,p2,p3,p4,p5,p6,p7] j):=by
              refine Lib.hid ?_;rw [←HFE.out];exact wt_front HPM.out.1 HAO.out.h8 (by omega)
             clear hgi a1 a2 a3 a4 a5 hol hbt HT2 hV1 hV2 hXe hon hvn2;have c0:=hE4.hA.cell 0;have q0:=hF4.cell 0;have q1:=hF4.cell 1;have q2:=hF4.cell 2;have q3:=hF4.cell 3;have q4:=hF4.cell 4;have q5:=hF4.cell 5;have q6:=hF4.cell 6;have q7:=hF4.cell 7;obtain ⟨W,hW⟩:∃W,wtTo zs [p0,p1,p2,p3,p4,p5,p6,p7] j=W:=⟨_,rfl⟩
             have HWT:Hid (wt zs [f0,f1,f2,f3,f4,f5,f6,f7]=W):=by
              have:=hwt.out;rw [hW] at this;exact Lib.hid this
             have HXW:Hid ((if W % 2=0 then tf * y else -(tf * y))=X):=by
              have:=HXE.out;rw [hW] at this;exact Lib.hid this
             clear hW hwt;go_wp2_with fail
             refine (l01Weight8 dc (HD.out.keep hbw4) (by omega) HMI.out hFm HWT.out).mono ?_;rintro e wv ⟨rfl,hbx⟩;clear c0 q0 q1 q2 q3 q4 q5 q6 q7
             go_upto_if 79 with fail
             go_cut [13] from 29 to 101 (fun z wz=>z=.int .i64 X∧wz=wv)
             case first=>
              have nw:IntKind.i64.wrap (-(tf * y))=-(tf * y):=IntWalk.i64_in _ (by omega)
              cases ho:odd W with
              | false =>
                have hW2:W % 2=0:=(by simpa [odd] using ho);have hXv:tf * y=X:=(by rw [←HXW.out,if_pos hW2]);have HXV:=Lib.hid hXv;have hq:(W.tmod 2 != 0)=false:=(by rw [odd_bne];exact ho);have hq2:W.tmod 2=0:=(by simpa using hq);clear ho hW2 hXv;go_wp2_with fail
                go_meet
                exact ⟨rfl_i HXV.out,rfl⟩
              | true =>
                have hW2:¬W % 2=0:=(by simpa [odd] using ho);have hXv:-(tf * y)=X:=(by rw [←HXW.out,if_neg hW2]);have HXV:=Lib.hid hXv;have hq:(W.tmod 2 != 0)=true:=(by rw [odd_bne];exact ho);have hq2:¬W.tmod 2=0:=(by simpa using hq);clear ho hW2 hXv;go_wp2_with fail
                go_meet
                exact ⟨rfl_i HXV.out,rfl⟩
             case rest=>
              obtain ⟨rfl,rfl⟩:=hcut;have hE5:=hE4.keep hbx;have hB5:=hB4.keep hbx hB4.lt;have hL5:=hL4.keep hbx hL4.lt;have hbw5:Below w.heap.size w wc:=(by rw [HG.out];exact hE5.hb);have hD5:=HD.out.keep hbw5;have hT5:=hTi0.keep hbw5;have hc5:=(World.cell?_of_block (a:=⟨bi,oi+j,none⟩) (hbw5.block bi hbi0)).trans hci0;have hbi5:=Nat.lt_of_lt_of_le hbi0 hbw5.size;clear hE4 hF4 hB4 hL4 hbx hbw4 hFm m1 m2 hci0 hbi0;go_upto_region 23 with fail
              go_cut [14] from 29 to 101 (fun p wz=>∃g14 oa oc,p=.pointer (some ⟨g14,0,none⟩)∧Below wc.heap.size wc wz∧wc.heap.size≤g14∧Own wz g14 47 #[.slice oa on oc]∧OwnR wz wc.heap.size (.slice oa on oc) V1)
              case first=>
               have hbb:Below wc.heap.size wc wc.drew:=(Below.refl _ _).drew;have hA5:=hE5.hA
               go_region_held3 (fun w'=>w'.cell? ⟨g0,0,none⟩=some (.slice da n dc)∧w'.cell? ⟨g0,1,none⟩=some (.slice (some ⟨bi,oi,none⟩) n c)∧w'.cell? ⟨gl,0,none⟩=some (.int .u8 l0)∧w'.cell? ⟨gl,1,none⟩=some (.int .u8 l1)∧w'.cell? ⟨gl,2,none⟩=some (.int .u8 l2)∧w'.cell? ⟨gl,3,none⟩=some (.int .u8 l3)∧w'.cell? ⟨gl,4,none⟩=some (.int .u8 l4)∧w'.cell? ⟨gl,5,none⟩=some (.int .u8 l5)∧w'.cell? ⟨gl,6,none⟩=some (.int .u8 l6)∧w'.cell? ⟨gl,7,none⟩=some (.int .u8 l7)∧w'.cell? ⟨bi,oi+j,none⟩=some (.slice ai ni ci)) ((first | with_reducible exact cellsF (hA5.keep hbb hA5.lt) (hL5.keep hbb hL5.lt) ((World.cell?_of_block (a:=⟨bi,oi+j,none⟩) (Below.block hbb bi hbi5)).trans hc5) | with_reducible exact cellsF (hA5.keep (below_alw hbb hbb.size _) hA5.lt) (hL5.keep (below_alw hbb hbb.size _) hL5.lt) ((World.cell?_of_block (a:=⟨bi,oi+j,none⟩) (Below.block (below_alw hbb hbb.size _) bi hbi5)).trans hc5) | with_reducible exact cellsF (hA5.keep (below_ahw _ _) hA5.lt) (hL5.keep (below_ahw _ _) hL5.lt) ((World.cell?_of_block (a:=⟨bi,oi+j,none⟩) (Below.block (below_ahw _ _) bi hbi5)).trans hc5) | exact cellsF ((hA5.keep hbb hA5.lt).far (by dsimp only;have hq:=hbb.size;have hq2:=hA5.lt;omega) _) ((hL5.keep hbb hL5.lt).far (by dsimp only;have hq:=hbb.size;have hq2:=hL5.lt;omega) _) (((World.cell?_of_block (a:=⟨bi,oi+j,none⟩) ((Below.heap_setCell _ _ _ bi (by dsimp only;have hq:=hbb.size;omega)).trans (Below.block hbb bi hbi5)))).trans hc5) | exact cellsF ((hA5.keep (below_alw hbb hbb.size _) hA5.lt).far (by dsimp only;have hq:=hbb.size;have hq2:=hA5.lt;omega) _) ((hL5.keep (below_alw hbb hbb.size _) hL5.lt).far (by dsimp only;have hq:=hbb.size;have hq2:=hL5.lt;omega) _) (((World.cell?_of_block (a:=⟨bi,oi+j,none⟩) ((Below.heap_setCell _ _ _ bi (by dsimp only;have hq:=hbb.size;omega)).trans (Below.block (below_alw hbb hbb.size _) bi hbi5)))).trans hc5)))
                (first
                 | (go_at_call 108;refine (l01Single_c hLm).mono ?_;rintro e wS ⟨gs1,rfl,hgs1,hTs1,hbS⟩;(first | ((have hbb':Below wc.heap.size wc wS:=by with_reducible exact below_pl hbb hbS hbb.size);(try (have oN:=oN.keep hbS oN.lt))) | ((have hbb':Below wc.heap.size wc wS:=by with_reducible exact below_al hbb hbS hbb.size);have oN:=own_al hbS;have hgN:=hbb.size) | ((have hbb':Below wc.heap.size wc wS:=by with_reducible exact below_ah hbS);have oN:=own_ah hbS;have hgN:=Nat.le_refl wc.heap.size));clear hbb;have hbb:=hbb';clear hbb')
                 | (go_at_call 107;(first | (with_reducible refine (l01Times_c dc 1 ci (hD5.keep hbb) hTs1 (by omega) (hT5.keep hbb) hni4 HT1.out).mono ?_) | (with_reducible refine (l01Times_c dc 1 ci (hD5.keep hbb) (Terms.keep hTs1 (Below.refl _ _)) (by omega) (hT5.keep hbb) hni4 HT1.out).mono ?_) | (with_reducible refine (l01Times_c dc 1 ci (hD5.keep (below_alw hbb hbb.size _)) (hTs1.keep (bA1 _ _)) (by omega) (hT5.keep (below_alw hbb hbb.size _)) hni4 HT1.out).mono ?_));rintro e wT ⟨vT,rfl,hOT,hbT⟩;rw [HV1.out] at hOT;obtain ⟨oa,oc,rfl,-⟩:=hOT.r.terms HT2'.out.t1 HON.out;(have hvW:OwnR wT wc.heap.size (.slice oa on oc) V1:=by first | with_reducible exact hOT.r.weaken hbb.size | with_reducible exact hOT.r.weaken (below_alw hbb hbb.size _).size | with_reducible exact hOT.r.weaken (below_ahw _ _).size);(first | (have hne:(Value.slice oa on oc).ownBlock≠some _:=fun e=>Nat.lt_irrefl _ (Nat.lt_of_lt_of_le oN.lt (hOT.r.at_ e).1)) | (have hne:(Value.slice oa on oc).ownBlock≠some _:=fun e=>Nat.lt_irrefl _ (Nat.lt_of_lt_of_le (Own.new _ 47 #[.slice none 0 0]).lt (hOT.r.at_ e).1)) | skip);(first | ((have hbb':Below wc.heap.size wc wT:=by with_reducible exact below_pl hbb hbT hbb.size);(try (have oN:=oN.keep hbT oN.lt))) | ((have hbb':Below wc.heap.size wc wT:=by with_reducible exact below_al hbb hbT hbb.size);have oN:=own_al hbT;have hgN:=hbb.size) | ((have hbb':Below wc.heap.size wc wT:=by with_reducible exact below_ah hbT);have oN:=own_ah hbT;have hgN:=Nat.le_refl wc.heap.size));clear hbb;have hbb:=hbb';clear hbb';(first | (have cN:=oN.cell 0;have fN:=oN.frozen 0) | (have oF:=Own.new wT 47 #[.slice none 0 0];have cN:=oF.cell 0;have fN:=oF.frozen 0))))
               all_goals go_wp2_with fail
               all_goals go_meet
               all_goals (first
                | exact ⟨_,_,_,rfl,below_alw hbb hbb.size _,hbb.size,Own.new _ _ _,hvW.keep (bA1 _ _)⟩
                | exact ⟨_,_,_,rfl,hbb.setCell (p:=⟨_,0,none⟩) hgN _,hgN,oN.set 0 _,hvW.far (p:=⟨_,0,none⟩) hne _⟩)
              case rest=>
               obtain ⟨g14,oa,oc,rfl,hbx,hg14,hN6,hOR⟩:=hcut;have hE6:=hE5.keep hbx;have hB6:=hB5.keep hbx hB5.lt;have hD6:=hD5.keep hbx;have hT6:=hOR.read HT2'.out.t1;have HP14:=Lib.hid (hE5.apart hg14);clear hE5 hB5 hL5 hD5 hT5 hc5 hbi5 hbw5 hbx hg14 hOR;obtain ⟨va,vn,vc,rfl⟩:=hE6.hO.isSlice;have hTv:=hE6.hO.r.read HST.out.tm;have hvnb:vn≤1280000:=(by have:=hTv.len;have:=HST.out.len;omega);have HTF:=Lib.hid HST.out.bd
               have HV2T:Hid (∀x∈V2,IsTm x):=by
                have:=HT2'.out.tm;rw [HV2.out] at this;exact Lib.hid this
               have HV2F:Hid (∀x∈V2,0≤x.f∧x.f≤10006):=by
                have:=HT2'.out.good.nz;rw [HV2.out] at this;exact Lib.hid (fun x hx=>by have:=this x hx;omega)
               have hA6:=hE6.hA;have hV6:=hE6.hV;have HX6:=Lib.hid (show g7≠g14∧g7≠gb from ⟨by have:=HP14.out.2.2.2.1;omega,by have:=HPb.out.2.2.2.1;omega⟩);have hx1:-9223372036854775808≤X:=(by omega);have hx2:X≤9223372036854775807:=(by omega);have hxn:=num_lo X;have hxm:=num_hi X;go_upto_region 24 with fail
               have hbb:Below wc.heap.size wc wc.drew:=(Below.refl _ _).drew;have cV:wc.drew.cell? ⟨g7,0,none⟩=some (.slice va vn vc):=hV6.cell 0;refine wp_region_held_drew (S:=(fun w'=>w'.cell? ⟨g0,0,none⟩=some (.slice da n dc)∧w'.cell? ⟨g14,0,none⟩=some (.slice oa on oc)∧w'.cell? ⟨gb,0,none⟩=some (.int .u8 k0)∧w'.cell? ⟨gb,1,none⟩=some (.int .u8 k1)∧w'.cell? ⟨gb,2,none⟩=some (.int .u8 k2)∧w'.cell? ⟨gb,3,none⟩=some (.int .u8 k3)∧w'.cell? ⟨gb,4,none⟩=some (.int .u8 k4)∧w'.cell? ⟨gb,5,none⟩=some (.int .u8 k5)∧w'.cell? ⟨gb,6,none⟩=some (.int .u8 k6)∧w'.cell? ⟨gb,7,none⟩=some (.int .u8 k7))) (by kernel_rfl) ?_ (fun hHeld=>?_)
               · ((try dsimp only);(with_reducible exact cellsG (hA6.keep hbb hA6.lt) (hB6.keep hbb hB6.lt) (hN6.keep hbb hN6.lt)))
               refine hdT 1 ?_;refine hdT 2 ?_;refine hdT 3 ?_;refine hdT 4 ?_;refine hdT 7 ?_;refine wpAnyH_ready (rs:=[0,5]) (by kernel_rfl) (by simp) ?_;refine AllReadyH.cons (hdAt (i:=0) rfl) (fun K hK=>?_) (AllReadyH.cons (hdAt (i:=5) rfl) (fun K hK=>?_) (AllReadyH.nil))
               · skip
                 (go_simp;try go_wp2_with fail)
                 refine hK.out _ _ ?_ (fun _=>?_)
                 · ((try dsimp only);(with_reducible exact cellsG (hA6.keep hbb hA6.lt) (hB6.keep hbb hB6.lt) (hN6.keep hbb hN6.lt)))
                 clear hK K
                 (try simp only [Act.put,pA,pB,pC])
                 refine hdC 5 (fun K hK=>?_)
                 (go_simp;((go_at_call 108;refine (l01Single_c hBm).mono ?_;rintro e wS ⟨gs1,rfl,hgs1,hTs1,hbS⟩;have hbb':=below_pl hbb hbS hbb.size;clear hbb;have hbb:=hbb';clear hbb';have cV:=(hV6.keep hbb hV6.lt).cell 0));go_wp2_with fail)
                 refine hK.out _ _ ?_ (fun _=>?_)
                 · ((try dsimp only);(with_reducible exact cellsG (hA6.keep hbb hA6.lt) (hB6.keep hbb hB6.lt) (hN6.keep hbb hN6.lt)))
                 clear hK K
                 (try simp only [Act.put,pA,pB,pC])
                 refine hdC 6 (fun K hK=>?_)
                 (go_simp;((go_at_call 107;(with_reducible refine (l01Times_c dc oc 1 (hD6.keep hbb) (hT6.keep hbb) hon4 hTs1 (by omega) HT2'.out).mono ?_);rintro e wT ⟨vT,rfl,hOT,hbT⟩;rw [HV2.out] at hOT;obtain ⟨ta,tc,rfl,hTT2⟩:=hOT.r.terms HV2T.out HVN.out;have hbb':=below_pl hbb hbT hbb.size;clear hbb;have hbb:=hbb';clear hbb';have cV:=(hV6.keep hbb hV6.lt).cell 0));go_wp2_with fail)
                 refine hK.out _ _ ?_ (fun _=>?_)
                 · ((try dsimp only);(with_reducible exact cellsG (hA6.keep hbb hA6.lt) (hB6.keep hbb hB6.lt) (hN6.keep hbb hN6.lt)))
                 clear hK K
                 (try simp only [Act.put,pA,pB,pC])
                 refine hdC 8 (fun K hK=>?_)
                 (go_simp;((go_at_call 110;refine (l01Mod_c X _ hx1 hx2).mono ?_;rintro e wM ⟨rfl,rfl⟩));go_wp2_with fail)
                 refine hK.out _ _ ?_ (fun _=>?_)
                 · ((try dsimp only);(with_reducible exact cellsG (hA6.keep hbb hA6.lt) (hB6.keep hbb hB6.lt) (hN6.keep hbb hN6.lt)))
                 clear hK K
                 (try simp only [Act.put,pA,pB,pC])
                 refine hdC 9 (fun K hK=>?_)
                 (go_simp;((go_at_call 109;(with_reducible refine (l01Add_c vc tc (num X) hxn (by omega) (hTv.keep hbb) hTT2 (by omega) HTF.out HV2F.out).mono ?_);rintro e wA ⟨v3,rfl,hAd,hbA⟩;obtain ⟨xa,xn,xc,rfl⟩:=hAd.isSlice;have hvl:=(hV6.keep hbb hV6.lt).lt;have hbb':=below_pl hbb hbA hbb.size;clear hbb;have hbb:=hbb';clear hbb';have cV:=(hV6.keep hbb hV6.lt).cell 0;have fV:=(hV6.keep hbb hV6.lt).frozen 0));go_wp2_with fail)
                 refine hK.out _ _ ?_ (fun _=>?_)
                 · ((try dsimp only);(with_reducible exact cellsG (hA6.keep hbb hA6.lt) (hB6.keep hbb hB6.lt) (hN6.keep hbb hN6.lt)))
                 clear hK K
                 (try simp only [Act.put,pA,pB,pC])
                 refine hdC 10 (fun K hK=>?_)
                 (go_simp;try go_wp2_with fail)
                 refine hK.out _ _ ?_ (fun _=>?_)
                 · ((try dsimp only);(exact cellsG ((hA6.keep hbb hA6.lt).far (by dsimp only;omega) _) ((hB6.keep hbb hB6.lt).far (by dsimp only;have:=HX6.out;omega) _) ((hN6.keep hbb hN6.lt).far (by dsimp only;have:=HX6.out;omega) _)))
                 clear hK K
                 (try simp only [Act.put,pA,pB,pC])
                 refine wpAnyH_done (by kernel_rfl) ?_ _;go_wp2_with fail
                 go_roundw
                 case rel=>exact ⟨j+1,.slice xa xn xc,by omega,by go_num,by rw [HTT.out];exact (hE6.keep hbb).put hAd hvl ⟨by omega,by omega,by omega,by omega,by have:=HB0.out;omega⟩⟩
                 case measure=>simp [intOf] <;> omega
               · skip
                 (go_simp;((go_at_call 108;refine (l01Single_c hBm).mono ?_;rintro e wS ⟨gs1,rfl,hgs1,hTs1,hbS⟩;have hbb':=below_pl hbb hbS hbb.size;clear hbb;have hbb:=hbb';clear hbb';have cV:=(hV6.keep hbb hV6.lt).cell 0));go_wp2_with fail)
                 refine hK.out _ _ ?_ (fun _=>?_)
                 · ((try dsimp only);(with_reducible exact cellsG (hA6.keep hbb hA6.lt) (hB6.keep hbb hB6.lt) (hN6.keep hbb hN6.lt)))
                 clear hK K
                 (try simp only [Act.put,pA,pB,pC])
                 refine wpAnyH_ready (rs:=[0,6]) (by kernel_rfl) (by simp) ?_;refine AllReadyH.cons (hdAt (i:=0) rfl) (fun K hK=>?_) (AllReadyH.cons (hdAt (i:=6) rfl) (fun K hK=>?_) (AllReadyH.nil))
                 · skip
                   (go_simp;try go_wp2_with fail)
                   refine hK.out _ _ ?_ (fun _=>?_)
                   · ((try dsimp only);(with_reducible exact cellsG (hA6.keep hbb hA6.lt) (hB6.keep hbb hB6.lt) (hN6.keep hbb hN6.lt)))
                   clear hK K
                   (try simp only [Act.put,pA,pB,pC])
                   refine hdC 6 (fun K hK=>?_)
                   (go_simp;((go_at_call 107;(with_reducible refine (l01Times_c dc oc 1 (hD6.keep hbb) (hT6.keep hbb) hon4 hTs1 (by omega) HT2'.out).mono ?_);rintro e wT ⟨vT,rfl,hOT,hbT⟩;rw [HV2.out] at hOT;obtain ⟨ta,tc,rfl,hTT2⟩:=hOT.r.terms HV2T.out HVN.out;have hbb':=below_pl hbb hbT hbb.size;clear hbb;have hbb:=hbb';clear hbb';have cV:=(hV6.keep hbb hV6.lt).cell 0));go_wp2_with fail)
                   refine hK.out _ _ ?_ (fun _=>?_)
                   · ((try dsimp only);(with_reducible exact cellsG (hA6.keep hbb hA6.lt) (hB6.keep hbb hB6.lt) (hN6.keep hbb hN6.lt)))
                   clear hK K
                   (try simp only [Act.put,pA,pB,pC])
                   refine hdC 8 (fun K hK=>?_)
                   (go_simp;((go_at_call 110;refine (l01Mod_c X _ hx1 hx2).mono ?_;rintro e wM ⟨rfl,rfl⟩));go_wp2_with fail)
                   refine hK.out _ _ ?_ (fun _=>?_)
                   · ((try dsimp only);(with_reducible exact cellsG (hA6.keep hbb hA6.lt) (hB6.keep hbb hB6.lt) (hN6.keep hbb hN6.lt)))
                   clear hK K
                   (try simp only [Act.put,pA,pB,pC])
                   refine hdC 9 (fun K hK=>?_)
                   (go_simp;((go_at_call 109;(with_reducible refine (l01Add_c vc tc (num X) hxn (by omega) (hTv.keep hbb) hTT2 (by omega) HTF.out HV2F.out).mono ?_);rintro e wA ⟨v3,rfl,hAd,hbA⟩;obtain ⟨xa,xn,xc,rfl⟩:=hAd.isSlice;have hvl:=(hV6.keep hbb hV6.lt).lt;have hbb':=below_pl hbb hbA hbb.size;clear hbb;have hbb:=hbb';clear hbb';have cV:=(hV6.keep hbb hV6.lt).cell 0;have fV:=(hV6.keep hbb hV6.lt).frozen 0));go_wp2_with fail)
                   refine hK.out _ _ ?_ (fun _=>?_)
                   · ((try dsimp only);(with_reducible exact cellsG (hA6.keep hbb hA6.lt) (hB6.keep hbb hB6.lt) (hN6.keep hbb hN6.lt)))
                   clear hK K
                   (try simp only [Act.put,pA,pB,pC])
                   refine hdC 10 (fun K hK=>?_)
                   (go_simp;try go_wp2_with fail)
                   refine hK.out _ _ ?_ (fun _=>?_)
                   · ((try dsimp only);(exact cellsG ((hA6.keep hbb hA6.lt).far (by dsimp only;omega) _) ((hB6.keep hbb hB6.lt).far (by dsimp only;have:=HX6.out;omega) _) ((hN6.keep hbb hN6.lt).far (by dsimp only;have:=HX6.out;omega) _)))
                   clear hK K
                   (try simp only [Act.put,pA,pB,pC])
                   refine wpAnyH_done (by kernel_rfl) ?_ _;go_wp2_with fail
                   go_roundw
                   case rel=>exact ⟨j+1,.slice xa xn xc,by omega,by go_num,by rw [HTT.out];exact (hE6.keep hbb).put hAd hvl ⟨by omega,by omega,by omega,by omega,by have:=HB0.out;omega⟩⟩
                   case measure=>simp [intOf] <;> omega
                 · skip
                   (go_simp;((go_at_call 107;(with_reducible refine (l01Times_c dc oc 1 (hD6.keep hbb) (hT6.keep hbb) hon4 hTs1 (by omega) HT2'.out).mono ?_);rintro e wT ⟨vT,rfl,hOT,hbT⟩;rw [HV2.out] at hOT;obtain ⟨ta,tc,rfl,hTT2⟩:=hOT.r.terms HV2T.out HVN.out;have hbb':=below_pl hbb hbT hbb.size;clear hbb;have hbb:=hbb';clear hbb';have cV:=(hV6.keep hbb hV6.lt).cell 0));go_wp2_with fail)
                   refine hK.out _ _ ?_ (fun _=>?_)
                   · ((try dsimp only);(with_reducible exact cellsG (hA6.keep hbb hA6.lt) (hB6.keep hbb hB6.lt) (hN6.keep hbb hN6.lt)))
                   clear hK K
                   (try simp only [Act.put,pA,pB,pC])
                   refine wpAnyH_ready (rs:=[0,8]) (by kernel_rfl) (by simp) ?_;refine AllReadyH.cons (hdAt (i:=0) rfl) (fun K hK=>?_) (AllReadyH.cons (hdAt (i:=8) rfl) (fun K hK=>?_) (AllReadyH.nil))
                   · skip
                     (go_simp;try go_wp2_with fail)
                     refine hK.out _ _ ?_ (fun _=>?_)
                     · ((try dsimp only);(with_reducible exact cellsG (hA6.keep hbb hA6.lt) (hB6.keep hbb hB6.lt) (hN6.keep hbb hN6.lt)))
                     clear hK K
                     (try simp only [Act.put,pA,pB,pC])
                     refine hdC 8 (fun K hK=>?_)
                     (go_simp;((go_at_call 110;refine (l01Mod_c X _ hx1 hx2).mono ?_;rintro e wM ⟨rfl,rfl⟩));go_wp2_with fail)
                     refine hK.out _ _ ?_ (fun _=>?_)
                     · ((try dsimp only);(with_reducible exact cellsG (hA6.keep hbb hA6.lt) (hB6.keep hbb hB6.lt) (hN6.keep hbb hN6.lt)))
                     clear hK K
                     (try simp only [Act.put,pA,pB,pC])
                     refine hdC 9 (fun K hK=>?_)
                     (go_simp;((go_at_call 109;(with_reducible refine (l01Add_c vc tc (num X) hxn (by omega) (hTv.keep hbb) hTT2 (by omega) HTF.out HV2F.out).mono ?_);rintro e wA ⟨v3,rfl,hAd,hbA⟩;obtain ⟨xa,xn,xc,rfl⟩:=hAd.isSlice;have hvl:=(hV6.keep hbb hV6.lt).lt;have hbb':=below_pl hbb hbA hbb.size;clear hbb;have hbb:=hbb';clear hbb';have cV:=(hV6.keep hbb hV6.lt).cell 0;have fV:=(hV6.keep hbb hV6.lt).frozen 0));go_wp2_with fail)
                     refine hK.out _ _ ?_ (fun _=>?_)
                     · ((try dsimp only);(with_reducible exact cellsG (hA6.keep hbb hA6.lt) (hB6.keep hbb hB6.lt) (hN6.keep hbb hN6.lt)))
                     clear hK K
                     (try simp only [Act.put,pA,pB,pC])
                     refine hdC 10 (fun K hK=>?_)
                     (go_simp;try go_wp2_with fail)
                     refine hK.out _ _ ?_ (fun _=>?_)
                     · ((try dsimp only);(exact cellsG ((hA6.keep hbb hA6.lt).far (by dsimp only;omega) _) ((hB6.keep hbb hB6.lt).far (by dsimp only;have:=HX6.out;omega) _) ((hN6.keep hbb hN6.lt).far (by dsimp only;have:=HX6.out;omega) _)))
                     clear hK K
                     (try simp only [Act.put,pA,pB,pC])
                     refine wpAnyH_done (by kernel_rfl) ?_ _;go_wp2_with fail
                     go_roundw
                     case rel=>exact ⟨j+1,.slice xa xn xc,by omega,by go_num,by rw [HTT.out];exact (hE6.keep hbb).put hAd hvl ⟨by omega,by omega,by omega,by omega,by have:=HB0.out;omega⟩⟩
                     case measure=>simp [intOf] <;> omega
                   · skip
                     (go_simp;((go_at_call 110;refine (l01Mod_c X _ hx1 hx2).mono ?_;rintro e wM ⟨rfl,rfl⟩));go_wp2_with fail)
                     refine hK.out _ _ ?_ (fun _=>?_)
                     · ((try dsimp only);(with_reducible exact cellsG (hA6.keep hbb hA6.lt) (hB6.keep hbb hB6.lt) (hN6.keep hbb hN6.lt)))
                     clear hK K
                     (try simp only [Act.put,pA,pB,pC])
                     refine hdC 0 (fun K hK=>?_)
                     (go_simp;try go_wp2_with fail)
                     refine hK.out _ _ ?_ (fun _=>?_)
                     · ((try dsimp only);(with_reducible exact cellsG (hA6.keep hbb hA6.lt) (hB6.keep hbb hB6.lt) (hN6.keep hbb hN6.lt)))
                     clear hK K
                     (try simp only [Act.put,pA,pB,pC])
                     refine hdC 9 (fun K hK=>?_)
                     (go_simp;((go_at_call 109;(with_reducible refine (l01Add_c vc tc (num X) hxn (by omega) (hTv.keep hbb) hTT2 (by omega) HTF.out HV2F.out).mono ?_);rintro e wA ⟨v3,rfl,hAd,hbA⟩;obtain ⟨xa,xn,xc,rfl⟩:=hAd.isSlice;have hvl:=(hV6.keep hbb hV6.lt).lt;have hbb':=below_pl hbb hbA hbb.size;clear hbb;have hbb:=hbb';clear hbb';have cV:=(hV6.keep hbb hV6.lt).cell 0;have fV:=(hV6.keep hbb hV6.lt).frozen 0));go_wp2_with fail)
                     refine hK.out _ _ ?_ (fun _=>?_)
                     · ((try dsimp only);(with_reducible exact cellsG (hA6.keep hbb hA6.lt) (hB6.keep hbb hB6.lt) (hN6.keep hbb hN6.lt)))
                     clear hK K
                     (try simp only [Act.put,pA,pB,pC])
                     refine hdC 10 (fun K hK=>?_)
                     (go_simp;try go_wp2_with fail)
                     refine hK.out _ _ ?_ (fun _=>?_)
                     · ((try dsimp only);(exact cellsG ((hA6.keep hbb hA6.lt).far (by dsimp only;omega) _) ((hB6.keep hbb hB6.lt).far (by dsimp only;have:=HX6.out;omega) _) ((hN6.keep hbb hN6.lt).far (by dsimp only;have:=HX6.out;omega) _)))
                     clear hK K
                     (try simp only [Act.put,pA,pB,pC])
                     refine wpAnyH_done (by kernel_rfl) ?_ _;go_wp2_with fail
                     go_roundw
                     case rel=>exact ⟨j+1,.slice xa xn xc,by omega,by go_num,by rw [HTT.out];exact (hE6.keep hbb).put hAd hvl ⟨by omega,by omega,by omega,by omega,by have:=HB0.out;omega⟩⟩
                     case measure=>simp [intOf] <;> omega
     · have hnl:¬((j:Int)<(n:Int)):=(by omega);have HJZ:=Lib.hid (show j=zs.length by have:=HDL.out;omega);go_wp2_with fail
       go_roundw
       case rel=>exact ⟨i+1,v,by omega,by go_num,hE.hb,hE.hA,hE.hF1,hE.hR,hE.hV,by rw [HDT0.out,←HJZ.out];exact hE.hO⟩
       case measure=>simp [intOf] <;> omega
  · have he:i=n2:=(by omega);subst he;rw [List.take_of_length_le (Nat.le_of_eq HFL.out)] at hO;obtain ⟨va,vn,vc,rfl⟩:=hO.isSlice;have c3:=hV.cell 0;have cR:=hR.cell 0;have fR:=hR.frozen 0;go_wp2_with fail
    have q:=hR.set 0 (.slice va vn vc);rw [HG.out];exact bodyPost_ret (results_cell_row rfl _ _ g6 47 #[.slice va vn vc] (0,0) _ rfl q Try.underlying47 rfl Try.info_form) rfl ⟨.slice va vn vc,rfl,(hO.set (p:=⟨g6,0,none⟩) (by dsimp only;omega) _).weaken (by omega),hb.setCell (p:=⟨g6,0,none⟩) (by dsimp only;omega) _⟩
end Go.Proofs.Ytndnkeijddagiaa
