
import Derived.Test.YtfheammnkmjabaaGreatDiffQ
import Derived.Test.YtfheammnkmjabaaGreatHeld
import Derived.Test.YtfheammnkmjabaaGreatSpan
namespace Go.Proofs.YtfheammnkmjabaaGreat
set_option maxRecDepth 100000
open Go.RowKit Go.Deep Go.Maps
theorem Frms.grown {w w':World} {a:Option Addr} {n b k:Nat} {fss:List (List Tm)} {S:List Int→Int} (h:Frms w a n fss) (hM:MapIs w b k S) (hg:w.grownBy w' (some b)):Frms w' a n fss:=by
 obtain ⟨hl,hr⟩:=h
 refine ⟨hl,fun hn=>?_⟩
 obtain ⟨b',off,ha,hlt,hc⟩:=hr hn
 have hne:b'≠b:=by
  intro e;subst e;have h0:fss[0]? = some fss[0]:=List.getElem?_eq_getElem (by omega);obtain ⟨ai,ni,ci,h1,-,-⟩:=hc 0 _ h0;rw [hM.nocell] at h1;cases h1
 refine ⟨b',off,ha,Nat.lt_of_lt_of_le hlt hg.size,fun i ts hi=>?_⟩
 obtain ⟨ai,ni,ci,h1,h2,h3⟩:=hc i ts hi
 exact ⟨ai,ni,ci,(World.cell?_of_block (a:=⟨b',off+i,none⟩) (hg.block b' hlt (by simpa using hne))).trans h1,h2.grown hM hg,h3⟩
theorem termS_bd {zs:List Int} {ims:List (List Tm)} {t:Tm} {S:List Int→Int} (h:∀m,0≤S m∧S m≤10006):∀i m,0≤termS zs ims t S i m∧termS zs ims t S i m≤10006
 | 0,m=>h m
 | i + 1, m => by
   rw [termS];split
   · exact addP_bd (fun m=>termS_bd h i m) m
   · exact termS_bd h i m
theorem diffS_bd {zs:List Int} {ims:List (List Tm)}:∀{fs:List Tm} {S:List Int→Int},(∀m,0≤S m∧S m≤10006)→∀m,0≤diffS zs ims S fs m∧diffS zs ims S fs m≤10006
 | [],_,h=>h
 | t::fs,S,h=>diffS_bd (fs:=fs) (S:=termS zs ims t S ims.length) (termS_bd h _)
theorem diffS_take {zs:List Int} {ims:List (List Tm)} {t:Tm} {S:List Int→Int} {fs:List Tm} {i:Nat} (h:fs[i]? = some t):diffS zs ims S (fs.take (i+1))=termS zs ims t (diffS zs ims S (fs.take i)) ims.length:=by
 rw [diffS,diffS,List.take_add_one,h,List.foldl_append];rfl
theorem bel_grown {w w0 w1:World} {b:Nat} (hb:Below w.heap.size w w0) (hg:w0.grownBy w1 (some b)) (h:w.heap.size≤b):Below w.heap.size w w1:=
 grown_below hb hg (fun k e=>by cases e;exact h) hb.size
set_option maxHeartbeats 8000000 in
theorem differentialOf_p {w : World} {da : Option Addr} {dn : Nat} {zs : List Int} {a : Option Addr} {n : Nat} {ims : List (List Tm)} {a2 : Option Addr} {n2 : Nat} {fs : List Tm} (dc c c2 : Nat) (hd : Ints w da dn zs) (hF : Frms w a n ims) (_hn : n ≤ 8) (h : Terms w a2 n2 fs) (hn2 : n2 ≤ 1048576) (h400 : n2 ≤ 400)
    (HADD:∀(wx:World) (b N:Nat) (S:List Int→Int) (p0 p1 p2 p3 p4 p5 p6 p7 f:Int),⟨[p0,p1,p2,p3,p4,p5,p6,p7],f⟩∈fs→Ints wx da dn zs→Frms wx a n ims→MapIs wx b N S→N≤1280000→(∀m,0≤S m∧S m≤10006) →
     Calls Tryz.prog 55 #[.map (some b),.agg #[.slice da dn dc,.slice a n c],.agg #[.int .u8 p0,.int .u8 p1,.int .u8 p2,.int .u8 p3,.int .u8 p4,.int .u8 p5,.int .u8 p6,.int .u8 p7,.int .i64 f]] wx fun e w'=>e=.returned (.tuple #[])∧MapIs w' b (N+3200) (termS zs ims ⟨[p0,p1,p2,p3,p4,p5,p6,p7],f⟩ S n)∧wx.grownBy w' (some b)) :
    Calls Tryz.prog 39 #[.agg #[.slice da dn dc,.slice a n c],.agg #[.slice a2 n2 c2]] w fun e w'=>∃b,e=.returned (.map (some b))∧w.heap.size≤b∧MapIs w' b (n2 * 3200) (diffS zs ims zeroL fs)∧Below w.heap.size w w':=by
 have hl2:=h.len
 have HL:=Lib.hid hF.len
 have HA:=Lib.hid HADD
 have HT:=Lib.hid h
 have HD:=Lib.hid hd
 have HFF:=Lib.hid hF
 clear HADD
 have hA:=(Own.new w 31 #[.slice da dn dc,.slice a n c]).alloc (.cells #[.slice a2 n2 c2] 53)
 have hG:=Own.new (w.alloc (.cells #[.slice da dn dc,.slice a n c] 31)) 53 #[.slice a2 n2 c2]
 simp only [sAl] at hG
 have hb:=bTn (bA1 w (.cells #[.slice da dn dc,.slice a n c] 31)) (bA1 _ (.cells #[.slice a2 n2 c2] 53))
 generalize hg1:w.heap.size+1=gG at *
 generalize hg0:w.heap.size=gA at *
 go_enter Tryz.func39,Tryz.ntmps39
 go_upto_region 1 with fail
 generalize (w.alloc (.cells #[.slice da dn dc,.slice a n c] 31)).alloc (.cells #[.slice a2 n2 c2] 53)=w0 at *
 try simp only [hg0,hg1]
 have hmm:=@run_makeMap Tryz.prog
 have hM:=mapIs_made w0
 have hbb:gA≤w0.heap.size:=by have:=hA.lt;omega
 replace hA:=hA.alloc (.map #[] 0)
 replace hG:=hG.alloc (.map #[] 0)
 replace hb:=bT' hb (bA1 w0 (.map #[] 0)) hbb
 have cG:=hG.cell 0
 go_wp2_with fail
 clear cG hmm
 generalize w0.alloc (.map #[] 0)=w3 at *
 generalize hgb:w0.heap.size=b at *
 clear hgb
 go_loopw [12] (fun x wr=>∃i:Nat,i≤n2∧x=.int .i64 i∧Below gA w wr∧Own wr gA 31 #[.slice da dn dc,.slice a n c]∧MapIs wr b (i * 3200) (diffS zs ims zeroL (fs.take i))) (fun x _=>n2 - (intOf x).toNat)
 case atStart=>exact ⟨0,Nat.zero_le _,rfl,hb,hA,by rw [List.take_zero];exact hM.mono (Nat.zero_le _)⟩
 case round=>
  clear hb hA hM hG;obtain ⟨i,hi,rfl,hb,hA,hM⟩:=hrel;subst hg0;by_cases hi1:i<n2
  · obtain ⟨b1,o1,t,rfl,hbl1,hr10,ht,hx⟩:=(HT.out.keep hb).at_ hi1;obtain ⟨mt,tf⟩:=t;have hmt:IsMono mt:=ht.1;obtain ⟨p0,p1,p2,p3,p4,p5,p6,p7,rfl⟩:=mono8 hmt;obtain ⟨y0,y1,y2,y3,y4,y5,y6,y7,y8⟩:=nine hr10;have hmem:=List.mem_of_getElem? hx.out;have hT:=Own.new wr 80 #[.int .u8 p0,.int .u8 p1,.int .u8 p2,.int .u8 p3,.int .u8 p4,.int .u8 p5,.int .u8 p6,.int .u8 p7,.int .i64 tf];have hba:=bA1 wr (.cells #[.int .u8 p0,.int .u8 p1,.int .u8 p2,.int .u8 p3,.int .u8 p4,.int .u8 p5,.int .u8 p6,.int .u8 p7,.int .i64 tf] 80);replace hA:=hA.alloc (.cells #[.int .u8 p0,.int .u8 p1,.int .u8 p2,.int .u8 p3,.int .u8 p4,.int .u8 p5,.int .u8 p6,.int .u8 p7,.int .i64 tf] 80);replace hM:=hM.keep hba;replace hb:=bT' hb hba hb.size;have cA0:=hA.cell 0;have cA1:=hA.cell 1;have c0:=hT.cell 0;have c1:=hT.cell 1;have c2':=hT.cell 2;have c3:=hT.cell 3;have c4:=hT.cell 4;have c5:=hT.cell 5;have c6:=hT.cell 6;have c7:=hT.cell 7;have c8:=hT.cell 8;have hi0:(0:Int)≤(i:Int):=(by omega);have hin:(i:Int)<(n2:Int):=(by omega);go_wp2_with fail
    clear y0 y1 y2 y3 y4 y5 y6 y7 y8 cA0 cA1 c0 c1 c2' c3 c4 c5 c6 c7 c8 hba hT;generalize wr.alloc (.cells #[.int .u8 p0,.int .u8 p1,.int .u8 p2,.int .u8 p3,.int .u8 p4,.int .u8 p5,.int .u8 p6,.int .u8 p7,.int .i64 tf] 80)=wt at *;refine (HA.out wt b _ _ _ _ _ _ _ _ _ _ _ hmem (HD.out.keep hb) (HFF.out.keep hb) hM (by omega) (diffS_bd (fun _=>by simp [zeroL]))).mono ?_;rintro e wz ⟨rfl,hM2,hgr⟩;replace hA:=hA.grownM hM hgr;replace hb:=bel_grown hb hgr (by omega);go_wp2_with fail
    go_roundw
    case rel=>exact ⟨i+1,by omega,by go_num,hb,hA,by rw [diffS_take hx.out,HL.out];exact hM2.mono (by omega)⟩
    case measure=>simp [intOf] <;> omega
  · have he:i=n2:=(by omega);subst he;rw [List.take_of_length_le (Nat.le_of_eq hl2)] at hM;go_wp2_with fail
    go_ret
    exact ⟨b,rfl,by omega,hM,hb⟩
open Go.RowKit
theorem frontM_row (m:List Int) (i:Nat):frontM m i=rowS m i:=rfl
theorem backM_row (m:List Int) (i:Nat):backM m i=rowI m (i+1):=rfl
theorem rowI_clear {A:List Int} {j:Nat} (hA:A.length=8) (hj:j<8):(rowI A j).set j 0=rowI A (j+1):=by
 apply List.ext_getElem?
 intro k
 rw [List.getElem?_set]
 simp only [rowI,List.getElem?_append,List.length_append,List.length_replicate,List.length_drop,List.getElem?_replicate,List.getElem?_drop]
 by_cases h1:j=k
 · subst h1;rw [if_pos rfl,if_pos (by omega),if_pos (by omega),if_pos (by omega)]
 · rw [if_neg h1];by_cases h2:k<j
   · rw [if_pos h2,if_pos h2,if_pos (by omega),if_pos (by omega)]
   · rw [if_neg h2,if_neg (by omega),show j+(k - j)=j+1+(k - (j+1)) by omega]
theorem left_mem {m:List Int} {i:Nat} {y:Int} (h:y∈leftM m i):y=m.getD i 0 - 1∨y∈m∨y=0:=by
 rcases List.mem_or_eq_of_mem_set h with h | h
 · rw [frontM,List.mem_append] at h
   rcases h with h | h
   · exact Or.inr (Or.inl (List.mem_of_mem_take h))
   · exact Or.inr (Or.inr (List.mem_replicate.1 h).2)
 · exact Or.inl h
theorem back_mem {m:List Int} {i:Nat} {y:Int} (h:y∈backM m i):y∈m∨y=0:=by
 rw [backM,List.mem_append] at h
 rcases h with h | h
 · exact Or.inr (List.mem_replicate.1 h).2
 · exact Or.inl (List.mem_of_mem_drop h)
theorem getD_mem {m:List Int} {i:Nat} (h:i<m.length):m.getD i 0∈m:=by
 rw [List.getD_eq_getElem?_getD,List.getElem?_eq_getElem h]
 exact List.getElem_mem h
def In (B:Int) (m:List Int):Prop:=∀y∈m,0≤y∧y≤B
theorem In.at_ {B:Int} {m:List Int} (h:In B m) {i:Nat} {y:Int} (hi:m[i]? = some y):0≤y∧y≤B:=h y (List.mem_of_getElem? hi)
theorem In.mono {B C:Int} {m:List Int} (h:In B m) (hc:B≤C):In C m:=fun y hy=>by have:=h y hy;omega
theorem In.isMono {B:Int} {m:List Int} (h:In B m) (hl:m.length=8) (hb:B≤255):IsMono m:=⟨hl,fun y hy=>by have:=h y hy;omega⟩
theorem left_in {B:Int} {m:List Int} {i:Nat} (h:In B m) (hB:0≤B) (hi:i<m.length) (hp:0<m.getD i 0):In B (leftM m i):=fun y hy=>by
 have:=h _ (getD_mem hi)
 rcases left_mem hy with e | e | e
 · omega
 · exact h y e
 · omega
theorem back_in {B:Int} {m:List Int} {i:Nat} (h:In B m) (hB:0≤B):In B (backM m i):=fun y hy=>by
 rcases back_mem hy with e | e
 · exact h y e
 · omega
theorem left_tail {m:List Int} {n i:Nat} (hl:m.length=8) (hi:i<n):Tail0 (leftM m i) n:=by
 intro k hk hk8
 rw [leftM,List.getElem?_set,if_neg (by omega),frontM,List.getElem?_append_right (by rw [List.length_take];omega),List.getElem?_replicate,if_pos (by rw [List.length_take];omega)]
theorem back_tail {m:List Int} {n i:Nat} (_hl:m.length=8) (hi:i<n) (h:Tail0 m n):Tail0 (backM m i) n:=by
 intro k hk hk8
 rw [backM,List.getElem?_append_right (by rw [List.length_replicate];omega),List.length_replicate,List.getElem?_drop,show i+1+(k - (i+1))=k by omega]
 exact h k hk hk8
theorem join_in {B C:Int} {zs m k:List Int} (hm:In B m) (hk:In C k) (hB:0≤B) (hC:0≤C):In (B+C) (joinM zs m k):=by
 intro y hy
 rw [joinM] at hy
 split at hy
 · have:y=0:=(by simpa [nul8] using hy);omega
 · obtain ⟨i,hi,rfl⟩:=List.mem_iff_getElem.1 hy;simp only [addM,List.getElem_zipWith];simp only [addM,List.length_zipWith] at hi;have h1:=hm _ (List.getElem_mem (show i<m.length by omega));have h2:=hk _ (List.getElem_mem (show i<k.length by omega));omega
theorem join_tail {zs m k:List Int} {n:Nat} (hm:Tail0 m n) (hk:Tail0 k n):Tail0 (joinM zs m k) n:=by
 intro i hi hi8
 rw [joinM]
 split
 · show (List.replicate 8 (0:Int))[i]? = some 0
   rw [List.getElem?_replicate,if_pos hi8]
 · have:=addM_get (hm i hi hi8) (hk i hi hi8);simpa using this
theorem ok_in {zs m:List Int} (hm:IsMono m) (h:monoOk zs m=true):In 20 m:=fun y hy=>by
 obtain ⟨i,hi,rfl⟩:=List.mem_iff_getElem.1 hy
 have h8:=hm.1
 have:=mono20 h (show i<8 by omega) (List.getElem?_eq_getElem hi)
 exact ⟨(hm.2 _ (List.getElem_mem hi)).1,this⟩
theorem around_fit {zs m u : List Int} {i : Nat} (h8 : zs.length ≤ 8) (hm : IsMono m) (ok : monoOk zs m = true) (hu : IsMono u) (ou : monoOk zs u = true) (hi : i < zs.length) (hp : 0 < m.getD i 0) :
    FitW zs (leftM m i) u∧FitW zs (joinM zs (leftM m i) u) (backM m i):=by
 have i1:=ok_in hm ok
 have i2:=ok_in hu ou
 have hl:=hm.1
 have L:=left_in i1 (by omega) (by omega) hp (i:=i)
 have K:=back_in (i:=i) i1 (by omega)
 have ll:(leftM m i).length=8:=leftM_len hl (by omega)
 have kl:(backM m i).length=8:=backM_len hl (by omega)
 have tl:=left_tail (n:=zs.length) hl hi
 have tk:=back_tail hl hi (tail0 hm ok)
 have F1:FitW zs (leftM m i) u:=⟨h8,L.isMono ll (by omega),hu,tl,tail0 hu ou,fun _ y h=>by have:=L.at_ h;omega,fun _ y h=>by have:=i2.at_ h;omega⟩
 have J:=join_in (zs:=zs) L i2 (by omega) (by omega)
 exact ⟨F1,⟨h8,joinM_monoW F1,K.isMono kl (by omega),join_tail tl (tail0 hu ou),tk,fun _ y h=>by have:=J.at_ h;omega,fun _ y h=>by have:=K.at_ h;omega⟩⟩
theorem grown_set {w wr:World} {k g i:Nat} {u:Value} (hg:w.grownBy wr (some k)) (hl:w.heap.size≤g):w.grownBy (wr.setCell ⟨g,i,none⟩ u) (some k):=by
 have h:=(Below.refl w.heap.size wr).setCell (p:=⟨g,i,none⟩) hl u
 exact ⟨h.os.trans hg.os,h.tape.trans hg.tape,h.output.trans hg.output,Nat.le_trans hg.size h.size,fun j hj hne=>(h.block j hj).trans (hg.block j hj hne)⟩
theorem left_set {m:List Int} {i:Nat} (hl:m.length=8) (hi:i<8):(leftM m i).set i (m.getD i 0)=rowS m (i+1):=by
 rw [leftM,List.set_set,frontM_row]
 exact rowS_step hl hi (by rw [List.getD_eq_getElem?_getD,List.getElem?_eq_getElem (by omega)];rfl)
open Go.RowKit Go.Deep
theorem ints_of_own {w:World} {g n:Nat} {zs:List Int} (h:Own w g 2 ((zs.map (Value.int .i64)).toArray)) (hn:zs.length=n):Ints w (some ⟨g,0,none⟩) n zs:=IntBlk.ints' h hn
theorem Ints.drew {w:World} {a:Option Addr} {n:Nat} {zs:List Int} (h:Ints w a n zs):Ints w.drew a n zs:=h
theorem storeCells_own {w : World} {g : Nat} {t : TypeId} {old : Array Value} {R : List Int} (h : Own w g t old) (hs : old.size = 8) (hR : IsMono R) :
    (storeCells ⟨g,0,none⟩ (mcells R) 0).run Tryz.prog w=.ok () (w.setRow g (mcells R).toArray):=by
 have:=run_storeCells_from (P:=Tryz.prog) g t (mcells R) 0 old w h (by simp [mcells_length,hR.1,hs]) (fun v hv=>by simp only [mcells,List.mem_map] at hv;obtain ⟨x,_,rfl⟩:=hv;rfl)
 simpa using this
end Go.Proofs.YtfheammnkmjabaaGreat
