
import Derived.Test.YtfpniioegjpfeaaGreatDoorPrsC
import Derived.Test.YtfpniioegjpfeaaGreatDoorPrsE
namespace Go.Proofs.YtfpniioegjpfeaaGreatDoor
set_option maxRecDepth 100000
open Go.RowKit Go.Deep
theorem drop_cons {l:List UInt8} {k:Nat} {c:UInt8} (h:l[k]? = some c):l.drop k=c::l.drop (k+1):=by
 have h2:k<l.length:=by
  rcases Nat.lt_or_ge k l.length with h3 | h3
  · exact h3
  · rw [List.getElem?_eq_none h3] at h;cases h
 rw [List.getElem?_eq_getElem h2] at h
 cases h
 exact List.drop_eq_getElem_cons h2
def NmO (l:List UInt8) (w:World) (e:Ending) (w':World):Prop:=∃(x0 x1 x2 x3 x4 x5 x6 x7:Int) (b:Bool),e=.returned (.tuple #[.agg #[.int .u8 x0,.int .u8 x1,.int .u8 x2,.int .u8 x3,.int .u8 x4,.int .u8 x5,.int .u8 x6,.int .u8 x7],.bool b])∧IsMono [x0,x1,x2,x3,x4,x5,x6,x7]∧RdO (naM l) b [x0,x1,x2,x3,x4,x5,x6,x7]∧Below w.heap.size w w'
set_option maxHeartbeats 8000000 in
theorem l01Named_c (l : List UInt8) (w : World) (hl : l.length ≤ 1048576) :
    Calls Tryz.prog 37 #[str l] w fun e w'=>NmO l w e w':=by
 have hsz:(⟨l.toArray⟩:ByteArray).size=l.length:=by simp [ByteArray.size]
 have hX:=(Own.new w 60 #[.int .u8 0,.int .u8 0,.int .u8 0,.int .u8 0,.int .u8 0,.int .u8 0,.int .u8 0,.int .u8 0]).alloc (.cells #[.int .u8 0,.int .u8 0,.int .u8 0,.int .u8 0,.int .u8 0,.int .u8 0,.int .u8 0,.int .u8 0] 60)
 have hM:=Own.new (w.alloc (.cells #[.int .u8 0,.int .u8 0,.int .u8 0,.int .u8 0,.int .u8 0,.int .u8 0,.int .u8 0,.int .u8 0] 60)) 60 #[.int .u8 0,.int .u8 0,.int .u8 0,.int .u8 0,.int .u8 0,.int .u8 0,.int .u8 0,.int .u8 0]
 rw [sAl] at hM
 have hb:=bTn (bA1 w (.cells #[.int .u8 0,.int .u8 0,.int .u8 0,.int .u8 0,.int .u8 0,.int .u8 0,.int .u8 0,.int .u8 0] 60)) (bA1 _ (.cells #[.int .u8 0,.int .u8 0,.int .u8 0,.int .u8 0,.int .u8 0,.int .u8 0,.int .u8 0,.int .u8 0] 60))
 go_enter Tryz.func37,Tryz.ntmps37
 go_upto_region 2 with fail
 generalize (w.alloc (.cells #[.int .u8 0,.int .u8 0,.int .u8 0,.int .u8 0,.int .u8 0,.int .u8 0,.int .u8 0,.int .u8 0] 60)).alloc (.cells #[.int .u8 0,.int .u8 0,.int .u8 0,.int .u8 0,.int .u8 0,.int .u8 0,.int .u8 0,.int .u8 0] 60)=w1 at *
 obtain ⟨gX,hgX⟩:∃g,w.heap.size=g:=⟨_,rfl⟩
 obtain ⟨gM,hgM⟩:∃g,w.heap.size+1=g:=⟨_,rfl⟩
 rw [hgX] at hX
 rw [hgM] at hM
 try rw [hgM]
 try rw [hgX]
 have hXM:gX<gM:=by omega
 have hwM:w.heap.size≤gM:=by omega
 have HGX:=Lib.hid hgX
 clear hgX hgM
 cases hc:(l==[49]) with
 | true =>
   have he:l=[49]:=(by simpa using hc);subst he;obtain ⟨⟨a0,a1,a2,a3,a4,a5,a6,a7⟩,-⟩:=eight_cells hM;obtain ⟨⟨e0,e1,e2,e3,e4,e5,e6,e7⟩,@f⟩:=eight_cells hX;go_wp2_with fail
   obtain ⟨w9,hw9,hX9,hb9⟩:=eight_put (.int .u8 0) (.int .u8 0) (.int .u8 0) (.int .u8 0) (.int .u8 0) (.int .u8 0) (.int .u8 0) (.int .u8 0) hX (Nat.le_of_eq HGX.out) hb;rw [hw9];exact bodyPost_ret (results_row2 rfl _ _ gX 60 #[.int .u8 0,.int .u8 0,.int .u8 0,.int .u8 0,.int .u8 0,.int .u8 0,.int .u8 0,.int .u8 0] (0,0) _ rfl hX9 Tryz.underlying60 rfl info_mono) rfl ⟨0,0,0,0,0,0,0,0,true,rfl,zero8,RdO.yes rfl,hb9⟩
 | false =>
   have hne:¬l=[49]:=(by intro e;subst e;cases hc);by_cases h0:l=[]
   · have HF:Hid (naM l=none):=Lib.hid (by rw [naM,if_neg hne,if_pos h0]);have hl0:l.length=0:=(by rw [h0];rfl);have g0:¬((0:Int)<(l.length:Int)):=(by omega);have hie:l.isEmpty=true:=(by rw [h0];rfl);clear hne;subst h0;obtain ⟨⟨a0,a1,a2,a3,a4,a5,a6,a7⟩,-⟩:=eight_cells hM;obtain ⟨⟨e0,e1,e2,e3,e4,e5,e6,e7⟩,@f⟩:=eight_cells hX;go_upto_region 5 with fail
     go_loopw [5] (fun y wr=>y=.int .i64 0∧wr=w1) (fun _ _=>0)
     case atStart=>exact ⟨rfl,rfl⟩
     case round=>
      obtain ⟨rfl,rfl⟩:=hrel;go_wp2_with fail
      obtain ⟨w9,hw9,hX9,hb9⟩:=eight_put (.int .u8 0) (.int .u8 0) (.int .u8 0) (.int .u8 0) (.int .u8 0) (.int .u8 0) (.int .u8 0) (.int .u8 0) hX (Nat.le_of_eq HGX.out) hb;rw [hw9];exact bodyPost_ret (results_row2 rfl _ _ gX 60 #[.int .u8 0,.int .u8 0,.int .u8 0,.int .u8 0,.int .u8 0,.int .u8 0,.int .u8 0,.int .u8 0] (0,0) _ rfl hX9 Tryz.underlying60 rfl info_mono) rfl ⟨0,0,0,0,0,0,0,0,false,rfl,zero8,RdO.no HF.out,hb9⟩
   · have HNM0:naM l=rdM rdN l (List.replicate 8 0):=(by rw [naM,if_neg hne,if_neg h0]);obtain ⟨R,hR⟩:∃R,naM l=R:=⟨_,rfl⟩;have HNM:=Lib.hid hR;have HR0:Hid (rdM rdN l (List.replicate 8 0)=R):=Lib.hid (by rw [←HNM0,hR]);have hie:l.isEmpty=false:=(by simpa using h0);clear hR HNM0 hne h0;go_upto_region 5 with fail
     go_loopw [5] (fun y wr=>∃(a:Nat) (ex:List Int),y=.int .i64 a∧a≤l.length∧rdM rdN (l.drop a) ex=R∧IsMono ex∧Own wr gM 60 (exV ex).toArray∧Own wr gX 60 #[.int .u8 0,.int .u8 0,.int .u8 0,.int .u8 0,.int .u8 0,.int .u8 0,.int .u8 0,.int .u8 0]∧Below w.heap.size w wr) (fun y _=>l.length - (intOf y).toNat)
     case atStart=>exact ⟨0,_,rfl,Nat.zero_le _,by rw [List.drop_zero];exact HR0.out,zero8,hM,hX,hb⟩
     case round=>
      clear hM hX hb;obtain ⟨a,ex,rfl,ha,hrd,hmo,hM,hX,hb⟩:=hrel;have ha0:(0:Int)≤(a:Int):=(by omega);by_cases hal:a<l.length
      · have hai:(a:Int)<(l.length:Int):=(by omega);obtain ⟨c,hc1⟩:∃c,l[a]? = some c:=⟨_,List.getElem?_eq_getElem hal⟩;have hxa:a<(⟨l.toArray⟩:ByteArray).size:=(by omega);have hba:=byte_at hxa hc1;have hc2:=c.toNat_lt;rw [drop_cons hc1,rdM_cons] at hrd;by_cases hlo:97≤c.toNat
        · have glo:¬((((⟨l.toArray⟩:ByteArray)[a]'hxa).toNat:Int)<97):=(by rw [hba];omega);by_cases hhi:c.toNat<105
          · have ghi:¬((104:Int)<(((⟨l.toArray⟩:ByteArray)[a]'hxa).toNat:Int)):=(by rw [hba];omega);rw [if_pos ⟨hlo,hhi⟩] at hrd;obtain ⟨j,hj⟩:∃j,c.toNat - 97=j:=⟨_,rfl⟩;rw [hj] at hrd;have hj8:j<8:=(by omega);have hj80:(j:Int)<8:=(by omega);have hj00:(0:Int)≤(j:Int):=(by omega);have hwj:IntKind.u8.wrap ((((⟨l.toArray⟩:ByteArray)[a]'hxa).toNat:Int) - 97)=(j:Int):=(by rw [hba,IntWalk.u8_in _ (by omega)];omega);have HRD:=Lib.hid hrd;clear hrd hba hc1 hj;obtain ⟨w4,hw4⟩:∃x,x=wr:=⟨_,rfl⟩;subst hw4;go_upto_region 9 with fail
            go_loopw [7] (fun y w3=>∃e:Nat,y=.int .i64 e∧a+1≤e∧e≤l.length∧(l.drop (a+1)).takeWhile (dgs.contains ·)=(l.take e).drop (a+1)++(l.drop e).takeWhile (dgs.contains ·)∧(l.drop (a+1)).dropWhile (dgs.contains ·)=(l.drop e).dropWhile (dgs.contains ·)∧w3=w4) (fun y _=>l.length - (intOf y).toNat)
            case atStart=>exact ⟨a+1,by go_num,Nat.le_refl _,by omega,by rw [show (l.take (a+1)).drop (a+1)=[] by rw [List.drop_eq_nil_iff,List.length_take];omega];rfl,rfl,rfl⟩
            case round=>
             obtain ⟨e,rfl,hae,hel,htw,hdw,hw3⟩:=hrel;rw [hw3];clear hw3;have he0:(0:Int)≤(e:Int):=(by omega);by_cases hei:e<l.length
             · have hei2:(e:Int)<(l.length:Int):=(by omega);obtain ⟨c2,hc2e⟩:∃c,l[e]? = some c:=⟨_,List.getElem?_eq_getElem hei⟩;have hxe:e<(⟨l.toArray⟩:ByteArray).size:=(by omega);have hbe:=byte_at hxe hc2e;have hdc:=drop_cons hc2e;by_cases hd:dgs.contains c2=true
               · have hdd:=(dgs_iff c2).1 hd;have g48:(48:Int)≤(((⟨l.toArray⟩:ByteArray)[e]'hxe).toNat:Int):=(by rw [hbe];omega);have g57:(((⟨l.toArray⟩:ByteArray)[e]'hxe).toNat:Int)≤57:=(by rw [hbe];omega);rw [hdc,List.takeWhile_cons,hd] at htw;rw [hdc,List.dropWhile_cons,hd] at hdw
                 have HTW:Hid ((l.drop (a+1)).takeWhile (dgs.contains ·)=(l.take (e+1)).drop (a+1)++(l.drop (e+1)).takeWhile (dgs.contains ·)):=Lib.hid (by
                  rw [htw,List.take_add_one,hc2e,List.drop_append_of_le_length (by rw [List.length_take];omega)]
                  simp)
                 have HDW:=Lib.hid hdw;clear htw hdw hdc hbe hc2e hd hdd;go_wp2_with fail
                 go_roundw
                 case rel=>exact ⟨e+1,by go_num,by omega,by omega,HTW.out,HDW.out,trivial⟩
                 case measure=>simp [intOf] <;> omega
               · have hd0:dgs.contains c2=false:=(by simpa using hd);have hdn:¬(48≤c2.toNat∧c2.toNat≤57):=fun h=>hd ((dgs_iff c2).2 h);rw [hdc,List.takeWhile_cons,hd0] at htw;rw [hdc,List.dropWhile_cons,hd0] at hdw;simp only [Bool.false_eq_true,if_false,List.append_nil] at htw hdw;rw [←hdc] at hdw;by_cases h48:48≤c2.toNat
                 · have g48:(48:Int)≤(((⟨l.toArray⟩:ByteArray)[e]'hxe).toNat:Int):=(by rw [hbe];omega);have g57:¬((((⟨l.toArray⟩:ByteArray)[e]'hxe).toNat:Int)≤57):=(by rw [hbe];omega);clear hbe hd hd0 hdn hdc hc2e;have hK:((l.take e).drop (a+1)).length=e - (a+1):=(by rw [List.length_drop,List.length_take];omega);have hext:=extract_str l (a+1) e;obtain ⟨K,hKe⟩:∃K,(l.take e).drop (a+1)=K:=⟨_,rfl⟩;rw [hKe] at hK hext htw;have hrd:=HRD.out;rw [htw,hdw] at hrd;clear htw hdw hKe;by_cases hk1:e=a+1
                   · have hK0:K=[]:=List.length_eq_zero_iff.1 (by omega);rw [hK0] at hrd;have hrd2:rdM rdN (l.drop e) (ex.set j 1)=R:=hrd;have HRE:=Lib.hid hrd2;have g1:¬((a:Int)+1<(e:Int)):=(by omega);clear hrd hrd2 hext hK0 hk1;go_wp2_with fail
                     refine (l01In_c 1 1 20 _).mono ?_;rintro e' w7 ⟨rfl,hw7⟩;rw [←hw7];clear hw7;rw [show decide ((1:Int)≤1∧(1:Int)≤20)=true from by decide];have hw1:IntKind.u8.wrap (1:Int)=1:=by decide
                     have hmo9:IsMono (ex.set j 1):=⟨by rw [List.length_set];exact hmo.1,fun z hz=>by
                      rcases List.mem_or_eq_of_mem_set hz with h | h
                      · exact hmo.2 z h
                      · omega⟩
                     obtain ⟨y,hy⟩:∃y,ex[j]? = some y:=⟨_,List.getElem?_eq_getElem (by have:=hmo.1;omega)⟩;have cE:w4.cell? ⟨gM,j,none⟩=some (.int .u8 y):=(by rw [hM.cell j];simp [exV,hy]);have fE:=hM.frozen j;have hM9:=hM.set j (.int .u8 1);have hset:(exV ex).toArray.setIfInBounds j (.int .u8 1)=(exV (ex.set j 1)).toArray:=(by simp [exV]);rw [hset] at hM9;have hb9:=hb.setCell (p:=⟨gM,j,none⟩) (by dsimp only;omega) (.int .u8 1);have hX9:=hX.far (p:=⟨gM,j,none⟩) (by dsimp only;omega) (.int .u8 1);clear hM hX hb hset hy;go_wp2_with fail
                     go_roundw
                     case rel=>exact ⟨e,ex.set j 1,rfl,by omega,HRE.out,hmo9,hM9,hX9,hb9⟩
                     case measure=>simp [intOf] <;> omega
                   · have g1:(a:Int)+1<(e:Int):=(by omega);have hKne:¬K=[]:=fun e=>(by subst e;simp at hK;omega);go_wp2_with fail
                     (try rw [hext])
                     refine (l01Number_c K _ (by omega)).mono ?_;rintro e' w8 ⟨rfl,hb8⟩;have hn:=nbD_le K;obtain ⟨nn,hnn⟩:∃nn,nbD K=nn:=⟨_,rfl⟩;have hrn:rdN K=if 1≤nn∧nn≤20 then some nn.toNat else none:=by rw [rdN,if_neg hKne,hnn]
                     rw [hnn] at hn ⊢;rw [hrn] at hrd;have hM8:=hM.keep hb8 hM.lt;have hX8:=hX.keep hb8 hX.lt;have hbb8:=bT' hb hb8 hb.size;clear hM hX hb hb8 hext hrn hnn;have hM:=hM8;have hX:=hX8;have hb:=hbb8;clear hM8 hX8 hbb8;by_cases h20:1≤nn∧nn≤20
                     · rw [if_pos h20] at hrd
                       have hrd2:rdM rdN (l.drop e) (ex.set j nn)=R:=by
                        have h3:=hrd;simp only at h3;rw [Int.toNat_of_nonneg (by omega)] at h3;exact h3
                       have HRE:=Lib.hid hrd2;clear hrd hrd2;go_wp2_with fail
                       refine (l01In_c nn 1 20 _).mono ?_;rintro e' w7 ⟨rfl,hw7⟩;rw [←hw7];clear hw7;rw [show decide ((1:Int)≤nn∧nn≤20)=true from decide_eq_true h20];have hw1:IntKind.u8.wrap nn=nn:=IntWalk.u8_in _ (by omega)
                       have hmo9:IsMono (ex.set j nn):=⟨by rw [List.length_set];exact hmo.1,fun z hz=>by
                        rcases List.mem_or_eq_of_mem_set hz with h | h
                        · exact hmo.2 z h
                        · omega⟩
                       obtain ⟨y,hy⟩:∃y,ex[j]? = some y:=⟨_,List.getElem?_eq_getElem (by have:=hmo.1;omega)⟩;have cE:w8.cell? ⟨gM,j,none⟩=some (.int .u8 y):=(by rw [hM.cell j];simp [exV,hy]);have fE:=hM.frozen j;have hM9:=hM.set j (.int .u8 nn);have hset:(exV ex).toArray.setIfInBounds j (.int .u8 nn)=(exV (ex.set j nn)).toArray:=(by simp [exV]);rw [hset] at hM9;have hb9:=hb.setCell (p:=⟨gM,j,none⟩) (by dsimp only;omega) (.int .u8 nn);have hX9:=hX.far (p:=⟨gM,j,none⟩) (by dsimp only;omega) (.int .u8 nn);clear hM hX hb hset hy;go_wp2_with fail
                       go_roundw
                       case rel=>exact ⟨e,ex.set j nn,rfl,by omega,HRE.out,hmo9,hM9,hX9,hb9⟩
                       case measure=>simp [intOf] <;> omega
                     · rw [if_neg h20] at hrd;have HF:Hid (naM l=none):=Lib.hid (by rw [HNM.out];exact hrd.symm);clear hrd;go_wp2_with fail
                       refine (l01In_c nn 1 20 _).mono ?_;rintro e' w7 ⟨rfl,hw7⟩;rw [←hw7];clear hw7;rw [show decide ((1:Int)≤nn∧nn≤20)=false from decide_eq_false h20];obtain ⟨x0,x1,x2,x3,x4,x5,x6,x7,rfl⟩:∃x0 x1 x2 x3 x4 x5 x6 x7,ex=[x0,x1,x2,x3,x4,x5,x6,x7]:=mono_list hmo;have hM':Own w8 gM 60 #[.int .u8 x0,.int .u8 x1,.int .u8 x2,.int .u8 x3,.int .u8 x4,.int .u8 x5,.int .u8 x6,.int .u8 x7]:=hM;obtain ⟨⟨a0,a1,a2,a3,a4,a5,a6,a7⟩,-⟩:=eight_cells hM';obtain ⟨⟨e0,e1,e2,e3,e4,e5,e6,e7⟩,f0,f1,f2,f3,f4,f5,f6,f7⟩:=eight_cells hX;go_wp2_with fail
                       obtain ⟨w9,hw9,hX9,hb9⟩:=eight_put (.int .u8 x0) (.int .u8 x1) (.int .u8 x2) (.int .u8 x3) (.int .u8 x4) (.int .u8 x5) (.int .u8 x6) (.int .u8 x7) hX (Nat.le_of_eq HGX.out) hb;rw [hw9];exact bodyPost_ret (results_row2 rfl _ _ gX 60 #[.int .u8 x0,.int .u8 x1,.int .u8 x2,.int .u8 x3,.int .u8 x4,.int .u8 x5,.int .u8 x6,.int .u8 x7] (0,0) _ rfl hX9 Tryz.underlying60 rfl info_mono) rfl ⟨x0,x1,x2,x3,x4,x5,x6,x7,false,rfl,hmo,RdO.no HF.out,hb9⟩
                 · have g48:¬((48:Int)≤(((⟨l.toArray⟩:ByteArray)[e]'hxe).toNat:Int)):=(by rw [hbe];omega);clear hbe hd hd0 hdn hdc hc2e;have hK:((l.take e).drop (a+1)).length=e - (a+1):=(by rw [List.length_drop,List.length_take];omega);have hext:=extract_str l (a+1) e;obtain ⟨K,hKe⟩:∃K,(l.take e).drop (a+1)=K:=⟨_,rfl⟩;rw [hKe] at hK hext htw;have hrd:=HRD.out;rw [htw,hdw] at hrd;clear htw hdw hKe;by_cases hk1:e=a+1
                   · have hK0:K=[]:=List.length_eq_zero_iff.1 (by omega);rw [hK0] at hrd;have hrd2:rdM rdN (l.drop e) (ex.set j 1)=R:=hrd;have HRE:=Lib.hid hrd2;have g1:¬((a:Int)+1<(e:Int)):=(by omega);clear hrd hrd2 hext hK0 hk1;go_wp2_with fail
                     refine (l01In_c 1 1 20 _).mono ?_;rintro e' w7 ⟨rfl,hw7⟩;rw [←hw7];clear hw7;rw [show decide ((1:Int)≤1∧(1:Int)≤20)=true from by decide];have hw1:IntKind.u8.wrap (1:Int)=1:=by decide
                     have hmo9:IsMono (ex.set j 1):=⟨by rw [List.length_set];exact hmo.1,fun z hz=>by
                      rcases List.mem_or_eq_of_mem_set hz with h | h
                      · exact hmo.2 z h
                      · omega⟩
                     obtain ⟨y,hy⟩:∃y,ex[j]? = some y:=⟨_,List.getElem?_eq_getElem (by have:=hmo.1;omega)⟩;have cE:w4.cell? ⟨gM,j,none⟩=some (.int .u8 y):=(by rw [hM.cell j];simp [exV,hy]);have fE:=hM.frozen j;have hM9:=hM.set j (.int .u8 1);have hset:(exV ex).toArray.setIfInBounds j (.int .u8 1)=(exV (ex.set j 1)).toArray:=(by simp [exV]);rw [hset] at hM9;have hb9:=hb.setCell (p:=⟨gM,j,none⟩) (by dsimp only;omega) (.int .u8 1);have hX9:=hX.far (p:=⟨gM,j,none⟩) (by dsimp only;omega) (.int .u8 1);clear hM hX hb hset hy;go_wp2_with fail
                     go_roundw
                     case rel=>exact ⟨e,ex.set j 1,rfl,by omega,HRE.out,hmo9,hM9,hX9,hb9⟩
                     case measure=>simp [intOf] <;> omega
                   · have g1:(a:Int)+1<(e:Int):=(by omega);have hKne:¬K=[]:=fun e=>(by subst e;simp at hK;omega);go_wp2_with fail
                     (try rw [hext])
                     refine (l01Number_c K _ (by omega)).mono ?_;rintro e' w8 ⟨rfl,hb8⟩;have hn:=nbD_le K;obtain ⟨nn,hnn⟩:∃nn,nbD K=nn:=⟨_,rfl⟩;have hrn:rdN K=if 1≤nn∧nn≤20 then some nn.toNat else none:=by rw [rdN,if_neg hKne,hnn]
                     rw [hnn] at hn ⊢;rw [hrn] at hrd;have hM8:=hM.keep hb8 hM.lt;have hX8:=hX.keep hb8 hX.lt;have hbb8:=bT' hb hb8 hb.size;clear hM hX hb hb8 hext hrn hnn;have hM:=hM8;have hX:=hX8;have hb:=hbb8;clear hM8 hX8 hbb8;by_cases h20:1≤nn∧nn≤20
                     · rw [if_pos h20] at hrd
                       have hrd2:rdM rdN (l.drop e) (ex.set j nn)=R:=by
                        have h3:=hrd;simp only at h3;rw [Int.toNat_of_nonneg (by omega)] at h3;exact h3
                       have HRE:=Lib.hid hrd2;clear hrd hrd2;go_wp2_with fail
                       refine (l01In_c nn 1 20 _).mono ?_;rintro e' w7 ⟨rfl,hw7⟩;rw [←hw7];clear hw7;rw [show decide ((1:Int)≤nn∧nn≤20)=true from decide_eq_true h20];have hw1:IntKind.u8.wrap nn=nn:=IntWalk.u8_in _ (by omega)
                       have hmo9:IsMono (ex.set j nn):=⟨by rw [List.length_set];exact hmo.1,fun z hz=>by
                        rcases List.mem_or_eq_of_mem_set hz with h | h
                        · exact hmo.2 z h
                        · omega⟩
                       obtain ⟨y,hy⟩:∃y,ex[j]? = some y:=⟨_,List.getElem?_eq_getElem (by have:=hmo.1;omega)⟩;have cE:w8.cell? ⟨gM,j,none⟩=some (.int .u8 y):=(by rw [hM.cell j];simp [exV,hy]);have fE:=hM.frozen j;have hM9:=hM.set j (.int .u8 nn);have hset:(exV ex).toArray.setIfInBounds j (.int .u8 nn)=(exV (ex.set j nn)).toArray:=(by simp [exV]);rw [hset] at hM9;have hb9:=hb.setCell (p:=⟨gM,j,none⟩) (by dsimp only;omega) (.int .u8 nn);have hX9:=hX.far (p:=⟨gM,j,none⟩) (by dsimp only;omega) (.int .u8 nn);clear hM hX hb hset hy;go_wp2_with fail
                       go_roundw
                       case rel=>exact ⟨e,ex.set j nn,rfl,by omega,HRE.out,hmo9,hM9,hX9,hb9⟩
                       case measure=>simp [intOf] <;> omega
                     · rw [if_neg h20] at hrd;have HF:Hid (naM l=none):=Lib.hid (by rw [HNM.out];exact hrd.symm);clear hrd;go_wp2_with fail
                       refine (l01In_c nn 1 20 _).mono ?_;rintro e' w7 ⟨rfl,hw7⟩;rw [←hw7];clear hw7;rw [show decide ((1:Int)≤nn∧nn≤20)=false from decide_eq_false h20];obtain ⟨x0,x1,x2,x3,x4,x5,x6,x7,rfl⟩:∃x0 x1 x2 x3 x4 x5 x6 x7,ex=[x0,x1,x2,x3,x4,x5,x6,x7]:=mono_list hmo;have hM':Own w8 gM 60 #[.int .u8 x0,.int .u8 x1,.int .u8 x2,.int .u8 x3,.int .u8 x4,.int .u8 x5,.int .u8 x6,.int .u8 x7]:=hM;obtain ⟨⟨a0,a1,a2,a3,a4,a5,a6,a7⟩,-⟩:=eight_cells hM';obtain ⟨⟨e0,e1,e2,e3,e4,e5,e6,e7⟩,f0,f1,f2,f3,f4,f5,f6,f7⟩:=eight_cells hX;go_wp2_with fail
                       obtain ⟨w9,hw9,hX9,hb9⟩:=eight_put (.int .u8 x0) (.int .u8 x1) (.int .u8 x2) (.int .u8 x3) (.int .u8 x4) (.int .u8 x5) (.int .u8 x6) (.int .u8 x7) hX (Nat.le_of_eq HGX.out) hb;rw [hw9];exact bodyPost_ret (results_row2 rfl _ _ gX 60 #[.int .u8 x0,.int .u8 x1,.int .u8 x2,.int .u8 x3,.int .u8 x4,.int .u8 x5,.int .u8 x6,.int .u8 x7] (0,0) _ rfl hX9 Tryz.underlying60 rfl info_mono) rfl ⟨x0,x1,x2,x3,x4,x5,x6,x7,false,rfl,hmo,RdO.no HF.out,hb9⟩
             · have hei2:¬((e:Int)<(l.length:Int)):=(by omega);have hnil:l.drop e=[]:=List.drop_eq_nil_iff.2 (by omega);rw [hnil,List.takeWhile_nil,List.append_nil] at htw;have hdw2:(l.drop (a+1)).dropWhile (dgs.contains ·)=l.drop e:=(by rw [hdw,hnil];rfl);clear hdw hnil;have hdw:=hdw2;clear hdw2;have hK:((l.take e).drop (a+1)).length=e - (a+1):=(by rw [List.length_drop,List.length_take];omega);have hext:=extract_str l (a+1) e;obtain ⟨K,hKe⟩:∃K,(l.take e).drop (a+1)=K:=⟨_,rfl⟩;rw [hKe] at hK hext htw;have hrd:=HRD.out;rw [htw,hdw] at hrd;clear htw hdw hKe;by_cases hk1:e=a+1
               · have hK0:K=[]:=List.length_eq_zero_iff.1 (by omega);rw [hK0] at hrd;have hrd2:rdM rdN (l.drop e) (ex.set j 1)=R:=hrd;have HRE:=Lib.hid hrd2;have g1:¬((a:Int)+1<(e:Int)):=(by omega);clear hrd hrd2 hext hK0 hk1;go_wp2_with fail
                 refine (l01In_c 1 1 20 _).mono ?_;rintro e' w7 ⟨rfl,hw7⟩;rw [←hw7];clear hw7;rw [show decide ((1:Int)≤1∧(1:Int)≤20)=true from by decide];have hw1:IntKind.u8.wrap (1:Int)=1:=by decide
                 have hmo9:IsMono (ex.set j 1):=⟨by rw [List.length_set];exact hmo.1,fun z hz=>by
                  rcases List.mem_or_eq_of_mem_set hz with h | h
                  · exact hmo.2 z h
                  · omega⟩
                 obtain ⟨y,hy⟩:∃y,ex[j]? = some y:=⟨_,List.getElem?_eq_getElem (by have:=hmo.1;omega)⟩;have cE:w4.cell? ⟨gM,j,none⟩=some (.int .u8 y):=(by rw [hM.cell j];simp [exV,hy]);have fE:=hM.frozen j;have hM9:=hM.set j (.int .u8 1);have hset:(exV ex).toArray.setIfInBounds j (.int .u8 1)=(exV (ex.set j 1)).toArray:=(by simp [exV]);rw [hset] at hM9;have hb9:=hb.setCell (p:=⟨gM,j,none⟩) (by dsimp only;omega) (.int .u8 1);have hX9:=hX.far (p:=⟨gM,j,none⟩) (by dsimp only;omega) (.int .u8 1);clear hM hX hb hset hy;go_wp2_with fail
                 go_roundw
                 case rel=>exact ⟨e,ex.set j 1,rfl,by omega,HRE.out,hmo9,hM9,hX9,hb9⟩
                 case measure=>simp [intOf] <;> omega
               · have g1:(a:Int)+1<(e:Int):=(by omega);have hKne:¬K=[]:=fun e=>(by subst e;simp at hK;omega);go_wp2_with fail
                 (try rw [hext])
                 refine (l01Number_c K _ (by omega)).mono ?_;rintro e' w8 ⟨rfl,hb8⟩;have hn:=nbD_le K;obtain ⟨nn,hnn⟩:∃nn,nbD K=nn:=⟨_,rfl⟩;have hrn:rdN K=if 1≤nn∧nn≤20 then some nn.toNat else none:=by rw [rdN,if_neg hKne,hnn]
                 rw [hnn] at hn ⊢;rw [hrn] at hrd;have hM8:=hM.keep hb8 hM.lt;have hX8:=hX.keep hb8 hX.lt;have hbb8:=bT' hb hb8 hb.size;clear hM hX hb hb8 hext hrn hnn;have hM:=hM8;have hX:=hX8;have hb:=hbb8;clear hM8 hX8 hbb8;by_cases h20:1≤nn∧nn≤20
                 · rw [if_pos h20] at hrd
                   have hrd2:rdM rdN (l.drop e) (ex.set j nn)=R:=by
                    have h3:=hrd;simp only at h3;rw [Int.toNat_of_nonneg (by omega)] at h3;exact h3
                   have HRE:=Lib.hid hrd2;clear hrd hrd2;go_wp2_with fail
                   refine (l01In_c nn 1 20 _).mono ?_;rintro e' w7 ⟨rfl,hw7⟩;rw [←hw7];clear hw7;rw [show decide ((1:Int)≤nn∧nn≤20)=true from decide_eq_true h20];have hw1:IntKind.u8.wrap nn=nn:=IntWalk.u8_in _ (by omega)
                   have hmo9:IsMono (ex.set j nn):=⟨by rw [List.length_set];exact hmo.1,fun z hz=>by
                    rcases List.mem_or_eq_of_mem_set hz with h | h
                    · exact hmo.2 z h
                    · omega⟩
                   obtain ⟨y,hy⟩:∃y,ex[j]? = some y:=⟨_,List.getElem?_eq_getElem (by have:=hmo.1;omega)⟩;have cE:w8.cell? ⟨gM,j,none⟩=some (.int .u8 y):=(by rw [hM.cell j];simp [exV,hy]);have fE:=hM.frozen j;have hM9:=hM.set j (.int .u8 nn);have hset:(exV ex).toArray.setIfInBounds j (.int .u8 nn)=(exV (ex.set j nn)).toArray:=(by simp [exV]);rw [hset] at hM9;have hb9:=hb.setCell (p:=⟨gM,j,none⟩) (by dsimp only;omega) (.int .u8 nn);have hX9:=hX.far (p:=⟨gM,j,none⟩) (by dsimp only;omega) (.int .u8 nn);clear hM hX hb hset hy;go_wp2_with fail
                   go_roundw
                   case rel=>exact ⟨e,ex.set j nn,rfl,by omega,HRE.out,hmo9,hM9,hX9,hb9⟩
                   case measure=>simp [intOf] <;> omega
                 · rw [if_neg h20] at hrd;have HF:Hid (naM l=none):=Lib.hid (by rw [HNM.out];exact hrd.symm);clear hrd;go_wp2_with fail
                   refine (l01In_c nn 1 20 _).mono ?_;rintro e' w7 ⟨rfl,hw7⟩;rw [←hw7];clear hw7;rw [show decide ((1:Int)≤nn∧nn≤20)=false from decide_eq_false h20];obtain ⟨x0,x1,x2,x3,x4,x5,x6,x7,rfl⟩:∃x0 x1 x2 x3 x4 x5 x6 x7,ex=[x0,x1,x2,x3,x4,x5,x6,x7]:=mono_list hmo;have hM':Own w8 gM 60 #[.int .u8 x0,.int .u8 x1,.int .u8 x2,.int .u8 x3,.int .u8 x4,.int .u8 x5,.int .u8 x6,.int .u8 x7]:=hM;obtain ⟨⟨a0,a1,a2,a3,a4,a5,a6,a7⟩,-⟩:=eight_cells hM';obtain ⟨⟨e0,e1,e2,e3,e4,e5,e6,e7⟩,f0,f1,f2,f3,f4,f5,f6,f7⟩:=eight_cells hX;go_wp2_with fail
                   obtain ⟨w9,hw9,hX9,hb9⟩:=eight_put (.int .u8 x0) (.int .u8 x1) (.int .u8 x2) (.int .u8 x3) (.int .u8 x4) (.int .u8 x5) (.int .u8 x6) (.int .u8 x7) hX (Nat.le_of_eq HGX.out) hb;rw [hw9];exact bodyPost_ret (results_row2 rfl _ _ gX 60 #[.int .u8 x0,.int .u8 x1,.int .u8 x2,.int .u8 x3,.int .u8 x4,.int .u8 x5,.int .u8 x6,.int .u8 x7] (0,0) _ rfl hX9 Tryz.underlying60 rfl info_mono) rfl ⟨x0,x1,x2,x3,x4,x5,x6,x7,false,rfl,hmo,RdO.no HF.out,hb9⟩
          · have ghi:(104:Int)<(((⟨l.toArray⟩:ByteArray)[a]'hxa).toNat:Int):=(by rw [hba];omega);have HF:Hid (naM l=none):=Lib.hid (by rw [HNM.out,←hrd,if_neg (by omega)]);clear hrd hba hc1;obtain ⟨x0,x1,x2,x3,x4,x5,x6,x7,rfl⟩:∃x0 x1 x2 x3 x4 x5 x6 x7,ex=[x0,x1,x2,x3,x4,x5,x6,x7]:=mono_list hmo;have hM':Own wr gM 60 #[.int .u8 x0,.int .u8 x1,.int .u8 x2,.int .u8 x3,.int .u8 x4,.int .u8 x5,.int .u8 x6,.int .u8 x7]:=hM;obtain ⟨⟨a0,a1,a2,a3,a4,a5,a6,a7⟩,-⟩:=eight_cells hM';obtain ⟨⟨e0,e1,e2,e3,e4,e5,e6,e7⟩,f0,f1,f2,f3,f4,f5,f6,f7⟩:=eight_cells hX;go_wp2_with fail
            obtain ⟨w9,hw9,hX9,hb9⟩:=eight_put (.int .u8 x0) (.int .u8 x1) (.int .u8 x2) (.int .u8 x3) (.int .u8 x4) (.int .u8 x5) (.int .u8 x6) (.int .u8 x7) hX (Nat.le_of_eq HGX.out) hb;rw [hw9];exact bodyPost_ret (results_row2 rfl _ _ gX 60 #[.int .u8 x0,.int .u8 x1,.int .u8 x2,.int .u8 x3,.int .u8 x4,.int .u8 x5,.int .u8 x6,.int .u8 x7] (0,0) _ rfl hX9 Tryz.underlying60 rfl info_mono) rfl ⟨x0,x1,x2,x3,x4,x5,x6,x7,false,rfl,hmo,RdO.no HF.out,hb9⟩
        · have glo:(((⟨l.toArray⟩:ByteArray)[a]'hxa).toNat:Int)<97:=(by rw [hba];omega);have HF:Hid (naM l=none):=Lib.hid (by rw [HNM.out,←hrd,if_neg (by omega)]);clear hrd hba hc1;obtain ⟨x0,x1,x2,x3,x4,x5,x6,x7,rfl⟩:∃x0 x1 x2 x3 x4 x5 x6 x7,ex=[x0,x1,x2,x3,x4,x5,x6,x7]:=mono_list hmo;have hM':Own wr gM 60 #[.int .u8 x0,.int .u8 x1,.int .u8 x2,.int .u8 x3,.int .u8 x4,.int .u8 x5,.int .u8 x6,.int .u8 x7]:=hM;obtain ⟨⟨a0,a1,a2,a3,a4,a5,a6,a7⟩,-⟩:=eight_cells hM';obtain ⟨⟨e0,e1,e2,e3,e4,e5,e6,e7⟩,f0,f1,f2,f3,f4,f5,f6,f7⟩:=eight_cells hX;go_wp2_with fail
          obtain ⟨w9,hw9,hX9,hb9⟩:=eight_put (.int .u8 x0) (.int .u8 x1) (.int .u8 x2) (.int .u8 x3) (.int .u8 x4) (.int .u8 x5) (.int .u8 x6) (.int .u8 x7) hX (Nat.le_of_eq HGX.out) hb;rw [hw9];exact bodyPost_ret (results_row2 rfl _ _ gX 60 #[.int .u8 x0,.int .u8 x1,.int .u8 x2,.int .u8 x3,.int .u8 x4,.int .u8 x5,.int .u8 x6,.int .u8 x7] (0,0) _ rfl hX9 Tryz.underlying60 rfl info_mono) rfl ⟨x0,x1,x2,x3,x4,x5,x6,x7,false,rfl,hmo,RdO.no HF.out,hb9⟩
      · have he:a=l.length:=(by omega);have hai:¬((a:Int)<(l.length:Int)):=(by omega);rw [he,List.drop_length,rdM_nil] at hrd;have HF:=Lib.hid (HNM.out.trans hrd.symm);clear hrd;obtain ⟨x0,x1,x2,x3,x4,x5,x6,x7,rfl⟩:∃x0 x1 x2 x3 x4 x5 x6 x7,ex=[x0,x1,x2,x3,x4,x5,x6,x7]:=mono_list hmo;have hM':Own wr gM 60 #[.int .u8 x0,.int .u8 x1,.int .u8 x2,.int .u8 x3,.int .u8 x4,.int .u8 x5,.int .u8 x6,.int .u8 x7]:=hM;obtain ⟨⟨a0,a1,a2,a3,a4,a5,a6,a7⟩,-⟩:=eight_cells hM';obtain ⟨⟨e0,e1,e2,e3,e4,e5,e6,e7⟩,f0,f1,f2,f3,f4,f5,f6,f7⟩:=eight_cells hX;go_wp2_with fail
        obtain ⟨w9,hw9,hX9,hb9⟩:=eight_put (.int .u8 x0) (.int .u8 x1) (.int .u8 x2) (.int .u8 x3) (.int .u8 x4) (.int .u8 x5) (.int .u8 x6) (.int .u8 x7) hX (Nat.le_of_eq HGX.out) hb;rw [hw9];exact bodyPost_ret (results_row2 rfl _ _ gX 60 #[.int .u8 x0,.int .u8 x1,.int .u8 x2,.int .u8 x3,.int .u8 x4,.int .u8 x5,.int .u8 x6,.int .u8 x7] (0,0) _ rfl hX9 Tryz.underlying60 rfl info_mono) rfl ⟨x0,x1,x2,x3,x4,x5,x6,x7,true,rfl,hmo,RdO.yes HF.out,hb9⟩
end Go.Proofs.YtfpniioegjpfeaaGreatDoor
