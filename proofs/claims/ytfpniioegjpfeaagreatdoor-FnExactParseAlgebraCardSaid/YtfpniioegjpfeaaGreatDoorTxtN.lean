
import Derived.Test.YtfpniioegjpfeaaGreatDoorTerm
import Derived.Stop.BytesEq
import Derived.Test.YtfpniioegjpfeaaGreatDoorTxtM
namespace Go.Proofs.YtfpniioegjpfeaaGreatDoor
set_option maxRecDepth 100000
open Go.RowKit Go.Deep
theorem u8s_beq {m k:List Int} (hm:∀x∈m,0≤x∧x≤255) (hk:∀x∈k,0≤x∧x≤255):(m.map (fun x=>UInt8.ofNat x.toNat)==k.map (fun x=>UInt8.ofNat x.toNat))=decide (m=k):=by
 have back:∀l:List Int,(∀x∈l,0≤x∧x≤255)→(l.map (fun x=>UInt8.ofNat x.toNat)).map (fun u=>((u.toNat:Nat):Int))=l:=by
  intro l
  induction l with
  | nil=>intro _;rfl
  | cons a l ih =>
    intro h;have ha:=h a (by simp);rw [List.map_cons,List.map_cons,ih (fun x hx=>h x (by simp [hx]))];congr 1
    rw [UInt8.toNat_ofNat',Nat.mod_eq_of_lt (by omega)];omega
 rw [Bool.eq_iff_iff,beq_iff_eq,decide_eq_true_eq]
 constructor
 · intro h;rw [←back m hm,←back k hk,h]
 · intro h;rw [h]
theorem mcells_u8 {m:List Int} (hm:∀x∈m,0≤x∧x≤255):mcells m=(m.map (fun x=>UInt8.ofNat x.toNat)).map Extern.Stop.cell:=by
 rw [mcells,List.map_map]
 apply List.map_congr_left
 intro x hx
 have ha:=hm x hx
 simp only [Function.comp_def,Extern.Stop.cell,UInt8.toNat_ofNat']
 rw [Nat.mod_eq_of_lt (by omega)]
 congr 1
 exact (Int.toNat_of_nonneg ha.1).symm
theorem eqM_run {w:World} {m k:List Int} (hm:IsMono m) (hk:IsMono k):(Op.equalIn 10000 60 (.agg (mcells m).toArray) (.agg (mcells k).toArray)).run Tryz.prog w=.ok (decide (m=k)) w:=by
 rw [mcells_u8 hm.2,mcells_u8 hk.2,←u8s_beq hm.2 hk.2]
 exact run_equalIn_bytes w 9998 60 5 8 Tryz.underlying60 Tryz.underlying5 (fun w=>by kernel_rfl) _ _ (by rw [List.length_map,hm.1]) (by rw [List.length_map,hk.1])
theorem Own.others {w w':World} {g b:Nat} {t:TypeId} {cs:Array Value} (h:Own w g t cs) (k:Lib.OthersKept 5 (some b) w w') (hg:g≠b) (ht:t≠5):Own w' g t cs:=
 k g _ h (by simpa using hg) (fun c fz e=>by
  simp only [Obj.cells.injEq] at e
  exact ht e.2.1)
theorem byteCells_one (c:UInt8) {x:Int} (h:UInt8.ofNat x.toNat=c) (h0:0≤x) (h1:x<256) (p:List UInt8):Lib.byteCells p++[.int .u8 x]=Lib.byteCells (p++[c]):=by
 rw [Lib.byteCells_append]
 congr 1
 simp only [Lib.byteCells,List.map_cons,List.map_nil,←h,UInt8.toNat_ofNat']
 rw [Nat.mod_eq_of_lt (by omega)]
 congr 2
 omega
theorem pre_zero {m:List Int}:∀k,pre m k=[]↔∀j,j<k→m.getD j 0≤0:=by
 intro k
 induction k with
 | zero=>simp [pre]
 | succ k ih =>
   rw [pre,List.append_eq_nil_iff,ih];constructor
   · rintro ⟨h1,h2⟩ j hj;by_cases e:j=k
     · subst e;by_cases h0:0<m.getD j 0
       · rw [piece,if_pos h0] at h2;simp at h2
       · omega
     · exact h1 j (by omega)
   · intro h;refine ⟨fun j hj=>h j (by omega),?_⟩;have:=h k (by omega);rw [piece,if_neg (by omega),if_neg (by omega)];rfl
theorem nameM_zero:nameM [0,0,0,0,0,0,0,0]=[49]:=by decide
theorem nameM_pre {m:List Int} (hm:IsMono m) (h:m≠[0,0,0,0,0,0,0,0]):nameM m=pre m 8∧pre m 8≠[]:=by
 have hne:pre m 8≠[]:=by
  intro e;apply h
  have:=(pre_zero 8).1 e;obtain ⟨m0,m1,m2,m3,m4,m5,m6,m7,rfl⟩:=mono8 hm;have h0:=this 0 (by omega);have h1:=this 1 (by omega);have h2:=this 2 (by omega);have h3:=this 3 (by omega);have h4:=this 4 (by omega);have h5:=this 5 (by omega);have h6:=this 6 (by omega);have h7:=this 7 (by omega);have b:=hm.2;simp only [List.mem_cons,List.not_mem_nil,or_false,forall_eq_or_imp,forall_eq] at b;simp at h0 h1 h2 h3 h4 h5 h6 h7
  simp only [List.cons.injEq,and_true];omega
 exact ⟨by rw [nameM,if_neg hne],hne⟩
theorem itoa_x {x:Int} (w:World) (h0:0≤x) (h1:x<100):Calls Tryz.prog 73 #[.int .i64 x] w fun e w'=>e=.returned (str (Lib.decDigits x.toNat))∧w'=w:=by
 have:=Tryz.strconv_Itoa_small x.toNat (by omega) w
 rwa [show ((x.toNat:Nat):Int)=x by omega] at this
theorem strCells_str (l:List UInt8):Lib.strCells ⟨l.toArray⟩=Lib.byteCells l:=by
 rw [Lib.strCells_eq]
set_option maxHeartbeats 4000000 in
theorem textOfMonomial_c {w : World} {m : List Int} (hm : IsMono m) (h20 : ∀ x ∈ m, x ≤ 20) :
    Calls Tryz.prog 49 #[monoV m] w fun e w'=>e=.returned (str (nameM m))∧Below w.heap.size w w':=by
 have hb:=bA1 w (.cells (mcells m).toArray 60)
 have hsz:(Tryz.prog.info? 60).map (·.size)=some (mcells m).toArray.size:=by rw [msize hm];exact Tryz.info_mono
 have HS:=Lib.hid hsz
 clear hsz
 have HP:=Lib.hid (fun k=>pre_len hm k)
 have hz:IsMono [0,0,0,0,0,0,0,0]:=⟨rfl,by simp⟩
 unfold monoV
 by_cases he0:m=[0,0,0,0,0,0,0,0]
 · have he : ∀ w, (Op.equalIn 10000 60 (.agg (mcells m).toArray) (.agg #[.int .u8 0, .int .u8 0, .int .u8 0, .int .u8 0, .int .u8 0, .int .u8 0, .int .u8 0, .int .u8 0])).run Tryz.prog w = .ok true w := fun w => by
     have:=eqM_run (w:=w) hm hz;rw [decide_eq_true he0] at this;exact this
   have HN:Hid (nameM m=[49]):=Lib.hid (by rw [he0];exact nameM_zero);clear he0;go_enter Tryz.func49,Tryz.ntmps49
   go_wp2_with (refine wpList_load_row rfl 60 _ rfl _ rfl 60 (mcells m).toArray (0,0) _ (heap_alloc_new w _) Tryz.underlying60 rfl HS.out ?_)
   go_ret
   exact ⟨by rw [HN.out];rfl,hb⟩
 · obtain ⟨hn1,hn2⟩:=nameM_pre hm he0;have HN:=Lib.hid hn1;have HN2:=Lib.hid hn2
   have he:∀w,(Op.equalIn 10000 60 (.agg (mcells m).toArray) (.agg #[.int .u8 0,.int .u8 0,.int .u8 0,.int .u8 0,.int .u8 0,.int .u8 0,.int .u8 0,.int .u8 0])).run Tryz.prog w=.ok false w:=fun w=>by
    have:=eqM_run (w:=w) hm hz;rw [decide_eq_false he0] at this;exact this
   clear hn1 hn2 he0;have hI0:=Lib.IsBuilderF.of (Lib.fresh_isBuilder 75 5 (w.alloc (.cells (mcells m).toArray 60)));have hb0:=bTn hb (bA1 (w.alloc (.cells (mcells m).toArray 60)) (.cells #[.pointer none,.slice none 0 0] 75));have hO:=(Own.new w 60 (mcells m).toArray).alloc (.cells #[.pointer none,.slice none 0 0] 75);go_enter Tryz.func49,Tryz.ntmps49
   go_wp2_with (first
    | (refine wpList_load_row rfl 60 _ rfl _ rfl 60 (mcells m).toArray (0,0) _ (heap_alloc_new w _) Tryz.underlying60 rfl HS.out ?_)
    | (refine wpList_load_row rfl 60 _ rfl _ rfl 60 (mcells m).toArray (0,0) _ hO Tryz.underlying60 rfl HS.out ?_))
   generalize hw2:(w.alloc (.cells (mcells m).toArray 60)).alloc (.cells #[.pointer none,.slice none 0 0] 75)=w2 at *;generalize hg1:(w.alloc (.cells (mcells m).toArray 60)).heap.size=g at *;have hg2:w.heap.size≤g:=(by rw [←hg1,sAl];omega);have hg3:g≤w2.heap.size:=(by rw [←hw2,sAl,hg1];omega);have hg4:w.heap.size+1=g:=by rw [←hg1,sAl]
   try rw [hg4]
   have HG2:=Lib.hid hg2;have HG3:=Lib.hid hg3;clear hw2 hg1 hO hb hg2 hg3 hg4
   go_loopw [10] (fun i wr=>∃k:Nat,k≤8∧i=.int .i64 k∧Lib.IsBuilderF 75 5 g g (Lib.byteCells (pre m k)) wr∧Below g w2 wr) (fun i _=>8 - (intOf i).toNat)
   case atStart=>exact ⟨0,Nat.zero_le _,rfl,hI0,Below.refl _ _⟩
   case round=>
    obtain ⟨k,hk,rfl,hI,hbr⟩:=hrel;have HR:=Lib.hid (Nat.le_trans HG3.out hbr.size);by_cases hlt:k<8
    · obtain ⟨e,he0,he1,hy,HE⟩:=mono_at hm hlt;have he2:e≤20:=h20 e (List.mem_of_getElem? HE.out);have hix:=run_index_one (P:=Tryz.prog) Tryz.underlying60 Tryz.info_u8 hlt (cs:=(mcells m).toArray) (v:=.int .u8 e) (by simpa using hy) Tryz.isAgg_u8;have HSt:=Lib.hid (pre_step HE.out);have hlp:=HP.out k;obtain ⟨p,hp⟩:∃p,pre m k=p:=⟨_,rfl⟩;rw [hp] at HSt hlp hI;clear hp hy;by_cases h0:0<e
      · obtain ⟨l,hl⟩:∃l,ltr k=l:=⟨_,rfl⟩;have HL:=Lib.hid hl;have hwk:IntKind.u8.wrap (k:Int)=(k:Int):=IntWalk.u8_in _ (by omega);have hw:IntKind.u8.wrap (97+(k:Int))=97+(k:Int):=IntWalk.u8_in _ (by omega);have hx:UInt8.ofNat (97+(k:Int)).toNat=l:=(by rw [←hl];unfold ltr;congr 1);have HX:=Lib.hid hx;have HLP:=Lib.hid hlp;clear hl hx hlp;by_cases h1:1<e
        · go_wp2_with (first
            | (go_at_call 46;refine (WriteByte_c g g _ _ _ hI (by rw [Lib.byteCells_length];have:=HLP.out;omega) HR.out).mono ?_;rintro e2 w3 ⟨rfl,hI2,hb2,-⟩;rw [byteCells_one l HX.out (by omega) (by omega)] at hI2;have HR2:=Lib.hid (Nat.le_trans HR.out hb2.size))
            | (go_at_call 73;refine (itoa_x _ (by omega) (by omega)).mono ?_;rintro e3 w4 ⟨rfl,rfl⟩)
            | (go_at_call 47;refine (WriteString_c g g _ _ _ (Or.inr hI2) (by rw [Lib.byteCells_length];have:=HLP.out;have:=dec_len e.toNat 1 (by omega);show _+(Lib.decDigits e.toNat).toArray.size≤_;simp;omega) HR2.out).mono ?_;rintro e5 w5 ⟨rfl,hI3,hb3,-⟩;rw [strCells_str,←Lib.byteCells_append] at hI3))
          go_roundw
          case rel=>exact ⟨k+1,by omega,by go_num,by rw [HSt.out,show piece k e=[l]++Lib.decDigits e.toNat by simp [piece,h0,h1,HL.out],←List.append_assoc];exact Or.inr hI3,hbr.trans (hb2.trans hb3)⟩
          case measure=>simp [intOf];omega
        · go_wp2_with (first
            | (go_at_call 46;refine (WriteByte_c g g _ _ _ hI (by rw [Lib.byteCells_length];have:=HLP.out;omega) HR.out).mono ?_;rintro e2 w3 ⟨rfl,hI2,hb2,-⟩;rw [byteCells_one l HX.out (by omega) (by omega)] at hI2))
          go_roundw
          case rel=>exact ⟨k+1,by omega,by go_num,by rw [HSt.out,show piece k e=[l] by rw [piece,if_pos h0,if_neg (by omega),HL.out];rfl];exact Or.inr hI2,hbr.trans hb2⟩
          case measure=>simp [intOf];omega
      · have h1:¬1<e:=(by omega);go_wp2_with fail
        go_roundw
        case rel=>exact ⟨k+1,by omega,by go_num,by rw [HSt.out,show piece k e=[] by rw [piece,if_neg h0,if_neg h1];rfl,List.append_nil];exact hI,hbr⟩
        case measure=>simp [intOf];omega
    · have hk8:k=8:=(by omega);subst hk8;go_wp2_with (go_at_call 50;refine (Tryz.Builder_String_any_k g g _ _ hI HR.out).mono ?_;rintro e2 w3 ⟨rfl,-,hb2,-⟩)
      go_ret
      exact ⟨by rw [HN.out];rfl,hb0.trans ((hbr.trans hb2).mono HG2.out)⟩
end Go.Proofs.YtfpniioegjpfeaaGreatDoor
