
import Derived.Test.YtfpniioegjpfeaaGreatDoorNum
import Derived.Test.YtfpniioegjpfeaaGreatDoorTxtB
import Derived.Test.YtfpniioegjpfeaaGreatDoorForm
import Derived.Lib.ItoaNum
import Derived.Lib.UnsafeStr
import Derived.Lib.Strings
import Derived.Laws.IdiomStrings
import Derived.Laws.Concat
import Derived.BigQuiet
import Derived.Deep.RegionWith
namespace Go.Proofs.YtfpniioegjpfeaaGreatDoor
set_option maxRecDepth 100000
open Go.RowKit Go.Deep
abbrev str (l:List UInt8):Value:=.string ⟨l.toArray⟩
theorem conv1 {w : World} {g : Nat} {x : Int} (h : w.cell? ⟨g, 0, none⟩ = some (.int .u8 x)) (h0 : 0 ≤ x) (h1 : x < 256) :
    (convert 73 9 (.slice (some ⟨g,0,none⟩) 1 1)).run Tryz.prog w=.ok (.string ⟨[UInt8.ofNat x.toNat].toArray⟩) w:=by
 refine run_convert_bytes_back w 73 9 5 ⟨g,0,none⟩ 1 [UInt8.ofNat x.toNat] Tryz.underlying73 Tryz.underlying5 Tryz.underlying9 (fun j hj=>?_)
 simp only [List.length_cons,List.length_nil] at hj
 obtain rfl:j=0:=by omega
 rw [show (⟨g,0,none⟩:Addr).add 0=⟨g,0,none⟩ from rfl,h]
 simp only [List.getElem_cons_zero,UInt8.toNat_ofNat']
 rw [Nat.mod_eq_of_lt (by omega)]
 congr 2
 omega
theorem cat {w:World} (a b:List UInt8) (h:a.length+b.length≤1000000000):(Op.stringOp .add ⟨a.toArray⟩ ⟨b.toArray⟩).run Tryz.prog w=.ok (str (a++b)) w:=by
 rw [run_string_add_sum w _ _ (by show a.toArray.size+b.toArray.size≤_;simp;omega),ByteArray.mk_append_mk]
 try simp
theorem dec_len:∀(n k:Nat),n<10 ^ (k+1)→(Lib.decDigits n).length≤k+1:=by
 intro n k
 induction k generalizing n with
 | zero=>intro h;rw [Lib.decDigits,dif_pos (by omega)];simp
 | succ k ih =>
   intro h;rw [Lib.decDigits];split
   · simp
   · have:=ih (n / 10) (by rw [Nat.pow_succ] at h;omega);simp
     omega
set_option maxHeartbeats 2000000 in
theorem l01Dec_c (n:Nat):∀(x:Int) (w:World),x.toNat=n→0≤x→x<1000000→Calls Tryz.prog 62 #[.int .i64 x] w fun e w'=>e=.returned (str (Lib.decDigits n))∧Below w.heap.size w w':=by
 induction n using Nat.strongRecOn with
 | _ n ih =>
   intro x w hxn h0 hn;by_cases h:x<10
   · have hD:Lib.decDigits n=[UInt8.ofNat (48+n)]:=(by rw [Lib.decDigits,dif_pos (by omega)]);have hO:=Own.new w 5 #[.int .u8 (48+x)];have hcv:=conv1 (hO.cell 0) (by omega) (by omega);have hb:=bA1 w (.cells #[.int .u8 (48+x)] 5);have hx:(48+x).toNat=48+n:=(by omega);obtain ⟨c,hc⟩:∃c,UInt8.ofNat (48+n)=c:=⟨_,rfl⟩;rw [hx,hc] at hcv;rw [hc] at hD;have HD:=Lib.hid hD;have hm:(48+x) % 256=48+x:=(by omega);have hq:IntKind.i64.wrap (48+x)=48+x:=IntWalk.i64_in _ (by omega);clear ih hx hc hD;go_enter Tryz.func62,Tryz.ntmps62
     go_wp2_with fail
     go_ret
     exact ⟨by rw [HD.out];rfl,hb⟩
   · have hD:Lib.decDigits n=Lib.decDigits (n / 10)++[UInt8.ofNat (48+n % 10)]:=(by rw [Lib.decDigits,dif_neg (by omega)]);have ih1:=fun w=>ih (n / 10) (by omega) (x / 10) w (by omega) (by omega) (by omega);have hl:=dec_len (n / 10) 5 (by omega);obtain ⟨d,hd⟩:∃d,Lib.decDigits (n / 10)=d:=⟨_,rfl⟩;obtain ⟨y,hy⟩:∃y,48+x % 10=y:=⟨_,rfl⟩;have hyb:0≤y∧y<256:=(by omega);have hyn:UInt8.ofNat (48+n % 10)=UInt8.ofNat y.toNat:=(by congr 1;omega);obtain ⟨c,hc⟩:∃c,UInt8.ofNat y.toNat=c:=⟨_,rfl⟩;rw [hd] at ih1 hl hD;rw [hyn,hc] at hD;have hw1:IntKind.i64.wrap (x / 10)=x / 10:=IntWalk.i64_in _ (by omega);have hw2:IntKind.i64.wrap y=y:=IntWalk.i64_in _ (by omega);have hw3:IntKind.u8.wrap y=y:=(by show y % 256=y;omega);have ht:x.tdiv 10=x / 10:=Int.tdiv_eq_ediv_of_nonneg h0;have hr:x.tmod 10=x % 10:=Int.tmod_eq_emod_of_nonneg h0;have hO:=Own.drew (Own.new w 5 #[.int .u8 y])
     have HCV:∀(w:World) (g:Nat),w.cell? ⟨g,0,none⟩=some (.int .u8 y)→(convert 73 9 (.slice (some ⟨g,0,none⟩) 1 1)).run Tryz.prog w=.ok (str [c]) w:=fun w g h=>by
      have:=conv1 h hyb.1 hyb.2
      rwa [hc] at this
     have hcv:=HCV _ _ (hO.cell 0);replace HCV:=Lib.hid HCV;have hb:=(bA1 w (.cells #[.int .u8 y] 5)).drew;have IH:=Lib.hid ih1;have HB:=Lib.hid hyb;have HL:=Lib.hid hl;have HD:=Lib.hid hD;clear ih hd hyn hD hl ih1 hyb hc;go_enter Tryz.func62,Tryz.ntmps62
     go_upto_region 3 with fail
     go_region_with (go_at_call 62;(first
      | (with_reducible refine (IH.out w.drew).mono ?_
         rintro e w2 ⟨rfl,hb2⟩;have hcv2:=HCV.out (w2.alloc (.cells #[.int .u8 y] 5)) _ ((Own.new w2 5 #[.int .u8 y]).cell 0);have hct2:=cat (w:=w2.alloc (.cells #[.int .u8 y] 5)) d [c] (by have:=HL.out;simp;omega);have hb3:=bTn (bTn (Below.refl _ w).drew hb2) (bA1 w2 (.cells #[.int .u8 y] 5))
         clear hcv)
      | (with_reducible refine (IH.out (w.alloc (.cells #[.int .u8 y] 5)).drew).mono ?_
         rintro e w2 ⟨rfl,hb2⟩;have hcv2:=HCV.out w2 _ ((hO.keep hb2 hO.lt).cell 0);have hct2:=cat (w:=w2) d [c] (by have:=HL.out;simp;omega)
         have hb3:=bTn hb hb2)))
     all_goals (go_wp2_with fail;go_ret;exact ⟨by rw [HD.out];rfl,hb3⟩)
def ltr (i:Nat):UInt8:=UInt8.ofNat (97+i)
def piece (i:Nat) (e:Int):List UInt8:=(if 0<e then [ltr i] else [])++(if 1<e then Lib.decDigits e.toNat else [])
def pre (m:List Int):Nat→List UInt8
 | 0=>[]
 | k+1=>pre m k++piece k (m.getD k 0)
def nameM (m:List Int):List UInt8:=if pre m 8=[] then [49] else pre m 8
theorem piece_len (i:Nat) {e:Int} (h:e≤255):(piece i e).length≤4:=by
 have:=dec_len e.toNat 2 (by omega)
 unfold piece
 split <;> split <;> simp <;> omega
theorem pre_len {m:List Int} (hm:IsMono m):∀k,(pre m k).length≤4 * k:=by
 intro k
 induction k with
 | zero=>simp [pre]
 | succ k ih =>
   have h1:m.getD k 0≤255:=by
    rw [List.getD_eq_getElem?_getD]
    cases h:m[k]? with
    | none=>simp
    | some x=>exact (hm.2 x (List.mem_of_getElem? h)).2
   have:=piece_len k h1;simp only [pre,List.length_append];omega
theorem pre_step {m:List Int} {k:Nat} {e:Int} (h:m[k]? = some e):pre m (k+1)=pre m k++piece k e:=by
 simp [pre,List.getD_eq_getElem?_getD,h]
theorem nameM_len {m:List Int} (hm:IsMono m):(nameM m).length≤32:=by
 have:=pre_len hm 8
 unfold nameM
 split <;> simp <;> omega
set_option maxHeartbeats 4000000 in
theorem l01Name_c {w : World} {m : List Int} (hm : IsMono m) (h20 : ∀ x ∈ m, x ≤ 20) :
    Calls Tryz.prog 63 #[monoV m] w fun e w'=>e=.returned (str (nameM m))∧Below w.heap.size w w':=by
 have hO:=Own.new w 60 (mcells m).toArray
 have hb:=bA1 w (.cells (mcells m).toArray 60)
 have HP:=Lib.hid (fun k=>pre_len hm k)
 unfold monoV
 go_enter Tryz.func63,Tryz.ntmps63
 go_wp2_with fail
 generalize w.alloc (.cells (mcells m).toArray 60)=w1 at *
 generalize hg:w.heap.size=g at *
 have HG:=Lib.hid hg
 clear hg
 go_loopw [3,4] (fun s i wr=>∃k:Nat,k≤8∧i=.int .i64 k∧s=str (pre m k)∧Below w1.heap.size w1 wr) (fun _ i _=>8 - (intOf i).toNat)
 case atStart=>exact ⟨0,Nat.zero_le _,rfl,rfl,Below.refl _ _⟩
 case round=>
  obtain ⟨k,hk,rfl,rfl,hbr⟩:=hrel;by_cases hlt:k<8
  · obtain ⟨e,he0,he1,hce,HE⟩:=mono_at hm hlt;have he2:e≤20:=h20 e (List.mem_of_getElem? HE.out);have HS:=Lib.hid (pre_step HE.out);have hOr:=hO.keep hbr hO.lt;have c0:=hOr.cell k;rw [List.getElem?_toArray,hce] at c0;have hlp:=HP.out k;obtain ⟨p,hp⟩:∃p,pre m k=p:=⟨_,rfl⟩;rw [hp] at HS hlp;have HPP:=Lib.hid hp;rw [hp];clear hp hce;by_cases h0:0<e
    · obtain ⟨l,hl⟩:∃l,ltr k=l:=⟨_,rfl⟩;have HL:=Lib.hid hl;have hw:IntKind.u8.wrap (97+(k:Int))=97+(k:Int):=IntWalk.u8_in _ (by omega);have hw2:IntKind.i64.wrap (97+(k:Int))=97+(k:Int):=IntWalk.i64_in _ (by omega);have hx:UInt8.ofNat (97+(k:Int)).toNat=l:=(by rw [←hl];unfold ltr;congr 1);have hcv:=conv1 ((Own.new wr 5 #[.int .u8 (97+(k:Int))]).cell 0) (by omega) (by omega);rw [hx] at hcv;have hct:=cat (w:=wr.alloc (.cells #[.int .u8 (97+(k:Int))] 5)) p [l] (by simp;omega);have hb2:=bT' hbr (bA1 wr (.cells #[.int .u8 (97+(k:Int))] 5)) hbr.size;have c1:=(hO.keep hb2 hO.lt).cell k;have c0':=c0;rw [hOr.cell k] at c0';rw [c0'] at c1;clear hl hx;by_cases h1:1<e
      · have h1':1<e:=h1;go_wp2_with (go_at_call 62;refine (l01Dec_c e.toNat e _ rfl (by omega) (by omega)).mono ?_;rintro e9 w9 ⟨rfl,hb9⟩;have hct9:=cat (w:=w9) (p++[l]) (Lib.decDigits e.toNat) (by have:=dec_len e.toNat 1 (by omega);simp;omega))
        have hb3:=bT' hb2 hb9 hb2.size
        go_roundw
        case rel=>exact ⟨k+1,by omega,by go_num,by rw [HS.out];simp [piece,h0,h1,HL.out],hb3⟩
        case measure=>simp [intOf];omega
      · go_wp2_with fail
        go_roundw
        case rel=>exact ⟨k+1,by omega,by go_num,by rw [HS.out];simp [piece,h0,h1,HL.out],hb2⟩
        case measure=>simp [intOf];omega
    · have h1:¬1<e:=(by omega);go_wp2_with fail
      go_roundw
      case rel=>exact ⟨k+1,by omega,by go_num,by rw [HS.out];simp [piece,h0,h1],hbr⟩
      case measure=>simp [intOf];omega
  · have hk8:k=8:=(by omega);subst hk8;have hnm:nameM m=if pre m 8=[] then [49] else pre m 8:=rfl
    generalize pre m 8=p at *;have HNM:=Lib.hid hnm;have hgs:=Nat.le_of_lt hO.lt;clear hnm;by_cases hp:p=[]
    · subst hp;go_wp2_with fail
      go_ret
      exact ⟨by rw [HNM.out];rfl,by rw [HG.out];exact hb.trans (hbr.mono hgs)⟩
    · have hq:p.isEmpty=false:=(by simpa using hp);go_wp2_with fail
      go_ret
      exact ⟨by rw [HNM.out,if_neg hp];rfl,by rw [HG.out];exact hb.trans (hbr.mono hgs)⟩
end Go.Proofs.YtfpniioegjpfeaaGreatDoor
