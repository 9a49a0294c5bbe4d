
import Derived.Test.YtikldofmpkidbaaAlgS
namespace Go.Proofs.Ytikldofmpkidbaa
set_option maxRecDepth 100000
open Go.RowKit Go.Deep
def Tab (w:World) (a:Option Addr) (n:Nat) (T:List (List Int)):Prop:=
 T.length=n∧(0<n→∃b off,a=some ⟨b,off,none⟩∧b<w.heap.size∧∀i r,T[i]? = some r→∃ai ci,w.cell? ⟨b,off+i,none⟩=some (.slice ai r.length ci)∧Ints w ai r.length r)
theorem Tab.keep {w w':World} {a:Option Addr} {n:Nat} {T:List (List Int)} (h:Tab w a n T) (hb:Below w.heap.size w w'):Tab w' a n T:=
 ⟨h.1,fun hn=>by
  obtain ⟨b,off,ha,hlt,hc⟩:=h.2 hn;refine ⟨b,off,ha,Nat.lt_of_lt_of_le hlt hb.size,fun i r hi=>?_⟩;obtain ⟨ai,ci,h1,h2⟩:=hc i r hi
  exact ⟨ai,ci,(hb.cell (p:=⟨b,off+i,none⟩) hlt).trans h1,h2.keep hb⟩⟩
theorem Tab.at_ {w : World} {a : Option Addr} {n : Nat} {T : List (List Int)} (h : Tab w a n T) {k : Nat} (hk : k < n) :
    ∃b off r ai mi ci,a=some ⟨b,off,none⟩∧b<w.heap.size∧w.cell? ⟨b,off+k,none⟩=some (.slice ai mi ci)∧Ints w ai mi r∧Hid (T[k]? = some r):=by
 obtain ⟨b,off,ha,hlt,hc⟩:=h.2 (by omega)
 have hk2:k<T.length:=by have:=h.1;omega
 have hx:T[k]? = some T[k]:=List.getElem?_eq_getElem hk2
 obtain ⟨ai,ci,h1,h2⟩:=hc k _ hx
 exact ⟨b,off,_,ai,_,ci,ha,hlt,h1,h2,hx⟩
set_option maxHeartbeats 1000000 in
theorem eqTab_c {w : World} {a a' : Option Addr} {n : Nat} {T : List (List Int)} (c c' : Nat) (h : Tab w a n T) (h' : Tab w a' n T) (hn : n ≤ 1048576) (hL : ∀ r ∈ T, r.length ≤ 1048576) :
    Calls Try.prog 25 #[.slice a n c,.slice a' n c'] w fun e w'=>e=.returned (.bool true)∧Below w.heap.size w w':=by
 have HLL:=Lib.hid hL
 clear hL
 go_enter Try.func25,Try.ntmps25
 go_wp2_with fail
 go_loopw [5] (fun i wr=>∃k:Nat,k≤n∧i=.int .i64 k∧Below w.heap.size w wr) (fun i _=>n - (intOf i).toNat)
 case atStart=>exact ⟨0,Nat.zero_le _,rfl,Below.refl _ _⟩
 case round=>
  obtain ⟨k,hk,rfl,hb⟩:=hrel;by_cases hlt:k<n
  · obtain ⟨b,off,r,ai,ni,ci,rfl,hbl,hc,hT,hx⟩:=(h.keep hb).at_ hlt;obtain ⟨b',off',r',ai',ni',ci',rfl,hbl',hc',hT',hx'⟩:=(h'.keep hb).at_ hlt
    obtain rfl:r=r':=by
     have:=hx.out.symm.trans hx'.out
     injection this
    obtain rfl:ni=ni':=hT.len.symm.trans hT'.len;have hni2:ni≤1048576:=(by have:=HLL.out r (List.mem_of_getElem? hx.out);have:=hT.len;omega);clear hx hx';have hi0:(0:Int)≤(k:Int):=(by omega);have hin:(k:Int)<(n:Int):=(by omega);go_upto_region 6 with fail
    replace hc:wr.drew.cell? ⟨b,off+k,none⟩=some (.slice ai ni ci):=hc;replace hc':wr.drew.cell? ⟨b',off'+k,none⟩=some (.slice ai' ni ci'):=hc';replace hT:=hT.keep ((Below.refl _ _).drew:Below wr.heap.size wr wr.drew);replace hT':=hT'.keep ((Below.refl _ _).drew:Below wr.heap.size wr wr.drew);replace hb:Below w.heap.size w wr.drew:=hb.drew;replace hbl:b<wr.drew.heap.size:=hbl;replace hbl':b'<wr.drew.heap.size:=hbl'
    go_region_held3 (fun w'=>w'.cell? ⟨b,off+k,none⟩=some (.slice ai ni ci)∧w'.cell? ⟨b',off'+k,none⟩=some (.slice ai' ni ci')) (exact ⟨hc,hc'⟩)
     (first | (go_at_call 46;refine (eqInts_c ci ci' hT hT' hni2).mono ?_;rintro e wv ⟨rfl,hbv⟩;have hb2:=bT' hb hbv hb.size;have hc2:=(World.cell?_of_block (a:=⟨b,off+k,none⟩) (hbv.block b hbl)).trans hc;have hc3:=(World.cell?_of_block (a:=⟨b',off'+k,none⟩) (hbv.block b' hbl')).trans hc';clear hc hc';have hc:=hc2;have hc':=hc3))
    go_wp2_with fail
    go_roundw
    case rel=>exact ⟨k+1,by omega,by go_num,hb2⟩
    case measure=>simp [intOf] <;> omega
  · go_wp2_with fail
    go_ret
    exact ⟨rfl,hb⟩
structure Rw where
 a:Option Addr
 m:Nat
 c:Nat
 g:Nat
 cs:Array Value
structure Tbl (w:World) (g n:Nat) (R:List Rw):Prop where
 len:R.length=n
 own:∃os:Array Value,Own w g 22 os∧∀(i:Nat) r,R[i]? = some r→os[i]? = some (Value.slice r.a r.m r.c)
 each:∀(i:Nat) r,R[i]? = some r→0<r.m→r.a=some ⟨r.g,0,none⟩∧Own w r.g 2 r.cs∧r.m≤r.cs.size
 apart:∀(i j:Nat) r s,i<j→R[i]? = some r→R[j]? = some s→0<r.m→0<s.m→r.g≠s.g
theorem Tbl.keep {w w':World} {g n:Nat} {R:List Rw} (h:Tbl w g n R) (hb:Below w.heap.size w w'):Tbl w' g n R:=
 ⟨h.len,by obtain ⟨os,h1,h2⟩:=h.own;exact ⟨os,h1.keep hb h1.lt,h2⟩,fun i r h1 h2=>by obtain ⟨h3,h4,h5⟩:=h.each i r h1 h2;exact ⟨h3,h4.keep hb h4.lt,h5⟩,h.apart⟩
theorem Tbl.touch {p:Nat→Prop} {w w':World} {g n:Nat} {R:List Rw} (h:Tbl w g n R) (ht:Touch p w w') (hg:¬p g) (hp:∀r∈R,0<r.m→¬p r.g):Tbl w' g n R:=
 ⟨h.len,by obtain ⟨os,h1,h2⟩:=h.own;exact ⟨os,ht.own h1 hg,h2⟩,fun i r h1 h2=>by obtain ⟨h3,h4,h5⟩:=h.each i r h1 h2;exact ⟨h3,ht.own h4 (hp r (List.mem_of_getElem? h1) h2),h5⟩,h.apart⟩
def totR (R:List Rw):Nat:=(R.map Rw.m).sum
theorem totR_take {R:List Rw} {k:Nat} {r:Rw} (h:R[k]? = some r):totR (R.take (k+1))=totR (R.take k)+r.m:=by
 obtain ⟨hk,rfl⟩:=List.getElem?_eq_some_iff.1 h
 rw [totR,List.take_succ_eq_append_getElem hk,List.map_append,List.sum_append]
 simp [totR]
theorem totR_le (R:List Rw) (k:Nat):totR (R.take k)≤totR R:=by
 have h:totR R=totR (R.take k)+totR (R.drop k):=by
  rw [totR,totR,totR,←List.sum_append,←List.map_append,List.take_append_drop]
 omega
def mkR (K:Int) (r:Rw):Rw:={ r with cs:=markA (mkI K) r.cs r.m }
def markT (K:Int) (R:List Rw):Nat→List Rw
 | 0=>R
 | k + 1 => match R[k]? with
   | some r=>(markT K R k).set k (mkR (K+totR (R.take k)) r)
   | none=>markT K R k
theorem markT_get {K:Int} {R:List Rw}:∀(k i:Nat),(markT K R k)[i]? = if i<k then (R[i]?).map (mkR (K+totR (R.take i))) else R[i]?
 | 0,i=>by simp [markT]
 | k + 1, i => by
   rw [markT];have ih:=fun i=>markT_get (K:=K) (R:=R) k i
   cases hk:R[k]? with
   | none =>
     have hl:R.length≤k:=(by simpa using hk);dsimp only;rw [ih i];by_cases h1:i<k
     · rw [if_pos h1,if_pos (by omega)]
     · rw [if_neg h1];have:R[i]? = none:=List.getElem?_eq_none (by omega);rw [this];simp
   | some r =>
     have hl:k<(markT K R k).length:=by
      have h1:=ih k;rw [if_neg (by omega),hk] at h1;exact (List.getElem?_eq_some_iff.1 h1).1
     dsimp only;rw [List.getElem?_set];by_cases h1:k=i
     · subst h1;rw [if_pos rfl,if_pos hl,if_pos (by omega),hk];rfl
     · rw [if_neg h1,ih i];by_cases h2:i<k
       · rw [if_pos h2,if_pos (by omega)]
       · rw [if_neg h2,if_neg (by omega)]
theorem markInt64S0_c {w:World} (a:Option Addr) (c:Nat) (K:Int):Calls Try.prog 47 #[.slice a 0 c,.int .i64 K] w fun e w'=>e=.returned (.int .i64 K)∧Below w.heap.size w w':=by
 go_enter Try.func47,Try.ntmps47
 go_wp2
 go_loopw [5,1] (fun i v wr=>i=.int .i64 0∧v=.int .i64 K∧wr=w) (fun _ _ _=>0)
 case atStart=>exact ⟨rfl,rfl,rfl⟩
 case round=>
  obtain ⟨rfl,rfl,rfl⟩:=hrel
  go_wp2
  go_ret
  exact ⟨rfl,Below.refl _ _⟩
theorem heldInt64S0_c {w:World} (a:Option Addr) (c:Nat) (K:Int):Calls Try.prog 48 #[.slice a 0 c,.int .i64 K] w fun e w'=>e=.returned (.int .i64 K)∧Below w.heap.size w w':=by
 go_enter Try.func48,Try.ntmps48
 go_wp2
 go_loopw [5,1] (fun i v wr=>i=.int .i64 0∧v=.int .i64 K∧wr=w) (fun _ _ _=>0)
 case atStart=>exact ⟨rfl,rfl,rfl⟩
 case round=>
  obtain ⟨rfl,rfl,rfl⟩:=hrel
  go_wp2
  go_ret
  exact ⟨rfl,Below.refl _ _⟩
theorem own_ne' {w:World} {g g':Nat} {t t':TypeId} {cs cs':Array Value} (h:Own w g t cs) (h':Own w g' t' cs') (hne:t≠t'):g≠g':=
 fun e=>hne (by
  have k:some (Obj.cells cs t (0,0))=some (Obj.cells cs' t' (0,0)):=(show w.heap[g]? = _ from h).symm.trans (show w.heap[g]? = _ by rw [e];exact h');cases k
  rfl)
theorem Tbl.row {w:World} {g n:Nat} {R:List Rw} (h:Tbl w g n R) {k:Nat} {r:Rw} (hr:R[k]? = some r):w.cell? ⟨g,k,none⟩=some (.slice r.a r.m r.c):=by
 obtain ⟨os,h1,h2⟩:=h.own
 rw [h1.cell k]
 exact h2 k r hr
theorem Tbl.mark {w w' : World} {g n k : Nat} {R : List Rw} {K : Int} {r : Rw} (h : Tbl w g n (markT K R k)) (hr : R[k]? = some r) (hp : 0 < r.m)
    (ho:Only r.g w w') (hm:Own w' r.g 2 (markA (mkI (K+totR (R.take k))) r.cs r.m)):Tbl w' g n (markT K R (k+1)):=by
 have hk:(markT K R k)[k]? = some r:=by rw [markT_get,if_neg (by omega),hr]
 have hkl:k<(markT K R k).length:=(List.getElem?_eq_some_iff.1 hk).1
 have hge:r.g≠g:=by
  obtain ⟨os,h1,-⟩:=h.own;exact own_ne' (h.each k r hk hp).2.1 h1 (by decide)
 have hset:markT K R (k+1)=(markT K R k).set k (mkR (K+totR (R.take k)) r):=by rw [markT,hr]
 rw [hset]
 have hget:∀(i:Nat) s,((markT K R k).set k (mkR (K+totR (R.take k)) r))[i]? = some s→(i=k∧s=mkR (K+totR (R.take k)) r)∨(¬i=k∧(markT K R k)[i]? = some s):=by
  intro i s hs;rw [List.getElem?_set] at hs;by_cases h1:k=i
  · rw [if_pos h1,if_pos (by omega)] at hs
    injection hs with hs
    exact Or.inl ⟨h1.symm,hs.symm⟩
  · rw [if_neg h1] at hs;exact Or.inr ⟨fun e=>h1 e.symm,hs⟩
 refine ⟨by rw [List.length_set];exact h.len,?_,?_,?_⟩
 · obtain ⟨os,h1,h2⟩:=h.own;refine ⟨os,ho.own h1 (fun e=>hge e.symm),fun i s hs=>?_⟩
   rcases hget i s hs with ⟨rfl,rfl⟩ | ⟨_,h3⟩
   · exact h2 _ r hk
   · exact h2 i s h3
 · intro i s hs hps
   rcases hget i s hs with ⟨rfl,rfl⟩ | ⟨h4,h3⟩
   · obtain ⟨h5,h6,h7⟩:=h.each _ r hk hp;exact ⟨h5,hm,by show r.m≤(markA _ _ _).size;rw [markA_size];exact h7⟩
   · obtain ⟨h5,h6,h7⟩:=h.each i s h3 hps;refine ⟨h5,ho.own h6 (fun e=>?_),h7⟩
     rcases Nat.lt_or_gt_of_ne h4 with h8 | h8
     · exact h.apart i k s r h8 h3 hk hps hp e
     · exact h.apart k i r s h8 hk h3 hp hps e.symm
 · intro i j a b hij ha hb hpa hpb
   rcases hget i a ha with ⟨rfl,rfl⟩ | ⟨h4,h3⟩
   · rcases hget j b hb with ⟨rfl,rfl⟩ | ⟨h6,h5⟩
     · omega
     · exact h.apart i j r b hij hk h5 hp hpb
   · rcases hget j b hb with ⟨rfl,rfl⟩ | ⟨h6,h5⟩
     · exact h.apart i j a r hij h3 hk hpa hp
     · exact h.apart i j a b hij h3 h5 hpa hpb
theorem markT_zero {K:Int} {R:List Rw} {k:Nat} {r:Rw} (hr:R[k]? = some r) (hz:r.m=0) {w:World} {g n:Nat} (h:Tbl w g n (markT K R k)):Tbl w g n (markT K R (k+1)):=by
 have e:markT K R (k+1)=(markT K R k).set k r:=by
  rw [markT,hr];obtain ⟨ra,rm,rc,rg,rcs⟩:=r;have hz':rm=0:=hz;subst hz';simp only [mkR,markA_zero]
 have hk:(markT K R k)[k]? = some r:=by rw [markT_get,if_neg (by omega),hr]
 obtain ⟨h1,h2⟩:=List.getElem?_eq_some_iff.1 hk
 rw [e,←h2,List.set_getElem_self]
 exact h
set_option maxHeartbeats 1000000 in
theorem markTab_c {w : World} {g n : Nat} {R : List Rw} {K : Int} (c : Nat) (h : Tbl w g n R) (hn : n ≤ 1048576) (hL : ∀ r ∈ R, r.m ≤ 1048576) (hs : totR R ≤ 10000000) (hK : 0 ≤ K) (hK2 : K ≤ 10000000) :
    Calls Try.prog 27 #[.slice (some ⟨g,0,none⟩) n c,.int .i64 K] w fun e w'=>e=.returned (.int .i64 (K+(totR R:Nat)))∧Tbl w' g n (markT K R n)∧Touch (fun k=>∃r∈R,0<r.m∧k=r.g) w w':=by
 have HR:=Lib.hid h.len
 have HLL:=Lib.hid hL
 have HTS:=Lib.hid hs
 clear hL hs
 go_enter Try.func27,Try.ntmps27
 go_wp2_with fail
 go_loopw [5,1] (fun i v wr=>∃k:Nat,k≤n∧i=.int .i64 k∧v=.int .i64 (K+(totR (R.take k):Nat))∧Tbl wr g n (markT K R k)∧Touch (fun k=>∃r∈R,0<r.m∧k=r.g) w wr) (fun i _ _=>n - (intOf i).toNat)
 case atStart=>exact ⟨0,Nat.zero_le _,rfl,by simp [totR],h,Touch.refl _ _⟩
 case round=>
  clear h;obtain ⟨k,hk,rfl,rfl,hT,hTo⟩:=hrel;by_cases hlt:k<n
  · obtain ⟨r,hr0⟩:∃r,R[k]? = some r:=⟨_,List.getElem?_eq_getElem (by have:=HR.out;omega)⟩;have hr:=Lib.hid hr0;have hkk:(markT K R k)[k]? = some r:=(by rw [markT_get,if_neg (by omega),hr0]);have hc:=hT.row hkk;have hml:=HLL.out r (List.mem_of_getElem? hr0);have HTK:=Lib.hid (totR_take hr0);have hst:totR (R.take k)≤10000000:=Nat.le_trans (totR_le R k) HTS.out;have hstw:totR (R.take (k+1))≤10000000:=Nat.le_trans (totR_le R (k+1)) HTS.out;obtain ⟨T,hTe⟩:∃T,totR (R.take k)=T:=⟨_,rfl⟩;have HTe:=Lib.hid hTe;rw [hTe] at hst;rw [hTe];have hi0:(0:Int)≤(k:Int):=(by omega);have hin:(k:Int)<(n:Int):=(by omega);obtain ⟨ra,rm,rc,rg,rcs⟩:=r;have hmr:rm≤1048576:=hml;have hc':wr.cell? ⟨g,k,none⟩=some (.slice ra rm rc):=hc;have HTK2:Hid (totR (R.take (k+1))=T+rm):=Lib.hid (by rw [HTK.out,HTe.out]);clear hc hml hTe hstw;by_cases hz:rm=0
    · subst hz;have hT2:=Lib.hid (markT_zero hr0 rfl hT);clear hr0 hkk;go_wp2_with fail
      refine (markInt64S0_c ra rc _).mono ?_;rintro e w1 ⟨rfl,hb1⟩;go_wp2_with fail
      go_roundw
      case rel=>exact ⟨k+1,by omega,by go_num,by rw [HTK2.out];rfl,hT2.out.keep hb1,hTo.trans (Touch.of_below hb1)⟩
      case measure=>simp [intOf] <;> omega
    · obtain ⟨h1,h2,h3⟩:=hT.each k _ hkk (by show 0<rm;omega);have h2':Own wr rg 2 rcs:=h2;have h3':rm≤rcs.size:=h3;have h1':ra=some ⟨rg,0,none⟩:=h1;clear hr0 hkk h1 h2 h3;subst h1';go_wp2_with fail
      refine (markInt64S_c rc h2' h3' (fun _=>rfl) hmr (by omega) (by omega)).mono ?_;rintro e w1 ⟨rfl,hM,hOn⟩;go_wp2_with fail
      go_roundw
      case rel=>
       refine ⟨k+1,by omega,by go_num,by rw [HTK2.out];congr 1;omega,hT.mark hr.out (by show 0<rm;omega) hOn (by rw [HTe.out];exact hM),hTo.trans ((Touch.of_only hOn).mono (fun q hq=>⟨_,List.mem_of_getElem? hr.out,by show 0<rm;omega,hq⟩))⟩
      case measure=>simp [intOf] <;> omega
  · have he:k=n:=(by omega);subst he;go_wp2_with fail
    go_ret
    exact ⟨ret_i (by rw [List.take_of_length_le (Nat.le_of_eq HR.out)]),hT,hTo⟩
set_option maxHeartbeats 1000000 in
theorem heldTab_c {w : World} {g n : Nat} {R : List Rw} {K : Int} (c : Nat) (h : Tbl w g n (markT K R n)) (hl : R.length = n) (hfit : ∀ (i : Nat) r, R[i]? = some r → r.m ≤ r.cs.size) (hn : n ≤ 1048576) (hL : ∀ r ∈ R, r.m ≤ 1048576) (hs : totR R ≤ 10000000) (hK : 0 ≤ K) (hK2 : K ≤ 10000000) :
    Calls Try.prog 28 #[.slice (some ⟨g,0,none⟩) n c,.int .i64 K] w fun e w'=>e=.returned (.int .i64 (K+(totR R:Nat)))∧Below w.heap.size w w':=by
 have HR:=Lib.hid hl
 have HLL:=Lib.hid hL
 have HTS:=Lib.hid hs
 have HH:=Lib.hid h
 have HF:=Lib.hid hfit
 clear hL hs hl h hfit
 go_enter Try.func28,Try.ntmps28
 go_wp2_with fail
 go_loopw [5,1] (fun i v wr=>∃k:Nat,k≤n∧i=.int .i64 k∧v=.int .i64 (K+(totR (R.take k):Nat))∧Below w.heap.size w wr) (fun i _ _=>n - (intOf i).toNat)
 case atStart=>exact ⟨0,Nat.zero_le _,rfl,by simp [totR],Below.refl _ _⟩
 case round=>
  obtain ⟨k,hk,rfl,rfl,hb⟩:=hrel;by_cases hlt:k<n
  · obtain ⟨r,hr0⟩:∃r,R[k]? = some r:=⟨_,List.getElem?_eq_getElem (by have:=HR.out;omega)⟩;have hkk:(markT K R n)[k]? = some (mkR (K+totR (R.take k)) r):=(by rw [markT_get,if_pos hlt,hr0];rfl);have hT:=HH.out.keep hb;have hc:=hT.row hkk;have hml:=HLL.out r (List.mem_of_getElem? hr0);have HTK:=Lib.hid (totR_take hr0);have hst:totR (R.take k)≤10000000:=Nat.le_trans (totR_le R k) HTS.out;have hft:=HF.out k r hr0;obtain ⟨T,hTe⟩:∃T,totR (R.take k)=T:=⟨_,rfl⟩;have HTe:=Lib.hid hTe;rw [hTe] at hst hkk;rw [hTe];have hi0:(0:Int)≤(k:Int):=(by omega);have hin:(k:Int)<(n:Int):=(by omega);obtain ⟨ra,rm,rc,rg,rcs⟩:=r;have hmr:rm≤1048576:=hml;have hft':rm≤rcs.size:=hft;have hc':wr.cell? ⟨g,k,none⟩=some (.slice ra rm rc):=hc;have HTK2:Hid (totR (R.take (k+1))=T+rm):=Lib.hid (by rw [HTK.out,HTe.out]);clear hc hml hTe hft;by_cases hz:rm=0
    · subst hz;clear hr0 hkk hT;have hkn:¬(K+(T:Int)<0):=(by omega);go_wp2_with fail
      refine (heldInt64S0_c ra rc _).mono ?_;rintro e w1 ⟨rfl,hb1⟩;go_wp2_with fail
      go_roundw
      case rel=>exact ⟨k+1,by omega,by go_num,by rw [HTK2.out];rfl,bT' hb hb1 hb.size⟩
      case measure=>simp [intOf] <;> omega
    · obtain ⟨h1,h2,h3⟩:=hT.each k _ hkk (by show 0<rm;omega);have h2':Own wr rg 2 (markA (mkI (K+T)) rcs rm):=h2;have h1':ra=some ⟨rg,0,none⟩:=h1;clear hr0 hkk h1 h2 h3 hT;subst h1';have hkn:¬(K+(T:Int)+(rm:Int)<0):=(by omega);go_wp2_with fail
      refine (heldInt64S_c rc h2' hft' (fun _=>rfl) hmr (by omega) (by omega)).mono ?_;rintro e w1 ⟨rfl,hb1⟩;go_wp2_with fail
      go_roundw
      case rel=>exact ⟨k+1,by omega,by go_num,by rw [HTK2.out];congr 1;omega,bT' hb hb1 hb.size⟩
      case measure=>simp [intOf] <;> omega
  · have he:k=n:=(by omega);subst he;go_wp2_with fail
    go_ret
    exact ⟨ret_i (by rw [List.take_of_length_le (Nat.le_of_eq HR.out)]),hb⟩
def OwnT (w:World) (lo hi:Nat) (a:Option Addr) (n:Nat) (V:List (List Int)):Prop:=
 V.length=n∧(0<n→∃g R,a=some ⟨g,0,none⟩∧lo≤g∧g<hi∧Tbl w g n R∧(∀r∈R,0<r.m→lo≤r.g∧r.g<hi)∧R.map Rw.m=V.map List.length∧∀(i:Nat) r row,R[i]? = some r→V[i]? = some row→Ints w r.a r.m row)
def totV (V:List (List Int)):Nat:=(V.map List.length).sum
section
variable {w w':World} {lo hi n:Nat} {a:Option Addr} {V:List (List Int)}
theorem OwnT.none_:OwnT w lo hi none 0 []:=⟨rfl,fun h=>absurd h (by omega)⟩
theorem OwnT.keep (h:OwnT w lo hi a n V) (hb:Below w.heap.size w w'):OwnT w' lo hi a n V:=
 ⟨h.1,fun hn=>by
  obtain ⟨g,R,h1,h2,h3,h4,h5,h6,h7⟩:=h.2 hn
  exact ⟨g,R,h1,h2,h3,h4.keep hb,h5,h6,fun i r row hr hv=>(h7 i r row hr hv).keep hb⟩⟩
theorem OwnT.weaken {lo' hi':Nat} (h:OwnT w lo hi a n V) (k1:lo'≤lo) (k2:hi≤hi'):OwnT w lo' hi' a n V:=
 ⟨h.1,fun hn=>by
  obtain ⟨g,R,h1,h2,h3,h4,h5,h6⟩:=h.2 hn
  exact ⟨g,R,h1,by omega,by omega,h4,fun r hr hm=>by have:=h5 r hr hm;omega,h6⟩⟩
theorem OwnT.touch {p:Nat→Prop} (h:OwnT w lo hi a n V) (ht:Touch p w w') (hp:∀g,lo≤g→g<hi→¬p g):OwnT w' lo hi a n V:=
 ⟨h.1,fun hn=>by
  obtain ⟨g,R,h1,h2,h3,h4,h5,h6,h7⟩:=h.2 hn;refine ⟨g,R,h1,h2,h3,h4.touch ht (hp g h2 h3) (fun r hr hm=>hp r.g (h5 r hr hm).1 (h5 r hr hm).2),h5,h6,fun i r row hr hv=>?_⟩;have hI:=h7 i r row hr hv;refine ⟨hI.1,fun hm=>?_⟩;obtain ⟨b,off,e,hb,hc⟩:=hI.2 hm;obtain ⟨e2,h8,-⟩:=h4.each i r hr hm;have hbg:b=r.g:=(by rw [e] at e2;injection e2 with e2;injection e2);have hq:=h5 r (List.mem_of_getElem? hr) hm
  exact ⟨b,off,e,Nat.lt_of_lt_of_le hb ht.below.size,fun k hk=>(World.cell?_of_block (a:=⟨b,off+k,none⟩) (ht.other b hb (by rw [hbg];exact hp r.g hq.1 hq.2))).trans (hc k hk)⟩⟩
theorem OwnT.tab (h:OwnT w lo hi a n V):Tab w a n V:=
 ⟨h.1,fun hn=>by
  obtain ⟨g,R,rfl,h2,h3,h4,h5,h6,h7⟩:=h.2 hn;obtain ⟨os,ho,-⟩:=h4.own;refine ⟨g,0,rfl,ho.lt,fun i row hi=>?_⟩;have hl:R.length=V.length:=(by rw [h4.len,h.1]);have hiv:=(List.getElem?_eq_some_iff.1 hi).1;have hr:R[i]? = some (R[i]'(by omega)):=List.getElem?_eq_getElem (by omega)
  have hm:(R[i]'(by omega)).m=row.length:=by
   have e:=congrArg (fun l=>l[i]?) h6;simp only [List.getElem?_map,hr,hi,Option.map_some] at e
   injection e
  refine ⟨_,(R[i]'(by omega)).c,?_,hm ▸ h7 i _ row hr hi⟩
  rw [Nat.zero_add,h4.row hr,hm]⟩
theorem totR_of {R:List Rw} (h:R.map Rw.m=V.map List.length):totR R=totV V:=by rw [totR,totV,h]
end
def MarkedT (w:World) (a:Option Addr) (n:Nat) (K:Int) (tot:Nat):Prop:=
 (n=0∧tot=0)∨∃g R,a=some ⟨g,0,none⟩∧Tbl w g n (markT K R n)∧R.length=n∧(∀(i:Nat) r,R[i]? = some r→r.m≤r.cs.size)∧(∀r∈R,r.m≤1048576)∧totR R=tot
theorem MarkedT.keep {w w':World} {a:Option Addr} {n:Nat} {K:Int} {tot:Nat} (h:MarkedT w a n K tot) (hb:Below w.heap.size w w'):MarkedT w' a n K tot:=by
 rcases h with h | ⟨g,R,h1,h2,h3⟩
 · exact Or.inl h
 · exact Or.inr ⟨g,R,h1,h2.keep hb,h3⟩
theorem markTab0_c {w:World} (a:Option Addr) (c:Nat) (K:Int):Calls Try.prog 27 #[.slice a 0 c,.int .i64 K] w fun e w'=>e=.returned (.int .i64 K)∧Below w.heap.size w w':=by
 go_enter Try.func27,Try.ntmps27
 go_wp2
 go_loopw [5,1] (fun i v wr=>i=.int .i64 0∧v=.int .i64 K∧wr=w) (fun _ _ _=>0)
 case atStart=>exact ⟨rfl,rfl,rfl⟩
 case round=>
  obtain ⟨rfl,rfl,rfl⟩:=hrel
  go_wp2
  go_ret
  exact ⟨rfl,Below.refl _ _⟩
theorem heldTab0_c {w:World} (a:Option Addr) (c:Nat) (K:Int):Calls Try.prog 28 #[.slice a 0 c,.int .i64 K] w fun e w'=>e=.returned (.int .i64 K)∧Below w.heap.size w w':=by
 go_enter Try.func28,Try.ntmps28
 go_wp2
 go_loopw [5,1] (fun i v wr=>i=.int .i64 0∧v=.int .i64 K∧wr=w) (fun _ _ _=>0)
 case atStart=>exact ⟨rfl,rfl,rfl⟩
 case round=>
  obtain ⟨rfl,rfl,rfl⟩:=hrel
  go_wp2
  go_ret
  exact ⟨rfl,Below.refl _ _⟩
theorem markTabR_c {w : World} {lo hi n : Nat} {a : Option Addr} {V : List (List Int)} {K : Int} (c : Nat) (h : OwnT w lo hi a n V) (hn : n ≤ 1048576) (hL : ∀ r ∈ V, r.length ≤ 1048576) (hs : totV V ≤ 10000000) (hK : 0 ≤ K) (hK2 : K ≤ 10000000) :
    Calls Try.prog 27 #[.slice a n c,.int .i64 K] w fun e w'=>e=.returned (.int .i64 (K+(totV V:Nat)))∧MarkedT w' a n K (totV V)∧Touch (fun k=>lo≤k∧k<hi) w w':=by
 by_cases h0:n=0
 · subst h0;have hV:V=[]:=List.eq_nil_of_length_eq_zero h.1;subst hV;refine (markTab0_c a c K).mono ?_;rintro e w' ⟨rfl,hb⟩;exact ⟨ret_i (by simp [totV]),Or.inl ⟨rfl,rfl⟩,Touch.of_below hb⟩
 · obtain ⟨g,R,rfl,h2,h3,h4,h5,h6,h7⟩:=h.2 (by omega)
   have hlR:∀r∈R,r.m≤1048576:=by
    intro r hr;have:r.m∈V.map List.length:=(by rw [←h6];exact List.mem_map_of_mem hr);obtain ⟨row,h8,h9⟩:=List.mem_map.1 this;rw [←h9];exact hL row h8
   refine (markTab_c c h4 hn hlR (by rw [totR_of h6];exact hs) hK hK2).mono ?_;rintro e w' ⟨rfl,hM,hT⟩;refine ⟨by rw [totR_of h6],Or.inr ⟨g,R,rfl,hM,h4.len,?_,hlR,totR_of h6⟩,hT.mono ?_⟩
   · intro i r hr;by_cases hm:0<r.m
     · exact (h4.each i r hr hm).2.2
     · omega
   · rintro k ⟨r,hr,hm,rfl⟩;exact h5 r hr hm
theorem heldTabR_c {w : World} {n tot : Nat} {a : Option Addr} {K : Int} (c : Nat) (h : MarkedT w a n K tot) (hn : n ≤ 1048576) (hs : tot ≤ 10000000) (hK : 0 ≤ K) (hK2 : K ≤ 10000000) :
    Calls Try.prog 28 #[.slice a n c,.int .i64 K] w fun e w'=>e=.returned (.int .i64 (K+(tot:Nat)))∧Below w.heap.size w w':=by
 rcases h with ⟨rfl,rfl⟩ | ⟨g,R,rfl,h2,h3,h4,h5,rfl⟩
 · refine (heldTab0_c a c K).mono ?_;rintro e w' ⟨rfl,hb⟩;exact ⟨ret_i (by simp),hb⟩
 · exact heldTab_c c h2 h3 h4 hn h5 hs hK hK2
end Go.Proofs.Ytikldofmpkidbaa
