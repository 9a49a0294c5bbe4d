
import Derived.Test.YtndnkeijddagiaaSubH
import Derived.Test.YtndnkeijddagiaaNewA
import Derived.Test.YtndnkeijddagiaaClosed
namespace Go.Proofs.Ytndnkeijddagiaa
set_option maxRecDepth 100000
open Go.RowKit Go.Deep
def gensL (n:Nat):List Value:=(List.range n).map (fun i:Nat=>Value.int .i64 (i:Int))
theorem gensL_succ (n:Nat):gensL (n+1)=gensL n++[Value.int .i64 (n:Int)]:=by simp [gensL,List.range_succ]
theorem row_weaken0 {w:World} {B B' sz n:Nat} {t:TypeId} {v:Value} {xs:List Value} (h:w.ownsRow B t sz v n xs) (hB:B'≤B):w.ownsRow B' t sz v n xs:=by
 obtain ⟨hl,h1⟩:=h
 refine ⟨hl,?_⟩
 rcases h1 with h0 | ⟨g,cap,cur,hv,hb,r⟩
 · exact Or.inl h0
 · exact Or.inr ⟨g,cap,cur,hv,by omega,r⟩
theorem indexNil_c {w:World} (x:Int):Calls Try.prog 136 #[.slice none 0 0,.int .i64 x] w fun e w'=>e=.returned (.int .i64 (-1))∧Below w.heap.size w w':=by
 go_enter Try.func136,Try.ntmps136
 go_wp2_with fail
 go_loopw [8] (fun y wr=>y=.int .i64 0∧Below w.heap.size w wr) (fun y _=>0)
 case atStart=>exact ⟨rfl,Below.refl _ _⟩
 case round=>
  obtain ⟨rfl,hb⟩:=hrel;go_wp2_with fail
  go_ret
  exact ⟨rfl,hb⟩
theorem containsNil_c {w:World} (x:Int):Calls Try.prog 121 #[.slice none 0 0,.int .i64 x] w fun e w'=>e=.returned (.bool false)∧Below w.heap.size w w':=by
 go_enter Try.func121,Try.ntmps121
 go_wp2_with fail
 refine (indexNil_c x).mono ?_
 rintro e w1 ⟨rfl,hb⟩
 go_wp2_with fail
 go_ret
 exact ⟨rfl,hb⟩
set_option maxHeartbeats 1000000 in
theorem generatorsOf_c {w : World} {da : Option Addr} {dn dc : Nat} {a : Option Addr} {n c : Nat} (h8 : dn ≤ 8) :
    Calls Try.prog 95 #[.agg #[.slice da dn dc,.slice a n c],.slice none 0 0] w fun e w'=>∃g gc,e=.returned (.slice g dn gc)∧w'.ownsRow w.heap.size 2 1 (.slice g dn gc) dn (gensL dn)∧Below w.heap.size w w':=by
 obtain ⟨ti,tz,hti,htz,hts,htb,htzs⟩:=Try.info_intA
 have HI:=Lib.hid hti
 have HZ:=Lib.hid htz
 have HS:=Lib.hid hts
 have HBt:=Lib.hid htb
 have HZs:=Lib.hid htzs
 clear hti htz hts htb htzs
 have hA:=Own.new w 29 #[.slice da dn dc,.slice a n c]
 have hb:=bA1 w (.cells #[.slice da dn dc,.slice a n c] 29)
 have c0:=hA.cell 0
 go_enter Try.func95,Try.ntmps95
 go_upto_region 2 with fail
 have hlt:=hA.lt
 generalize w.alloc (.cells #[.slice da dn dc,.slice a n c] 29)=w0 at *
 go_upto_region 3 with fail
 clear c0 hA
 go_loopw [10,5] (fun y z wr=>∃(k:Nat) (g:Option Addr) (gc:Nat),k≤dn∧y=.int .i64 k∧z=.slice g k gc∧Below w.heap.size w wr∧w.heap.size<wr.heap.size∧wr.ownsRow (w.heap.size+1) 2 1 (.slice g k gc) k (gensL k)) (fun y _ _=>dn - (intOf y).toNat)
 case atStart=>exact ⟨0,none,0,Nat.zero_le _,rfl,rfl,hb,hlt,World.ownsRow_nil _ _ _ _⟩
 case round=>
  clear hb hlt;obtain ⟨k,g,gc,hk,rfl,rfl,hb,hlt,hR⟩:=hrel;have HR:=Lib.hid hR;clear hR;have hk0:(0:Int)≤(k:Int):=(by omega);by_cases hkn:k<dn
  · have hki:(k:Int)<(dn:Int):=(by omega);go_wp2_with fail
    refine (containsNil_c (k:Int)).mono ?_;rintro e w2 ⟨rfl,hb2⟩;have hb3:=bT' hb hb2 hb.size;have hlt3:=Nat.lt_of_lt_of_le hlt hb2.size;have hRx:=row_keep HR.out hb2;clear hb hb2 hlt HR
    have hnews:∀j u,([Value.int .i64 (k:Int)]:List Value)[j]? = some u→(w2.alloc (.cells #[.int .i64 (k:Int)] 2)).cell? ((⟨w2.heap.size,0,none⟩:Addr).add j)=some u:=fun j u hu=>by
     rw [Addr.add_mid];exact (Own.new w2 2 #[.int .i64 (k:Int)]).range j u hu
    have hone:∀u∈([Value.int .i64 (k:Int)]:List Value),u.oneCell'=true:=(by simp [Value.oneCell']);have HN:=Lib.hid hnews;have HO:=Lib.hid hone;have hba:=bA1 w2 (.cells #[.int .i64 (k:Int)] 2);have HR2:=Lib.hid (row_keep hRx hba);have hb4:=bT' hb3 hba hb3.size;have hlt4:=Nat.lt_of_lt_of_le hlt3 hba.size;clear hnews hone hRx hba hb3;go_upto_region 6 with fail
    go_wp2_with (refine wpList_append_own_wide _ rfl (.tmp 17) (.tmp 19) 22 rfl (w.heap.size+1) 2 ti tz 1 8 Try.underlying22 HI.out HZ.out HS.out HBt.out HZs.out (by omega) (.slice g k gc) k (gensL k) rfl HR2.out ⟨w2.heap.size,0,none⟩ 1 1 [Value.int .i64 (k:Int)] rfl rfl HN.out HO.out (by simp only [maxLen];omega) (by omega) (by rw [sAl];omega) (fun v' w' h2 h3 h4=>?_))
    have hb5:=grown_below hb4 h3 (fun j e=>by have:=(HR2.out.lt j e).1;omega) hb4.size;have hlt5:=Nat.lt_of_lt_of_le hlt4 h3.size;obtain ⟨va,vc,rfl⟩:=row_slice h2
    have hR4:w'.ownsRow (w.heap.size+1) 2 1 (.slice va (k+1) vc) (k+1) (gensL (k+1)):=by
     rw [gensL_succ];exact h2
    clear h2 h3 h4 hb4 HR2 HN HO hlt4
    go_roundw
    case rel=>exact ⟨k+1,va,vc,by omega,by go_num,rfl,hb5,hlt5,hR4⟩
    case measure=>simp [intOf] <;> omega
  · have he:k=dn:=(by omega);subst he;go_wp2_with fail
    go_ret
    exact ⟨g,gc,rfl,row_weaken0 HR.out (by omega),hb⟩
end Go.Proofs.Ytndnkeijddagiaa
