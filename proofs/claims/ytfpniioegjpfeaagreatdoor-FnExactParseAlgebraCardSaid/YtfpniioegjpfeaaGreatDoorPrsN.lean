
import Derived.Test.YtfpniioegjpfeaaGreatDoorPrsM
namespace Go.Proofs.YtfpniioegjpfeaaGreatDoor
set_option maxRecDepth 100000
open Go.RowKit Go.Deep
theorem byte_at {l:List UInt8} {k:Nat} (h:k<(⟨l.toArray⟩:ByteArray).size) {c:UInt8} (hc:l[k]? = some c):(⟨l.toArray⟩:ByteArray)[k]'h=c:=by
 have h2:k<l.length:=by simpa [ByteArray.size] using h
 rw [List.getElem?_eq_getElem h2] at hc
 cases hc
 rfl
theorem nbS_step {l:List UInt8} {k:Nat} {c:UInt8} {v:Int} (hc:l[k]? = some c):nbS v (l.drop k)=if 48≤c.toNat∧c.toNat≤57 then nbS (v * 10+((c.toNat:Int) - 48)) (l.drop (k+1)) else none:=by
 have h2:k<l.length:=by
  rcases Nat.lt_or_ge k l.length with h | h
  · exact h
  · rw [List.getElem?_eq_none h] at hc;cases hc
 rw [List.getElem?_eq_getElem h2] at hc
 cases hc
 rw [List.drop_eq_getElem_cons h2,nbS]
theorem pow10_le (k:Nat) (h:k≤8):(10:Int) ^ k≤100000000:=by
 rcases (by omega:k=0∨k=1∨k=2∨k=3∨k=4∨k=5∨k=6∨k=7∨k=8) with rfl | rfl | rfl | rfl | rfl | rfl | rfl | rfl | rfl <;> decide
set_option maxHeartbeats 4000000 in
theorem l01Number_c (l : List UInt8) (w : World) (hl : l.length ≤ 1048576) :
    Calls Tryz.prog 38 #[str l] w fun e w'=>e=.returned (.int .i64 (nbD l))∧Below w.heap.size w w':=by
 have hsz:(⟨l.toArray⟩:ByteArray).size=l.length:=by simp [ByteArray.size]
 by_cases h0:l.length=0
 · have hl0:l=[]:=List.length_eq_zero_iff.1 h0;subst hl0;go_enter Tryz.func38,Tryz.ntmps38
   go_wp2_with fail
   go_ret
   exact ⟨rfl,Below.refl _ _⟩
 have g0:((l.length:Int)==0)=false:=by simp only [beq_eq_false_iff_ne,ne_eq];omega
 by_cases h9:9<l.length
 · have g9:(9:Int)<(l.length:Int):=(by omega);have HN:Hid (nbD l=-1):=Lib.hid (by rw [nbD,if_pos (Or.inr (Or.inl h9))]);go_enter Tryz.func38,Tryz.ntmps38
   go_wp2_with fail
   go_ret
   exact ⟨by rw [HN.out];rfl,Below.refl _ _⟩
 have g9:¬(9:Int)<(l.length:Int):=by omega
 obtain ⟨c0,hc0⟩:∃c,l[0]? = some c:=⟨_,List.getElem?_eq_getElem (by omega)⟩
 have hx0:0<(⟨l.toArray⟩:ByteArray).size:=by omega
 have hb0:=byte_at hx0 hc0
 have hhead:l.head? = some c0:=by rw [←hc0];cases l <;> rfl
 by_cases h1:1<l.length∧c0=48
 · have g1:(1:Int)<(l.length:Int):=(by omega);have gB:((((⟨l.toArray⟩:ByteArray)[0]'hx0).toNat:Int)==48)=true:=(by rw [hb0,h1.2];rfl);have HN:Hid (nbD l=-1):=Lib.hid (by rw [nbD,if_pos (Or.inr (Or.inr ⟨h1.1,by rw [hhead,h1.2]⟩))]);clear hb0;go_enter Tryz.func38,Tryz.ntmps38
   go_wp2_with fail
   go_ret
   exact ⟨by rw [HN.out];rfl,Below.refl _ _⟩
 · have HN:Hid (nbD l=(nbS 0 l).getD (-1)):=Lib.hid (by rw [nbD,if_neg (by rw [hhead];rintro (h | h | ⟨h,h2⟩);exact h0 h;exact h9 h;exact h1 ⟨h,by simpa using h2⟩)])
   have hfin:Calls Tryz.prog 38 #[str l] w fun e w'=>e=.returned (.int .i64 ((nbS 0 l).getD (-1)))∧Below w.heap.size w w':=by
    obtain ⟨R,hR⟩:∃R,nbS 0 l=R:=⟨_,rfl⟩;rw [hR];have HR:=Lib.hid hR;clear hR HN;have loop:True:=trivial
    have gB:(1:Int)<(l.length:Int)→((((⟨l.toArray⟩:ByteArray)[0]'hx0).toNat:Int)==48)=false:=fun h=>by
     rw [hb0];have:¬c0=48:=fun e=>h1 ⟨by omega,e⟩;simp only [beq_eq_false_iff_ne,ne_eq];intro e;exact this (UInt8.toNat_inj.1 (by have:(48:UInt8).toNat=48:=rfl;omega))
    clear loop hb0;go_enter Tryz.func38,Tryz.ntmps38
    by_cases g1:(1:Int)<(l.length:Int)
    · have gB2:=gB g1;clear gB;go_upto_region 5 with fail
      go_loopw [3,4] (fun x y wr=>∃(k:Nat) (v:Int),k≤l.length∧y=.int .i64 k∧x=.int .i64 v∧0≤v∧v<10 ^ k∧nbS v (l.drop k)=R∧wr=w) (fun _ y _=>l.length - (intOf y).toNat)
      case atStart=>exact ⟨0,0,Nat.zero_le _,rfl,rfl,by omega,by decide,by rw [List.drop_zero];exact HR.out,rfl⟩
      case round=>
       obtain ⟨k,v,hk,rfl,rfl,hv0,hv1,hrd,rfl⟩:=hrel;have hk0:(0:Int)≤(k:Int):=(by omega);by_cases hkl:k<l.length
       · have hki:(k:Int)<(l.length:Int):=(by omega);obtain ⟨c,hc⟩:∃c,l[k]? = some c:=⟨_,List.getElem?_eq_getElem hkl⟩;have hxk:k<(⟨l.toArray⟩:ByteArray).size:=(by omega);have hbk:=byte_at hxk hc;rw [nbS_step hc] at hrd;have hc2:=c.toNat_lt
         have hpw:(10:Int) ^ k≤100000000:=by
          exact pow10_le k (by omega)
         have hps:(10:Int) ^ (k+1)=10 ^ k * 10:=Int.pow_succ 10 k;obtain ⟨z,hz⟩:∃z:Int,(10:Int) ^ k=z:=⟨_,rfl⟩;rw [hz] at hpw hps hv1;have HPS:=Lib.hid hps;clear hps hz;by_cases ha:48≤c.toNat
         · have ga:¬((((⟨l.toArray⟩:ByteArray)[k]'hxk).toNat:Int)<48):=(by rw [hbk];omega);by_cases hb:c.toNat≤57
           · have gb:¬((57:Int)<(((⟨l.toArray⟩:ByteArray)[k]'hxk).toNat:Int)):=(by rw [hbk];omega);rw [if_pos ⟨ha,hb⟩] at hrd;have HRD:=Lib.hid hrd;have hw8:IntKind.u8.wrap ((((⟨l.toArray⟩:ByteArray)[k]'hxk).toNat:Int) - 48)=(c.toNat:Int) - 48:=(by rw [hbk];exact IntWalk.u8_in _ (by omega));have HBK:=Lib.hid hbk;clear hrd hbk hc;go_wp2_with fail
             go_roundw
             case rel=>exact ⟨k+1,v * 10+((c.toNat:Int) - 48),by omega,by go_num,by go_num,by omega,by rw [HPS.out];omega,HRD.out,trivial⟩
             case measure=>simp [intOf] <;> omega
           · have gb:(57:Int)<(((⟨l.toArray⟩:ByteArray)[k]'hxk).toNat:Int):=(by rw [hbk];omega);have HRN:Hid (R=none):=Lib.hid (by rw [←hrd,if_neg (by omega)]);clear hrd hbk hc;go_wp2_with fail
             go_ret
             exact ⟨by rw [HRN.out];rfl,Below.refl _ _⟩
         · have ga:(((⟨l.toArray⟩:ByteArray)[k]'hxk).toNat:Int)<48:=(by rw [hbk];omega);have HRN:Hid (R=none):=Lib.hid (by rw [←hrd,if_neg (by omega)]);clear hrd hbk hc;go_wp2_with fail
           go_ret
           exact ⟨by rw [HRN.out];rfl,Below.refl _ _⟩
       · have he:k=l.length:=(by omega);subst he;rw [List.drop_length,nbS] at hrd;have HRS:=Lib.hid hrd;clear hrd;go_wp2_with fail
         go_ret
         exact ⟨by rw [←HRS.out];rfl,Below.refl _ _⟩
    · clear gB;go_upto_region 5 with fail
      go_loopw [3,4] (fun x y wr=>∃(k:Nat) (v:Int),k≤l.length∧y=.int .i64 k∧x=.int .i64 v∧0≤v∧v<10 ^ k∧nbS v (l.drop k)=R∧wr=w) (fun _ y _=>l.length - (intOf y).toNat)
      case atStart=>exact ⟨0,0,Nat.zero_le _,rfl,rfl,by omega,by decide,by rw [List.drop_zero];exact HR.out,rfl⟩
      case round=>
       obtain ⟨k,v,hk,rfl,rfl,hv0,hv1,hrd,rfl⟩:=hrel;have hk0:(0:Int)≤(k:Int):=(by omega);by_cases hkl:k<l.length
       · have hki:(k:Int)<(l.length:Int):=(by omega);obtain ⟨c,hc⟩:∃c,l[k]? = some c:=⟨_,List.getElem?_eq_getElem hkl⟩;have hxk:k<(⟨l.toArray⟩:ByteArray).size:=(by omega);have hbk:=byte_at hxk hc;rw [nbS_step hc] at hrd;have hc2:=c.toNat_lt
         have hpw:(10:Int) ^ k≤100000000:=by
          exact pow10_le k (by omega)
         have hps:(10:Int) ^ (k+1)=10 ^ k * 10:=Int.pow_succ 10 k;obtain ⟨z,hz⟩:∃z:Int,(10:Int) ^ k=z:=⟨_,rfl⟩;rw [hz] at hpw hps hv1;have HPS:=Lib.hid hps;clear hps hz;by_cases ha:48≤c.toNat
         · have ga:¬((((⟨l.toArray⟩:ByteArray)[k]'hxk).toNat:Int)<48):=(by rw [hbk];omega);by_cases hb:c.toNat≤57
           · have gb:¬((57:Int)<(((⟨l.toArray⟩:ByteArray)[k]'hxk).toNat:Int)):=(by rw [hbk];omega);rw [if_pos ⟨ha,hb⟩] at hrd;have HRD:=Lib.hid hrd;have hw8:IntKind.u8.wrap ((((⟨l.toArray⟩:ByteArray)[k]'hxk).toNat:Int) - 48)=(c.toNat:Int) - 48:=(by rw [hbk];exact IntWalk.u8_in _ (by omega));have HBK:=Lib.hid hbk;clear hrd hbk hc;go_wp2_with fail
             go_roundw
             case rel=>exact ⟨k+1,v * 10+((c.toNat:Int) - 48),by omega,by go_num,by go_num,by omega,by rw [HPS.out];omega,HRD.out,trivial⟩
             case measure=>simp [intOf] <;> omega
           · have gb:(57:Int)<(((⟨l.toArray⟩:ByteArray)[k]'hxk).toNat:Int):=(by rw [hbk];omega);have HRN:Hid (R=none):=Lib.hid (by rw [←hrd,if_neg (by omega)]);clear hrd hbk hc;go_wp2_with fail
             go_ret
             exact ⟨by rw [HRN.out];rfl,Below.refl _ _⟩
         · have ga:(((⟨l.toArray⟩:ByteArray)[k]'hxk).toNat:Int)<48:=(by rw [hbk];omega);have HRN:Hid (R=none):=Lib.hid (by rw [←hrd,if_neg (by omega)]);clear hrd hbk hc;go_wp2_with fail
           go_ret
           exact ⟨by rw [HRN.out];rfl,Below.refl _ _⟩
       · have he:k=l.length:=(by omega);subst he;rw [List.drop_length,nbS] at hrd;have HRS:=Lib.hid hrd;clear hrd;go_wp2_with fail
         go_ret
         exact ⟨by rw [←HRS.out];rfl,Below.refl _ _⟩
   refine hfin.mono ?_;rintro e w' ⟨rfl,hb⟩;exact ⟨by rw [HN.out],hb⟩
end Go.Proofs.YtfpniioegjpfeaaGreatDoor
