
import Derived.Test.YtefjinnpofojnaaLawApp9
import Derived.Test.YtefjinnpofojnaaAppC
import Derived.Test.YtefjinnpofojnaaAppT
namespace Go.Proofs.Ytefjinnpofojnaa
open Go.RowKit Go.Deep
theorem FrmsN.frmsP {w:World} {a:Option Addr} {n:Nat} {fss:List (List Tm)} (h:FrmsN w a n fss) (hL:∀ts∈fss,(ts.length:Int)≤1048576):Frms w a n fss:=
 ⟨h.1,fun hn=>by
  obtain ⟨b,off,ha,hlt,hc⟩:=h.2 hn;refine ⟨b,off,ha,hlt,fun i ts hi=>?_⟩;obtain ⟨ai,ni,ci,h1,h2,-⟩:=hc i ts hi
  exact ⟨ai,ni,ci,h1,h2,by have:=hL ts (List.mem_of_getElem? hi);have:=h2.len;omega⟩⟩
theorem applyDerivation_walk (da : Option Addr) (dn dc : Nat) (zs : List Int) (a : Option Addr) (n c : Nat) (fss : List (List Tm)) (k1 : Int) (a1 : Option Addr) (n1 c1 : Nat) (gss : List (List Tm)) (a2 : Option Addr) (n2 c2 : Nat) (fs : List Tm) (w : World) (hd : Ints w da dn zs) (hdm : (dn : Int) ≤ 9223372036854775807) (hF : Frms w a n fss) (hnm : (n : Int) ≤ 9223372036854775807) (h1 : Frms w a1 n1 gss) (hm1 : (n1 : Int) ≤ 9223372036854775807) (h2 : Terms w a2 n2 fs) (hm2 : (n2 : Int) ≤ 9223372036854775807) :
    Calls Try.prog 3 #[.agg #[.slice da dn dc,.slice a n c],.agg #[.int .i64 k1,.slice a1 n1 c1],.agg #[.slice a2 n2 c2]] w fun e w'=>e=.returned (.bool true)∧Below w.heap.size w w':=
 lawApp9_walk da dn dc zs a n c fss k1 a1 n1 c1 gss a2 n2 c2 fs w hd hdm hF hnm h1 hm1 h2 hm2 (apV zs fss k1 gss fs) (apE zs fss k1 gss fs) (apV zs fss k1 gss fs).length rfl
  (by have:=apV_400 (zs:=zs) (ims:=fss) (k:=k1) (gss:=gss) (fs:=fs);omega)
  (apV_tm h1.tm h2.2.1)
  (fun _ _ _ p q _ q1 _ q2 g1 g2 g3 _ _ g6 g7 f1 f2 _ f4 e1 e2=>ApplyDerivation_s p q k1 q1 q2 g6 g1 (g7.frmsP g3) g2 g3 (f4.frms f2) f1 f2 e2 e1)
  (fun _ _ _ p q _ q1 _ q2 g1 g2 g3 _ _ g6 g7 f1 f2 _ f4 e1 e2=>ApplyDerivation_c p q k1 q1 q2 g6 g1 (g7.frmsP g3) g2 g3 (f4.frms f2) f1 f2 e2 e1)
end Go.Proofs.Ytefjinnpofojnaa
