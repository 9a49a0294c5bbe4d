
import Derived.Test.YtdppjlndcacfnaaGreatLawDf9
import Derived.Test.YtdppjlndcacfnaaGreatDf9C
import Derived.Test.YtdppjlndcacfnaaGreatDf9S
namespace Go.Proofs.YtdppjlndcacfnaaGreat
open Go.RowKit Go.Deep
theorem FrmsN.frmsDf {w:World} {a:Option Addr} {n:Nat} {fss:List (List Tm)} (h:FrmsN w a n fss) (hL:∀ts∈fss,(ts.length:Int)≤1048576):Frms w a n fss:=
 ⟨h.1,fun hn=>by
  obtain ⟨b,off,ha,hlt,hc⟩:=h.2 hn;refine ⟨b,off,ha,hlt,fun i ts hi=>?_⟩;obtain ⟨ai,ni,ci,h1,h2,-⟩:=hc i ts hi
  exact ⟨ai,ni,ci,h1,h2,by have:=hL ts (List.mem_of_getElem? hi);have:=h2.len;omega⟩⟩
theorem differentialOfDerivation_walk (da : Option Addr) (dn dc : Nat) (zs : List Int) (a : Option Addr) (n c : Nat) (fss : List (List Tm)) (k1 : Int) (a1 : Option Addr) (n1 c1 : Nat) (gss : List (List Tm)) (w : World) (hd : Ints w da dn zs) (hdm : (dn : Int) ≤ 9223372036854775807) (hF : Frms w a n fss) (hnm : (n : Int) ≤ 9223372036854775807) (h1 : Frms w a1 n1 gss) (hm1 : (n1 : Int) ≤ 9223372036854775807) :
    Calls Tryz.prog 4 #[.agg #[.slice da dn dc,.slice a n c],.agg #[.int .i64 k1,.slice a1 n1 c1]] w fun e w'=>e=.returned (.bool true)∧Below w.heap.size w w':=
 lawDf9_walk da dn dc zs a n c fss k1 a1 n1 c1 gss w hd hdm hF hnm h1 hm1 (df9D zs fss k1 gss) (df9I zs fss k1 gss) (df9E zs fss k1 gss) (df9I zs fss k1 gss).length rfl
  (by have:=(df9I_bd (zs:=zs) (ims:=fss) (gss:=gss) (k:=k1)).2;omega)
  (fun ts hts=>by have:=(df9I_bd (zs:=zs) (ims:=fss) (gss:=gss) (k:=k1)).1 ts hts;omega)
  (by have h:=df9I_bd (zs:=zs) (ims:=fss) (gss:=gss) (k:=k1);have h3:=sumLen_bd9 h.1;omega)
  (fun _ _ _ p q _ q1 g1 g2 g3 _ _ g6 g7 f1 f2 f3 f4=>DifferentialOfDerivation_s p q k1 q1 g6 g1 (g7.frmsDf g3) g2 g3 (f4.frms f2) f1 f2 f3)
  (fun _ _ _ p q _ q1 g1 g2 g3 _ _ g6 g7 f1 f2 f3 f4=>DifferentialOfDerivation_c p q k1 q1 g6 g1 (g7.frmsDf g3) g2 g3 f4 f1 f2 f3)
end Go.Proofs.YtdppjlndcacfnaaGreat
