
import Derived.Test.YtdppjlndcacfnaaGreatLawBr9
import Derived.Test.YtdppjlndcacfnaaGreatSglC
import Derived.Test.YtdppjlndcacfnaaGreatBr9S
namespace Go.Proofs.YtdppjlndcacfnaaGreat
open Go.RowKit Go.Deep
theorem FrmsN.frmsBr {w:World} {a:Option Addr} {n:Nat} {fss:List (List Tm)} (h:FrmsN w a n fss) (hL:∀ts∈fss,(ts.length:Int)≤1048576):Frms w a n fss:=
 ⟨h.1,fun hn=>by
  obtain ⟨b,off,ha,hlt,hc⟩:=h.2 hn;refine ⟨b,off,ha,hlt,fun i ts hi=>?_⟩;obtain ⟨ai,ni,ci,h1,h2,-⟩:=hc i ts hi
  exact ⟨ai,ni,ci,h1,h2,by have:=hL ts (List.mem_of_getElem? hi);have:=h2.len;omega⟩⟩
theorem bracketOf_walk (da : Option Addr) (dn dc : Nat) (zs : List Int) (a : Option Addr) (n c : Nat) (fss : List (List Tm)) (k1 : Int) (a1 : Option Addr) (n1 c1 : Nat) (gss : List (List Tm)) (k2 : Int) (a2 : Option Addr) (n2 c2 : Nat) (hss : List (List Tm)) (w : World) (hd : Ints w da dn zs) (hdm : (dn : Int) ≤ 9223372036854775807) (hF : Frms w a n fss) (hnm : (n : Int) ≤ 9223372036854775807) (h1 : Frms w a1 n1 gss) (hm1 : (n1 : Int) ≤ 9223372036854775807) (h2 : Frms w a2 n2 hss) (hm2 : (n2 : Int) ≤ 9223372036854775807) :
    Calls Tryz.prog 3 #[.agg #[.slice da dn dc,.slice a n c],.agg #[.int .i64 k1,.slice a1 n1 c1],.agg #[.int .i64 k2,.slice a2 n2 c2]] w fun e w'=>e=.returned (.bool true)∧Below w.heap.size w w':=
 lawBr9_walk da dn dc zs a n c fss k1 a1 n1 c1 gss k2 a2 n2 c2 hss w hd hdm hF hnm h1 hm1 h2 hm2 (br9D zs fss k1 gss k2 hss) (br9I zs fss k1 gss k2 hss) (br9E zs fss k1 gss k2 hss) (br9I zs fss k1 gss k2 hss).length rfl
  (by have:=(br9I_bd (zs:=zs) (ims:=fss) (gss:=gss) (hss:=hss) (k:=k1) (k2:=k2)).2;omega)
  (fun ts hts=>by have:=(br9I_bd (zs:=zs) (ims:=fss) (gss:=gss) (hss:=hss) (k:=k1) (k2:=k2)).1 ts hts;omega)
  (by have h:=br9I_bd (zs:=zs) (ims:=fss) (gss:=gss) (hss:=hss) (k:=k1) (k2:=k2);have h3:=sumLen_bd9 h.1;omega)
  (fun _ _ _ p q _ q1 _ q2 g1 g2 g3 _ _ g6 g7 f1 f2 f3 f4 e1 e2 e3 e4=>BracketOf_s p q k1 q1 k2 q2 g6 g1 (g7.frmsBr g3) g2 g3 (f4.frms f2) f1 f2 (e4.frms e2) e1 e2 f3 e3)
  (fun _ _ _ p q _ q1 _ q2 g1 g2 g3 _ _ g6 g7 f1 f2 f3 f4 e1 e2 e3 e4=>BracketOf_c p q k1 q1 k2 q2 g6 g1 (g7.frmsBr g3) g2 g3 f4 f1 f2 e4 e1 e2 f3 e3)
end Go.Proofs.YtdppjlndcacfnaaGreat
