
import Derived.Test.YtndnkeijddagiaaIsFormB
namespace Go.Proofs.Ytndnkeijddagiaa
open Go.RowKit Go.Deep
def wlTo (m:List Int):Nat→Int
 | 0=>0
 | k+1=>wlTo m k+m.getD k 0
def wlen (m:List Int):Int:=wlTo m 8
def wlAt (fs:List Tm) (k:Nat):Int:=match fs[k]? with | some t=>wlen t.m | none=>0
def leastTo (fs:List Tm):Nat→Int
 | 0=>0
 | k+1=>if k=0 then wlAt fs 0 else min (leastTo fs k) (wlAt fs k)
def leastW (fs:List Tm):Int:=leastTo fs fs.length
end Go.Proofs.Ytndnkeijddagiaa
