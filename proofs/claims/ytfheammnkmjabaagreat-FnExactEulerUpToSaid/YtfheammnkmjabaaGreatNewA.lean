
import Derived.Test.YtfheammnkmjabaaGreatHeld
import Derived.Test.YtfheammnkmjabaaGreatResult
import Derived.Test.YtfheammnkmjabaaGreatAlgR
namespace Go.Proofs.YtfheammnkmjabaaGreat
open Go.RowKit Go.Deep
theorem set_u8 {l:List Int} {i:Nat} {y:Int}:((l.map (Value.int .u8)).toArray).setIfInBounds i (.int .u8 y)=((l.set i y).map (Value.int .u8)).toArray:=by simp [List.map_set]
theorem row_keep {w w':World} {B sz n:Nat} {t:TypeId} {v:Value} {xs:List Value} (h:w.ownsRow B t sz v n xs) (hb:Below w.heap.size w w'):w'.ownsRow B t sz v n xs:=
 World.ownsRow.kept h (row:=none) ⟨hb.os,hb.tape,hb.output,hb.size,fun k hk _=>hb.block k hk⟩ (by cases h0:v.ownBlock <;> simp)
end Go.Proofs.YtfheammnkmjabaaGreat
