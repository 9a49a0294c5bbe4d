
import Derived.Test.YtndnkeijddagiaaMark
import Derived.Test.YtndnkeijddagiaaHeld
namespace Go.Proofs.Ytndnkeijddagiaa
open Go.RowKit Go.Deep
theorem cellsP {w':World} {F b off n c k:Nat} {t:TypeId} {p0 p1 p2 p3 p4 p5 p6 p7 ft:Int} (hF:Own w' F t #[.slice (some ⟨b,off,none⟩) n c]) (hr:w'.rangeAt b (off+k * 9) (tcells ⟨[p0,p1,p2,p3,p4,p5,p6,p7],ft⟩)):w'.cell? ⟨F,0,none⟩=some (.slice (some ⟨b,off,none⟩) n c)∧w'.cell? ⟨b,off+k * 9,none⟩=some (.int .u8 p0)∧w'.cell? ⟨b,off+k * 9+1,none⟩=some (.int .u8 p1)∧w'.cell? ⟨b,off+k * 9+2,none⟩=some (.int .u8 p2)∧w'.cell? ⟨b,off+k * 9+3,none⟩=some (.int .u8 p3)∧w'.cell? ⟨b,off+k * 9+4,none⟩=some (.int .u8 p4)∧w'.cell? ⟨b,off+k * 9+5,none⟩=some (.int .u8 p5)∧w'.cell? ⟨b,off+k * 9+6,none⟩=some (.int .u8 p6)∧w'.cell? ⟨b,off+k * 9+7,none⟩=some (.int .u8 p7)∧w'.cell? ⟨b,off+k * 9+8,none⟩=some (.int .i64 ft):=
 ⟨hF.cell 0,hr 0 _ rfl,hr 1 _ rfl,hr 2 _ rfl,hr 3 _ rfl,hr 4 _ rfl,hr 5 _ rfl,hr 6 _ rfl,hr 7 _ rfl,hr 8 _ rfl⟩
end Go.Proofs.Ytndnkeijddagiaa
