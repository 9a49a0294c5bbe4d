
import Derived.WalkKit
import Derived.WalkLawsBesides
import Derived.Lib.Hide
import Derived.Deep.Draws
import Derived.Deep.MidRow
import Derived.Laws.ResultCell
namespace Go.Proofs.Ytndnkeijddagiaa
open Go.RowKit
def Own (w:World) (g:Nat) (t:TypeId) (cs:Array Value):Prop:=w.heap[g]? = some (.cells cs t (0,0))
section
variable {w w':World} {g:Nat} {t:TypeId} {cs:Array Value}
theorem Own.lt (h:Own w g t cs):g<w.heap.size:=(Array.getElem?_eq_some_iff.1 h).1
theorem Own.cell (h:Own w g t cs) (i:Nat):w.cell? ⟨g,i,none⟩=cs[i]? := cell_of_row w g i cs t (0,0) h
theorem Own.has (h:Own w g t cs) {i:Nat} (hi:i<cs.size):∃v,w.cell? ⟨g,i,none⟩=Option.some v:=⟨cs[i],by rw [h.cell i];exact Array.getElem?_eq_getElem hi⟩
theorem Own.frozen (h:Own w g t cs) (i:Nat):w.frozen? ⟨g,i,none⟩=false:=frozen_of_row w g i cs t h
theorem Own.new (w:World) (t:TypeId) (cs:Array Value):Own (w.alloc (.cells cs t)) w.heap.size t cs:=heap_alloc_new w _
theorem Own.alloc (h:Own w g t cs) (o:Obj):Own (w.alloc o) g t cs:=(Below.heap_alloc w o g h.lt).trans h
theorem Own.drew (h:Own w g t cs):Own w.drew g t cs:=h
theorem Own.drewN (h:Own w g t cs) (n:Nat):Own (w.drewN n) g t cs:=h
theorem Own.set (h:Own w g t cs) (i:Nat) (u:Value):Own (w.setCell ⟨g,i,none⟩ u) g t (cs.setIfInBounds i u):=heap_setCell_same w g i cs t u h
theorem Own.far (h:Own w g t cs) {p:Addr} (hp:g≠p.block) (u:Value):Own (w.setCell p u) g t cs:=(Below.heap_setCell w p u g hp).trans h
theorem Own.setRow (h:Own w g t cs) (cs':Array Value):Own (w.setRow g cs') g t cs':=setRow_heap w g cs cs' t (0,0) h
theorem Own.farRow (h:Own w g t cs) {k:Nat} (hk:g≠k) (cs':Array Value):Own (w.setRow k cs') g t cs:=(setRow_other w k g cs' hk).trans h
theorem Own.keep {B:Nat} (h:Own w g t cs) (hb:Below B w w') (hg:g<B):Own w' g t cs:=(hb.block g hg).trans h
theorem Own.grown {row:Option Nat} (h:Own w g t cs) (hb:w.grownBy w' row) (hg:some g≠row):Own w' g t cs:=(hb.block g h.lt hg).trans h
theorem Own.range (h:Own w g t cs):w.rangeAt g 0 cs.toList:=fun j v hv=>by
 rw [Nat.zero_add,h.cell j];simpa using hv
end
theorem below_drewN {B:Nat} {a w:World} (h:Below B a w) (n:Nat):Below B a (w.drewN n):=⟨h.os,h.tape,h.output,h.size,h.block⟩
theorem below_setRow {B:Nat} {a w:World} (h:Below B a w) {g:Nat} (hg:B≤g) (cs:Array Value):Below B a (w.setRow g cs):=
 h.trans ⟨rfl,rfl,rfl,by simp,fun k hk=>setRow_other w g k cs (by omega)⟩
theorem bA1 (w:World) (o:Obj):Below w.heap.size w (w.alloc o):=(Below.refl _ _).alloc (Nat.le_refl _) o
theorem bT' {B:Nat} {a b c:World} (h:Below B a b) (k:Below b.heap.size b c) (hB:B≤b.heap.size):Below B a c:=h.trans (k.mono hB)
theorem bTn {a b c:World} (h:Below a.heap.size a b) (k:Below b.heap.size b c):Below a.heap.size a c:=h.trans (k.mono h.size)
theorem sAl (w:World) (o:Obj):(w.alloc o).heap.size=w.heap.size+1:=by
 show (w.heap.push o).size=_
 simp
theorem rgK {w w':World} {b o:Nat} {cs:List Value} (h:w.rangeAt b o cs) (hw:w'.heap[b]? = w.heap[b]?):w'.rangeAt b o cs:=
 fun j v hv=>(World.cell?_of_block (a:=⟨b,o+j,none⟩) hw).trans (h j v hv)
theorem ret_i {k:IntKind} {a b:Int} (h:a=b):Ending.returned (.int k a)=.returned (.int k b):=by rw [h]
theorem ret_b {a b:Bool} (h:a=b):Ending.returned (.bool a)=.returned (.bool b):=by rw [h]
theorem results_row2 {P : Program} {fn : Func} {p u : Tmp} {ty : TypeId} (h : fn.results = #[.cell p ty, .tmp u]) (tmps : Array Value) (w : World) (g : Nat) (t : TypeId) (cs : Array Value) (fr : Nat × Nat) (d : TypeDesc)
    (hp:tmps.getD p undef=.pointer (some ⟨g,0,none⟩)) (hg:w.heap[g]? = some (.cells cs t fr))
    (hu:P.underlying ty=some d) (hd:(match d with | .struct _ | .array _ _=>true | _=>false)=true) (hi:(P.info? ty).map (·.size)=some cs.size) :
    (results fn tmps).run P w=.ok (.tuple #[.agg cs,tmps.getD u undef]) w:=by
 rw [results_cell_tmp h,hp]
 simp [asAddr,run_loadVar_row w g t ty cs fr d hg hu hd hi]
end Go.Proofs.Ytndnkeijddagiaa
