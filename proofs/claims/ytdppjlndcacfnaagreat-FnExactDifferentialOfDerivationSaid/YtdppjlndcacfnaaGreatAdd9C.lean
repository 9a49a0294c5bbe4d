
import Derived.Test.YtdppjlndcacfnaaGreatAppC
namespace Go.Proofs.YtdppjlndcacfnaaGreat
set_option maxRecDepth 100000
open Go.RowKit Go.Deep
set_option maxHeartbeats 8000000 in
theorem newDerivation_c {w : World} {da : Option Addr} {dn : Nat} {zs : List Int} {a : Option Addr} {n : Nat} (dc c : Nat) (k : Int) (_hd : Ints w da dn zs) (hdn : dn ≤ 1048576) :
    Calls Tryz.prog 66 #[.agg #[.slice da dn dc,.slice a n c],.int .i64 k] w fun e w'=>∃g,e=.returned (.agg #[.int .i64 k,.slice (some ⟨g,0,none⟩) dn dn])∧w.heap.size≤g∧Own w' g 59 (Array.replicate dn (.slice none 0 0))∧Below w.heap.size w w':=by
 have hA:=(Own.new w 36 #[.slice da dn dc,.slice a n c]).alloc (.cells #[.int .i64 0,.slice none 0 0] 32)
 have hX:=Own.new (w.alloc (.cells #[.slice da dn dc,.slice a n c] 36)) 32 #[.int .i64 0,.slice none 0 0]
 rw [sAl] at hX
 have hb:=bTn (bA1 w (.cells #[.slice da dn dc,.slice a n c] 36)) (bA1 _ (.cells #[.int .i64 0,.slice none 0 0] 32))
 have hmk:=make_forms dn hdn
 go_enter Tryz.func66,Tryz.ntmps66
 go_upto_region 1 with fail
 generalize (w.alloc (.cells #[.slice da dn dc,.slice a n c] 36)).alloc (.cells #[.int .i64 0,.slice none 0 0] 32)=w1 at *
 obtain ⟨gX,hgX⟩:∃g,w.heap.size+1=g:=⟨_,rfl⟩
 rw [hgX] at hX
 try rw [hgX]
 have hwX:w.heap.size≤gX:=by omega
 clear hgX
 have hmk1:=hmk w1
 have hF:=Own.new w1 59 (Array.replicate dn (Value.slice none 0 0))
 have hba:=bA1 w1 (.cells (Array.replicate dn (Value.slice none 0 0)) 59)
 have hlX:=hX.lt
 have hs1:=hb.size
 have hX2:=hX.keep hba hX.lt
 have hA2:=hA.keep hba hA.lt
 have hb2:=bT' hb hba hb.size
 have cA:=hA.cell 0
 clear hmk hX hb hba
 generalize w1.alloc (.cells (Array.replicate dn (Value.slice none 0 0)) 59)=w2 at *
 obtain ⟨gF,hgF⟩:∃g,w1.heap.size=g:=⟨_,rfl⟩
 rw [hgF] at hmk1 hF hlX hs1
 have c0:=hX2.cell 0
 have c1:=hX2.cell 1
 have f0:=hX2.frozen 0
 have f1:=hX2.frozen 1
 clear hgF hA hA2
 go_wp2_with fail
 have s2:=(hX2.set 0 (.int .i64 k)).set 1 (.slice (some ⟨gF,0,none⟩) dn dn)
 have hF2:=(hF.far (p:=⟨gX,0,none⟩) (by dsimp only;omega) (.int .i64 k)).far (p:=⟨gX,1,none⟩) (by dsimp only;omega) (.slice (some ⟨gF,0,none⟩) dn dn)
 have hb3:=(hb2.setCell (p:=⟨gX,0,none⟩) hwX (.int .i64 k)).setCell (p:=⟨gX,1,none⟩) hwX (.slice (some ⟨gF,0,none⟩) dn dn)
 exact bodyPost_ret (results_cell_row rfl _ _ gX 32 #[.int .i64 k,.slice (some ⟨gF,0,none⟩) dn dn] (0,0) _ rfl s2 Tryz.underlying32 rfl Tryz.info_der) rfl ⟨gF,rfl,hs1,hF2,hb3⟩
end Go.Proofs.YtdppjlndcacfnaaGreat
