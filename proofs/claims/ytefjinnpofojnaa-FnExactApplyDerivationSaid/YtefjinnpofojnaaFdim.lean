
import Derived.Test.YtefjinnpofojnaaSumF
import Derived.Test.YtefjinnpofojnaaIsAlgS
import Derived.Test.YtefjinnpofojnaaIsFormB
import Derived.Test.YtefjinnpofojnaaAlgS
import Derived.Test.YtefjinnpofojnaaDerR
import Derived.Test.YtefjinnpofojnaaIsAlg
import Derived.Deep.DeepCutAuto
namespace Go.Proofs.Ytefjinnpofojnaa
set_option maxRecDepth 100000
open Go.RowKit Go.Deep
theorem sum_okW {zs m k:List Int} (F:FitW zs m k) (hn:isNul zs m k=false):monoOk zs (addM m k)=within (addM m k):=by
 rw [Bool.eq_iff_iff]
 have hl:=addM_len F.hm.1 F.hk.1
 constructor
 · intro h;rw [within,List.all_eq_true];intro x hx;obtain ⟨i,hi,rfl⟩:=List.mem_iff_getElem.1 hx;have:=mono20 h (i:=i) (by omega) (List.getElem?_eq_getElem hi);simpa using this
 · intro h;rw [monoOk,List.all_eq_true];intro i hi;have hi8:i<8:=(by simpa using hi);obtain ⟨y,hy0,-,-,HY⟩:=mono_at F.hm hi8;obtain ⟨z,hz0,-,-,HZ⟩:=mono_at F.hk hi8;have hA:=addM_get HY.out HZ.out;rw [fits_eq hA];simp only [decide_eq_true_eq]
   cases hz:zs[i]? with
   | none =>
     have t1:=F.tm i (List.getElem?_eq_none_iff.1 hz) hi8;have t2:=F.tk i (List.getElem?_eq_none_iff.1 hz) hi8;rw [HY.out] at t1;rw [HZ.out] at t2
     injection t1 with t1
     injection t2 with t2
     rw [capAt,hz,t1,t2];decide
   | some d =>
     rw [capAt,hz]
     cases ho:odd d with
     | true =>
       have hb:bad3 (d,y,z)=false:=by
        have:=hn;rw [isNul,List.any_eq_false] at this;have:=this (d,y,z) (List.mem_of_getElem? (trip_get hz HY.out HZ.out));simpa using this
       simp only [bad3,ho,Bool.true_and,decide_eq_false_iff_not] at hb;simp;omega
     | false =>
       rw [within,List.all_eq_true] at h;have:=h _ (List.mem_of_getElem? hA);simpa [ho] using this
def WinOk (zs:List Int) (T:List Tm):Prop:=∀x∈T,monoOk zs x.m=within x.m
theorem Two.winOkW {zs:List Int} {fs gs:List Tm} (h:Two zs fs gs):WinOk zs (timesT zs gs [] fs):=
 times_all (p:=fun m=>monoOk zs m=within m) (by simp) (fun t ht u hu hj=>by
  have hn:isNul zs t.m u.m=false:=by
   unfold joinS at hj;split at hj
   · exact absurd rfl hj
   · rename_i h1;simpa using h1
  rw [join_ne hj]
  exact sum_okW (h.fit t ht u hu) hn)
def okT (zs:List Int) (T:List Tm):Bool:=listOk zs T && decide (T.length≤400)
theorem good_lsOk {zs:List Int} {T:List Tm} (hg:Good T) (hw:WinOk zs T):listOk zs T=T.all (fun x=>within x.m):=by
 rw [Bool.eq_iff_iff,List.all_eq_true]
 constructor
 · intro h1 x hx;have:=listOk_all h1 x hx;simp only [okTm,Bool.and_eq_true] at this;rw [←hw x hx];exact this.1
 · intro h1;refine listOk_of (fun x hx=>?_) hg.srt;have:=hg.nz x hx;exact okTm_yes (by rw [hw x hx];exact h1 x hx) (by simpa using this)
theorem len_nodup {α:Type} [DecidableEq α]:∀{K l:List α},K.Nodup→(∀x∈K,x∈l)→K.length≤l.length
 | [],_,_,_=>Nat.zero_le _
 | x :: K, l, hn, h => by
   rw [List.nodup_cons] at hn;have hx:=h x (by simp);have h1:=len_nodup (K:=K) (l:=l.erase x) hn.2 (fun y hy=>(List.mem_erase_of_ne (fun e=>hn.1 (by rw [←e];exact hy))).2 (h y (by simp [hy])));rw [List.length_erase_of_mem hx] at h1;have:=List.length_pos_of_mem hx;rw [List.length_cons];omega
theorem coef_nz {ts:List Tm} {m:List Int} (h:¬coef ts m=0):∃t∈ts,t.m=m:=by
 by_cases h1:∃t∈ts,t.m=m
 · exact h1
 · exact absurd (coef_none fun t ht e=>h1 ⟨t,ht,e⟩) h
theorem FormOf.told {w w' : World} {S : List Int → Int} {e : Ending} {zs : List Int} {T : List Tm} (h : FormOf w S e w') (hg : Good T) (ht : ∀ x ∈ T, IsTm x) (hw : WinOk zs T) (hc : ∀ m, S m = coef T m) :
    (okT zs T=true∧∃v,e=.returned (.tuple #[.agg #[v],.int .i64 0])∧OwnR w' w.heap.size v T)∨(okT zs T=false∧e=.returned (.tuple #[.agg #[.slice none 0 0],.int .i64 3])):=by
 rcases h with ⟨v,L,rfl,hO,hs,hT,hF,hW,hl,hco⟩ | ⟨rfl,hbad⟩
 · have hLR:L=T:=srt_ext L _ hs hg.srt (fun t h=>(hT t h).1) (fun x hx=>(ht x hx).1) (fun t h=>by have:=hF t h;omega) (fun t h=>by have:=hg.nz t h;omega) (fun m hm=>by rw [hco m hm,hc m]);subst hLR;left
   refine ⟨?_,v,rfl,hO⟩;rw [okT,good_lsOk hg hw,Bool.and_eq_true,decide_eq_true_eq,List.all_eq_true];exact ⟨hW,hl⟩
 · right
   refine ⟨?_,rfl⟩;rw [okT,Bool.and_eq_false_iff,decide_eq_false_iff_not]
   rcases hbad with ⟨m,hm,hne,hw2⟩ | ⟨K,hK,h4,hk⟩
   · left
     rw [hc m] at hne;obtain ⟨t,ht',rfl⟩:=coef_nz hne;rw [good_lsOk hg hw,List.all_eq_false];exact ⟨t,ht',by rw [hw2];simp⟩
   · right
     have hsub:∀m∈K,m∈T.map (·.m):=fun m hm=>by
      have h:=(hk m hm).2;rw [hc m] at h;obtain ⟨t,ht',rfl⟩:=coef_nz h;exact List.mem_map.2 ⟨t,ht',rfl⟩
     have:=len_nodup hK hsub;rw [List.length_map] at this;omega
theorem ownR_none (w:World) (B:Nat):OwnR w B (.slice none 0 0) []:=World.ownsRow_nil _ _ _ _
inductive Told:Bool→Option Addr→Nat→Nat→Ending→Prop
 | yes {a:Option Addr} {n c:Nat}:Told true a n c (.returned (.tuple #[.agg #[.slice a n c],.int .i64 0]))
 | no {a:Option Addr} {n c:Nat}:Told false a n c (.returned (.tuple #[.agg #[.slice none 0 0],.int .i64 3]))
theorem Told.eq {b:Bool} {a:Option Addr} {n c:Nat} {e:Ending} (h:Told b a n c e):e=.returned (.tuple #[.agg #[bif b then .slice a n c else .slice none 0 0],.int .i64 (bif b then 0 else 3)]):=by
 cases h <;> rfl
theorem l01Told_c {w : World} {da : Option Addr} {dn : Nat} {zs : List Int} {a : Option Addr} {n : Nat} {ts : List Tm} (dc c : Nat) (hd : Ints w da dn zs) (hdn : dn ≤ 1048576) (h : Terms w a n ts) (hn : n ≤ 2000000) :
    Calls Try.prog 30 #[.slice da dn dc,.agg #[.slice a n c]] w fun e w'=>Told (okT zs ts) a n c e∧Below w.heap.size w w':=by
 have hG:=(Own.new w 36 #[.slice a n c]).alloc (.cells #[.slice none 0 0] 36)
 have hR:=Own.new (w.alloc (.cells #[.slice a n c] 36)) 36 #[.slice none 0 0]
 rw [sAl] at hR
 have hb:=bTn (bA1 w (.cells #[.slice a n c] 36)) (bA1 _ (.cells #[.slice none 0 0] 36))
 have cg:=hG.cell 0
 cases hq:okT zs ts
 all_goals
  have HQ:=Lib.hid hq;have HQ2:Hid ((listOk zs ts && decide (ts.length≤400))=_):=Lib.hid hq;clear hq;go_enter Try.func30,Try.ntmps30
  go_upto_region 1 with fail
  generalize (w.alloc (.cells #[.slice a n c] 36)).alloc (.cells #[.slice none 0 0] 36)=w0 at *;go_wp2_with fail
  refine (l01Is_cB dc c (hd.keep hb) hdn (h.keep hb) hn).mono ?_;rintro e w1 ⟨rfl,hb1⟩;rw [HQ2.out];have hG1:=hG.keep hb1 hG.lt;have hR1:=hR.keep hb1 hR.lt;have hb2:=bT' hb hb1 hb.size;clear hG hR hb hb1 cg;have cg:=hG1.cell 0;have cR:=hR1.cell 0;have fR:=hR1.frozen 0;go_wp2_with fail
 · have q:=hR1.set 0 (.slice none 0 0);exact bodyPost_ret (results_row2 rfl _ _ (w.heap.size+1) 36 #[.slice none 0 0] (0,0) _ rfl q Try.underlying36 rfl Try.info_form) rfl ⟨Told.no,hb2.setCell (p:=⟨w.heap.size+1,0,none⟩) (by dsimp only;omega) _⟩
 · have q:=hR1.set 0 (.slice a n c);exact bodyPost_ret (results_row2 rfl _ _ (w.heap.size+1) 36 #[.slice a n c] (0,0) _ rfl q Try.underlying36 rfl Try.info_form) rfl ⟨Told.yes,hb2.setCell (p:=⟨w.heap.size+1,0,none⟩) (by dsimp only;omega) _⟩
theorem isAlg_dz {zs:List Int} {ims:List (List Tm)} (h:isAlg zs ims=true):degsOk zs=true:=by
 simp only [isAlg,Bool.and_eq_true,decide_eq_true_eq] at h
 exact h.1
end Go.Proofs.Ytefjinnpofojnaa
