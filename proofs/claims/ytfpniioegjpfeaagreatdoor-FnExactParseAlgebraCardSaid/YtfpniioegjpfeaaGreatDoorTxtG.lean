
import Derived.Test.YtfpniioegjpfeaaGreatDoorIsFormB
import Derived.Test.YtfpniioegjpfeaaGreatDoorTxtF
import Derived.Deep.RegionHeld3
namespace Go.Proofs.YtfpniioegjpfeaaGreatDoor
set_option maxRecDepth 100000
open Go.RowKit Go.Deep Go.ChangeShapes Go.WideShapes
section
variable {H:Type} {enc:TypeId × Value→H} {w:World} {spare:Nat→Bool} {held:Bool}
end
theorem Own.terms {w:World} {g n:Nat} {t:TypeId} {ts:List Tm} (h:Own w g t (rcells ts).toArray) (hT:∀t∈ts,IsTm t) (hn:ts.length=n):Terms w (some ⟨g,0,none⟩) n ts:=Terms.of_own h hT hn
open Go.RowKit Go.Deep
set_option maxHeartbeats 4000000 in
theorem l01Text_c {w : World} {a : Option Addr} {n : Nat} {ts : List Tm} (c : Nat) (h : Terms w a n ts) (hn : n ≤ 400) (hf : Fine ts) :
    Calls Tryz.prog 40 #[.agg #[.slice a n c]] w fun e w'=>e=.returned (str (textF ts))∧Below w.heap.size w w':=by
 have hl:=h.len
 have HL:=Lib.hid hl
 have hb:=bA1 w (.cells #[.slice a n c] 25)
 have hO:=Own.new w 25 #[.slice a n c]
 have c0:=hO.cell 0
 by_cases h0:n=0
 · subst h0;have hts:ts=[]:=List.length_eq_zero_iff.1 hl;clear hl;go_enter Tryz.func40,Tryz.ntmps40
   go_wp2_with fail
   go_ret
   exact ⟨by rw [hts];rfl,hb⟩
 · have hts : textF ts = txtTo ts n := by
     rw [textF,if_neg (by intro e;subst e;simp at hl;omega),hl]
   have HT:=Lib.hid hts;have HP:=Lib.hid (txtTo_len hf);clear hl hts;have hn0:¬(n:Int)=0:=(by omega);have hnb:((n:Int)==0)=false:=(by simpa using h0);go_enter Tryz.func40,Tryz.ntmps40
   go_wp2_with fail
   generalize w.alloc (.cells #[.slice a n c] 25)=w2 at *;clear c0
   go_loopw [3,4] (fun s i wr=>∃k:Nat,k≤n∧i=.int .i64 k∧s=str (txtTo ts k)∧Below w.heap.size w wr∧Own wr w.heap.size 25 #[.slice a n c]) (fun _ i _=>n - (intOf i).toNat)
   case atStart=>exact ⟨0,Nat.zero_le _,rfl,rfl,hb,hO⟩
   case round=>
    clear hb hO;obtain ⟨k,hk,rfl,rfl,hb,hO⟩:=hrel;have c0:=hO.cell 0;by_cases hlt:k<n
    · obtain ⟨b,off,t,rfl,hbl,hr0,ht,hx⟩:=h.at_ hlt;have hF:=hf t (List.mem_of_getElem? hx.out);have HSt:=Lib.hid (txtTo_step hx.out);have hlp:=HP.out k;obtain ⟨m,f⟩:=t;have hm:IsMono m:=hF.1;have hm20:∀x∈m,x≤20:=hF.2.1;have hf1:1≤f∧f≤10006:=hF.2.2;obtain ⟨m0,m1,m2,m3,m4,m5,m6,m7,rfl⟩:=mono8 hm;obtain ⟨p,hp⟩:∃p,txtTo ts k=p:=⟨_,rfl⟩;rw [hp] at HSt hlp;rw [hp];clear hp;obtain ⟨d,hd⟩:∃d,Lib.decDigits f.toNat=d:=⟨_,rfl⟩;have hdl:d.length≤5:=(by rw [←hd];exact dec_len f.toNat 4 (by omega));obtain ⟨y,hy⟩:∃y,nameM [m0,m1,m2,m3,m4,m5,m6,m7]=y:=⟨_,rfl⟩;have hyl:y.length≤32:=(by rw [←hy];exact nameM_len hm);have hqa:=fun (w:World)=>cat (w:=w) p [43] (by simp;omega);have HD:=Lib.hid hd;have HY:=Lib.hid hy;have HF1:=Lib.hid hf1;have HBL:=Lib.hid hbl;have HR0:=Lib.hid hr0;clear hd hy hF hf1 hbl hr0;by_cases hk0:0<k
      · have hkp:(0:Int)<(k:Int):=(by omega);obtain ⟨q,hq⟩:∃q,p++[43]=q:=⟨_,rfl⟩;have hql:q.length≤16001:=(by rw [←hq];simp;omega);have HQ:=Lib.hid hq;rw [hq] at hqa;have h1:=fun (w:World)=>cat (w:=w) q d (by omega);have h2:=fun (w:World)=>cat (w:=w) (q++d) [42] (by simp;omega);have h3:=fun (w:World)=>cat (w:=w) (q++d++[42]) y (by simp;omega);obtain ⟨r3,hr3⟩:∃r,q++d++[42]++y=r:=⟨_,rfl⟩;rw [hr3] at h3;have HR3:=Lib.hid hr3;clear hr3;obtain ⟨r2,hr2⟩:∃r,q++d++[42]=r:=⟨_,rfl⟩;rw [hr2] at h2 h3;obtain ⟨r1,hr1⟩:∃r,q++d=r:=⟨_,rfl⟩;rw [hr1] at h1 h2;clear hr2 hr1;clear hq;go_upto_region 9 with fail
        replace hb:=Below.drew hb;replace hO:Own wr.drew w.heap.size 25 #[.slice (some ⟨b,off,none⟩) n c]:=hO;clear c0
        go_region_held3 (fun w'=>w'.cell? ⟨w.heap.size,0,none⟩=some (.slice (some ⟨b,off,none⟩) n c)∧w'.cell? ⟨b,off+k * 9,none⟩=some (.int .u8 m0)∧w'.cell? ⟨b,off+k * 9+1,none⟩=some (.int .u8 m1)∧w'.cell? ⟨b,off+k * 9+2,none⟩=some (.int .u8 m2)∧w'.cell? ⟨b,off+k * 9+3,none⟩=some (.int .u8 m3)∧w'.cell? ⟨b,off+k * 9+4,none⟩=some (.int .u8 m4)∧w'.cell? ⟨b,off+k * 9+5,none⟩=some (.int .u8 m5)∧w'.cell? ⟨b,off+k * 9+6,none⟩=some (.int .u8 m6)∧w'.cell? ⟨b,off+k * 9+7,none⟩=some (.int .u8 m7)∧w'.cell? ⟨b,off+k * 9+8,none⟩=some (.int .i64 f)) (exact ⟨hO.cell 0,nine (rgK HR0.out (hb.block b HBL.out))⟩)
         (first
          | (go_at_call 62;(refine (l01Dec_c f.toNat f _ rfl (by have:=HF1.out;omega) (by have:=HF1.out;omega)).mono ?_);rw [HD.out];rintro e wB ⟨rfl,hbB⟩;replace hb:=bT' hb hbB hb.size;replace hO:=hO.keep hbB hO.lt;clear hbB)
          | (go_at_call 63;(refine (l01Name_c hm hm20).mono ?_);rw [HY.out];rintro e wC ⟨rfl,hbC⟩;replace hb:=bT' hb hbC hb.size;replace hO:=hO.keep hbC hO.lt;clear hbC))
        go_wp2_with fail
        go_roundw
        case rel=>exact ⟨k+1,by omega,by go_num,by rw [HSt.out,show part k ⟨[m0,m1,m2,m3,m4,m5,m6,m7],f⟩=[43]++(d++[42]++y) by rw [part,if_pos hk0,←HD.out,←HY.out];rfl,←List.append_assoc p [43],HQ.out,←List.append_assoc q (d++[42]) y,←List.append_assoc q d [42],HR3.out],hb,hO⟩
        case measure=>simp [intOf];omega
      · have hkp:¬(0:Int)<(k:Int):=(by omega);obtain ⟨q,hq⟩:∃q,p=q:=⟨_,rfl⟩;have hql:q.length≤16001:=(by rw [←hq];omega);have HQ:=Lib.hid hq;clear hqa hlp;rw [hq];have h1:=fun (w:World)=>cat (w:=w) q d (by omega);have h2:=fun (w:World)=>cat (w:=w) (q++d) [42] (by simp;omega);have h3:=fun (w:World)=>cat (w:=w) (q++d++[42]) y (by simp;omega);obtain ⟨r3,hr3⟩:∃r,q++d++[42]++y=r:=⟨_,rfl⟩;rw [hr3] at h3;have HR3:=Lib.hid hr3;clear hr3;obtain ⟨r2,hr2⟩:∃r,q++d++[42]=r:=⟨_,rfl⟩;rw [hr2] at h2 h3;obtain ⟨r1,hr1⟩:∃r,q++d=r:=⟨_,rfl⟩;rw [hr1] at h1 h2;clear hr2 hr1;clear hq;go_upto_region 9 with fail
        replace hb:=Below.drew hb;replace hO:Own wr.drew w.heap.size 25 #[.slice (some ⟨b,off,none⟩) n c]:=hO;clear c0
        go_region_held3 (fun w'=>w'.cell? ⟨w.heap.size,0,none⟩=some (.slice (some ⟨b,off,none⟩) n c)∧w'.cell? ⟨b,off+k * 9,none⟩=some (.int .u8 m0)∧w'.cell? ⟨b,off+k * 9+1,none⟩=some (.int .u8 m1)∧w'.cell? ⟨b,off+k * 9+2,none⟩=some (.int .u8 m2)∧w'.cell? ⟨b,off+k * 9+3,none⟩=some (.int .u8 m3)∧w'.cell? ⟨b,off+k * 9+4,none⟩=some (.int .u8 m4)∧w'.cell? ⟨b,off+k * 9+5,none⟩=some (.int .u8 m5)∧w'.cell? ⟨b,off+k * 9+6,none⟩=some (.int .u8 m6)∧w'.cell? ⟨b,off+k * 9+7,none⟩=some (.int .u8 m7)∧w'.cell? ⟨b,off+k * 9+8,none⟩=some (.int .i64 f)) (exact ⟨hO.cell 0,nine (rgK HR0.out (hb.block b HBL.out))⟩)
         (first
          | (go_at_call 62;(refine (l01Dec_c f.toNat f _ rfl (by have:=HF1.out;omega) (by have:=HF1.out;omega)).mono ?_);rw [HD.out];rintro e wB ⟨rfl,hbB⟩;replace hb:=bT' hb hbB hb.size;replace hO:=hO.keep hbB hO.lt;clear hbB)
          | (go_at_call 63;(refine (l01Name_c hm hm20).mono ?_);rw [HY.out];rintro e wC ⟨rfl,hbC⟩;replace hb:=bT' hb hbC hb.size;replace hO:=hO.keep hbC hO.lt;clear hbC))
        go_wp2_with fail
        go_roundw
        case rel=>exact ⟨k+1,by omega,by go_num,by rw [HSt.out,show part k ⟨[m0,m1,m2,m3,m4,m5,m6,m7],f⟩=(d++[42]++y) by rw [part,if_neg hk0,←HD.out,←HY.out];rfl,HQ.out,←List.append_assoc q (d++[42]) y,←List.append_assoc q d [42],HR3.out],hb,hO⟩
        case measure=>simp [intOf];omega
    · have hkn:k=n:=(by omega);subst hkn;go_wp2_with fail
      go_ret
      exact ⟨by rw [HT.out];rfl,hb⟩
theorem mono_20 {zs m:List Int} (hm:IsMono m) (h:monoOk zs m=true):∀x∈m,x≤20:=by
 intro x hx
 obtain ⟨i,hi,he⟩:=List.getElem_of_mem hx
 have h8:i<8:=by rw [←hm.1];exact hi
 have:=List.all_eq_true.1 h i (by simpa using h8)
 simp only [fits,decide_eq_true_eq,List.getD_eq_getElem?_getD,List.getElem?_eq_getElem hi,Option.getD_some,he] at this
 have hc:capAt zs i≤20:=by
  unfold capAt;split
  · split <;> omega
  · omega
 omega
theorem listOk_fine {zs:List Int} {ts:List Tm} (h:listOk zs ts=true) (hT:∀t∈ts,IsTm t):Fine ts:=by
 intro t ht
 obtain ⟨i,hi,he⟩:=List.getElem_of_mem ht
 have h1:=List.all_eq_true.1 h i (by simpa using hi)
 rw [okAt,List.getElem?_eq_getElem hi] at h1
 simp only [Bool.and_eq_true,he] at h1
 have h2:=h1.1
 simp only [okTm,Bool.and_eq_true,decide_eq_true_eq] at h2
 exact ⟨(hT t ht).1,mono_20 (hT t ht).1 h2.1,h2.2.1,h2.2.2⟩
theorem isForm_fine {zs:List Int} {ts:List Tm} (h:isForm zs ts=true) (hT:∀t∈ts,IsTm t):Fine ts∧ts.length≤400:=by
 simp only [isForm,Bool.and_eq_true,decide_eq_true_eq] at h
 exact ⟨listOk_fine h.2.1 hT,h.2.2⟩
end Go.Proofs.YtfpniioegjpfeaaGreatDoor
