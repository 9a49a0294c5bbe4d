
import Derived.Test.YtdppjlndcacfnaaGreatSumK
import Derived.Test.YtdppjlndcacfnaaGreatSortC
namespace Go.Proofs.YtdppjlndcacfnaaGreat
set_option maxRecDepth 100000
open Go.RowKit Go.Deep Go.Maps
theorem nodup_le {α:Type} [BEq α] [LawfulBEq α]:∀{xs ys:List α},xs.Nodup→(∀x∈xs,x∈ys)→xs.length≤ys.length
 | [],_,_,_=>Nat.zero_le _
 | x :: xs, ys, h, hs => by
   obtain ⟨h0,h1⟩:=List.nodup_cons.1 h;have hx:=hs x (by simp);have h2:=nodup_le (xs:=xs) (ys:=ys.erase x) h1 (fun y hy=>(List.mem_erase_of_ne (fun e=>h0 (by rw [←e];exact hy))).2 (hs y (by simp [hy])));have h3:=List.length_erase_of_mem hx;have h4:=List.length_pos_of_mem hx;rw [List.length_cons];omega
theorem Part.has_ {S:List Int→Int} {G:List Tm} (hG:Part S (fun _=>false) G) {m:List Int} (hm:IsMono m) (h0:¬S m=0):∃u∈G,u.m=m:=by
 by_cases h:∃u∈G,u.m=m
 · exact h
 · have h1:=hG.coef m hm;rw [coef_none (fun t ht e=>h ⟨t,ht,e⟩),if_neg (by simp)] at h1;exact absurd h1.symm h0
theorem Part.room {S:List Int→Int} {left:Lit→Bool} {os G:List Tm} {m:List Int} (h:Part S left os) (hG:Part S (fun _=>false) G) (hm:IsMono m) (hl:left (kM m)=true) (h0:¬S m=0):os.length<400∧within m=true:=by
 obtain ⟨u,hu,rfl⟩:=hG.has_ hm h0
 refine ⟨?_,hG.win u hu⟩
 have h1:(u.m::os.map (·.m)).length≤(G.map (·.m)).length:=nodup_le (by
  rw [List.nodup_cons];refine ⟨fun hin=>?_,h.nd⟩;obtain ⟨t,ht,e⟩:=List.mem_map.1 hin
  exact h.fresh hm hl t ht e) (fun x hx=>by
  rw [List.mem_cons] at hx
  rcases hx with rfl | hx
  · exact List.mem_map.2 ⟨u,hu,rfl⟩
  · obtain ⟨t,ht,rfl⟩:=List.mem_map.1 hx;have hv:=h.val t ht;obtain ⟨v,hv1,hv2⟩:=hG.has_ (h.tm t ht).1 (by rw [←hv.1];exact hv.2)
    exact List.mem_map.2 ⟨v,hv1,hv2⟩)
 have h2:=hG.len
 rw [List.length_cons,List.length_map,List.length_map] at h1
 omega
theorem Part.nil_ {S : List Int → Int} {D : DataW Unit} (hat : ∀ m, IsMono m → D.atKey (kM m) (.lit (.int .i64 0)) = .lit (.int .i64 (S m))) : Part S (Maps.has D) [] := ⟨fun m hm => by
    show (0:Int)=_
    by_cases hh:Maps.has D (kM m)=true
    · rw [if_pos hh]
    · rw [if_neg hh];have:=hat m hm;rw [atKey_of_not_has (by simpa using hh)] at this;simp only [DataW.lit.injEq,Lit.int.injEq,true_and] at this
      exact this,by simp,by simp,by simp,by simp,by simp⟩
set_option maxHeartbeats 8000000 in
theorem terms_c {w : World} {b n : Nat} {S : List Int → Int} {G : List Tm} (h : MapIs w b n S) (hS : ∀ m, 0 ≤ S m ∧ S m ≤ 10006) (hG : Part S (fun _ => false) G) :
    Calls Tryz.prog 95 #[.map (some b)] w fun e w'=>∃v L,e=.returned v∧OwnR w' w.heap.size v L∧Hid (Srt L∧(∀t∈L,IsTm t)∧(∀t∈L,1≤t.f∧t.f≤10006)∧(∀t∈L,within t.m=true)∧L.length≤400∧∀m,IsMono m→coef L m=S m)∧Below w.heap.size w w':=by
 have hbw:=h.lt
 have HSB:=Lib.hid hS
 have HG:=Lib.hid hG
 clear hS hG
 obtain ⟨D,hown,hD,hat⟩:=h
 have HAT:=Lib.hid hat
 clear hat
 obtain ⟨ti,tz,hti,htz,hts,htb,htzs⟩:=Tryz.info_termA
 have HI:=Lib.hid hti
 have HZ:=Lib.hid htz
 have HS:=Lib.hid hts
 have HBt:=Lib.hid htb
 have HZs:=Lib.hid htzs
 clear hti htz hts htb htzs
 go_enter Tryz.func95,Tryz.ntmps95
 go_upto_region 2 with fail
 generalize hg4:w.heap.size=g4 at *
 go_wp2_with (first
  | (at_range;refine wpList_range_own _ rfl _ 111 rfl 92 2 Tryz.keyM Tryz.underlying111 _ b n D rfl hown ?_;intro w0 hrg0 hg0 hs1)
  | go_in)
 go_frame
 rw [hg4] at hrg0 hs1
 try rw [hg4]
 have hP0:Part S (Maps.has D) []:=Part.nil_ HAT.out
 have hb0:Below g4 w w0:=grown_below (by rw [←hg4];exact Below.refl _ _) hg0 (fun k e=>by cases e) (by omega)
 go_loopw [3] (fun y wr=>∃(left:Lit→Bool) (cnt:Nat) (v:Value) (os:List Tm),y=v∧wr.ranges Tryz.prog 92 (plainElem Tryz.prog 2) b g4 n D left cnt∧OwnForm wr (g4+1) v os∧Below g4 w wr∧Hid (Part S left os)) (fun _ wr=>wr.rangeLeft b g4)
 case atStart=>exact ⟨_,_,.slice none 0 0,[],rfl,hrg0,⟨World.ownsRow_nil _ _ _ _,by simp⟩,hb0,hP0⟩
 case round=>
  clear hrg0 hb0 hP0 hg0 hs1 hown;obtain ⟨left,cnt,v,os,rfl,hrg,hO,hb,hP⟩:=hrel;obtain ⟨nO,hnO⟩:∃nO,os.length=nO:=⟨_,rfl⟩;obtain ⟨va,vc,rfl,-⟩:=hO.r.terms hP.out.tm hnO;have HNO:=Lib.hid hnO
  go_wp2_with (first
   | (at_next;refine wpList_next_ranges (α:={m:List Int // IsMono m}) (β:=Int) _ rfl _ rfl 92 Tryz.keyM (plainElem Tryz.prog 2) (fun m=>.agg (mcells m.1).toArray) (Value.int .i64) (fun key kl hk=>by obtain ⟨m,hm,e,_⟩:=keyOf_M_inv hk;exact ⟨⟨m,hm⟩,e⟩) (fun v y hy=>by obtain ⟨c,e,_⟩:=plainElem_int_inv Tryz.underlying2 hy;exact ⟨c,e⟩) b g4 n D _ _ rfl hrg ?_ ?_)
   | go_in)
  · intro _ hl0;clear hnO;have hPP:=hP.out;have hl5:=hPP.len;go_wp2_with fail
    refine (SortFunc_c (ts:=os) hO.r hPP.tm (by omega)).mono ?_;rintro e w5 ⟨rfl,ts',hR',hperm,hT',hsrt,hb5⟩;replace hb:=hb.trans (hb5.mono (by omega));have HP:=Lib.hid hPP;have HL:=Lib.hid hl0;have HPM:=Lib.hid hperm;have HT2:=Lib.hid hT';have HSR:=Lib.hid hsrt;clear hPP hl0 hperm hT' hsrt hP hb5;go_wp2_with fail
    go_ret
    refine ⟨.slice va nO vc,ts',rfl,hR'.weaken (by omega),Lib.hid ⟨srt_of HSR.out HPM.out HP.out.nd HT2.out,HT2.out,fun t ht=>?_,fun t ht=>HP.out.win t (HPM.out.mem_iff.1 ht),by rw [HPM.out.length_eq];exact HP.out.len,fun m hm=>?_⟩,by rw [hg4];exact hb⟩
    · have h1:=HP.out.val t (HPM.out.mem_iff.1 ht);have h2:=HSB.out t.m;omega
    · rw [coef_perm HPM.out HP.out.nd,HP.out.coef m hm,HL.out (kM m)];rfl
  · intro m hm c kl y yp w1 cnt1 hkey hlk hRv hat hrg1 hlt hg1 hs1 hen
    obtain rfl:kl=kM m:=by
     have:=keyOf_M hm;rw [hkey] at this;exact Option.some.inj this
    have hc:c=S m:=by
     obtain ⟨c',e1,e2,_⟩:=plainElem_int_inv Tryz.underlying2 hRv;have h1:=hat (.lit (.int .i64 0));simp only [Prod.mk.injEq] at e2;rw [e2.1,HAT.out m hm] at h1;simp only [DataW.lit.injEq,Lit.int.injEq,true_and] at h1;simp only [Value.int.injEq,true_and] at e1;omega
    clear hkey hRv hat;replace hO:=hO.grownR hg1 (by omega);replace hb:=grown_below hb hg1 (fun k e=>by cases e;omega) (by have:=hb.size;omega);have hSm:=HSB.out m;have hPP:=hP.out;obtain ⟨p0,p1,p2,p3,p4,p5,p6,p7,rfl⟩:=mono8 hm;simp only [mcells,List.map_cons,List.map_nil] at hen;have hX:=Own.new w1 92 #[.int .u8 p0,.int .u8 p1,.int .u8 p2,.int .u8 p3,.int .u8 p4,.int .u8 p5,.int .u8 p6,.int .u8 p7];have hba:=bA1 w1 (.cells #[.int .u8 p0,.int .u8 p1,.int .u8 p2,.int .u8 p3,.int .u8 p4,.int .u8 p5,.int .u8 p6,.int .u8 p7] 92);have hrg2:=ranges_keep hrg1 hba;replace hO:=hO.keep hba;replace hb:=bT' hb hba (by have:=hb.size;omega);have HL:=Lib.hid hlk;have HM:=Lib.hid hrg.left_eq;clear hba hlk hrg hrg1 hg1 hs1 hnO;by_cases hc0:c=0
    · subst hc0;go_wp2_with fail
      go_roundw
      case rel=>exact ⟨_,cnt1,.slice va nO vc,os,rfl,hrg2,hO,hb,Lib.hid (hPP.skip hm HL.out hc.symm)⟩
      case measure=>rw [hrg2.left_eq,HM.out];exact hlt
    · have hcb:(c != 0)=true:=(by simpa using hc0);have hS0:¬S [p0,p1,p2,p3,p4,p5,p6,p7]=0:=(by rw [←hc];exact hc0);obtain ⟨hn4,hwi⟩:=hPP.room HG.out hm HL.out hS0;have HC:=Lib.hid hc;have HP:=Lib.hid hPP;have HW:=Lib.hid hwi;rw [HNO.out] at hn4;clear hc hPP hP hwi;have v0:=hX.cell 0;have v1:=hX.cell 1;have v2:=hX.cell 2;have v3:=hX.cell 3;have v4:=hX.cell 4;have v5:=hX.cell 5;have v6:=hX.cell 6;have v7:=hX.cell 7;go_upto_region 6 with fail
      generalize w1.alloc (.cells #[.int .u8 p0,.int .u8 p1,.int .u8 p2,.int .u8 p3,.int .u8 p4,.int .u8 p5,.int .u8 p6,.int .u8 p7] 92)=w2 at *;generalize hg5:w1.heap.size=g5 at *;have hOa:=(hO.keep (bA1 w2 (.cells #[.int .u8 p0,.int .u8 p1,.int .u8 p2,.int .u8 p3,.int .u8 p4,.int .u8 p5,.int .u8 p6,.int .u8 p7,.int .i64 c] 94))).1;have hba:=bT' hb (bA1 w2 (.cells #[.int .u8 p0,.int .u8 p1,.int .u8 p2,.int .u8 p3,.int .u8 p4,.int .u8 p5,.int .u8 p6,.int .u8 p7,.int .i64 c] 94)) (by have:=hb.size;omega);have hrg4:=ranges_keep hrg2 (bA1 w2 (.cells #[.int .u8 p0,.int .u8 p1,.int .u8 p2,.int .u8 p3,.int .u8 p4,.int .u8 p5,.int .u8 p6,.int .u8 p7,.int .i64 c] 94))
      have hnews:∀z u,([Value.int .u8 p0,.int .u8 p1,.int .u8 p2,.int .u8 p3,.int .u8 p4,.int .u8 p5,.int .u8 p6,.int .u8 p7,.int .i64 c]:List Value)[z]? = some u→(w2.alloc (.cells #[.int .u8 p0,.int .u8 p1,.int .u8 p2,.int .u8 p3,.int .u8 p4,.int .u8 p5,.int .u8 p6,.int .u8 p7,.int .i64 c] 94)).cell? ((⟨w2.heap.size,0,none⟩:Addr).add z)=some u:=fun z u hu=>by
       rw [Addr.add_mid];exact (Own.new w2 94 #[.int .u8 p0,.int .u8 p1,.int .u8 p2,.int .u8 p3,.int .u8 p4,.int .u8 p5,.int .u8 p6,.int .u8 p7,.int .i64 c]).range z u hu
      have hone:∀u∈([Value.int .u8 p0,.int .u8 p1,.int .u8 p2,.int .u8 p3,.int .u8 p4,.int .u8 p5,.int .u8 p6,.int .u8 p7,.int .i64 c]:List Value),u.oneCell'=true:=(by simp [Value.oneCell']);have HN:=Lib.hid hnews;have HO:=Lib.hid hone;have hrl:=hrg2.lt;clear hnews hone hb hrg2 hO
      go_wp2_with (first
       | (refine wpList_append_own_wide _ rfl (.tmp 15) (.tmp 19) 57 rfl (g4 + 1) 94 ti tz 9 16 Tryz.underlying57 HI.out HZ.out HS.out HBt.out HZs.out (by omega) (.slice va nO vc) _ _ rfl hOa ⟨w2.heap.size, 0, none⟩ 1 1 [Value.int .u8 p0, .int .u8 p1, .int .u8 p2, .int .u8 p3, .int .u8 p4, .int .u8 p5, .int .u8 p6, .int .u8 p7, .int .i64 c] rfl rfl HN.out HO.out (by have := HNO.out; simp only [maxLen]; omega) (by have := HNO.out; omega) (by rw [sAl]; omega) (fun v' w' h2 h3 h4 => ?_)
          obtain ⟨gg,vk,cp,rfl⟩:∃gg vk cp,v'=.slice gg vk cp:=by
           rcases h2.2 with ⟨h0,_⟩ | ⟨g,cap,cur,hv,_⟩
           · exact ⟨_,_,_,h0⟩
           · exact ⟨_,_,_,hv⟩
          have hb7:=grown_below hba h3 (fun q e=>by have:=(hOa.lt q e).1;omega) (by have:=hba.size;omega);have hrg7:=hrg4.kept h3 (fun e=>by have:=(hOa.lt _ e.symm).1;omega) (fun e=>by have:=(hOa.lt _ e.symm).1;omega);have H2:=Lib.hid h2;have H4:=Lib.hid h4
          clear h2 h3 h4 hOa hba hrg4 HN HO v0 v1 v2 v3 v4 v5 v6 v7))
      go_roundw
      case rel=>
       refine ⟨_,cnt1,.slice gg vk cp,os++[⟨[p0,p1,p2,p3,p4,p5,p6,p7],c⟩],rfl,hrg7,OwnForm.of H2.out (by simp) (by rw [rcells_append];rfl) ⟨fun e=>absurd (H4.out.1 e).2 (by omega),fun e=>by omega⟩,hb7,Lib.hid ?_⟩;rw [HC.out];exact HP.out.put hm HL.out hS0 hSm HW.out (by rw [HNO.out];exact hn4)
      case measure=>rw [hrg7.left_eq,HM.out];exact hlt
set_option maxHeartbeats 8000000 in
theorem form_c {w : World} {b n : Nat} {S : List Int → Int} (h : MapIs w b n S) (_hn : n ≤ 4000000) (hS : ∀ m, 0 ≤ S m ∧ S m ≤ 10006) :
    Calls Tryz.prog 67 #[.map (some b)] w fun e w'=>FormOf w S e w'∧Below w.heap.size w w':=by
 have hbw:=h.lt
 have HSB:=Lib.hid hS
 have HM0:=Lib.hid h
 clear hS
 obtain ⟨D,hown,hD,hat⟩:=h.keep (bA1 w (.cells #[.slice none 0 0] 59))
 have HAT:=Lib.hid hat
 clear hat h
 have hR:=Own.new w 59 #[.slice none 0 0]
 have hb:=bA1 w (.cells #[.slice none 0 0] 59)
 have hs0:(w.alloc (.cells #[.slice none 0 0] 59)).heap.size=w.heap.size+1:=by rw [sAl]
 go_enter Tryz.func67,Tryz.ntmps67
 go_upto_region 2 with fail
 generalize w.alloc (.cells #[.slice none 0 0] 59)=wa at *
 generalize hg4:w.heap.size+1=g4 at *
 go_wp2_with (first
  | (at_range;refine wpList_range_own _ rfl _ 111 rfl 92 2 Tryz.keyM Tryz.underlying111 _ b n D rfl hown ?_;intro w0 hrg0 hg0 hs1)
  | go_in)
 go_frame
 rw [hs0] at hrg0 hs1
 try rw [hs0]
 have hP0:Part S (Maps.has D) []:=Part.nil_ HAT.out
 have hb0:Below w.heap.size w w0:=grown_below hb hg0 (fun k e=>by cases e) hb.size
 have hR0:=hR.grown hg0 (by simp)
 clear hb hR
 go_loopw [4] (fun y wr=>∃(left:Lit→Bool) (cnt k:Nat) (os:List Tm),y=.int .i64 k∧wr.ranges Tryz.prog 92 (plainElem Tryz.prog 2) b g4 n D left cnt∧Own wr w.heap.size 59 #[.slice none 0 0]∧Below w.heap.size w wr∧Hid (os.length=k)∧Hid (Part S left os)) (fun _ wr=>wr.rangeLeft b g4)
 case atStart=>exact ⟨_,_,0,[],rfl,hrg0,hR0,hb0,Lib.hid rfl,hP0⟩
 case round=>
  clear hrg0 hR0 hb0 hP0 hg0 hs1 hown;obtain ⟨left,cnt,nO,os,rfl,hrg,hR,hb,HNO,hP⟩:=hrel;have hnO4:nO≤400:=by have:=hP.out.len;have:=HNO.out;omega
  go_wp2_with (first
   | (at_next;refine wpList_next_ranges (α:={m:List Int // IsMono m}) (β:=Int) _ rfl _ rfl 92 Tryz.keyM (plainElem Tryz.prog 2) (fun m=>.agg (mcells m.1).toArray) (Value.int .i64) (fun key kl hk=>by obtain ⟨m,hm,e,_⟩:=keyOf_M_inv hk;exact ⟨⟨m,hm⟩,e⟩) (fun v y hy=>by obtain ⟨c,e,_⟩:=plainElem_int_inv Tryz.underlying2 hy;exact ⟨c,e⟩) b g4 n D _ _ rfl hrg ?_ ?_)
   | go_in)
  · intro _ hl0;obtain rfl:left=fun _=>false:=funext hl0;have HP:=Lib.hid hP.out;clear hP hl0 hrg;go_wp2_with fail
    refine (terms_c (HM0.out.keep hb) HSB.out HP.out).mono ?_;rintro e w5 ⟨v5,L,rfl,hR',HL,hb5⟩;obtain ⟨va,nn,vc,rfl⟩:=hR'.isSlice;have hlw:=hb.size;have hRl:=hR.lt;replace hR:=hR.keep hb5 hR.lt;replace hb:=bT' hb hb5 hb.size;clear hb5;have cR:=hR.cell 0;have fR:=hR.frozen 0;go_wp2_with fail
    have q:=hR.set 0 (.slice va nn vc);refine bodyPost_ret (results_row2 rfl _ _ w.heap.size 59 #[.slice va nn vc] (0,0) _ rfl q Tryz.underlying59 rfl Tryz.info_form) rfl ⟨Or.inl ⟨.slice va nn vc,L,rfl,(hR'.set (p:=⟨w.heap.size,0,none⟩) (by dsimp only;omega) _).weaken hlw,HL.out⟩,hb.setCell (p:=⟨w.heap.size,0,none⟩) (Nat.le_refl _) _⟩
  · intro m hm c kl y yp w1 cnt1 hkey hlk hRv hat hrg1 hlt hg1 hs1 hen
    obtain rfl:kl=kM m:=by
     have:=keyOf_M hm;rw [hkey] at this;exact Option.some.inj this
    have hc:c=S m:=by
     obtain ⟨c',e1,e2,_⟩:=plainElem_int_inv Tryz.underlying2 hRv;have h1:=hat (.lit (.int .i64 0));simp only [Prod.mk.injEq] at e2;rw [e2.1,HAT.out m hm] at h1;simp only [DataW.lit.injEq,Lit.int.injEq,true_and] at h1;simp only [Value.int.injEq,true_and] at e1;omega
    clear hkey hRv hat;replace hR:=hR.grown hg1 (by simp only [ne_eq,Option.some.injEq];omega);replace hb:=grown_below hb hg1 (fun k e=>by cases e;omega) hb.size;have hPP:=hP.out;have hSm:=HSB.out m;obtain ⟨p0,p1,p2,p3,p4,p5,p6,p7,rfl⟩:=mono8 hm;simp only [mcells,List.map_cons,List.map_nil] at hen;have hX:=Own.new w1 92 #[.int .u8 p0,.int .u8 p1,.int .u8 p2,.int .u8 p3,.int .u8 p4,.int .u8 p5,.int .u8 p6,.int .u8 p7];have hba:=bA1 w1 (.cells #[.int .u8 p0,.int .u8 p1,.int .u8 p2,.int .u8 p3,.int .u8 p4,.int .u8 p5,.int .u8 p6,.int .u8 p7] 92);have hrg2:=ranges_keep hrg1 hba;replace hR:=hR.alloc (.cells #[.int .u8 p0,.int .u8 p1,.int .u8 p2,.int .u8 p3,.int .u8 p4,.int .u8 p5,.int .u8 p6,.int .u8 p7] 92);replace hb:=bT' hb hba hb.size;have HL:=Lib.hid hlk;have HM:=Lib.hid hrg.left_eq;clear hba hlk hrg hrg1 hg1 hs1;by_cases hc0:c=0
    · subst hc0;go_wp2_with fail
      go_roundw
      case rel=>exact ⟨_,cnt1,nO,os,rfl,hrg2,hR,hb,HNO,Lib.hid (hPP.skip hm HL.out hc.symm)⟩
      case measure=>rw [hrg2.left_eq,HM.out];exact hlt
    · have hcb:(c==0)=false:=(by simpa using hc0);have hS0:¬S [p0,p1,p2,p3,p4,p5,p6,p7]=0:=(by rw [←hc];exact hc0);have HP:=Lib.hid hPP;clear hc hPP hP;have v0:=hX.cell 0;have v1:=hX.cell 1;have v2:=hX.cell 2;have v3:=hX.cell 3;have v4:=hX.cell 4;have v5:=hX.cell 5;have v6:=hX.cell 6;have v7:=hX.cell 7
      cases hwi:within [p0,p1,p2,p3,p4,p5,p6,p7] with
      | false =>
        have HW:=Lib.hid hwi;clear hwi;go_wp2_with fail
        clear v0 v1 v2 v3 v4 v5 v6 v7;generalize w1.alloc (.cells #[.int .u8 p0,.int .u8 p1,.int .u8 p2,.int .u8 p3,.int .u8 p4,.int .u8 p5,.int .u8 p6,.int .u8 p7] 92)=wn at *;refine (withinP8 hm HW.out).mono ?_;rintro e w2 ⟨rfl,hb2⟩;replace hR:=hR.keep hb2 hR.lt;replace hb:=bT' hb hb2 hb.size;have cR:=hR.cell 0;have fR:=hR.frozen 0;go_wp2_with fail
        have q:=hR.set 0 (.slice none 0 0);exact bodyPost_ret (results_row2 rfl _ _ w.heap.size 59 #[.slice none 0 0] (0,0) _ rfl q Tryz.underlying59 rfl Tryz.info_form) rfl ⟨Or.inr ⟨rfl,Or.inl ⟨[p0,p1,p2,p3,p4,p5,p6,p7],hm,hS0,HW.out⟩⟩,hb.setCell (p:=⟨w.heap.size,0,none⟩) (Nat.le_refl _) _⟩
      | true =>
        have HW:=Lib.hid hwi;clear hwi;go_wp2_with fail
        clear v0 v1 v2 v3 v4 v5 v6 v7;generalize w1.alloc (.cells #[.int .u8 p0,.int .u8 p1,.int .u8 p2,.int .u8 p3,.int .u8 p4,.int .u8 p5,.int .u8 p6,.int .u8 p7] 92)=wn at *;refine (withinP8 hm HW.out).mono ?_;rintro e w2 ⟨rfl,hb2⟩;replace hR:=hR.keep hb2 hR.lt;have hrg3:=ranges_keep hrg2 hb2;replace hb:=bT' hb hb2 hb.size;clear hrg2 hb2;by_cases h400:nO=400
        · have h4b:((nO:Int)==400)=true:=(by rw [h400];rfl);have cR:=hR.cell 0;have fR:=hR.frozen 0;go_wp2_with fail
          have q:=hR.set 0 (.slice none 0 0);refine bodyPost_ret (results_row2 rfl _ _ w.heap.size 59 #[.slice none 0 0] (0,0) _ rfl q Tryz.underlying59 rfl Tryz.info_form) rfl ⟨Or.inr ⟨rfl,Or.inr ⟨[p0,p1,p2,p3,p4,p5,p6,p7]::os.map (·.m),?_,?_,?_⟩⟩,hb.setCell (p:=⟨w.heap.size,0,none⟩) (Nat.le_refl _) _⟩
          · rw [List.nodup_cons];refine ⟨fun hin=>?_,HP.out.nd⟩;obtain ⟨t,ht,e⟩:=List.mem_map.1 hin;exact HP.out.fresh hm HL.out t ht e
          · rw [List.length_cons,List.length_map,HNO.out];omega
          · intro k hk;rw [List.mem_cons] at hk
            rcases hk with rfl | hk
            · exact ⟨hm,hS0⟩
            · obtain ⟨t,ht,rfl⟩:=List.mem_map.1 hk;exact ⟨(HP.out.tm t ht).1,by have:=HP.out.val t ht;rw [←this.1];exact this.2⟩
        · have h4b:((nO:Int)==400)=false:=(by simp;omega);go_wp2_with fail
          go_roundw
          case rel=>
           exact ⟨_,cnt1,nO+1,os++[⟨[p0,p1,p2,p3,p4,p5,p6,p7],S [p0,p1,p2,p3,p4,p5,p6,p7]⟩],by simp,hrg3,hR,hb,Lib.hid (by rw [List.length_append,HNO.out];rfl),Lib.hid (HP.out.put hm HL.out hS0 hSm HW.out (by rw [HNO.out];omega))⟩
          case measure=>rw [hrg3.left_eq,HM.out];exact hlt
end Go.Proofs.YtdppjlndcacfnaaGreat
