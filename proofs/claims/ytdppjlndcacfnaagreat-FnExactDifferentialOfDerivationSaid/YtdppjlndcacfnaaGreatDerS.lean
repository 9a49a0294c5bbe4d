
import Derived.Test.YtdppjlndcacfnaaGreatFdim
import Derived.Test.YtdppjlndcacfnaaGreatFree
namespace Go.Proofs.YtdppjlndcacfnaaGreat
set_option maxRecDepth 100000
open Go.RowKit Go.Deep
theorem wtTo_nnD {zs m:List Int} (hz:∀z∈zs,1≤z) (hm:IsMono m):∀k,0≤wtTo zs m k
 | 0=>by rw [wtTo];omega
 | k + 1 => by
   have ih:=wtTo_nnD hz hm k;have h2:=getD_mono hm k
   have h3:0≤zs.getD k 0:=by
    by_cases hk:k<zs.length
    · have:=hz zs[k] (List.getElem_mem hk);simp [List.getD,hk]
      omega
    · simp [List.getD,List.getElem?_eq_none (Nat.le_of_not_lt hk)]
   have:=Int.mul_nonneg h3 h2.1;rw [wtTo];omega
theorem degA_neg {zs:List Int} {ts:List Tm} (hz:degsOk zs=true) (hT:∀t∈ts,IsTm t) (hW:allW zs ts=true) (h:degA zs ts<0):ts.length=0:=by
 cases ts with
 | nil=>rfl
 | cons t r =>
   rw [degA,if_pos hW,headW_of (t:=t) rfl,wt] at h
   have:=wtTo_nnD (zs:=zs) (m:=t.m) (fun z hz2=>by
    obtain ⟨i,hi,rfl⟩:=List.mem_iff_getElem.1 hz2
    exact (degsOk_at hz (List.getElem?_eq_getElem hi)).1) (hT t (by simp)).1 zs.length
   omega
def derAt (zs:List Int) (k:Int) (gss:List (List Tm)) (i:Nat):Bool:=zeroOr zs (gss.getD i []) (zs.getD i 0 - k)
def derF (zs:List Int) (k:Int) (gss:List (List Tm)):Bool:=(List.range gss.length).all (derAt zs k gss)
def derB (zs:List Int) (ims:List (List Tm)) (k:Int) (gss:List (List Tm)):Bool:=isAlg zs ims && (decide (0≤k∧k≤12) && (decide (gss.length=zs.length) && derF zs k gss))
theorem derB_no1 {zs:List Int} {ims gss:List (List Tm)} {k:Int} (h:isAlg zs ims=false):derB zs ims k gss=false:=by rw [derB,h];rfl
theorem derB_no2 {zs:List Int} {ims gss:List (List Tm)} {k:Int} (h:¬(0≤k∧k≤12)):derB zs ims k gss=false:=by rw [derB,decide_eq_false h];simp
theorem derB_no3 {zs:List Int} {ims gss:List (List Tm)} {k:Int} (h:¬gss.length=zs.length):derB zs ims k gss=false:=by rw [derB,decide_eq_false h];simp
theorem derB_no4 {zs:List Int} {ims gss:List (List Tm)} {k:Int} (h:derF zs k gss=false):derB zs ims k gss=false:=by rw [derB,h];simp
theorem derB_yes {zs:List Int} {ims gss:List (List Tm)} {k:Int} (h1:isAlg zs ims=true) (h2:0≤k∧k≤12) (h3:gss.length=zs.length) (h4:derF zs k gss=true):derB zs ims k gss=true:=by rw [derB,h1,decide_eq_true h2,decide_eq_true h3,h4];rfl
theorem derAt_of {zs:List Int} {k z:Int} {gss:List (List Tm)} {i:Nat} {ts:List Tm} {B:Bool} (hz:zs[i]? = some z) (hx:gss[i]? = some ts) (h:zeroOr zs ts (z - k)=B):derAt zs k gss i=B:=by
 rw [derAt,List.getD_eq_getElem?_getD,List.getD_eq_getElem?_getD,hz,hx]
 exact h
set_option maxHeartbeats 8000000 in
theorem l09Is_c {w : World} {da : Option Addr} {dn : Nat} {zs : List Int} {a : Option Addr} {n : Nat} {ims : List (List Tm)} {a2 : Option Addr} {n2 : Nat} {gss : List (List Tm)} (dc c : Nat) (k : Int) (c2 : Nat) (hd : Ints w da dn zs) (hdn : dn ≤ 1048576) (hF : Frms w a n ims) (hn : n ≤ 1048576) (hL : ∀ im ∈ ims, (im.length : Int) ≤ 1048576) (hF2 : Frms w a2 n2 gss) (hn2 : n2 ≤ 1048576) (hL2 : ∀ im ∈ gss, (im.length : Int) ≤ 1048576) :
    Calls Tryz.prog 29 #[.agg #[.slice da dn dc,.slice a n c],.agg #[.int .i64 k,.slice a2 n2 c2]] w fun e w'=>e=.returned (.bool (derB zs ims k gss))∧Below w.heap.size w w':=by
 have HLL:=Lib.hid hL
 have HLL2:=Lib.hid hL2
 have HLE:=Lib.hid hd.len
 have HLn:=Lib.hid hF2.len
 have HD:=Lib.hid hd
 have HFF:=Lib.hid hF2
 clear hL hL2
 have hA:=(Own.new w 36 #[.slice da dn dc,.slice a n c]).alloc (.cells #[.int .i64 k,.slice a2 n2 c2] 32)
 have hT:=Own.new (w.alloc (.cells #[.slice da dn dc,.slice a n c] 36)) 32 #[.int .i64 k,.slice a2 n2 c2]
 rw [sAl] at hT
 have hb:=bTn (bA1 w (.cells #[.slice da dn dc,.slice a n c] 36)) (bA1 _ (.cells #[.int .i64 k,.slice a2 n2 c2] 32))
 cases hal:isAlg zs ims
 all_goals
  have HA:=Lib.hid hal;clear hal;go_enter Tryz.func29,Tryz.ntmps29
  go_upto_region 1 with fail
  generalize (w.alloc (.cells #[.slice da dn dc,.slice a n c] 36)).alloc (.cells #[.int .i64 k,.slice a2 n2 c2] 32)=w0 at *;obtain ⟨g0,hg0⟩:∃g,w.heap.size=g:=⟨_,rfl⟩;obtain ⟨g1,hg1⟩:∃g,w.heap.size+1=g:=⟨_,rfl⟩;have HG:=Lib.hid hg0;have h01:g0<g1:=(by omega);have hbw:=hb;rw [hg1] at hT;rw [hg0] at hA hb
  try rw [hg1]
  try rw [hg0]
  clear hg0 hg1;have c0:=hA.cell 0;have c1:=hA.cell 1;have d0:=hT.cell 0;have d1:=hT.cell 1;go_wp2_with fail
  refine (l02Is_c dc c (hd.keep hbw) hdn (hF.keep hbw) hn HLL.out).mono ?_;rintro e w1 ⟨rfl,hb1⟩;rw [HA.out];replace hb:=bT' hb hb1 (Nat.le_of_lt hA.lt);replace hA:=hA.keep hb1 hA.lt;replace hT:=hT.keep hb1 hT.lt;clear hbw hb1 c0 c1 d0 d1;have c0:=hA.cell 0;have d0:=hT.cell 0;have d1:=hT.cell 1
 · go_wp2_with fail
   go_ret
   exact ⟨ret_b (derB_no1 HA.out).symm,by rw [HG.out];exact hb⟩
 · have hdz:=isAlg_dz HA.out;have h8:=degsOk_len hdz;have HDG:=Lib.hid hdz;have HMI:=Lib.hid (degsOk_mild hdz);have hlen:=HLE.out;have hd8:dn≤8:=(by omega);clear hdz hlen h8;go_wp2_with fail
   refine (l01In_c k 0 12 _).mono ?_;rintro e w5 ⟨rfl,rfl⟩;by_cases hk:0≤k∧k≤12
   · rw [decide_eq_true hk];have hk1:=hk.1;have hk2:=hk.2;have HK:=Lib.hid hk;clear hk;by_cases hnd:n2=dn
     · subst hnd;have hnn:((n2:Int) != (n2:Int))=false:=(by simp);go_wp2_with fail
       clear hnn c0 d0 d1
       go_loopw [5] (fun y wr=>∃i:Nat,i≤n2∧y=.int .i64 i∧Below g0 w wr∧Own wr g0 36 #[.slice da n2 dc,.slice a n c]∧Own wr g1 32 #[.int .i64 k,.slice a2 n2 c2]∧Hid ((List.range i).all (derAt zs k gss)=true)) (fun y _=>n2 - (intOf y).toNat)
       case atStart=>exact ⟨0,Nat.zero_le _,rfl,hb,hA,hT,rfl⟩
       case round=>
        clear hb hA hT;obtain ⟨i,hi,rfl,hb,hA,hT,H⟩:=hrel;have hbw:Below w.heap.size w wr:=(by rw [HG.out];exact hb);have c0:=hA.cell 0;have d0:=hT.cell 0;have d1:=hT.cell 1;have hi0:(0:Int)≤(i:Int):=(by omega);by_cases hlt:i<n2
        · obtain ⟨b,off,ts,ai,ni,ci,rfl,hbl,hc,hTs,hni,hx⟩:=(HFF.out.keep hbw).at_ hlt;obtain ⟨bd,od,z,rfl,hbd,hcd,hz⟩:=(HD.out.keep hbw).at_ hlt;have hzb:=degsOk_at HDG.out hz.out;have hni2:ni≤1048576:=(by have:=HLL2.out ts (List.mem_of_getElem? hx.out);have:=hTs.len;omega);have HTL:=Lib.hid hTs.len;have HTM:=Lib.hid hTs.2.1;have HZO:=Lib.hid (zeroOr_eq (ts:=ts) (x:=z - k) HDG.out);have hin:(i:Int)<(n2:Int):=(by omega);have hgw:g0<wr.heap.size:=hA.lt;have s5:IntKind.i64.wrap (z - k)=z - k:=IntWalk.i64_in _ (by omega);generalize hQ1:(listOk zs ts && decide (ts.length≤400))=Q1 at *;have HQ1:=Lib.hid hQ1;clear hQ1;generalize hDv:degA zs ts=D at *;generalize hWv:allW zs ts=W at *;have HDV:=Lib.hid hDv;have HWV:=Lib.hid hWv;clear hDv hWv;go_upto_region 6 with fail
          have hT1:=Lib.hid (hTs.keep ((Below.refl _ _).drew:Below wr.heap.size wr wr.drew));have hDn:=Lib.hid ((HD.out.keep hbw).keep ((Below.refl _ _).drew:Below wr.heap.size wr wr.drew));replace hA:Own wr.drew g0 36 #[.slice (some ⟨bd,od,none⟩) n2 dc,.slice a n c]:=hA;replace hT:Own wr.drew g1 32 #[.int .i64 k,.slice (some ⟨b,off,none⟩) n2 c2]:=hT;replace hb:Below g0 w wr.drew:=hb.drew;replace hc:wr.drew.cell? ⟨b,off+i,none⟩=some (.slice ai ni ci):=hc;replace hcd:wr.drew.cell? ⟨bd,od+i,none⟩=some (.int .i64 z):=hcd;clear c0 d0 d1 hTs hbw hbl hbd
          go_region_held3 (fun w'=>w'.cell? ⟨g0,0,none⟩=some (.slice (some ⟨bd,od,none⟩) n2 dc)∧w'.cell? ⟨g1,1,none⟩=some (.slice (some ⟨b,off,none⟩) n2 c2)∧w'.cell? ⟨b,off+i,none⟩=some (.slice ai ni ci)) (exact ⟨hA.cell 0,hT.cell 1,hc⟩)
           (first | (go_at_call 55;refine (l01Degree_c dc ci hDn.out hd8 HMI.out hT1.out hni2).mono ?_;rintro e wx ⟨rfl,hbx⟩;rw [HDV.out,HWV.out];have hb4:=bT' hb hbx (Nat.le_of_lt hA.lt);have hA4:=hA.keep hbx hA.lt;have hT4:=hT.keep hbx hT.lt;have hc4:=(World.cell?_of_block (a:=⟨b,off+i,none⟩) (hbx.block b (World.block_lt_of_cell? _ _ hc))).trans hc;have hcd4:=(World.cell?_of_block (a:=⟨bd,od+i,none⟩) (hbx.block bd (World.block_lt_of_cell? _ _ hcd))).trans hcd;have hTT:=Lib.hid (hT1.out.keep hbx);have hDD:=Lib.hid (hDn.out.keep hbx);clear hA hT hb hc hcd hT1 hDn hbx;have hA:=hA4;have hT:=hT4;have hb:=hb4;have hc:=hc4;have hcd:=hcd4;clear hA4 hT4 hb4 hc4 hcd4))
          cases Q1 with
          | false =>
            go_upto_region 7 with fail
            have hTT2:=Lib.hid (hTT.out.keep ((Below.refl _ _).drew:Below wx.heap.size wx wx.drew));have hDD2:=Lib.hid (hDD.out.keep ((Below.refl _ _).drew:Below wx.heap.size wx wx.drew));replace hA:Own wx.drew g0 36 #[.slice (some ⟨bd,od,none⟩) n2 dc,.slice a n c]:=hA;replace hT:Own wx.drew g1 32 #[.int .i64 k,.slice (some ⟨b,off,none⟩) n2 c2]:=hT;replace hb:Below g0 w wx.drew:=hb.drew;replace hc:wx.drew.cell? ⟨b,off+i,none⟩=some (.slice ai ni ci):=hc;replace hcd:wx.drew.cell? ⟨bd,od+i,none⟩=some (.int .i64 z):=hcd;refine wp_region_held_drew (S:=(fun w'=>w'.cell? ⟨g0,0,none⟩=some (.slice (some ⟨bd,od,none⟩) n2 dc)∧w'.cell? ⟨g1,0,none⟩=some (.int .i64 k)∧w'.cell? ⟨g1,1,none⟩=some (.slice (some ⟨b,off,none⟩) n2 c2)∧w'.cell? ⟨b,off+i,none⟩=some (.slice ai ni ci)∧w'.cell? ⟨bd,od+i,none⟩=some (.int .i64 z))) (by kernel_rfl) ?_ (fun _=>?_)
            · ((try dsimp only);(exact ⟨hA.cell 0,hT.cell 0,hT.cell 1,hc,hcd⟩))
            generalize wx.drew=Wd at *;refine hdT 0 ?_;refine hdT 1 ?_;refine hdT 2 ?_;refine hdT 3 ?_;refine hdT 4 ?_;refine hdT 5 ?_;refine hdT 6 ?_;refine hdC 7 (fun K hK=>?_)
            (go_simp;(go_at_call 56;refine (l01Is_c dc ci hDD2.out (by omega) hTT2.out hni2).mono ?_;rintro e wv ⟨rfl,hbv⟩;rw [HQ1.out]);go_wp2_with fail)
            replace hb:=bT' hb hbv (Nat.le_of_lt hA.lt);replace hA:=hA.keep hbv hA.lt;replace hT:=hT.keep hbv hT.lt;replace hc:=(World.cell?_of_block (a:=⟨b,off+i,none⟩) (hbv.block b (World.block_lt_of_cell? _ _ hc))).trans hc;replace hcd:=(World.cell?_of_block (a:=⟨bd,od+i,none⟩) (hbv.block bd (World.block_lt_of_cell? _ _ hcd))).trans hcd;clear hbv hTT hDD hTT2 hDD2;refine hK.out _ _ ?_ (fun _=>?_)
            · ((try dsimp only);(exact ⟨hA.cell 0,hT.cell 0,hT.cell 1,hc,hcd⟩))
            clear hK K
            (try simp only [Act.put,pA,pB,pC])
            first | refine hdT 8 ?_ | refine hdU 8 ?_
            first | refine hdT 9 ?_ | refine hdU 9 ?_
            first | refine hdT 10 ?_ | refine hdU 10 ?_
            first | refine hdT 11 ?_ | refine hdU 11 ?_
            first | refine hdT 12 ?_ | refine hdU 12 ?_
            first | refine hdT 13 ?_ | refine hdU 13 ?_
            first | refine hdT 14 ?_ | refine hdU 14 ?_
            first | refine hdT 15 ?_ | refine hdU 15 ?_
            first | refine hdT 16 ?_ | refine hdU 16 ?_
            first | refine hdT 17 ?_ | refine hdU 17 ?_
            first | refine hdT 18 ?_ | refine hdU 18 ?_
            first | refine hdT 19 ?_ | refine hdU 19 ?_
            first | refine hdT 20 ?_ | refine hdU 20 ?_
            first | refine hdT 21 ?_ | refine hdU 21 ?_
            first | refine hdT 22 ?_ | refine hdU 22 ?_
            first | refine hdT 23 ?_ | refine hdU 23 ?_
            first | refine hdT 24 ?_ | refine hdU 24 ?_
            first | refine hdT 25 ?_ | refine hdU 25 ?_
            first | refine hdT 26 ?_ | refine hdU 26 ?_
            first | refine hdT 27 ?_ | refine hdU 27 ?_
            first | refine hdT 28 ?_ | refine hdU 28 ?_
            refine wpAnyH_done (by kernel_rfl) ?_ _;go_wp2_with fail
            go_ret
            exact ⟨ret_b (derB_no4 (by rw [derF,HLn.out];exact range_all_no hlt (derAt_of hz.out hx.out (by rw [HZO.out];rfl)))).symm,by rw [HG.out];exact hb⟩
          | true =>
            cases W with
            | false =>
              go_upto_region 7 with fail
              have hTT2:=Lib.hid (hTT.out.keep ((Below.refl _ _).drew:Below wx.heap.size wx wx.drew));have hDD2:=Lib.hid (hDD.out.keep ((Below.refl _ _).drew:Below wx.heap.size wx wx.drew));replace hA:Own wx.drew g0 36 #[.slice (some ⟨bd,od,none⟩) n2 dc,.slice a n c]:=hA;replace hT:Own wx.drew g1 32 #[.int .i64 k,.slice (some ⟨b,off,none⟩) n2 c2]:=hT;replace hb:Below g0 w wx.drew:=hb.drew;replace hc:wx.drew.cell? ⟨b,off+i,none⟩=some (.slice ai ni ci):=hc;replace hcd:wx.drew.cell? ⟨bd,od+i,none⟩=some (.int .i64 z):=hcd;refine wp_region_held_drew (S:=(fun w'=>w'.cell? ⟨g0,0,none⟩=some (.slice (some ⟨bd,od,none⟩) n2 dc)∧w'.cell? ⟨g1,0,none⟩=some (.int .i64 k)∧w'.cell? ⟨g1,1,none⟩=some (.slice (some ⟨b,off,none⟩) n2 c2)∧w'.cell? ⟨b,off+i,none⟩=some (.slice ai ni ci)∧w'.cell? ⟨bd,od+i,none⟩=some (.int .i64 z))) (by kernel_rfl) ?_ (fun _=>?_)
              · ((try dsimp only);(exact ⟨hA.cell 0,hT.cell 0,hT.cell 1,hc,hcd⟩))
              generalize wx.drew=Wd at *;refine hdT 0 ?_;refine hdT 1 ?_;refine hdT 2 ?_;refine hdT 3 ?_;refine hdT 4 ?_;refine hdT 5 ?_;refine hdT 6 ?_;refine hdC 7 (fun K hK=>?_)
              (go_simp;(go_at_call 56;refine (l01Is_c dc ci hDD2.out (by omega) hTT2.out hni2).mono ?_;rintro e wv ⟨rfl,hbv⟩;rw [HQ1.out]);go_wp2_with fail)
              replace hb:=bT' hb hbv (Nat.le_of_lt hA.lt);replace hA:=hA.keep hbv hA.lt;replace hT:=hT.keep hbv hT.lt;replace hc:=(World.cell?_of_block (a:=⟨b,off+i,none⟩) (hbv.block b (World.block_lt_of_cell? _ _ hc))).trans hc;replace hcd:=(World.cell?_of_block (a:=⟨bd,od+i,none⟩) (hbv.block bd (World.block_lt_of_cell? _ _ hcd))).trans hcd;clear hbv hTT hDD hTT2 hDD2;refine hK.out _ _ ?_ (fun _=>?_)
              · ((try dsimp only);(exact ⟨hA.cell 0,hT.cell 0,hT.cell 1,hc,hcd⟩))
              clear hK K
              (try simp only [Act.put,pA,pB,pC])
              first | refine hdT 8 ?_ | refine hdU 8 ?_
              first | refine hdT 9 ?_ | refine hdU 9 ?_
              first | refine hdT 10 ?_ | refine hdU 10 ?_
              first | refine hdT 11 ?_ | refine hdU 11 ?_
              first | refine hdT 12 ?_ | refine hdU 12 ?_
              first | refine hdT 13 ?_ | refine hdU 13 ?_
              first | refine hdT 14 ?_ | refine hdU 14 ?_
              first | refine hdT 15 ?_ | refine hdU 15 ?_
              first | refine hdT 16 ?_ | refine hdU 16 ?_
              first | refine hdT 17 ?_ | refine hdU 17 ?_
              first | refine hdT 18 ?_ | refine hdU 18 ?_
              first | refine hdT 19 ?_ | refine hdU 19 ?_
              first | refine hdT 20 ?_ | refine hdU 20 ?_
              first | refine hdT 21 ?_ | refine hdU 21 ?_
              first | refine hdT 22 ?_ | refine hdU 22 ?_
              first | refine hdT 23 ?_ | refine hdU 23 ?_
              first | refine hdT 24 ?_ | refine hdU 24 ?_
              first | refine hdT 25 ?_ | refine hdU 25 ?_
              first | refine hdT 26 ?_ | refine hdU 26 ?_
              first | refine hdT 27 ?_ | refine hdU 27 ?_
              first | refine hdT 28 ?_ | refine hdU 28 ?_
              refine wpAnyH_done (by kernel_rfl) ?_ _;go_wp2_with fail
              go_ret
              exact ⟨ret_b (derB_no4 (by rw [derF,HLn.out];exact range_all_no hlt (derAt_of hz.out hx.out (by rw [HZO.out];simp)))).symm,by rw [HG.out];exact hb⟩
            | true =>
              by_cases hD0:0≤D
              · have hD1:decide (0≤D)=true:=decide_eq_true hD0;by_cases hDz:D=z - k
                · have hDb:(D != (z - k))=false:=(by simpa using hDz);have HDz:=Lib.hid hDz;clear hDz;go_upto_region 7 with fail
                  have hTT2:=Lib.hid (hTT.out.keep ((Below.refl _ _).drew:Below wx.heap.size wx wx.drew));have hDD2:=Lib.hid (hDD.out.keep ((Below.refl _ _).drew:Below wx.heap.size wx wx.drew));replace hA:Own wx.drew g0 36 #[.slice (some ⟨bd,od,none⟩) n2 dc,.slice a n c]:=hA;replace hT:Own wx.drew g1 32 #[.int .i64 k,.slice (some ⟨b,off,none⟩) n2 c2]:=hT;replace hb:Below g0 w wx.drew:=hb.drew;replace hc:wx.drew.cell? ⟨b,off+i,none⟩=some (.slice ai ni ci):=hc;replace hcd:wx.drew.cell? ⟨bd,od+i,none⟩=some (.int .i64 z):=hcd;refine wp_region_held_drew (S:=(fun w'=>w'.cell? ⟨g0,0,none⟩=some (.slice (some ⟨bd,od,none⟩) n2 dc)∧w'.cell? ⟨g1,0,none⟩=some (.int .i64 k)∧w'.cell? ⟨g1,1,none⟩=some (.slice (some ⟨b,off,none⟩) n2 c2)∧w'.cell? ⟨b,off+i,none⟩=some (.slice ai ni ci)∧w'.cell? ⟨bd,od+i,none⟩=some (.int .i64 z))) (by kernel_rfl) ?_ (fun _=>?_)
                  · ((try dsimp only);(exact ⟨hA.cell 0,hT.cell 0,hT.cell 1,hc,hcd⟩))
                  generalize wx.drew=Wd at *;refine hdT 0 ?_;refine hdT 1 ?_;refine hdT 2 ?_;refine hdT 3 ?_;refine hdT 4 ?_;refine hdT 5 ?_;refine hdT 6 ?_;refine hdC 7 (fun K hK=>?_)
                  (go_simp;(go_at_call 56;refine (l01Is_c dc ci hDD2.out (by omega) hTT2.out hni2).mono ?_;rintro e wv ⟨rfl,hbv⟩;rw [HQ1.out]);go_wp2_with fail)
                  replace hb:=bT' hb hbv (Nat.le_of_lt hA.lt);replace hA:=hA.keep hbv hA.lt;replace hT:=hT.keep hbv hT.lt;replace hc:=(World.cell?_of_block (a:=⟨b,off+i,none⟩) (hbv.block b (World.block_lt_of_cell? _ _ hc))).trans hc;replace hcd:=(World.cell?_of_block (a:=⟨bd,od+i,none⟩) (hbv.block bd (World.block_lt_of_cell? _ _ hcd))).trans hcd;clear hbv hTT hDD hTT2 hDD2;refine hK.out _ _ ?_ (fun _=>?_)
                  · ((try dsimp only);(exact ⟨hA.cell 0,hT.cell 0,hT.cell 1,hc,hcd⟩))
                  clear hK K
                  (try simp only [Act.put,pA,pB,pC])
                  first | refine hdT 8 ?_ | refine hdU 8 ?_
                  first | refine hdT 9 ?_ | refine hdU 9 ?_
                  first | refine hdT 10 ?_ | refine hdU 10 ?_
                  first | refine hdT 11 ?_ | refine hdU 11 ?_
                  first | refine hdT 12 ?_ | refine hdU 12 ?_
                  first | refine hdT 13 ?_ | refine hdU 13 ?_
                  first | refine hdT 14 ?_ | refine hdU 14 ?_
                  first | refine hdT 15 ?_ | refine hdU 15 ?_
                  first | refine hdT 16 ?_ | refine hdU 16 ?_
                  first | refine hdT 17 ?_ | refine hdU 17 ?_
                  first | refine hdT 18 ?_ | refine hdU 18 ?_
                  first | refine hdT 19 ?_ | refine hdU 19 ?_
                  first | refine hdT 20 ?_ | refine hdU 20 ?_
                  first | refine hdT 21 ?_ | refine hdU 21 ?_
                  first | refine hdT 22 ?_ | refine hdU 22 ?_
                  first | refine hdT 23 ?_ | refine hdU 23 ?_
                  first | refine hdT 24 ?_ | refine hdU 24 ?_
                  first | refine hdT 25 ?_ | refine hdU 25 ?_
                  first | refine hdT 26 ?_ | refine hdU 26 ?_
                  first | refine hdT 27 ?_ | refine hdU 27 ?_
                  first | refine hdT 28 ?_ | refine hdU 28 ?_
                  refine wpAnyH_done (by kernel_rfl) ?_ _;go_wp2_with fail
                  go_roundw
                  case rel=>exact ⟨i+1,by omega,by go_num,hb,hA,hT,range_all_step H.out (derAt_of hz.out hx.out (by rw [HZO.out];simp [HDz.out]))⟩
                  case measure=>simp [intOf] <;> omega
                · have hDb:(D != (z - k))=true:=(by simpa using hDz);have HN0:Hid (¬ts.length=0):=Lib.hid (fun h0=>by rw [←HDV.out,degA,List.eq_nil_of_length_eq_zero h0] at hD0;simp [allW,headW] at hD0);go_upto_region 7 with fail
                  have hTT2:=Lib.hid (hTT.out.keep ((Below.refl _ _).drew:Below wx.heap.size wx wx.drew));have hDD2:=Lib.hid (hDD.out.keep ((Below.refl _ _).drew:Below wx.heap.size wx wx.drew));replace hA:Own wx.drew g0 36 #[.slice (some ⟨bd,od,none⟩) n2 dc,.slice a n c]:=hA;replace hT:Own wx.drew g1 32 #[.int .i64 k,.slice (some ⟨b,off,none⟩) n2 c2]:=hT;replace hb:Below g0 w wx.drew:=hb.drew;replace hc:wx.drew.cell? ⟨b,off+i,none⟩=some (.slice ai ni ci):=hc;replace hcd:wx.drew.cell? ⟨bd,od+i,none⟩=some (.int .i64 z):=hcd;refine wp_region_held_drew (S:=(fun w'=>w'.cell? ⟨g0,0,none⟩=some (.slice (some ⟨bd,od,none⟩) n2 dc)∧w'.cell? ⟨g1,0,none⟩=some (.int .i64 k)∧w'.cell? ⟨g1,1,none⟩=some (.slice (some ⟨b,off,none⟩) n2 c2)∧w'.cell? ⟨b,off+i,none⟩=some (.slice ai ni ci)∧w'.cell? ⟨bd,od+i,none⟩=some (.int .i64 z))) (by kernel_rfl) ?_ (fun _=>?_)
                  · ((try dsimp only);(exact ⟨hA.cell 0,hT.cell 0,hT.cell 1,hc,hcd⟩))
                  generalize wx.drew=Wd at *;refine hdT 0 ?_;refine hdT 1 ?_;refine hdT 2 ?_;refine hdT 3 ?_;refine hdT 4 ?_;refine hdT 5 ?_;refine hdT 6 ?_;refine hdC 7 (fun K hK=>?_)
                  (go_simp;(go_at_call 56;refine (l01Is_c dc ci hDD2.out (by omega) hTT2.out hni2).mono ?_;rintro e wv ⟨rfl,hbv⟩;rw [HQ1.out]);go_wp2_with fail)
                  replace hb:=bT' hb hbv (Nat.le_of_lt hA.lt);replace hA:=hA.keep hbv hA.lt;replace hT:=hT.keep hbv hT.lt;replace hc:=(World.cell?_of_block (a:=⟨b,off+i,none⟩) (hbv.block b (World.block_lt_of_cell? _ _ hc))).trans hc;replace hcd:=(World.cell?_of_block (a:=⟨bd,od+i,none⟩) (hbv.block bd (World.block_lt_of_cell? _ _ hcd))).trans hcd;clear hbv hTT hDD hTT2 hDD2;refine hK.out _ _ ?_ (fun _=>?_)
                  · ((try dsimp only);(exact ⟨hA.cell 0,hT.cell 0,hT.cell 1,hc,hcd⟩))
                  clear hK K
                  (try simp only [Act.put,pA,pB,pC])
                  first | refine hdT 8 ?_ | refine hdU 8 ?_
                  first | refine hdT 9 ?_ | refine hdU 9 ?_
                  first | refine hdT 10 ?_ | refine hdU 10 ?_
                  first | refine hdT 11 ?_ | refine hdU 11 ?_
                  first | refine hdT 12 ?_ | refine hdU 12 ?_
                  first | refine hdT 13 ?_ | refine hdU 13 ?_
                  first | refine hdT 14 ?_ | refine hdU 14 ?_
                  first | refine hdT 15 ?_ | refine hdU 15 ?_
                  first | refine hdT 16 ?_ | refine hdU 16 ?_
                  first | refine hdT 17 ?_ | refine hdU 17 ?_
                  first | refine hdT 18 ?_ | refine hdU 18 ?_
                  first | refine hdT 19 ?_ | refine hdU 19 ?_
                  first | refine hdT 20 ?_ | refine hdU 20 ?_
                  first | refine hdT 21 ?_ | refine hdU 21 ?_
                  first | refine hdT 22 ?_ | refine hdU 22 ?_
                  first | refine hdT 23 ?_ | refine hdU 23 ?_
                  first | refine hdT 24 ?_ | refine hdU 24 ?_
                  first | refine hdT 25 ?_ | refine hdU 25 ?_
                  first | refine hdT 26 ?_ | refine hdU 26 ?_
                  first | refine hdT 27 ?_ | refine hdU 27 ?_
                  first | refine hdT 28 ?_ | refine hdU 28 ?_
                  refine wpAnyH_done (by kernel_rfl) ?_ _;go_wp2_with fail
                  go_ret
                  exact ⟨ret_b (derB_no4 (by rw [derF,HLn.out];exact range_all_no hlt (derAt_of hz.out hx.out (by rw [HZO.out];simp [hDz,HN0.out])))).symm,by rw [HG.out];exact hb⟩
              · have hD1:decide (0≤D)=false:=decide_eq_false hD0;have HN0:Hid (ts.length=0):=Lib.hid (degA_neg HDG.out (HTM.out) HWV.out (by rw [HDV.out];omega));go_upto_region 7 with fail
                have hTT2:=Lib.hid (hTT.out.keep ((Below.refl _ _).drew:Below wx.heap.size wx wx.drew));have hDD2:=Lib.hid (hDD.out.keep ((Below.refl _ _).drew:Below wx.heap.size wx wx.drew));replace hA:Own wx.drew g0 36 #[.slice (some ⟨bd,od,none⟩) n2 dc,.slice a n c]:=hA;replace hT:Own wx.drew g1 32 #[.int .i64 k,.slice (some ⟨b,off,none⟩) n2 c2]:=hT;replace hb:Below g0 w wx.drew:=hb.drew;replace hc:wx.drew.cell? ⟨b,off+i,none⟩=some (.slice ai ni ci):=hc;replace hcd:wx.drew.cell? ⟨bd,od+i,none⟩=some (.int .i64 z):=hcd;refine wp_region_held_drew (S:=(fun w'=>w'.cell? ⟨g0,0,none⟩=some (.slice (some ⟨bd,od,none⟩) n2 dc)∧w'.cell? ⟨g1,0,none⟩=some (.int .i64 k)∧w'.cell? ⟨g1,1,none⟩=some (.slice (some ⟨b,off,none⟩) n2 c2)∧w'.cell? ⟨b,off+i,none⟩=some (.slice ai ni ci)∧w'.cell? ⟨bd,od+i,none⟩=some (.int .i64 z))) (by kernel_rfl) ?_ (fun _=>?_)
                · ((try dsimp only);(exact ⟨hA.cell 0,hT.cell 0,hT.cell 1,hc,hcd⟩))
                generalize wx.drew=Wd at *;refine hdT 0 ?_;refine hdT 1 ?_;refine hdT 2 ?_;refine hdT 3 ?_;refine hdT 4 ?_;refine hdT 5 ?_;refine hdT 6 ?_;refine hdC 7 (fun K hK=>?_)
                (go_simp;(go_at_call 56;refine (l01Is_c dc ci hDD2.out (by omega) hTT2.out hni2).mono ?_;rintro e wv ⟨rfl,hbv⟩;rw [HQ1.out]);go_wp2_with fail)
                replace hb:=bT' hb hbv (Nat.le_of_lt hA.lt);replace hA:=hA.keep hbv hA.lt;replace hT:=hT.keep hbv hT.lt;replace hc:=(World.cell?_of_block (a:=⟨b,off+i,none⟩) (hbv.block b (World.block_lt_of_cell? _ _ hc))).trans hc;replace hcd:=(World.cell?_of_block (a:=⟨bd,od+i,none⟩) (hbv.block bd (World.block_lt_of_cell? _ _ hcd))).trans hcd;clear hbv hTT hDD hTT2 hDD2;refine hK.out _ _ ?_ (fun _=>?_)
                · ((try dsimp only);(exact ⟨hA.cell 0,hT.cell 0,hT.cell 1,hc,hcd⟩))
                clear hK K
                (try simp only [Act.put,pA,pB,pC])
                first | refine hdT 8 ?_ | refine hdU 8 ?_
                first | refine hdT 9 ?_ | refine hdU 9 ?_
                first | refine hdT 10 ?_ | refine hdU 10 ?_
                first | refine hdT 11 ?_ | refine hdU 11 ?_
                first | refine hdT 12 ?_ | refine hdU 12 ?_
                first | refine hdT 13 ?_ | refine hdU 13 ?_
                first | refine hdT 14 ?_ | refine hdU 14 ?_
                first | refine hdT 15 ?_ | refine hdU 15 ?_
                first | refine hdT 16 ?_ | refine hdU 16 ?_
                first | refine hdT 17 ?_ | refine hdU 17 ?_
                first | refine hdT 18 ?_ | refine hdU 18 ?_
                first | refine hdT 19 ?_ | refine hdU 19 ?_
                first | refine hdT 20 ?_ | refine hdU 20 ?_
                first | refine hdT 21 ?_ | refine hdU 21 ?_
                first | refine hdT 22 ?_ | refine hdU 22 ?_
                first | refine hdT 23 ?_ | refine hdU 23 ?_
                first | refine hdT 24 ?_ | refine hdU 24 ?_
                first | refine hdT 25 ?_ | refine hdU 25 ?_
                first | refine hdT 26 ?_ | refine hdU 26 ?_
                first | refine hdT 27 ?_ | refine hdU 27 ?_
                first | refine hdT 28 ?_ | refine hdU 28 ?_
                refine wpAnyH_done (by kernel_rfl) ?_ _;go_wp2_with fail
                go_roundw
                case rel=>exact ⟨i+1,by omega,by go_num,hb,hA,hT,range_all_step H.out (derAt_of hz.out hx.out (by rw [HZO.out];simp [HN0.out]))⟩
                case measure=>simp [intOf] <;> omega
        · have he:i=n2:=(by omega);have hnl:¬(i:Int)<(n2:Int):=(by omega);subst he;go_wp2_with fail
          go_ret
          exact ⟨ret_b (derB_yes HA.out HK.out (HLn.out.trans HLE.out.symm) (by rw [derF,HLn.out];exact H.out)).symm,by rw [HG.out];exact hb⟩
     · have hnb:((n2:Int) != (dn:Int))=true:=(by simp;omega);go_wp2_with fail
       go_ret
       exact ⟨ret_b (derB_no3 (by rw [HLn.out,HLE.out];exact hnd)).symm,by rw [HG.out];exact hb⟩
   · rw [decide_eq_false hk];go_wp2_with fail
     go_ret
     exact ⟨ret_b (derB_no2 hk).symm,by rw [HG.out];exact hb⟩
end Go.Proofs.YtdppjlndcacfnaaGreat
