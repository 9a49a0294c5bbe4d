
import Derived.Test.YtfpniioegjpfeaaGreatDoorPrsN
import Derived.Test.YtfpniioegjpfeaaGreatDoorResult
import Derived.Test.YtfpniioegjpfeaaGreatDoorPrsM
import Derived.Lib.AtoiErrMem
namespace Go.Proofs.YtfpniioegjpfeaaGreatDoor
set_option maxRecDepth 100000
open Go.RowKit Go.Deep
theorem row_keepB {w w':World} {B n size:Nat} {t:TypeId} {v:Value} {xs:List Value} (h:w.ownsRow B t size v n xs) (hb:Below w.heap.size w w'):w'.ownsRow B t size v n xs:=
 World.ownsRow.kept h (row:=none) ⟨hb.os,hb.tape,hb.output,hb.size,fun k hk _=>hb.block k hk⟩ (by cases h0:v.ownBlock <;> simp)
theorem row_sliceP {w:World} {B n size:Nat} {t:TypeId} {v:Value} {xs:List Value} (h:w.ownsRow B t size v n xs):∃a c,v=.slice a n c:=by
 rcases h.2 with ⟨e,h0⟩ | ⟨g,cap,cur,e,_⟩
 · exact ⟨none,0,by rw [e,h0]⟩
 · exact ⟨_,_,e⟩
theorem info_str:∃i z,Tryz.prog.info? 9=some i∧i.zero=some z∧i.size=1∧i.bytes=16∧z.cells.size=1:=by
 obtain ⟨i,hi,hz⟩:=Option.map_eq_some_iff.1 (show (Tryz.prog.info? 9).map (fun i=>(i.zero,i.size,i.bytes))=some (some (.string ByteArray.empty),1,16) by kernel_rfl)
 simp only [Prod.mk.injEq] at hz
 exact ⟨i,_,hi,hz.1,hz.2.1,hz.2.2,rfl⟩
theorem splA_step {l:List UInt8} {c x:UInt8} {a k:Nat} (hx:l[k]? = some x) (hak:a≤k):splA c ((l.take k).drop a) (l.drop k)=if x=c then ((l.take k).drop a)::splA c ((l.take (k+1)).drop (k+1)) (l.drop (k+1)) else splA c ((l.take (k+1)).drop a) (l.drop (k+1)):=by
 have h2:k<l.length:=by
  rcases Nat.lt_or_ge k l.length with h | h
  · exact h
  · rw [List.getElem?_eq_none h] at hx;cases hx
 rw [List.getElem?_eq_getElem h2] at hx
 cases hx
 rw [List.drop_eq_getElem_cons h2,splA]
 have e1:(l.take (k+1)).drop (k+1)=[]:=by rw [List.drop_eq_nil_iff,List.length_take];omega
 have e2:(l.take (k+1)).drop a=(l.take k).drop a++[l[k]]:=by
  rw [List.take_add_one,List.getElem?_eq_getElem h2,List.drop_append_of_le_length (by rw [List.length_take];omega)];rfl
 rw [e1,e2]
theorem extract_str (l:List UInt8) (a k:Nat):(⟨l.toArray⟩:ByteArray).extract a k=⟨((l.take k).drop a).toArray⟩:=by
 refine ByteArray.ext (Array.ext' ?_)
 rw [Lib.extract_data]
 simp [List.drop_take]
theorem splA_len (c:UInt8):∀(l cur:List UInt8),(splA c cur l).length≤l.length+1
 | [],cur=>by simp [splA]
 | x :: l, cur => by
   rw [splA];split
   · have:=splA_len c l [];simp only [List.length_cons];omega
   · have:=splA_len c l (cur++[x]);simp only [List.length_cons];omega
set_option maxHeartbeats 4000000 in
theorem l01Split_c (l : List UInt8) (c : UInt8) (y : Int) (hy : y = (c.toNat : Int)) (w : World) (hl : l.length ≤ 1048576) :
    Calls Tryz.prog 36 #[str l,.int .u8 y] w fun e w'=>∃(a:Option Addr) (k:Nat),e=.returned (.slice a (splA c [] l).length k)∧w'.ownsRow w.heap.size 9 1 (.slice a (splA c [] l).length k) (splA c [] l).length ((splA c [] l).map str)∧Below w.heap.size w w':=by
 have hsz:(⟨l.toArray⟩:ByteArray).size=l.length:=by simp [ByteArray.size]
 have hsz2:=splA_len c l []
 have HY:=Lib.hid hy
 clear hy
 obtain ⟨R,hR⟩:∃R,splA c [] l=R:=⟨_,rfl⟩
 rw [hR] at hsz2 ⊢
 have HR:=Lib.hid hR
 have HL:=Lib.hid hsz2
 clear hR hsz2
 obtain ⟨ti,tz,hti,htz,hts,htb,htzs⟩:=info_str
 have HI:=Lib.hid hti
 have HZ:=Lib.hid htz
 have HS:=Lib.hid hts
 have HBt:=Lib.hid htb
 have HZs:=Lib.hid htzs
 clear hti htz hts htb htzs
 go_enter Tryz.func36,Tryz.ntmps36
 have hR0:(w.alloc (.cells #[] 9)).ownsRow w.heap.size 9 1 (.slice (some ⟨w.heap.size,0,none⟩) 0 0) 0 []:=⟨rfl,Or.inr ⟨w.heap.size,0,#[],rfl,Nat.le_refl _,heap_alloc_new w _,Nat.le_refl _,by simp [maxLen],rfl,rfl⟩⟩
 have hb0:=bA1 w (.cells #[] 9)
 go_upto_region 4 with fail
 generalize w.alloc (.cells #[] 9)=w1 at *
 go_loopw [5,6,7] (fun x z u wr=>∃(oa:Option Addr) (oc a k:Nat) (os:List (List UInt8)),x=.slice oa os.length oc∧z=.int .i64 a∧u=.int .i64 k∧a≤k∧k≤l.length∧os.length≤k∧os++splA c ((l.take k).drop a) (l.drop k)=R∧wr.ownsRow w.heap.size 9 1 (.slice oa os.length oc) os.length (os.map str)∧Below w.heap.size w wr) (fun _ _ u _=>l.length - (intOf u).toNat)
 case atStart=>exact ⟨_,0,0,0,[],rfl,rfl,rfl,Nat.le_refl _,Nat.zero_le _,Nat.le_refl _,by rw [←HR.out];rfl,hR0,hb0⟩
 case round=>
  clear hR0 hb0;obtain ⟨oa,oc,a,k,os,rfl,rfl,rfl,hak,hk,hos,hrd,hO,hb⟩:=hrel;have hk0:(0:Int)≤(k:Int):=(by omega);have ha0:(0:Int)≤(a:Int):=(by omega);have hak0:(a:Int)≤(k:Int):=(by omega);by_cases hkl:k<l.length
  · have hki:(k:Int)<(l.length:Int):=(by omega);obtain ⟨x,hx⟩:∃x,l[k]? = some x:=⟨_,List.getElem?_eq_getElem hkl⟩;have hxk:k<(⟨l.toArray⟩:ByteArray).size:=(by omega);have hbk:=byte_at hxk hx;rw [splA_step hx hak] at hrd;by_cases hxc:x=c
    · have gB:((((⟨l.toArray⟩:ByteArray)[k]'hxk).toNat:Int)==y)=true:=(by rw [hbk,HY.out,hxc];simp);rw [if_pos hxc] at hrd;have HRD:Hid ((os++[(l.take k).drop a])++splA c ((l.take (k+1)).drop (k+1)) (l.drop (k+1))=R):=Lib.hid (by rw [←hrd];simp);have hpe:=extract_str l a k;obtain ⟨p,hp⟩:∃p,(l.take k).drop a=p:=⟨_,rfl⟩;rw [hp] at hpe HRD;have HPE:=Lib.hid hpe;clear hrd hbk hx hxc
      have hnews:∀j u,([str p]:List Value)[j]? = some u→(wr.alloc (.cells #[str p] 9)).cell? ((⟨wr.heap.size,0,none⟩:Addr).add j)=some u:=fun j u hu=>by
       rw [Addr.add_mid];exact (Own.new wr 9 #[str p]).range j u hu
      have hone:∀u∈([str p]:List Value),u.oneCell'=true:=(by simp [Value.oneCell']);have HN:=Lib.hid hnews;have HO:=Lib.hid hone;have hba:=bA1 wr (.cells #[str p] 9);have hOa:=row_keepB hO hba;have hb2:=bT' hb hba hb.size;have hbs:=hb.size;clear hnews hone hO hb hba
      go_wp2_with (refine wpList_append_own_wide _ rfl (.tmp 20) (.tmp 25) 57 rfl w.heap.size 9 ti tz 1 16 Tryz.underlying57 HI.out HZ.out HS.out HBt.out HZs.out (by omega) (.slice oa os.length oc) _ _ rfl hOa ⟨wr.heap.size, 0, none⟩ 1 1 [str p] rfl rfl HN.out HO.out (by simp only [maxLen]; omega) (by omega) (by rw [sAl]; omega) (fun v' w' h2 h3 h4 => ?_)
                   obtain ⟨gg,cp,rfl⟩:∃gg cp,v'=.slice gg (os.length+1) cp:=by
                    obtain ⟨gg,cp,e⟩:=row_sliceP h2;exact ⟨gg,cp,e⟩
                   have hbb:=grown_below hb2 h3 (fun q e=>(hOa.lt q e).1) hb2.size;have H2:=Lib.hid h2
                   clear h2 h3 h4 hOa hb2)
      go_roundw
      case rel=>exact ⟨gg,cp,k+1,k+1,os++[p],by rw [List.length_append];rfl,by go_num,by go_num,Nat.le_refl _,by omega,by rw [List.length_append,List.length_singleton];omega,HRD.out,by rw [List.length_append,List.map_append];exact H2.out,hbb⟩
      case measure=>simp [intOf] <;> omega
    · have gB : ((((⟨l.toArray⟩ : ByteArray)[k]'hxk).toNat : Int) == y) = false := by
        rw [hbk,HY.out];simp only [beq_eq_false_iff_ne,ne_eq];intro e;exact hxc (UInt8.toNat_inj.1 (by omega))
      rw [if_neg hxc] at hrd;have HRD:=Lib.hid hrd;have HO:=Lib.hid hO;clear hrd hbk hx hxc hO;go_wp2_with fail
      go_roundw
      case rel=>exact ⟨oa,oc,a,k+1,os,rfl,rfl,by go_num,by omega,by omega,by omega,HRD.out,HO.out,hb⟩
      case measure=>simp [intOf] <;> omega
  · have he:k=l.length:=(by omega);subst he;have hpe:=extract_str l a l.length;rw [List.drop_length,splA] at hrd;obtain ⟨p,hp⟩:∃p,(l.take l.length).drop a=p:=⟨_,rfl⟩;rw [hp] at hpe hrd;have HRD:=Lib.hid hrd;clear hrd
    have hnews:∀j u,([str p]:List Value)[j]? = some u→(wr.alloc (.cells #[str p] 9)).cell? ((⟨wr.heap.size,0,none⟩:Addr).add j)=some u:=fun j u hu=>by
     rw [Addr.add_mid];exact (Own.new wr 9 #[str p]).range j u hu
    have hone:∀u∈([str p]:List Value),u.oneCell'=true:=(by simp [Value.oneCell']);have HN:=Lib.hid hnews;have HO:=Lib.hid hone;have hba:=bA1 wr (.cells #[str p] 9);have hOa:=row_keepB hO hba;have hb2:=bT' hb hba hb.size;have hbs:=hb.size;clear hnews hone hO hb hba
    go_wp2_with (refine wpList_append_own_wide _ rfl (.tmp 29) (.tmp 33) 57 rfl w.heap.size 9 ti tz 1 16 Tryz.underlying57 HI.out HZ.out HS.out HBt.out HZs.out (by omega) (.slice oa os.length oc) _ _ rfl hOa ⟨wr.heap.size, 0, none⟩ 1 1 [str p] rfl rfl HN.out HO.out (by simp only [maxLen]; omega) (by omega) (by rw [sAl]; omega) (fun v' w' h2 h3 h4 => ?_)
                 obtain ⟨gg,cp,rfl⟩:∃gg cp,v'=.slice gg (os.length+1) cp:=by
                  obtain ⟨gg,cp,e⟩:=row_sliceP h2;exact ⟨gg,cp,e⟩
                 have hbb:=grown_below hb2 h3 (fun q e=>(hOa.lt q e).1) hb2.size;have H2:=Lib.hid h2
                 clear h2 h3 h4 hOa hb2)
    go_ret
    rw [←HRD.out];exact ⟨gg,cp,by rw [List.length_append];rfl,by rw [List.length_append,List.map_append];exact H2.out,hbb⟩
theorem cell_below {w w':World} {p:Addr} {v:Value} (h:w.cell? p=some v) (hb:Below w.heap.size w w'):w'.cell? p=some v:=by
 have hl:p.block<w.heap.size:=by
  rcases Nat.lt_or_ge p.block w.heap.size with h1 | h1
  · exact h1
  · unfold World.cell? at h;rw [Array.getElem?_eq_none h1] at h;cases h
 exact (World.cell?_of_block (a:=p) (hb.block p.block hl)).trans h
def Errs (w:World):Prop:=
 (∃ev,w.cell? ⟨2,0,none⟩=some ev∧(ev=.nilIface∨∃te pe,ev=.iface te pe))∧(∃ev,w.cell? ⟨3,0,none⟩=some ev∧(ev=.nilIface∨∃te pe,ev=.iface te pe))∧(∃m,w.cell? ⟨0,0,none⟩=some (.int .i64 m))
theorem Errs.keep {w w':World} (h:Errs w) (hb:Below w.heap.size w w'):Errs w':=by
 obtain ⟨⟨e1,h1,k1⟩,⟨e2,h2,k2⟩,⟨m,h3⟩⟩:=h
 exact ⟨⟨e1,cell_below h1 hb,k1⟩,⟨e2,cell_below h2 hb,k2⟩,⟨m,cell_below h3 hb⟩⟩
theorem parseU8_c (l : List UInt8) (w : World) (hl : l.length ≤ 1048576) (hE : Errs w) :
    Calls Tryz.prog 119 #[str l,.int .i64 10,.int .i64 8] w fun e w'=>∃(x:Int) (ev:Value) (b:Bool),e=.returned (.tuple #[.int .u64 x,ev])∧0≤x∧x≤255∧((b=true∧ev=.nilIface∧Lib.parseUintB 8 l=.ok x.toNat)∨(b=false∧(∃te pe,ev=.iface te pe)∧∀u,Lib.parseUintB 8 l≠.ok u))∧Below w.heap.size w w':=by
 have hsz:(⟨l.toArray⟩:ByteArray).size=l.length:=by simp [ByteArray.size]
 obtain ⟨⟨e1,h1,k1⟩,⟨e2,h2,k2⟩,-⟩:=hE
 cases hp:Lib.parseUintB 8 l with
 | ok u =>
   refine (Tryz.strconv_ParseUint_10_at8_ok ⟨l.toArray⟩ (by omega) u (by simpa using hp) w).mono ?_;rintro e w' ⟨rfl,hw⟩;have hu:=parseU8_le hp;refine ⟨u,_,true,rfl,by omega,by omega,Or.inl ⟨rfl,rfl,by simp⟩,?_⟩
   rcases hw with rfl | rfl
   · exact Below.refl _ _
   · exact Lib.bytesWorld_below _ _ _
 | range =>
   refine (Tryz.strconv_ParseUint_10_at8_range ⟨l.toArray⟩ (by omega) (by simpa using hp) e2 w h2 k2).mono ?_;rintro e w' ⟨n,rfl,-,-,hb⟩;exact ⟨_,_,false,rfl,by omega,by omega,Or.inr ⟨rfl,⟨_,_,rfl⟩,fun u h=>by cases h⟩,hb⟩
 | _ =>
   refine (Tryz.strconv_ParseUint_10_at8_syntax ⟨l.toArray⟩ (by omega) (by simpa using hp) e1 w h1 k1).mono ?_;rintro e w' ⟨n,rfl,-,-,hb⟩;exact ⟨0,_,false,rfl,by omega,by omega,Or.inr ⟨rfl,⟨_,_,rfl⟩,fun u h=>by cases h⟩,hb⟩
set_option maxHeartbeats 4000000 in
theorem readExponent_c (l : List UInt8) (w : World) (hl : l.length ≤ 1048576) (hE : Errs w) :
    Calls Tryz.prog 88 #[str l] w fun e w'=>∃(x:Int) (b:Bool),e=.returned (.tuple #[.int .u8 x,.bool b])∧0≤x∧x≤255∧(b=true→rdE l=some x.toNat)∧(b=false→rdE l=none)∧Below w.heap.size w w':=by
 have HE:=Lib.hid hE
 clear hE
 by_cases h0:l=[]
 · subst h0;go_enter Tryz.func88,Tryz.ntmps88
   go_wp2_with fail
   go_ret2
   exact ⟨1,true,rfl,by omega,by omega,fun _=>rfl,fun h=>(by cases h),Below.refl _ _⟩
 · have hr:∀u,Lib.parseUintB 8 l=.ok u→rdE l=some u:=fun u h=>by rw [rdE,if_neg h0,h]
   have hr2:(∀u,Lib.parseUintB 8 l≠.ok u)→rdE l=none:=fun h=>by
    rw [rdE,if_neg h0];split
    · rename_i v hv;exact absurd hv (h v)
    · rfl
   have HR:=Lib.hid hr;have HR2:=Lib.hid hr2;clear hr hr2;have hie:l.isEmpty=false:=(by simpa using h0);go_enter Tryz.func88,Tryz.ntmps88
   go_wp2_with fail
   refine (parseU8_c l w hl HE.out).mono ?_;rintro e w' ⟨x,ev,b,rfl,hx0,hx1,hcase,hb⟩;have hw8:IntKind.u8.wrap x=x:=IntWalk.u8_in _ (by omega)
   rcases hcase with ⟨rfl,rfl,hp⟩ | ⟨rfl,⟨te,pe,rfl⟩,hp⟩
   · have HP:=Lib.hid (HR.out _ hp);clear hp;go_wp2_with fail
     go_region
     go_wp2_with fail
     go_ret2
     exact ⟨x,true,rfl,hx0,hx1,fun _=>HP.out,fun h=>(by cases h),hb.drew⟩
   · have HP:=Lib.hid (HR2.out hp);clear hp;go_wp2_with fail
     go_region
     go_wp2_with fail
     go_ret2
     exact ⟨x,false,rfl,hx0,hx1,fun h=>(by cases h),fun _=>HP.out,hb.drew⟩
end Go.Proofs.YtfpniioegjpfeaaGreatDoor
