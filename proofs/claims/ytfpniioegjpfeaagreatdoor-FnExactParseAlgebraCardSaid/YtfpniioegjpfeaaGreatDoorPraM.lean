
import Derived.Test.YtfpniioegjpfeaaGreatDoorAlgS
import Derived.Test.YtfpniioegjpfeaaGreatDoorTxtW
namespace Go.Proofs.YtfpniioegjpfeaaGreatDoor
open Go.RowKit Go.Deep
theorem isAlg_degs {zs:List Int} {ims:List (List Tm)} (h:isAlg zs ims=true):degsOk zs=true:=by
 simp only [isAlg,Bool.and_eq_true,decide_eq_true_eq] at h
 exact h.1
theorem isAlg_form {zs:List Int} {ims:List (List Tm)} (h:isAlg zs ims=true):∀im∈ims,isForm zs im=true:=by
 simp only [isAlg,Bool.and_eq_true,decide_eq_true_eq] at h
 intro im hi
 obtain ⟨i,hl,rfl⟩:=List.mem_iff_getElem.1 hi
 have h1:=List.all_eq_true.1 h.2.2.1 i (by simpa using hl)
 have h2:=zeroOr_form h1
 rw [List.getD_eq_getElem?_getD,List.getElem?_eq_getElem hl] at h2
 exact h2
theorem jt_P (ps:List (List UInt8)):∀k,k<ps.length→jt ps (k+1)=joinP 59 (ps.take (k+1))
 | 0, h => by
   have e:ps[0]? = some (ps[0]):=List.getElem?_eq_getElem h;rw [jt_step e,jt,if_neg (by omega),List.take_add_one,e];simp [joinP]
 | k + 1, h => by
   have ih:=jt_P ps k (by omega);have e:ps[k+1]? = some (ps[k+1]):=List.getElem?_eq_getElem h;rw [jt_step e,ih,if_pos (show 0<k+1 by omega),List.take_add_one (i:=k+1),e]
   cases hl:ps.take (k+1) with
   | nil=>have:=congrArg List.length hl;rw [List.length_take] at this;simp only [List.length_nil] at this;omega
   | cons p r =>
     rw [Option.toList,joinP_snoc];simp
theorem jt_all {ps:List (List UInt8)} {n:Nat} (h:ps.length=n):jt ps n=joinP 59 ps:=by
 cases n with
 | zero=>rw [List.eq_nil_of_length_eq_zero h];rfl
 | succ n=>rw [jt_P ps n (by omega),List.take_of_length_le (by omega)]
theorem splA_inv (c:UInt8):∀(l cur:List UInt8),∃p r,splA c cur l=p::r∧joinP c (p::r)=cur++l
 | [],cur=>⟨cur,[],rfl,by simp [joinP]⟩
 | x :: t, cur => by
   rw [splA];split
   · rename_i h;obtain ⟨p,r,h1,h2⟩:=splA_inv c t [];exact ⟨cur,p::r,by rw [h1],by rw [joinP,h2,h];simp⟩
   · obtain ⟨p,r,h1,h2⟩:=splA_inv c t (cur++[x]);exact ⟨p,r,h1,by rw [h2];simp⟩
theorem nbS_last:∀(l:List UInt8) (c:UInt8) (a n:Int),nbS a (l++[c])=some n→∃v,nbS a l=some v∧48≤c.toNat∧c.toNat≤57∧n=v * 10+((c.toNat:Int) - 48)
 | [], c, a, n, h => by
   rw [List.nil_append,nbS] at h;split at h
   · rename_i h1;rw [nbS] at h;cases h
     exact ⟨a,rfl,h1.1,h1.2,rfl⟩
   · cases h
 | x :: l, c, a, n, h => by
   rw [List.cons_append,nbS] at h;rw [nbS];split at h
   · rename_i h1;rw [if_pos h1];exact nbS_last l c _ n h
   · cases h
theorem nbS_inv (k:Nat):∀(l:List UInt8) (n:Int),l.length=k→l≠[]→(1<l.length→l.head? ≠ some 48)→nbS 0 l=some n→0≤n∧l=Lib.decDigits n.toNat:=by
 induction k with
 | zero=>intro l n hk h0;exact absurd (List.eq_nil_of_length_eq_zero hk) h0
 | succ k ih =>
   intro l n hk _ hh h;have hs:l=l.dropLast++[l.getLast (by intro e;rw [e] at hk;simp at hk)]:=(List.dropLast_concat_getLast _).symm;generalize l.dropLast=m at hs;generalize l.getLast _=c at hs;subst hs;obtain ⟨v,h1,h2,h3,h4⟩:=nbS_last m c 0 n h;have hc:UInt8.ofNat (48+(c.toNat - 48))=c:=(by rw [show 48+(c.toNat - 48)=c.toNat by omega];simp);rw [List.length_append,List.length_singleton] at hk hh;by_cases hm:m=[]
   · subst hm;rw [nbS] at h1;cases h1
     refine ⟨by omega,?_⟩;rw [Lib.decDigits_one (by omega),show n.toNat=c.toNat - 48 by omega,hc];rfl
   · have hml:0<m.length:=List.length_pos_iff.2 hm
     have hhead:m.head? ≠ some 48:=by
      have:=hh (by omega)
      cases m with
      | nil=>exact absurd rfl hm
      | cons y m=>exact this
     obtain ⟨h5,h6⟩:=ih m v (by omega) hm (fun _=>hhead) h1
     have hv:0<v:=by
      rcases Int.lt_or_eq_of_le h5 with h7 | h7
      · exact h7
      · rw [←h7,show (0:Int).toNat=0 from rfl,Lib.decDigits_one (by omega)] at h6;rw [h6] at hhead;exact absurd rfl hhead
     refine ⟨by omega,?_⟩;rw [dec_snoc (by omega),show n.toNat / 10=v.toNat by omega,←h6,show n.toNat % 10=c.toNat - 48 by omega,hc]
theorem nbD_inv {l:List UInt8} (h:0≤nbD l):l=Lib.decDigits (nbD l).toNat:=by
 rw [nbD] at h
 split at h
 · omega
 · rename_i h0;rw [nbD,if_neg h0]
   cases hn:nbS 0 l with
   | none=>rw [hn] at h;exact absurd h (by decide)
   | some v =>
     refine (nbS_inv l.length l v rfl (fun e=>h0 (Or.inl (by rw [e];rfl))) (fun h1 h2=>h0 (Or.inr (Or.inr ⟨h1,h2⟩))) hn).2
def naH (l:List UInt8):Option (Int × List UInt8):=match splA 58 [] l with
 | [a,b]=>some (nbD a,b)
 | _=>none
def naI (zs:List Int) (b:List UInt8):Option (List Tm):=paG zs b (rdFs b)
def naA (l:List UInt8):Option (List Int × List (List Tm)):=if l=[] then some ([],[]) else match (splA 59 [] l).mapM naH with
 | some hs=>if degsOk (hs.map (·.1))=true then ((hs.map (·.2)).mapM (naI (hs.map (·.1)))).map fun ims=>(hs.map (·.1),ims) else none
 | none=>none
theorem textF_no {x:UInt8} (hx:x.toNat<97) (hd:¬(48≤x.toNat∧x.toNat≤57)) (h42:x≠42) (h43:x≠43) {ts:List Tm} (h:Fine ts):∀c∈textF ts,c≠x:=by
 have hj:∀(ps:List (List UInt8)),(∀p∈ps,∀c∈p,c≠x)→∀c∈joinP 43 ps,c≠x:=by
  intro ps
  induction ps with
  | nil=>intro _ c hc;simp [joinP] at hc
  | cons p r ih =>
    intro hp c hc
    cases r with
    | nil=>exact hp p (by simp) c hc
    | cons q r =>
      rw [joinP] at hc
      rcases List.mem_append.1 hc with hc | hc
      · exact hp p (by simp) c hc
      · rcases List.mem_cons.1 hc with rfl | hc
        · exact fun e=>h43 e.symm
        · exact ih (fun p hp'=>hp p (List.mem_cons_of_mem _ hp')) c hc
 intro c hc
 by_cases h0:ts=[]
 · subst h0;rw [textF,if_pos rfl,List.mem_singleton] at hc;subst hc;intro e;subst e;exact hd (by decide)
 · rw [textF_join h0] at hc;refine hj _ (fun p hp d hd'=>?_) c hc;obtain ⟨t,ht,rfl⟩:=List.mem_map.1 hp;rw [termX] at hd'
   rcases List.mem_append.1 hd' with h1 | h1
   · rcases List.mem_append.1 h1 with h1 | h1
     · intro e;subst e;exact hd (dec_dg _ _ h1)
     · rw [List.mem_singleton] at h1;subst h1;exact fun e=>h42 e.symm
   · exact nameM_no hx hd (h t ht).1 d h1
theorem dec_no {x:UInt8} (hd:¬(48≤x.toNat∧x.toNat≤57)) (n:Nat):∀c∈Lib.decDigits n,c≠x:=by
 intro c hc e;subst e;exact hd (dec_dg _ _ hc)
theorem partA_no {z:Int} {im:List Tm} (h:Fine im):∀c∈partA z im,c≠59:=by
 intro c hc
 rw [partA] at hc
 rcases List.mem_append.1 hc with hc | hc
 · rcases List.mem_append.1 hc with hc | hc
   · exact dec_no (by decide) _ c hc
   · rw [List.mem_singleton] at hc;subst hc;decide
 · exact textF_no (by decide) (by decide) (by decide) (by decide) h c hc
theorem partA_cut {z:Int} {im:List Tm}:Lib.cut (partA z im) [58]=(Lib.decDigits z.toNat,textF im,true):=by
 rw [partA,List.append_assoc,List.cons_append,List.nil_append]
 exact cut_hit 58 _ _ (dec_no (by decide) _)
theorem rdG_part {z:Int} {im:List Tm} (h1:1≤z) (h2:z≤12) (h:Fine im) (h4:im.length≤400):rdG (partA z im)=some (z,im):=by
 rw [rdG,partA_cut,parseI_dec (n:=z.toNat) (by omega),rdF_text h h4]
 simp only [Int.toNat_of_nonneg (show 0≤z by omega),if_true]
theorem naH_part {z:Int} {im:List Tm} (h1:1≤z) (h2:z≤12) (h:Fine im):naH (partA z im)=some (z,textF im):=by
 have e:splA 58 [] (partA z im)=[Lib.decDigits z.toNat,textF im]:=by
  have:=splA_join 58 (Lib.decDigits z.toNat) [] [textF im] (fun q hq x hx=>by
   rcases List.mem_cons.1 hq with rfl | hq
   · exact dec_no (by decide) _ x hx
   · rw [List.mem_singleton] at hq;subst hq
     exact textF_no (by decide) (by decide) (by decide) (by decide) h x hx)
  rw [List.nil_append] at this;rw [←this,partA,joinP,joinP];simp
 rw [naH,e]
 simp only
 rw [nbD_dec (n:=z.toNat) (by omega),Int.toNat_of_nonneg (by omega)]
theorem mapG:∀{zs:List Int} {ims:List (List Tm)},ims.length=zs.length→(∀z∈zs,1≤z∧z≤12)→(∀im∈ims,Fine im∧im.length≤400)→(partsA zs ims).mapM rdG=some (zs.zip ims)∧(partsA zs ims).mapM naH=some (zs.zip (ims.map textF))
 | [],[],_,_,_=>⟨rfl,rfl⟩
 | z :: zs, im :: ims, hl, hz, hi => by
   have ih:=mapG (zs:=zs) (ims:=ims) (by simpa using hl) (fun y hy=>hz y (by simp [hy])) (fun y hy=>hi y (by simp [hy]));have z1:=hz z (by simp);have i1:=hi im (by simp);rw [partsA] at ih;rw [partsA,List.zipWith_cons_cons,List.mapM_cons,List.mapM_cons,rdG_part z1.1 z1.2 i1.1 i1.2,naH_part z1.1 z1.2 i1.1,ih.1,ih.2];exact ⟨rfl,rfl⟩
 | [],_::_,h,_,_=>by simp at h
 | _::_,[],h,_,_=>by simp at h
theorem textA_nil {zs:List Int} {ims:List (List Tm)} (h:FineA zs ims) (h0:textA zs ims=[]):zs=[]∧ims=[]:=by
 cases zs with
 | nil=>exact ⟨rfl,List.eq_nil_of_length_eq_zero h.len⟩
 | cons z zs =>
   cases ims with
   | nil=>have:=h.len;simp at this
   | cons im ims =>
     exfalso
     rw [textA,jt_all (partsA_len h),partsA,List.zipWith_cons_cons] at h0
     have hm:(58:UInt8)∈joinP 59 (partA z im::List.zipWith partA zs ims):=by
      have h1:(58:UInt8)∈partA z im:=by rw [partA];simp
      cases List.zipWith partA zs ims with
      | nil=>exact h1
      | cons q r=>rw [joinP];exact List.mem_append_left _ h1
     rw [h0] at hm;simp at hm
theorem partsA_cons {zs:List Int} {ims:List (List Tm)} (h:FineA zs ims) (h0:zs≠[]):∃p r,partsA zs ims=p::r∧r.length+1=zs.length∧∀q∈p::r,∀x∈q,x≠59:=by
 have hl:=partsA_len h
 cases he:partsA zs ims with
 | nil=>rw [he] at hl;exact absurd (List.eq_nil_of_length_eq_zero hl.symm) h0
 | cons p r =>
   refine ⟨p,r,rfl,by rw [he] at hl;simpa using hl,fun q hq=>?_⟩;rw [←he,partsA] at hq;obtain ⟨i,hi,rfl⟩:=List.mem_iff_getElem.1 hq;rw [List.getElem_zipWith];exact partA_no (h.form _ (List.getElem_mem _)).1
theorem rdA_text {zs:List Int} {ims:List (List Tm)} (h:FineA zs ims):rdA (textA zs ims)=some (zs.zip ims):=by
 by_cases h0:textA zs ims=[]
 · obtain ⟨rfl,rfl⟩:=textA_nil h h0;rfl
 · have hz:zs≠[]:=(by intro e;subst e;exact h0 rfl);obtain ⟨p,r,hp,hr,hno⟩:=partsA_cons h hz;have h8:=h.few;rw [rdA,if_neg h0,textA,jt_all (partsA_len h),hp,count_join 59 _ _ hno,if_neg (by omega),split_join 59 _ _ hno,←hp,(mapG h.len h.degs h.form).1]
theorem mapI {zs:List Int}:∀{ims:List (List Tm)},(∀im∈ims,Fine im∧im.length≤400)→(∀im∈ims,isForm zs im=true)→(∀im∈ims,∀u∈im,IsTm u)→(ims.map textF).mapM (naI zs)=some ims
 | [],_,_,_=>rfl
 | im :: ims, h1, h2, h3 => by
   have ih:=mapI (zs:=zs) (ims:=ims) (fun y hy=>h1 y (by simp [hy])) (fun y hy=>h2 y (by simp [hy])) (fun y hy=>h3 y (by simp [hy]));have hi:naI zs (textF im)=some im:=(paG_of (fun _ h=>rdFs_tm h) (fun ts h hl e=>by rw [←e];exact rdFs_text h hl) im).2 ⟨h2 im (by simp),rfl,h3 im (by simp)⟩;rw [List.map_cons,List.mapM_cons,hi,ih];rfl
theorem zip_fst {α β:Type}:∀{a:List α} {b:List β},b.length=a.length→(a.zip b).map (·.1)=a∧(a.zip b).map (·.2)=b
 | [],[],_=>⟨rfl,rfl⟩
 | x :: a, y :: b, h => by
   have ih:=zip_fst (a:=a) (b:=b) (by simpa using h);rw [List.zip_cons_cons,List.map_cons,List.map_cons,ih.1,ih.2];exact ⟨rfl,rfl⟩
 | [],_::_,h=>by simp at h
 | _::_,[],h=>by simp at h
theorem naA_text {zs:List Int} {ims:List (List Tm)} (h:isAlg zs ims=true) (ht:∀im∈ims,∀u∈im,IsTm u):naA (textA zs ims)=some (zs,ims):=by
 have hF:=fineA_of h ht
 by_cases h0:textA zs ims=[]
 · obtain ⟨rfl,rfl⟩:=textA_nil hF h0;rfl
 · have hz:zs≠[]:=(by intro e;subst e;exact h0 rfl);obtain ⟨p,r,hp,hr,hno⟩:=partsA_cons hF hz;have hq:=zip_fst (a:=zs) (b:=ims.map textF) (by simp [hF.len]);rw [naA,if_neg h0,textA,jt_all (partsA_len hF),hp,splA_join 59 _ [] _ hno,List.nil_append,←hp,(mapG hF.len hF.degs hF.form).2];simp only [hq.1,hq.2];rw [if_pos (isAlg_degs h),mapI hF.form (isAlg_form h) ht];rfl
inductive All2 {α β:Type} (R:α→β→Prop):List α→List β→Prop
 | nil:All2 R [] []
 | cons {a:α} {b:β} {l:List α} {r:List β}:R a b→All2 R l r→All2 R (a::l) (b::r)
theorem mapM_two {α β:Type} {f:α→Option β}:∀{l:List α} {r:List β},l.mapM f=some r→All2 (fun a b=>f a=some b) l r
 | [], r, h => by
   simp only [List.mapM_nil,Option.pure_def,Option.some.injEq] at h;subst h;exact All2.nil
 | a :: l, r, h => by
   rw [List.mapM_cons] at h
   cases h1:f a with
   | none=>rw [h1] at h;cases h
   | some c =>
     cases h2:l.mapM f with
     | none=>rw [h1,h2] at h;cases h
     | some s =>
       rw [h1,h2] at h;cases h
       exact All2.cons h1 (mapM_two h2)
theorem naH_inv {l:List UInt8} {z:Int} {b:List UInt8} (h:naH l=some (z,b)) (hz:1≤z):l=Lib.decDigits z.toNat++[58]++b:=by
 obtain ⟨p,r,h1,h2⟩:=splA_inv 58 l []
 rw [naH,h1] at h
 match r,h,h2 with
 | [q], h, h2 =>
   simp only [Option.some.injEq,Prod.mk.injEq] at h;obtain ⟨rfl,rfl⟩:=h;rw [joinP,joinP,List.nil_append] at h2;rw [←nbD_inv (by omega),←h2];simp
theorem parts_inv {zs0:List Int}:∀{ps:List (List UInt8)} {hs:List (Int × List UInt8)} {ims:List (List Tm)},All2 (fun a b=>naH a=some b) ps hs→All2 (fun a b=>naI zs0 a=some b) (hs.map (·.2)) ims→(∀z∈hs.map (·.1),1≤z)→partsA (hs.map (·.1)) ims=ps∧ims.length=hs.length∧∀im∈ims,∀u∈im,IsTm u
 | [],[],[],_,_,_=>⟨rfl,rfl,by simp⟩
 | p :: ps, h :: hs, im :: ims, .cons a1 a2, .cons b1 b2, hz => by
   have ih:=parts_inv a2 b2 (fun z hz'=>hz z (by simp at hz' ⊢;exact Or.inr hz'));have hi:=(paG_of (fun _ h=>rdFs_tm h) (fun ts h hl e=>by rw [←e];exact rdFs_text h hl) im).1 b1;have hp:=naH_inv (z:=h.1) (b:=h.2) a1 (hz _ (by simp));refine ⟨?_,by simp [ih.2.1],fun i hm=>?_⟩
   · have:=ih.1;rw [partsA] at this;rw [partsA,List.map_cons,List.zipWith_cons_cons,this,partA,hi.2.1,←hp]
   · rcases List.mem_cons.1 hm with rfl | hm
     · exact hi.2.2
     · exact ih.2.2 i hm
theorem naA_inv {l:List UInt8} {zs:List Int} {ims:List (List Tm)} (h:naA l=some (zs,ims)):textA zs ims=l∧∀im∈ims,∀u∈im,IsTm u:=by
 rw [naA] at h
 split at h
 · rename_i h0;cases h
   exact ⟨h0.symm,by simp⟩
 · split at h
   · rename_i hs he;split at h
     · rename_i hd
       cases hm:(hs.map (·.2)).mapM (naI (hs.map (·.1))) with
       | none=>rw [hm] at h;cases h
       | some r =>
         rw [hm] at h;cases h
         obtain ⟨h1,h2,h3⟩:=parts_inv (mapM_two he) (mapM_two hm) (fun z hz=>(degsOk_z hd z hz).1);obtain ⟨p,q,e1,e2⟩:=splA_inv 59 l [];refine ⟨?_,h3⟩;rw [textA,h1,e1,jt_all]
         · exact e2
         · have:=congrArg List.length h1;rw [partsA,List.length_zipWith,h2,e1,List.length_map,Nat.min_self] at this;rw [←this,List.length_map]
     · cases h
   · cases h
def okPr (l:List UInt8):Option (List Int × List (List Tm)):=match rdA l with
 | some r=>if isAlg (r.map (·.1)) (r.map (·.2))=true∧textA (r.map (·.1)) (r.map (·.2))=l then some (r.map (·.1),r.map (·.2)) else none
 | none=>none
def okMo (l:List UInt8):Option (List Int × List (List Tm)):=match naA l with
 | some r=>if isAlg r.1 r.2=true then some r else none
 | none=>none
theorem ok_same (l:List UInt8):okPr l=okMo l:=by
 cases hp:okPr l with
 | some r =>
   rw [okPr] at hp;split at hp
   · rename_i q hq;split at hp
     · rename_i h;cases hp
       have hn:=naA_text h.1 (fun im hi u hu=>by
        obtain ⟨x,hx,rfl⟩:=List.mem_map.1 hi
        exact (rdA_tm hq x hx).2 u hu)
       rw [h.2] at hn;rw [okMo,hn];exact (if_pos h.1).symm
     · cases hp
   · cases hp
 | none =>
   cases hm:okMo l with
   | none=>rfl
   | some r =>
     rw [okMo] at hm;split at hm
     · rename_i q hq;split at hm
       · rename_i h;cases hm
         obtain ⟨h1,h2⟩:=naA_inv (zs:=r.1) (ims:=r.2) hq;have hF:=fineA_of h h2;have hr:=rdA_text hF;have hz:=zip_fst (a:=r.1) (b:=r.2) hF.len;rw [h1] at hr;rw [okPr,hr] at hp;simp only [hz.1,hz.2] at hp;rw [if_pos ⟨h,h1⟩] at hp;cases hp
       · cases hm
     · cases hm
end Go.Proofs.YtfpniioegjpfeaaGreatDoor
