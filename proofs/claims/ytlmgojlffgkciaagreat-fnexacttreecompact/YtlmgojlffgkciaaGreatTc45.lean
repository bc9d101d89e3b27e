/-
  Rows of entries in memory of the call's own, as the library's stable sort writes into them: two entries exchanged, a stretch put in order.
-/
import Derived.Deep.RegionLaw
import Derived.Deep.RegionHeld3
import Derived.Ground.SlsfProg
import Derived.Shelf.SlSortCmp.InsertionK
import Derived.Test.YtlmgojlffgkciaaGreatTc15
import Derived.Test.YtlmgojlffgkciaaGreatProg
import Derived.Test.YtlmgojlffgkciaaGreatTc13
import Derived.Test.YtlmgojlffgkciaaGreatTc09
import Derived.Test.YtlmgojlffgkciaaGreatTc44
import Derived.Test.YtlmgojlffgkciaaGreatTc10
namespace Go.Proofs.YtlmgojlffgkciaaGreat
open Go.RowKit Go.Sort
theorem aE.block {w:World} {base g n c:Nat} {L:List ac} (h:aE w base g n c L):∃cur,w.heap[g]?=some (.cells cur 78 (0,0))∧cur.size=c*5:=by
 rcases h.owns.2 with ⟨hv,_⟩ | ⟨g',cap,cur,hv,_,h2,_,_,h5,_⟩
 · cases hv
 · cases hv;exact ⟨cur,h2,h5⟩
def setE (w:World) (g i:Nat) (e:ac):World:=((((w.setCell ⟨g,i*5,none⟩ (.string e.1)).setCell ⟨g,i*5+1,none⟩ (iT e.2.1)).setCell ⟨g,i*5+2,none⟩ (iT e.2.2.1)).setCell ⟨g,i*5+3,none⟩ (.string e.2.2.2.1)).setCell ⟨g,i*5+4,none⟩ (iT e.2.2.2.2)
set_option maxHeartbeats 1000000 in
theorem aE.setE {w:World} {base g n c i:Nat} {L:List ac} {e:ac} (h:aE w base g n c L) (hi:i<n) (hw:eO e):aE (setE w g i e) base g n c (L.set i e):=by
 obtain ⟨s,q,d,t,nn⟩:=e;have t0:=h.owns.stored (i*5) (.string s);have t1:=t0.1.stored (i*5+1) (iT q);have t2:=t1.1.stored (i*5+2) (iT d);have t3:=t2.1.stored (i*5+3) (.string t);have t4:=t3.1.stored (i*5+4) (iT nn);have hl:=h.len;have hx:(aI L).length=n*5:=by rw [aZ,hl]
 have hf:((((((aI L).set (i*5) (.string s)).set (i*5+1) (iT q)).set (i*5+2) (iT d)).set (i*5+3) (.string t)).set (i*5+4) (iT nn))=aI (L.set i (s,q,d,t,nn)):=lw (by simp [hx,hl]) (fun j l hj=>by
  by_cases hji:j=i
  · subst hji;rw [List.getElem?_set_self (by omega)] at hj;cases hj;exact fO s t q d nn (by omega)
  · rw [List.getElem?_set_ne (Ne.symm hji)] at hj;exact e9 (fy L j l hj) hji _ _ _ _ _)
 refine ⟨?_,by simp [hl],fun l hl'=>?_⟩
 · have h4:=t4.1;rw [hf] at h4;exact h4
 · rcases List.mem_or_eq_of_mem_set hl' with h1 | h1
   · exact h.ents l h1
   · rw [h1];exact hw
theorem fP (w:World) (g o:Nat) (v:Value):w.grownBy (w.setCell ⟨g,o,none⟩ v) (some g) :=
 ⟨rfl,rfl,rfl,by simp [World.setCell],fun k _ hk=>Below.heap_setCell _ _ _ _ (fun e=>hk (by rw [e]))⟩
theorem iS (w:World) (g i:Nat) (e:ac):w.grownBy (Go.Proofs.YtlmgojlffgkciaaGreat.setE w g i e) (some g) :=
 dS (dS (dS (dS (fP _ _ _ _) (fP _ _ _ _)) (fP _ _ _ _)) (fP _ _ _ _)) (fP _ _ _ _)
theorem AK (X1 X2 X3:List ac) (p q:ac):((X1++p :: (X2++q :: X3)).set X1.length q).set (X1.length+1+X2.length) p=X1++q :: (X2++p :: X3):=by
 rw [List.set_append_right _ _ (Nat.le_refl _),Nat.sub_self,List.set_cons_zero,List.set_append_right _ _ (by omega),show X1.length+1+X2.length - X1.length=X2.length+1 by omega,List.set_cons_succ,List.set_append_right _ _ (Nat.le_refl _),Nat.sub_self,List.set_cons_zero]
theorem aE.swap {w:World} {base g n c i j:Nat} {X1 X2 X3:List ac} {p q:ac} (h:aE w base g n c (X1++p :: (X2++q :: X3))) (hi:i=X1.length) (hj:j=X1.length+1+X2.length):aE (Go.Proofs.YtlmgojlffgkciaaGreat.setE (Go.Proofs.YtlmgojlffgkciaaGreat.setE w g i q) g j p) base g n c (X1++q :: (X2++p :: X3)):=by
 subst hi hj;have hl:=h.len;simp at hl;have h1:=h.setE (i:=X1.length) (e:=q) (by omega) (h.ents _ (by simp));have h2:=h1.setE (i:=X1.length+1+X2.length) (e:=p) (by omega) (h.ents _ (by simp));rw [AK] at h2;exact h2
end Go.Proofs.YtlmgojlffgkciaaGreat
namespace Go.Proofs.YtlmgojlffgkciaaGreat
open Go.RowKit
attribute [local go_sem] Oper.semAt_some
theorem aE.at5 {w:World} {base g n c i:Nat} {L:List ac} {s t:ByteArray} {q d nn:Int} (h:aE w base g n c L) (hx:L[i]?=some (s,q,d,t,nn)):w.cell? ⟨g,i*5,none⟩=some (.string s)∧w.cell? ⟨g,i*5+1,none⟩=some (iT q)∧w.cell? ⟨g,i*5+2,none⟩=some (iT d)∧w.cell? ⟨g,i*5+3,none⟩=some (.string t)∧w.cell? ⟨g,i*5+4,none⟩=some (iT nn):=by
 obtain ⟨hi,he⟩:=List.getElem?_eq_some_iff.1 hx;obtain ⟨c0,c1,c2,c3,c4⟩:=h.entsAt.cells _ rfl i hi;rw [he] at c0 c1 c2 c3 c4;simp only [Nat.zero_add] at c0 c1 c2 c3 c4;exact ⟨c0,c1,c2,c3,c4⟩
theorem tH (w:World) (g:Nat):w.grownBy w.drew (some g):=⟨rfl,rfl,rfl,Nat.le_refl _,fun _ _ _=>rfl⟩
end Go.Proofs.YtlmgojlffgkciaaGreat

namespace Go.Proofs.YtlmgojlffgkciaaGreat
open Go.RowKit
set_option maxRecDepth 100000
set_option maxHeartbeats 16000000
attribute [local go_sem] Oper.semAt_some
theorem y7 (X M Y:List ac) (p q:ac) {i j:Nat} (hi:i=X.length) (hj:j=X.length+1+M.length):((X++p :: (M++q :: Y)).set i q).set j p=X++q :: (M++p :: Y):=by
 subst hi hj;rw [List.set_append_right _ _ (Nat.le_refl _),Nat.sub_self,List.set_cons_zero,List.set_append_right _ _ (by omega),show X.length+1+M.length - X.length=M.length+1 by omega,List.set_cons_succ,List.set_append_right _ _ (Nat.le_refl _),Nat.sub_self,List.set_cons_zero]
theorem z8 (X M Y:List ac) (p q:ac) {i j:Nat} (hi:i=X.length) (hj:j=X.length+1+M.length):(X++p :: (M++q :: Y))[i]?=some p∧(X++p :: (M++q :: Y))[j]?=some q:=by
 subst hi hj;constructor
 · rw [List.getElem?_append_right (Nat.le_refl _),Nat.sub_self,List.getElem?_cons_zero]
 · rw [List.getElem?_append_right (by omega),show X.length+1+M.length - X.length=M.length+1 by omega,List.getElem?_cons_succ,List.getElem?_append_right (Nat.le_refl _),Nat.sub_self,List.getElem?_cons_zero]
theorem Af (Z:List ac) (h:2≤Z.length):∃p M q,Z=p :: (M++[q]):=by
 match Z,h with
 | p :: b :: R,_=>exact ⟨p,(b :: R).dropLast,(b :: R).getLast (by simp),by rw [List.dropLast_concat_getLast]⟩
theorem Bs (w:World):Calls Tryz.prog 150 #[nZ] w fun e w'=>e=.returned (.tuple #[])∧w'=w:=by
 have rn:IntKind.i64.wrap ((0:Int) - 1)=-1:=by decide
 go_enter Tryz.func150,Tryz.ntmps150
 go_wp2;go_loopw [2,3] (fun iv jv wr=>iv=iT 0∧jv=iT (-1)∧wr=w) (fun _ _ _=>0)
 case atStart=>exact ⟨rfl,rfl,rfl⟩
 case round =>
  obtain ⟨rfl,rfl,rfl⟩:=hrel;go_wp2;go_end0;exact ⟨rfl,rfl⟩
theorem Cf (base g n c:Nat) (L:List ac) (w:World) (hO:aE w base g n c L) (hn:n≤1048576) :
 Calls Tryz.prog 150 #[sL g n c] w fun e w'=>e=.returned (.tuple #[])∧aE w' base g n c L.reverse∧w.grownBy w' (some g):=by
 have rn:IntKind.i64.wrap ((n:Int) - 1)=(n:Int) - 1:=by rw [IntKind.wrap_i64];omega
 have hcb:=hO.entsAt.big;have hcr:=hO.entsAt.room;unfold maxLen at hcb;have HO:=bc hO;clear hO;go_enter Tryz.func150,Tryz.ntmps150
 go_wp2;go_loopw [2,3] (fun iv jv wr=>∃(i:Nat) (X M Y:List ac),iv=iT i∧jv=iT ((n:Int) - 1 - i)∧X.length=i∧Y.length=i∧L.reverse=X++(M.reverse++Y)∧aE wr base g n c (X++(M++Y))∧w.grownBy wr (some g)) (fun iv _ _=>n - (intOf iv).toNat)
 case atStart=>exact ⟨0,[],L,[],rfl,by simp,rfl,rfl,by simp,by simpa using HO.out,⟨rfl,rfl,rfl,Nat.le_refl _,fun _ _ _=>rfl⟩⟩
 case round =>
  obtain ⟨i,X,Z,Y,rfl,rfl,hxl,hyl,hrv,hOi,hGi⟩:=hrel;have hlen:X.length+(Z.length+Y.length)=n:=by have:=hOi.len;simpa using this
  have HGR:Hid (w.grownBy wr (some g)):=hGi;clear hGi HO;by_cases hz:2≤Z.length
  · obtain ⟨⟨s,q,d,t,nn⟩,M,⟨s',q',d',t',nn'⟩,rfl⟩:=Af Z hz;simp only [List.length_cons,List.length_append,List.length_nil] at hlen hz;obtain ⟨j,hj⟩:=ay (i+1+M.length);have hje:(n:Int) - 1 - (i:Int)=(j:Int):=by omega
    rw [hje];have HJE:Hid ((n:Int) - 1 - (i:Int)=(j:Int)):=hje;have HXL:Hid (X.length=i):=hxl;have HYL:Hid (Y.length=i):=hyl;have HLE:Hid (i<n):=by show i<n;omega
    have hg2:=z8 X M Y (s,q,d,t,nn) (s',q',d',t',nn') (i:=i) (j:=j) hxl.symm (by omega);have HX:Hid ((X++(s,q,d,t,nn) :: (M++(s',q',d',t',nn') :: Y))[i]?=some (s,q,d,t,nn)):=hg2.1;have HY:Hid ((X++(s,q,d,t,nn) :: (M++(s',q',d',t',nn') :: Y))[j]?=some (s',q',d',t',nn')):=hg2.2;have HSW:Hid (((X++(s,q,d,t,nn) :: (M++(s',q',d',t',nn') :: Y)).set i (s',q',d',t',nn')).set j (s,q,d,t,nn)=X++(s',q',d',t',nn') :: (M++(s,q,d,t,nn) :: Y)):=y7 X M Y _ _ hxl.symm (by omega);have HRV:Hid (L.reverse=(X++[(s',q',d',t',nn')])++(M.reverse++(s,q,d,t,nn) :: Y)):=by show L.reverse=_;rw [hrv];simp
    have HI:Hid (i<n):=by show i<n;omega
    have HJ:Hid (j<n):=by show j<n;omega
    have HIJ:Hid (i≠j):=by show i≠j;omega
    have pi:(i:Int)<(n:Int):=by omega
    have pj:(j:Int)<(n:Int):=by omega
    have pij:(i:Int)<(j:Int):=by omega
    have ri:IntKind.i64.wrap ((i:Int)+1)=((i+1:Nat):Int):=by rw [IntKind.wrap_i64];omega
    have rj:IntKind.i64.wrap ((j:Int) - 1)=(j:Int) - 1:=by rw [IntKind.wrap_i64];omega
    have k0:aE wr.drew base g n c (X++(s,q,d,t,nn) :: (M++(s',q',d',t',nn') :: Y)):=by
     have h:aE wr base g n c (X++(s,q,d,t,nn) :: (M++(s',q',d',t',nn') :: Y)):=by simpa using hOi
     exact h.below (Below.refl _ _).drew
    have gd:w.grownBy wr.drew (some g):=dS HGR.out (tH _ _);clear hg2 hj hje hxl hyl hrv hOi hlen hz;go_wp2_with fail
    refine wp_region_held_drew (S:=(fun w'=>g<w'.heap.size)) (by kernel_rfl) (by exact k0.lt.2) (fun aa=>?_);generalize wr.drew=wd at k0 gd aa ⊢;refine aL 0 7 aa ?_;refine aL 8 3 aa ?_;refine A9 7 11 (fun K hK=>?_) fun K hK=>?_
    · obtain ⟨lc0,lc1,lc2,lc3,lc4⟩:=k0.at5 HY.out;have lcl:=k0.lt.2;go_simp;clear lc0 lc1 lc2 lc3 lc4 lcl;refine hK.out _ _ (by exact k0.lt.2) fun aa=>?_
      (try go_frame);refine aS 11 fun K hK=>?_
      obtain ⟨lc0,lc1,lc2,lc3,lc4⟩:=k0.at5 HX.out;have lcl:=k0.lt.2;go_simp;clear lc0 lc1 lc2 lc3 lc4 lcl;refine hK.out _ _ (by exact k0.lt.2) fun aa=>?_
      (try go_frame);refine aL 12 1 aa ?_;refine aS 13 fun K hK=>?_
      obtain ⟨lc0,lc1,lc2,lc3,lc4⟩:=k0.at5 HX.out;have lcl:=k0.lt.2;have lf:=k0.owns.frozenAt;have f0:=lf ((i)*5);have f1:=lf ((i)*5+1);have f2:=lf ((i)*5+2);have f3:=lf ((i)*5+3);have f4:=lf ((i)*5+4);clear lf;go_simp;clear lc0 lc1 lc2 lc3 lc4 lcl;clear f0 f1 f2 f3 f4;have k1:=k0.setE (i:=i) (e:=(s',q',d',t',nn')) HI.out (k0.ents _ (List.mem_of_getElem? HY.out));refine hK.out _ (setE wd g (i) (s',q',d',t',nn')) (by exact k1.lt.2) (fun aa=>?_);clear hK K;have gw1:=iS wd g (i) (s',q',d',t',nn');generalize setE wd g (i) (s',q',d',t',nn')=w1' at k1 gw1 aa ⊢;(try go_frame);refine aL 14 1 aa ?_;refine aS 15 fun K hK=>?_
      have HY1:((X++(s,q,d,t,nn) :: (M++(s',q',d',t',nn') :: Y)).set (i) (s',q',d',t',nn'))[j]?=some (s',q',d',t',nn'):=by rw [List.getElem?_set_ne HIJ.out];exact HY.out
      obtain ⟨lc0,lc1,lc2,lc3,lc4⟩:=k1.at5 HY1;have lcl:=k1.lt.2;have lf:=k1.owns.frozenAt;have f0:=lf ((j)*5);have f1:=lf ((j)*5+1);have f2:=lf ((j)*5+2);have f3:=lf ((j)*5+3);have f4:=lf ((j)*5+4);clear lf;go_simp;clear lc0 lc1 lc2 lc3 lc4 lcl;clear f0 f1 f2 f3 f4;have k2:=k1.setE (i:=j) (e:=(s,q,d,t,nn)) HJ.out (k0.ents _ (List.mem_of_getElem? HX.out));refine hK.out _ (setE w1' g (j) (s,q,d,t,nn)) (by exact k2.lt.2) (fun aa=>?_);clear hK K;have gw:wd.grownBy (setE w1' g (j) (s,q,d,t,nn)) (some g):=dS gw1 (iS w1' g (j) (s,q,d,t,nn));generalize setE w1' g (j) (s,q,d,t,nn)=w2' at k2 gw aa ⊢;(try go_frame);refine dN ?_;have HK2:Hid (aE w2' base g n c ((X++[(s',q',d',t',nn')])++(M++(s,q,d,t,nn) :: Y))):=by have:=k2;rw [HSW.out] at this;simpa [Hid] using this
      have HG2:Hid (w.grownBy w2' (some g)):=dS gd gw;clear k2 gw k0 k1 gw1 gd aa;go_wp2;go_roundw
      case rel=>exact ⟨i+1,X++[(s',q',d',t',nn')],M,(s,q,d,t,nn) :: Y,by go_num,by have:=HJE.out;simp;omega,by have:=HXL.out;simp;omega,by have:=HYL.out;simp;omega,HRV.out,HK2.out,HG2.out⟩
      case measure=>have:=HLE.out;simp [intOf];omega
    · obtain ⟨lc0,lc1,lc2,lc3,lc4⟩:=k0.at5 HX.out;have lcl:=k0.lt.2;go_simp;clear lc0 lc1 lc2 lc3 lc4 lcl;refine hK.out _ _ (by exact k0.lt.2) fun aa=>?_
      (try go_frame);refine aS 7 fun K hK=>?_
      obtain ⟨lc0,lc1,lc2,lc3,lc4⟩:=k0.at5 HY.out;have lcl:=k0.lt.2;go_simp;clear lc0 lc1 lc2 lc3 lc4 lcl;refine hK.out _ _ (by exact k0.lt.2) fun aa=>?_
      (try go_frame);refine aL 12 1 aa ?_;refine aS 13 fun K hK=>?_
      obtain ⟨lc0,lc1,lc2,lc3,lc4⟩:=k0.at5 HX.out;have lcl:=k0.lt.2;have lf:=k0.owns.frozenAt;have f0:=lf ((i)*5);have f1:=lf ((i)*5+1);have f2:=lf ((i)*5+2);have f3:=lf ((i)*5+3);have f4:=lf ((i)*5+4);clear lf;go_simp;clear lc0 lc1 lc2 lc3 lc4 lcl;clear f0 f1 f2 f3 f4;have k1:=k0.setE (i:=i) (e:=(s',q',d',t',nn')) HI.out (k0.ents _ (List.mem_of_getElem? HY.out));refine hK.out _ (setE wd g (i) (s',q',d',t',nn')) (by exact k1.lt.2) (fun aa=>?_);clear hK K;have gw1:=iS wd g (i) (s',q',d',t',nn');generalize setE wd g (i) (s',q',d',t',nn')=w1' at k1 gw1 aa ⊢;(try go_frame);refine aL 14 1 aa ?_;refine aS 15 fun K hK=>?_
      have HY1:((X++(s,q,d,t,nn) :: (M++(s',q',d',t',nn') :: Y)).set (i) (s',q',d',t',nn'))[j]?=some (s',q',d',t',nn'):=by rw [List.getElem?_set_ne HIJ.out];exact HY.out
      obtain ⟨lc0,lc1,lc2,lc3,lc4⟩:=k1.at5 HY1;have lcl:=k1.lt.2;have lf:=k1.owns.frozenAt;have f0:=lf ((j)*5);have f1:=lf ((j)*5+1);have f2:=lf ((j)*5+2);have f3:=lf ((j)*5+3);have f4:=lf ((j)*5+4);clear lf;go_simp;clear lc0 lc1 lc2 lc3 lc4 lcl;clear f0 f1 f2 f3 f4;have k2:=k1.setE (i:=j) (e:=(s,q,d,t,nn)) HJ.out (k0.ents _ (List.mem_of_getElem? HX.out));refine hK.out _ (setE w1' g (j) (s,q,d,t,nn)) (by exact k2.lt.2) (fun aa=>?_);clear hK K;have gw:wd.grownBy (setE w1' g (j) (s,q,d,t,nn)) (some g):=dS gw1 (iS w1' g (j) (s,q,d,t,nn));generalize setE w1' g (j) (s,q,d,t,nn)=w2' at k2 gw aa ⊢;(try go_frame);refine dN ?_;have HK2:Hid (aE w2' base g n c ((X++[(s',q',d',t',nn')])++(M++(s,q,d,t,nn) :: Y))):=by have:=k2;rw [HSW.out] at this;simpa [Hid] using this
      have HG2:Hid (w.grownBy w2' (some g)):=dS gd gw;clear k2 gw k0 k1 gw1 gd aa;go_wp2;go_roundw
      case rel=>exact ⟨i+1,X++[(s',q',d',t',nn')],M,(s,q,d,t,nn) :: Y,by go_num,by have:=HJE.out;simp;omega,by have:=HXL.out;simp;omega,by have:=HYL.out;simp;omega,HRV.out,HK2.out,HG2.out⟩
      case measure=>have:=HLE.out;simp [intOf];omega
  · have HD:Hid (aE wr base g n c L.reverse):=by
     have hZ:Z.reverse=Z:=by
      match Z,hz with
      | [],_=>rfl
      | [x],_=>rfl
      | _ :: _ :: _,h=>exact absurd (by simp) h
     rw [hrv,hZ];exact hOi
    have hni:¬(i:Int)<(n:Int) - 1 - (i:Int):=by omega
    clear hrv hOi hlen hz hxl hyl;go_wp2;go_end0;exact ⟨rfl,HD.out,HGR.out⟩
end Go.Proofs.YtlmgojlffgkciaaGreat
