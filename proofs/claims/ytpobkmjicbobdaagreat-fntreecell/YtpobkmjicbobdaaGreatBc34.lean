/- Walks. -/
import Derived.Test.YtpobkmjicbobdaaGreatBc33
namespace Go.Proofs.YtpobkmjicbobdaaGreat
set_option maxRecDepth 100000
set_option maxHeartbeats 40000000
open Go.RowKit
variable {A B:List ae} {C:Int} {H a m p:Nat} {x y:ae}
section
attribute [local go_sem] Gi
def iF (A B:List ae) (a m p k:Nat):Prop:=∃x y,A[k - a]?=some x∧B[p - k - m]?=some y∧y.2.1<x.2.1
theorem jU (h:Asc A) {i j:Nat} {x y:ae} (hi:A[i]?=some x) (d:A[j]?=some y) (b:i≤j):x.2.1≤y.2.1:=by
 obtain ⟨h1,h2⟩:=E'.1 hi;obtain ⟨h3,h4⟩:=E'.1 d;by_cases e:i=j
 · subst e;rw [h2] at h4;rw [h4];exact Int.le_refl _
 · have:=F2.1 h i j h1 h3 (by omega);rw [h2,h4] at this;exact this
theorem Cr {b:Nat} (hA:Asc A) (hB:Asc B) (hC:(C<0→y.2.1<x.2.1)∧(y.2.1<x.2.1→C<0)) (f:C<0) (hx:A[H - a]?=some x∧a≤H∧b≤a+A.length) (hy:B[p - H - m]?=some y∧b+m≤p+1):∀k,H≤k→k<b→iF A B a m p k:=by
 intro k hk hh;obtain ⟨e,o,n⟩:=hx;obtain ⟨d,g⟩:=hy;have l1:=(E'.1 d).1;have e1:=j' (show k - a<A.length by omega);have e2:=j' (show p - k - m<B.length by omega);refine ⟨_,_,e1,e2,?_⟩;have h1:=jU hA e e1 (by omega);have h2:=jU hB e2 d (by omega);have:=hC.1 f;omega
theorem Ed {e:Nat} (hA:Asc A) (hB:Asc B) (hC:(C<0→y.2.1<x.2.1)∧(y.2.1<x.2.1→C<0)) (d:¬C<0) {b:Nat} (hx:A[H - a]?=some x∧a≤H∧b≤a+A.length) (hy:B[p - H - m]?=some y∧b+m≤p+1):∀k,e≤k→k<H+1→¬iF A B a m p k:=by
 intro k hk hh hl;obtain ⟨f,g,e1,e2,h3⟩:=hl;have h1:=jU hA e1 hx.1 (by omega);have h2:=jU hB hy.1 e2 (by omega);exact d (hC.2 (by omega))
theorem yW {b d s:Nat} (hA:Asc A) (hB:Asc B) (hm:m=a+A.length) (hb:b=m+B.length) (hp:p+1=d+m) (has:a≤s) (t:s≤m) (o:s≤d) (f:∀k,a≤k→d+m≤k+b→k<s→¬iF A B a m p k) (e:∀k,s≤k→k<m→k<d→iF A B a m p k) :
 fX A B=fX (A.take (s - a)) (B.take (d - s))++fX (A.drop (s - a)) (B.drop (d - s)):=by
 have h:=f9 (A.take (s - a)) (A.drop (s - a)) (B.take (d - s)) (B.drop (d - s)) ?_ ?_
 · rw [FX,FX] at h;exact h
 · intro x hx y hy n;obtain ⟨i,hi,rfl⟩:=G7.1 hx;obtain ⟨j,g,rfl⟩:=G7.1 hy;simp only [Gn,Gr] at n;simp at hi g;have r:a<s:=by omega
   have e1:=j' (show s - 1 - a<A.length by omega);have e2:=j' (show p - (s - 1) - m<B.length by omega);refine f (s - 1) (by omega) (by omega) (by omega) ⟨_,_,e1,e2,?_⟩;have h1:=jU hA (j' (show i<A.length by omega)) e1 (by omega);have h2:=jU hB e2 (j' (show d - s+j<B.length by omega)) (by omega);omega
 · intro y hy x hx;obtain ⟨j,g,rfl⟩:=G7.1 hy;obtain ⟨i,hi,rfl⟩:=G7.1 hx;simp only [Gn,Gr];simp at hi g;obtain ⟨D,u,e1,e2,h3⟩:=e s (Fv _) (by omega) (by omega);have h1:=jU hA e1 (j' (show s - a+i<A.length by omega)) (by omega);have h2:=jU hB (j' (show j<B.length by omega)) e2 (by omega);omega
theorem vC (h:Asc A) (k:Nat):Asc (A.take k):=GH (List.take_sublist k A) h
theorem vD (h:Asc A) (k:Nat):Asc (A.drop k):=GH (Hy k A) h
theorem Di (base g n c:Nat) (Z A B Y:List ae) (a m b:Nat) (w:World) (hO:ag w base g n c (Z++(A++(B++Y)))) (hA:Asc A) (hB:Asc B) (a6:2≤A.length) (aa:2≤B.length) (ha:a=Z.length) (hm:m=a+A.length) (hb:b=m+B.length) (hn:n≤1048576)
 (hrec:∀(Z' A' B' Y':List ae) (a' m' b':Nat) (w':World),A'.length+B'.length<A.length+B.length→ag w' base g n c (Z'++(A'++(B'++Y')))→Asc A'→Asc B'→1≤A'.length→1≤B'.length→a'=Z'.length→m'=a'+A'.length→b'=m'+B'.length →
  Calls Tryz.prog 214 #[sL g n c,iT a',iT m',iT b',.func (.func 112) #[] #[]] w' fun e ax=>e=.returned (.tuple #[])∧ag ax base g n c (Z'++(fX A' B'++Y'))∧w'.grownBy ax (some g)) :
 Calls Tryz.prog 214 #[sL g n c,iT a,iT m,iT b,.func (.func 112) #[] #[]] w fun e w'=>e=.returned (.tuple #[])∧ag w' base g n c (Z++(fX A B++Y))∧w.grownBy w' (some g):=by
 have aK:Eq (∀(Z' A' B' Y':List ae) (a' m' b':Nat) (w':World),A'.length+B'.length<A.length+B.length→ag w' base g n c (Z'++(A'++(B'++Y')))→Asc A'→Asc B'→1≤A'.length→1≤B'.length→a'=Z'.length→m'=a'+A'.length→b'=m'+B'.length →
  Calls Tryz.prog 214 #[sL g n c,iT a',iT m',iT b',.func (.func 112) #[] #[]] w' fun e ax=>e=.returned (.tuple #[])∧ag ax base g n c (Z'++(fX A' B'++Y'))∧w'.grownBy ax (some g)):=hrec
 have aq:=bT hA;have an:=bT hB;have hl:=hO.len;simp only [Fy] at hl;have bK:=hO.entsAt.big;have cp:=hO.entsAt.room;unfold maxLen at bK;have HZ:=bT ha;have HM:=bT hm;have HB:=bT hb;have bG:=bT a6;have bJ:=bT aa;have HO:=bT hO;have cu:b≤n:=by omega
 have cw:m+2≤b:=by omega
 have cy:a+2≤m:=by omega
 obtain ⟨ka,c7⟩:=aG A.length;obtain ⟨kb,c4⟩:=aG B.length;have bX:IntKind.i64.wrap ((m:Int) - (a:Int))=(ka:Int):=by rw [F0];omega
 have bS:((ka:Int) == 1)=false:=by simp;omega
 have bL:IntKind.i64.wrap ((b:Int) - (m:Int))=(kb:Int):=by rw [F0];omega
 have c2:((kb:Int) == 1)=false:=by simp;omega
 obtain ⟨mid,bc⟩:=aG ((a+b) / 2);have eM:((a:Int)+(b:Int)) / 2=(mid:Int):=by omega
 have bM:a+2≤mid:=by omega
 have bP:mid+2≤b:=by omega
 have bW:IntKind.i64.wrap ((a:Int)+(b:Int))=(a:Int)+(b:Int):=by rw [F0];omega
 obtain ⟨N,hN⟩:=aG (mid+m);have rN:IntKind.i64.wrap ((mid:Int)+(m:Int))=(N:Int):=by rw [F0];omega
 obtain ⟨p,hp⟩:=aG (N - 1);have rp:IntKind.i64.wrap ((N:Int) - 1)=(p:Int):=by rw [F0];omega
 obtain ⟨lo,a3⟩:=aG (if mid<m then N - b else a);obtain ⟨f,ao⟩:=aG (if mid<m then mid else m);have bv:mid<m→IntKind.i64.wrap ((N:Int) - (b:Int))=(lo:Int):=fun h=>by rw [F0,a3,if_pos h];omega
 have aC:Eq (N=mid+m∧p+1=N):=by show N=mid+m∧p+1=N;omega
 have aM:Eq (a≤lo∧N≤lo+b∧lo≤f∧f≤m∧f≤mid):=by
  show a≤lo∧N≤lo+b∧lo≤f∧f≤m∧f≤mid
  rw [a3,ao];split <;> omega
 have bY:Eq (f=m∨f=mid):=by show f=m∨f=mid;rw [ao];split <;> omega
 have bV:Eq (lo=a∨lo+b=N):=by show lo=a∨lo+b=N;rw [a3];split <;> omega
 have bl:Eq (mid<m→lo+b=N∧f=mid):=fun h=>by rw [a3,ao,if_pos h,if_pos h];omega
 have bg:Eq (¬mid<m→lo=a∧f=m):=fun h=>by rw [a3,ao,if_neg h,if_neg h];exact ⟨rfl,rfl⟩
 clear hO hA hB ha hb hl hm a6 aa c7 c4 bc hN hp a3 ao hrec;go_enter Tryz.func214,Tryz.ntmps214
 go_upto_if 140 with fail
 clear bX bL bS c2 eM bW rN;go_cut [20,21] (fun au c6 wx=>au=iT lo∧c6=iT f∧w=wx)
 case first =>
  as_aux_lemma =>
   by_cases aU:mid<m
   · have be:(mid:Int)<(m:Int):=by omega
     have hr:=bv aU;have HE:=bl.o aU;have aF:Eq (f=mid):=HE.2;clear HE;go_wp2;go_meet
     exact ⟨rfl,by rw [aF.o],rfl⟩
   · have be:¬(mid:Int)<(m:Int):=by omega
     have HE:=bg.o aU;have aF:Eq (lo=a∧f=m):=HE;clear HE;go_wp2;go_meet
     exact ⟨by rw [aF.o.1],by rw [aF.o.2],rfl⟩
 case rest =>
 obtain ⟨rfl,rfl,bI⟩:=hcut;subst bI;clear bv bl bg;go_wp2;clear rp;go_loopw [20,21] (fun sv rv wr=>∃S Rr:Nat,sv=iT S∧rv=iT Rr∧lo≤S∧S≤Rr∧Rr≤f∧ag wr base g n c (Z++(A++(B++Y)))∧w.grownBy wr (some g)∧(∀k,lo≤k→k<S→¬iF A B a m p k)∧(∀k,Rr≤k→k<f→iF A B a m p k)) (fun sv rv _=>(intOf rv).toNat - (intOf sv).toNat)
 case atStart=>exact ⟨lo,f,rfl,rfl,Fv _,aM.o.2.2.1,Fv _,HO.o,⟨rfl,rfl,rfl,Fv _,fun _ _ _=>rfl⟩,(fun k h1 h2=>absurd h2 (by omega)),(fun k h1 h2=>absurd h2 (by omega))⟩
 case round =>
  obtain ⟨S,Rr,rfl,rfl,bn,cn,b8,bo,b9,h1,h2⟩:=hrel;have aH:Eq (ag wr base g n c (Z++(A++(B++Y)))):=bo;have X:Eq (w.grownBy wr (some g)):=b9;have H1:Eq (∀k,lo≤k→k<S→¬iF A B a m p k):=h1;have H2:Eq (∀k,Rr≤k→k<f→iF A B a m p k):=h2;clear bo b9 h1 h2 HO;by_cases cr:S<Rr
  · have bp:(S:Int)<(Rr:Int):=by omega
    obtain ⟨H,hH⟩:=aG ((S+Rr) / 2);have ct:S≤H:=by omega
    have cs:H<Rr:=by omega
    have eH:((S:Int)+(Rr:Int)) / 2=(H:Int):=by omega
    obtain ⟨aN,b3⟩:=aC.o;obtain ⟨aR,aS,aO,b2,b0⟩:=aM.o;have aI:=HM.o;have aE:=HB.o;have aD:=HZ.o;obtain ⟨Q,hQ⟩:=aG (p - H);have rQ:IntKind.i64.wrap ((p:Int) - (H:Int))=(Q:Int):=by rw [F0];omega
    obtain ⟨x,hx⟩:∃x,A[H - a]?=some x:=⟨_,j' (by omega)⟩;obtain ⟨y,hy⟩:∃y,B[p - H - m]?=some y:=⟨_,j' (by omega)⟩;have b5:Eq (A[H - a]?=some x∧a≤H∧f≤a+A.length):=⟨hx,by omega,by omega⟩;have bf:Eq (B[p - H - m]?=some y∧f+m≤p+1):=⟨hy,by omega⟩;have bt:(Z++(A++(B++Y)))[H]?=some x:=by
     rw [Fz (by omega),FE (by omega),← aD];exact hx
    have bk:(Z++(A++(B++Y)))[Q]?=some y:=by
     rw [Fz (by omega),Fz (by omega),FE (by omega),show Q - Z.length - A.length=p - H - m by omega];exact hy
    obtain ⟨C,hC⟩:=aG (Lib.compareInt y.2.1 x.2.1);have HC:Eq ((C<0→y.2.1<x.2.1)∧(y.2.1<x.2.1→C<0)):=by rw [hC];exact ⟨(nJ _ _).1,(nJ _ _).2⟩
    have bh:∀w,Calls Tryz.prog 112 #[.agg #[.string y.1,iT y.2.1,iT y.2.2.1,.string y.2.2.2.1,iT y.2.2.2.2],.agg #[.string x.1,iT x.2.1,iT x.2.2.1,.string x.2.2.2.1,iT x.2.2.2.2]] w fun e w'=>e=.returned (iT C)∧Bl w w':=by rw [hC];exact fun w=>pY y.1 y.2.2.2.1 x.1 x.2.2.2.1 y.2.1 y.2.2.1 y.2.2.2.2 x.2.1 x.2.2.1 x.2.2.2.2 w
    obtain ⟨s,q,d,t,nn⟩:=y;obtain ⟨s',q',d',t',bb⟩:=x;have HX:Eq ((Z++(A++(B++Y)))[Q]?=some (s,q,d,t,nn)):=bk;have HY:Eq ((Z++(A++(B++Y)))[H]?=some (s',q',d',t',bb)):=bt;have CQ:Eq (∀w,Calls Tryz.prog 112 #[.agg #[.string s,iT q,iT d,.string t,iT nn],.agg #[.string s',iT q',iT d',.string t',iT bb]] w fun e w'=>e=.returned (iT C)∧Bl w w'):=bh;have cm:(H:Int)<(n:Int):=by omega
    have cv:(Q:Int)<(n:Int):=by omega
    have r:ag wr.drew base g n c (Z++(A++(B++Y))):=aH.o.below (Below.refl _ _).drew;have gd:w.grownBy wr.drew (some g):=af X.o (fD _ _);clear hH hx hy bt bk hC bh aH X aN b3 aI aE aD hQ aR aS aO b2 b0;by_cases aJ:C<0
    · have bR:decide (C<0)=true:=decide_eq_true aJ;have b7:Eq (∀k,H≤k→k<f→iF A B a m p k):=Cr aq.o an.o HC.o aJ b5.o bf.o;go_wp2_with fail
      as_aux_lemma =>
       refine wp_region_held_drew (S:=(fun w'=>g<w'.heap.size)) (by kernel_rfl) (by exact r.lt.2) (fun ac=>?_);generalize wr.drew=wd at r gd ac ⊢;refine aP 0 6 ac ?_;refine aP 7 3 ac ?_;refine lg 6 10 (fun K hK=>?_) fun K hK=>?_
       · obtain ⟨R,J,F,O,T⟩:=r.at5 HX.o;have L:=r.lt.2;go_simp;clear R J F O T L;refine hK.o _ _ (by exact r.lt.2) fun ac=>?_
         (try go_frame);refine aQ 10 fun K hK=>?_
         obtain ⟨R,J,F,O,T⟩:=r.at5 HY.o;have L:=r.lt.2;go_simp;clear R J F O T L;refine hK.o _ _ (by exact r.lt.2) fun ac=>?_
         (try go_frame);refine aQ 11 fun K hK=>?_
         go_simp;refine (CQ.o _).mono ?_;rintro e w1 ⟨rfl,b1⟩;have k1:=r.below b1;have gw:w.grownBy w1 (some g):=af gd (dq b1);go_wp2_with fail
         refine hK.o _ _ (by exact k1.lt.2) fun ac=>?_
         (try go_frame);refine aP 12 2 ac ?_;refine dN ?_;have ab:Eq (ag w1 base g n c (Z++(A++(B++Y)))):=k1;have X:Eq (w.grownBy w1 (some g)):=gw;clear r gd k1 gw ac b1;go_wp2;go_roundw
         case rel=>exact ⟨S,H,rfl,rfl,bn,by omega,by omega,ab.o,X.o,H1.o,b7.o⟩
         case measure=>simp [intOf];omega
       · obtain ⟨R,J,F,O,T⟩:=r.at5 HY.o;have L:=r.lt.2;go_simp;clear R J F O T L;refine hK.o _ _ (by exact r.lt.2) fun ac=>?_
         (try go_frame);refine aQ 6 fun K hK=>?_
         obtain ⟨R,J,F,O,T⟩:=r.at5 HX.o;have L:=r.lt.2;go_simp;clear R J F O T L;refine hK.o _ _ (by exact r.lt.2) fun ac=>?_
         (try go_frame);refine aQ 11 fun K hK=>?_
         go_simp;refine (CQ.o _).mono ?_;rintro e w1 ⟨rfl,b1⟩;have k1:=r.below b1;have gw:w.grownBy w1 (some g):=af gd (dq b1);go_wp2_with fail
         refine hK.o _ _ (by exact k1.lt.2) fun ac=>?_
         (try go_frame);refine aP 12 2 ac ?_;refine dN ?_;have ab:Eq (ag w1 base g n c (Z++(A++(B++Y)))):=k1;have X:Eq (w.grownBy w1 (some g)):=gw;clear r gd k1 gw ac b1;go_wp2;go_roundw
         case rel=>exact ⟨S,H,rfl,rfl,bn,by omega,by omega,ab.o,X.o,H1.o,b7.o⟩
         case measure=>simp [intOf];omega
    · have bR:decide (C<0)=false:=decide_eq_false aJ;have bw:Eq (∀k,lo≤k→k<H+1→¬iF A B a m p k):=Ed aq.o an.o HC.o aJ b5.o bf.o;go_wp2_with fail
      as_aux_lemma =>
       refine wp_region_held_drew (S:=(fun w'=>g<w'.heap.size)) (by kernel_rfl) (by exact r.lt.2) (fun ac=>?_);generalize wr.drew=wd at r gd ac ⊢;refine aP 0 6 ac ?_;refine aP 7 3 ac ?_;refine lg 6 10 (fun K hK=>?_) fun K hK=>?_
       · obtain ⟨R,J,F,O,T⟩:=r.at5 HX.o;have L:=r.lt.2;go_simp;clear R J F O T L;refine hK.o _ _ (by exact r.lt.2) fun ac=>?_
         (try go_frame);refine aQ 10 fun K hK=>?_
         obtain ⟨R,J,F,O,T⟩:=r.at5 HY.o;have L:=r.lt.2;go_simp;clear R J F O T L;refine hK.o _ _ (by exact r.lt.2) fun ac=>?_
         (try go_frame);refine aQ 11 fun K hK=>?_
         go_simp;refine (CQ.o _).mono ?_;rintro e w1 ⟨rfl,b1⟩;have k1:=r.below b1;have gw:w.grownBy w1 (some g):=af gd (dq b1);go_wp2_with fail
         refine hK.o _ _ (by exact k1.lt.2) fun ac=>?_
         (try go_frame);refine aP 12 2 ac ?_;refine dN ?_;have ab:Eq (ag w1 base g n c (Z++(A++(B++Y)))):=k1;have X:Eq (w.grownBy w1 (some g)):=gw;clear r gd k1 gw ac b1;go_wp2;go_roundw
         case rel=>exact ⟨H+1,Rr,by go_num,rfl,by omega,by omega,b8,ab.o,X.o,bw.o,H2.o⟩
         case measure=>simp [intOf];omega
       · obtain ⟨R,J,F,O,T⟩:=r.at5 HY.o;have L:=r.lt.2;go_simp;clear R J F O T L;refine hK.o _ _ (by exact r.lt.2) fun ac=>?_
         (try go_frame);refine aQ 6 fun K hK=>?_
         obtain ⟨R,J,F,O,T⟩:=r.at5 HX.o;have L:=r.lt.2;go_simp;clear R J F O T L;refine hK.o _ _ (by exact r.lt.2) fun ac=>?_
         (try go_frame);refine aQ 11 fun K hK=>?_
         go_simp;refine (CQ.o _).mono ?_;rintro e w1 ⟨rfl,b1⟩;have k1:=r.below b1;have gw:w.grownBy w1 (some g):=af gd (dq b1);go_wp2_with fail
         refine hK.o _ _ (by exact k1.lt.2) fun ac=>?_
         (try go_frame);refine aP 12 2 ac ?_;refine dN ?_;have ab:Eq (ag w1 base g n c (Z++(A++(B++Y)))):=k1;have X:Eq (w.grownBy w1 (some g)):=gw;clear r gd k1 gw ac b1;go_wp2;go_roundw
         case rel=>exact ⟨H+1,Rr,by go_num,rfl,by omega,by omega,b8,ab.o,X.o,bw.o,H2.o⟩
         case measure=>simp [intOf];omega
  · have bp:¬(S:Int)<(Rr:Int):=by omega
    have bx:S=Rr:=by omega
    subst bx;obtain ⟨aN,b3⟩:=aC.o;obtain ⟨aR,aS,aO,b2,b0⟩:=aM.o;have aI:=HM.o;have aE:=HB.o;have aD:=HZ.o;have br:=bG.o;have bs:=bJ.o;have am:Eq (fX A B=fX (A.take (S - a)) (B.take (mid - S))++fX (A.drop (S - a)) (B.drop (mid - S))):=yW (p:=p) aq.o an.o aI aE (by omega) (by omega) (by omega) (by omega)
     (fun k h1 h2 h3=>H1.o k (by rcases bV.o with h | h <;> omega) h3) (fun k h1 h2 h3=>H2.o k h1 (by rcases bY.o with h | h <;> omega))
    obtain ⟨D,ak⟩:=aG (A.take (S - a));obtain ⟨I,a6⟩:=aG (A.drop (S - a));obtain ⟨U,ay⟩:=aG (B.take (mid - S));obtain ⟨B2,aa⟩:=aG (B.drop (mid - S));rw [← ak,← a6,← ay,← aa] at am;have bQ:Eq (Asc D):=by rw [ak];exact vC aq.o _
    have b6:Eq (Asc I):=by rw [a6];exact vD aq.o _
    have bO:Eq (Asc U):=by rw [ay];exact vC an.o _
    have b4:Eq (Asc B2):=by rw [aa];exact vD an.o _
    have ad:Eq (D.length=S - a∧I.length=m - S∧U.length=mid - S∧B2.length=b - (N - S)):=by
     show D.length=S - a∧I.length=m - S∧U.length=mid - S∧B2.length=b - (N - S)
     rw [ak,a6,ay,aa,FC,FN,FC,FN];omega
    have bd:Eq (D.length+U.length<A.length+B.length∧I.length+B2.length<A.length+B.length):=by
     show D.length+U.length<A.length+B.length∧I.length+B2.length<A.length+B.length
     have:=ad.o;omega
    have HD:Eq (ag wr base g n c (Z++(D++(I++(U++(B2++Y)))))):=by
     have:=aH.o;rw [show A=D++I by rw [ak,a6,FX],show B=U++B2 by rw [ay,aa,FX]] at this;simpa [Eq] using this
    obtain ⟨E,hE⟩:=aG (N - S);have rE:IntKind.i64.wrap ((N:Int) - (S:Int))=(E:Int):=by rw [F0];omega
    have W:Eq (E=mid+m - S∧a≤S∧S≤m∧S≤mid∧E≤b∧m≤E):=by show E=mid+m - S∧a≤S∧S≤m∧S≤mid∧E≤b∧m≤E;omega
    clear ak a6 ay aa aH aN b3 aR aS aO b2 b0 aI aE aD br bs hE H1 H2;go_upto_region 39 with fail
    clear rE;go_cut [185] (fun v wx=>v=.bool (decide (S<m) && decide (m<E))∧wr=wx)
    case first =>
     as_aux_lemma =>
      by_cases a9:S<m
      · have a7:(S:Int)<(m:Int):=by omega
        by_cases a5:m<E
        · have a8:(m:Int)<(E:Int):=by omega
          go_wp2;go_meet
          exact ⟨by simp [a9,a5],rfl⟩
        · have a8:¬(m:Int)<(E:Int):=by omega
          go_wp2;go_meet
          exact ⟨by simp [a5],rfl⟩
      · have a7:¬(S:Int)<(m:Int):=by omega
        go_wp2;go_meet
        exact ⟨by simp [a9],rfl⟩
    case rest =>
    obtain ⟨rfl,bZ⟩:=hcut;subst bZ;go_upto_if 185 with fail
    go_cut [20] (fun au wx=>au=iT S∧ag wx base g n c (Z++(D++(U++(I++(B2++Y)))))∧w.grownBy wx (some g))
    case first =>
     as_aux_lemma =>
      by_cases hs:S<m∧m<E
      · have hd:(decide (S<m) && decide (m<E))=true:=by simp [hs.1,hs.2]
        have c0:Eq (ag wr base g n c ((Z++D)++(I++(U++(B2++Y))))):=by simpa [Eq] using HD.o
        have u:Eq (S=(Z++D).length∧m=(Z++D).length+I.length∧E=(Z++D).length+I.length+U.length∧1≤I.length∧1≤U.length):=by
         show S=(Z++D).length∧m=(Z++D).length+I.length∧E=(Z++D).length+I.length+U.length∧1≤I.length∧1≤U.length
         have:=ad.o;have:=W.o;have:=HZ.o;rw [Fy];omega
        clear hs;rw [hd];clear hd;go_wp2_with fail
        refine (El base g n c (Z++D) I U (B2++Y) S m E _ _ c0.o u.o.1 u.o.2.1 u.o.2.2.1 u.o.2.2.2.1 u.o.2.2.2.2 hn).mono ?_;rintro e w1 ⟨rfl,al,aw⟩;have aX:Eq (ag w1 base g n c (Z++(D++(U++(I++(B2++Y)))))):=by simpa [Eq] using al
        have az:Eq (w.grownBy w1 (some g)):=af X.o aw;clear al aw;go_wp2;go_meet
        exact ⟨rfl,aX.o,az.o⟩
      · have hd:(decide (S<m) && decide (m<E))=false:=by
         cases h:(decide (S<m) && decide (m<E)) with
         | false=>rfl
         | true=>simp at h;exact absurd h hs
        have aX:Eq (ag wr base g n c (Z++(D++(U++(I++(B2++Y)))))):=by
         have h0:I=[]∨U=[]:=by
          have:=ad.o;have:=W.o;by_cases h1:S<m
          · right;exact Gk.1 (by omega)
          · left;exact Gk.1 (by omega)
         have:=HD.o;rcases h0 with h0 | h0
         · rw [h0] at this ⊢;simpa [Eq] using this
         · rw [h0] at this ⊢;simpa [Eq] using this
        clear hs;rw [hd];clear hd;go_wp2;go_meet
        exact ⟨rfl,aX.o,X.o⟩
    case rest =>
    rename World=>wA
    obtain ⟨rfl,al,aw⟩:=hcut;have aZ:Eq (ag wA base g n c (Z++(D++(U++(I++(B2++Y)))))):=al;have az:Eq (w.grownBy wA (some g)):=aw;clear al aw HD X;go_upto_region 41 with fail
    go_cut [199] (fun v wx=>v=.bool (decide (a<S) && decide (S<mid))∧wA=wx)
    case first =>
     as_aux_lemma =>
      by_cases a9:a<S
      · have a7:(a:Int)<(S:Int):=by omega
        by_cases a5:S<mid
        · have a8:(S:Int)<(mid:Int):=by omega
          go_wp2;go_meet
          exact ⟨by simp [a9,a5],rfl⟩
        · have a8:¬(S:Int)<(mid:Int):=by omega
          go_wp2;go_meet
          exact ⟨by simp [a5],rfl⟩
      · have a7:¬(a:Int)<(S:Int):=by omega
        go_wp2;go_meet
        exact ⟨by simp [a9],rfl⟩
    case rest =>
    obtain ⟨rfl,bF⟩:=hcut;subst bF;go_upto_if 199 with fail
    go_cut [20] (fun au wx=>au=iT S∧ag wx base g n c (Z++(fX D U++(I++(B2++Y))))∧w.grownBy wx (some g))
    case first =>
     as_aux_lemma =>
      by_cases hs:a<S∧S<mid
      · have hd:(decide (a<S) && decide (S<mid))=true:=by simp [hs.1,hs.2]
        have u:Eq (1≤D.length∧1≤U.length∧S=a+D.length∧mid=S+U.length):=by
         show 1≤D.length∧1≤U.length∧S=a+D.length∧mid=S+U.length
         have:=ad.o;have:=W.o;omega
        clear hs;rw [hd];clear hd;go_wp2_with fail
        refine (aK.o Z D U (I++(B2++Y)) a S mid _ bd.o.1 aZ.o bQ.o bO.o u.o.1 u.o.2.1 HZ.o u.o.2.2.1 u.o.2.2.2).mono ?_;rintro e w1 ⟨rfl,av,ap⟩;have aW:Eq (ag w1 base g n c (Z++(fX D U++(I++(B2++Y))))):=av;have aB:Eq (w.grownBy w1 (some g)):=af az.o ap;clear av ap;go_wp2;go_meet
        exact ⟨rfl,aW.o,aB.o⟩
      · have hd:(decide (a<S) && decide (S<mid))=false:=by
         cases h:(decide (a<S) && decide (S<mid)) with
         | false=>rfl
         | true=>simp at h;exact absurd h hs
        have aW:Eq (ag wA base g n c (Z++(fX D U++(I++(B2++Y))))):=by
         have h0:D=[]∨U=[]:=by
          have:=ad.o;have:=W.o;by_cases h1:a<S
          · right;exact Gk.1 (by omega)
          · left;exact Gk.1 (by omega)
         have:=aZ.o;rcases h0 with h0 | h0
         · rw [h0] at this ⊢;rw [fi];simpa [Eq] using this
         · rw [h0] at this ⊢;rw [ee];simpa [Eq] using this
        clear hs;rw [hd];clear hd;go_wp2;go_meet
        exact ⟨rfl,aW.o,az.o⟩
    case rest =>
    rename World=>wB
    obtain ⟨rfl,av,ap⟩:=hcut;have bi:Eq (ag wB base g n c ((Z++fX D U)++(I++(B2++Y)))):=by simpa [Eq] using av
    have aB:Eq (w.grownBy wB (some g)):=ap;clear av ap aZ az;go_upto_region 43 with fail
    go_cut [213] (fun v wx=>v=.bool (decide (mid<E) && decide (E<b))∧wB=wx)
    case first =>
     as_aux_lemma =>
      by_cases a9:mid<E
      · have a7:(mid:Int)<(E:Int):=by omega
        by_cases a5:E<b
        · have a8:(E:Int)<(b:Int):=by omega
          go_wp2;go_meet
          exact ⟨by simp [a9,a5],rfl⟩
        · have a8:¬(E:Int)<(b:Int):=by omega
          go_wp2;go_meet
          exact ⟨by simp [a5],rfl⟩
      · have a7:¬(mid:Int)<(E:Int):=by omega
        go_wp2;go_meet
        exact ⟨by simp [a9],rfl⟩
    case rest =>
    obtain ⟨rfl,bU⟩:=hcut;subst bU;go_upto_if 213 with fail
    by_cases hs:mid<E∧E<b
    · have hd:(decide (mid<E) && decide (E<b))=true:=by simp [hs.1,hs.2]
      have u:Eq (1≤I.length∧1≤B2.length∧mid=(Z++fX D U).length∧E=mid+I.length∧b=E+B2.length):=by
       show 1≤I.length∧1≤B2.length∧mid=(Z++fX D U).length∧E=mid+I.length∧b=E+B2.length
       have:=ad.o;have:=W.o;have:=HZ.o;have:=aC.o;rw [Fy,tA];omega
      clear hs;rw [hd];clear hd;go_wp2_with fail
      refine (aK.o (Z++fX D U) I B2 Y mid E b _ bd.o.2 bi.o b6.o b4.o u.o.1 u.o.2.1 u.o.2.2.1 u.o.2.2.2.1 u.o.2.2.2.2).mono ?_;rintro e w1 ⟨rfl,bj,bq⟩;have aT:Eq (ag w1 base g n c (Z++(fX A B++Y))):=by rw [am.o];simpa [Eq] using bj
      have bH:Eq (w.grownBy w1 (some g)):=af aB.o bq;clear bj bq;go_wp2;go_end0;exact ⟨rfl,aT.o,bH.o⟩
    · have hd:(decide (mid<E) && decide (E<b))=false:=by
       cases h:(decide (mid<E) && decide (E<b)) with
       | false=>rfl
       | true=>simp at h;exact absurd h hs
      have aT:Eq (ag wB base g n c (Z++(fX A B++Y))):=by
       have h0:I=[]∨B2=[]:=by
        have:=ad.o;have:=W.o;have:=aC.o;by_cases h1:mid<E
        · right;exact Gk.1 (by omega)
        · left;exact Gk.1 (by omega)
       have:=bi.o;rw [am.o];rcases h0 with h0 | h0
       · rw [h0] at this ⊢;rw [fi];simpa [Eq] using this
       · rw [h0] at this ⊢;rw [ee];simpa [Eq] using this
      clear hs;rw [hd];clear hd;go_wp2;go_end0;exact ⟨rfl,aT.o,aB.o⟩
theorem uf (base g n c:Nat) (hn:n≤1048576):∀(N:Nat) (Z A B Y:List ae) (a m b:Nat) (w:World),A.length+B.length≤N→ag w base g n c (Z++(A++(B++Y)))→Asc A→Asc B→1≤A.length→1≤B.length→a=Z.length→m=a+A.length→b=m+B.length →
 Calls Tryz.prog 214 #[sL g n c,iT a,iT m,iT b,.func (.func 112) #[] #[]] w fun e w'=>e=.returned (.tuple #[])∧ag w' base g n c (Z++(fX A B++Y))∧w.grownBy w' (some g):=by
 intro N;induction N with
 | zero=>intro Z A B Y a m b w h _ _ _ hA _;omega
 | succ N F =>
  intro Z A B Y a m b w h hO hA hB D E ha hm hb;by_cases h1:A.length=1
  · obtain ⟨x,rfl⟩:=List.length_eq_one_iff.1 h1;exact Dh base g n c Z B Y x a m b w (by simpa using hO) hB ha (by simpa using hm) hb hn
  by_cases h2:B.length=1
  · obtain ⟨y,rfl⟩:=List.length_eq_one_iff.1 h2;exact Dg base g n c Z A Y y a m b w (by simpa using hO) hA (by omega) ha hm (by simpa using hb) hn
  exact Di base g n c Z A B Y a m b w hO hA hB (by omega) (by omega) ha hm hb hn (fun u r s I t J b' w' hl d f o l1 l2 e1 e2 e3=>F u r s I t J b' w' (by omega) d f o l1 l2 e1 e2 e3)
end
section
attribute [local go_sem] Gi
theorem DL {b:Nat} (hb:1≤b) (R:List ae):jA b R=bE (R.take b)++(bE ((R.drop b).take b)++jA b (R.drop (2*b))):=by
 rw [qD hb R,qD hb (R.drop b),GP,show b+b=2*b by omega]
theorem Ds (b:Nat) (R:List ae):fX (bE (R.take b)) (bE ((R.drop b).take b))=bE (R.take (2*b)):=by
 have h:=yD b (R.take (2*b));rw [List.take_take,List.drop_take,Nat.min_eq_left (by omega),show 2*b - b=b by omega] at h;exact h
theorem y6 (base g n c:Nat) (L:List ae) (w:World) (hO:ag w base g n c L) (hn:n≤1048576) :
 Calls Tryz.prog 169 #[sL g n c,iT n,.func (.func 112) #[] #[]] w fun e w'=>e=.returned (.tuple #[])∧ag w' base g n c (bE L)∧w.grownBy w' (some g):=by
 have t:Eq (L.length=n):=hO.len;have HO:=bT hO;clear hO;go_enter Tryz.func169,Tryz.ntmps169
 go_wp2;go_loopw [7,8] (fun va vb wr=>∃(a:Nat) (r:List ae),va=iT a∧vb=iT ((a+20:Nat):Int)∧a≤n∧r.length=a∧jA 20 L=r++jA 20 (L.drop a)∧ag wr base g n c (r++L.drop a)∧w.grownBy wr (some g)) (fun va _ _=>n - (intOf va).toNat)
 case atStart=>exact ⟨0,[],rfl,rfl,FB _,rfl,by simp,by simpa using HO.o,⟨rfl,rfl,rfl,Fv _,fun _ _ _=>rfl⟩⟩
 case round =>
  obtain ⟨a,r,rfl,rfl,aC,hz,N,ar,aw⟩:=hrel;have HZ:Eq (r.length=a):=hz;have U:Eq (jA 20 L=r++jA 20 (L.drop a)):=N;have aa:Eq (ag wr base g n c (r++L.drop a)):=ar;have ah:Eq (w.grownBy wr (some g)):=aw;clear hz N ar aw HO;obtain ⟨b,hb⟩:=aG (a+20);rw [← hb];by_cases K:b≤n
  · have ai:(b:Int)≤(n:Int):=by omega
    have rb:IntKind.i64.wrap ((b:Int)+20)=((b+20:Nat):Int):=by rw [F0];omega
    have E:L.drop a=(L.drop a).take 20++L.drop b:=by rw [hb,← GP,FX]
    have s:((L.drop a).take 20).length=20:=by have:=t.o;simp;omega
    have a2:Eq (ag wr base g n c (r++((L.drop a).take 20++L.drop b))):=by have:=aa.o;rw [E] at this;exact this
    have W:Eq (jA 20 L=(r++bE ((L.drop a).take 20))++jA 20 (L.drop b)):=by
     show jA 20 L=_
     rw [U.o,qD (by omega) (L.drop a),GP,← hb,FT]
    have ak:Eq ((r++bE ((L.drop a).take 20)).length=b):=by show _=b;rw [Fy,fb,s,HZ.o,hb]
    have O:Eq (b=r.length+((L.drop a).take 20).length):=by show b=_;rw [s,HZ.o];exact hb
    have a8:Eq (a<b):=by show a<b;omega
    clear E s hb;go_wp2_with fail
    refine (ym base g n c r ((L.drop a).take 20) (L.drop b) a b _ a2.o HZ.o.symm O.o hn).mono ?_;rintro e R ⟨rfl,T,X⟩;have a1:Eq (ag R base g n c ((r++bE ((L.drop a).take 20))++L.drop b)):=by simpa [Eq] using T
    have a0:Eq (w.grownBy R (some g)):=af ah.o X;clear T X;go_wp2;go_roundw
    case rel=>exact ⟨b,_,rfl,rfl,K,ak.o,W.o,a1.o,a0.o⟩
    case measure=>have:=a8.o;simp [intOf];omega
  · have ai:¬(b:Int)≤(n:Int):=by omega
    have a2:Eq (ag wr base g n c (r++(L.drop a++[]))):=by simpa [Eq] using aa.o
    have aD:Eq (n=r.length+(L.drop a).length):=by show n=_;have:=t.o;have:=HZ.o;rw [FN];omega
    have aB:Eq (jA 20 L=r++bE (L.drop a)):=by show jA 20 L=_;rw [U.o,js (by have:=t.o;rw [FN];omega)]
    clear hb;go_wp2_with fail
    refine (ym base g n c r (L.drop a) [] a n _ a2.o HZ.o.symm aD.o hn).mono ?_;rintro e R ⟨rfl,T,X⟩;have a1:Eq (ag R base g n c (jA 20 L)):=by rw [aB.o];simpa [Eq] using T
    have a0:Eq (w.grownBy R (some g)):=af ah.o X;clear T X aa ah a2;go_wp2;go_loopw [6] (fun vb wq=>∃bs:Nat,vb=iT bs∧20≤bs∧bs≤2097152∧ag wq base g n c (jA bs L)∧w.grownBy wq (some g)) (fun vb _=>4194304 - (intOf vb).toNat)
    case atStart=>exact ⟨20,rfl,Fv _,by omega,a1.o,a0.o⟩
    case round =>
    rename World=>wo
    obtain ⟨bs,rfl,a5,I,an,au⟩:=hrel;have Z:Eq (ag wo base g n c (jA bs L)):=an;have aA:Eq (w.grownBy wo (some g)):=au;clear an au a1 a0;by_cases ap:bs<n
    · have aq:(bs:Int)<(n:Int):=by omega
      obtain ⟨d,hd⟩:=aG (2*bs);have r2:IntKind.i64.wrap (2*(bs:Int))=(d:Int):=by rw [F0];omega
      have aK:IntKind.i64.wrap ((bs:Int)*2)=(d:Int):=by rw [F0];omega
      have u:Eq (d=2*bs):=hd;have f:Eq (20≤bs):=a5;have J:Eq (bs<n):=ap;clear hd a5 I ap;go_wp2;go_loopw [7,8] (fun va vb wr=>∃(a:Nat) (r:List ae),va=iT a∧vb=iT ((a+d:Nat):Int)∧a≤n∧r.length=a∧jA d L=r++jA d (L.drop a)∧ag wr base g n c (r++jA bs (L.drop a))∧w.grownBy wr (some g)) (fun va _ _=>n - (intOf va).toNat)
      case atStart=>exact ⟨0,[],rfl,by rw [FG],FB _,rfl,by simp,by simpa using Z.o,aA.o⟩
      case round =>
      obtain ⟨a,r,rfl,rfl,aC,hz,N,ao,av⟩:=hrel;have HZ:Eq (r.length=a):=hz;have U:Eq (jA d L=r++jA d (L.drop a)):=N;have a4:Eq (ag wr base g n c (r++jA bs (L.drop a))):=ao;have ad:Eq (w.grownBy wr (some g)):=av;clear hz N ao av Z;obtain ⟨b,hb⟩:=aG (a+d);rw [← hb];obtain ⟨m,hm⟩:=aG (a+bs);have I:b=m+bs:=by have:=u.o;omega
      have rm:IntKind.i64.wrap ((a:Int)+(bs:Int))=(m:Int):=by have:=J.o;rw [F0];omega
      by_cases K:b≤n
      · have ai:(b:Int)≤(n:Int):=by omega
        have rb:IntKind.i64.wrap ((b:Int)+(d:Int))=((b+d:Nat):Int):=by have:=J.o;have:=u.o;rw [F0];omega
        have s:((L.drop a).take bs).length=bs:=by have:=t.o;simp;omega
        have D:((L.drop m).take bs).length=bs:=by have:=t.o;simp;omega
        have E:jA bs (L.drop a)=bE ((L.drop a).take bs)++(bE ((L.drop m).take bs)++jA bs (L.drop b)):=by
         have h:=DL (show 1≤bs by have:=f.o;omega) (L.drop a);rw [GP,GP,← hm,← u.o,← hb] at h;exact h
        have a9:Eq (ag wr base g n c (r++(bE ((L.drop a).take bs)++(bE ((L.drop m).take bs)++jA bs (L.drop b))))):=by have:=a4.o;rw [E] at this;exact this
        have a7:Eq (fX (bE ((L.drop a).take bs)) (bE ((L.drop m).take bs))=bE ((L.drop a).take d)):=by
         show _=_
         have h:=Ds bs (L.drop a);rw [GP,← hm,← u.o] at h;exact h
        have W:Eq (jA d L=(r++bE ((L.drop a).take d))++jA d (L.drop b)):=by
         show jA d L=_
         rw [U.o,qD (by have:=f.o;have:=u.o;omega) (L.drop a),GP,← hb,FT]
        have ak:Eq ((r++bE ((L.drop a).take d)).length=b):=by
         show _=b
         have:=t.o;have:=HZ.o;rw [Fy,fb,FC,FN];omega
        have am:Eq (1≤(bE ((L.drop a).take bs)).length):=by show _≤_;rw [fb,s];have:=f.o;omega
        have aj:Eq (1≤(bE ((L.drop m).take bs)).length):=by show _≤_;rw [fb,D];have:=f.o;omega
        have ab:Eq (m=a+(bE ((L.drop a).take bs)).length):=by show m=_;rw [fb,s];exact hm
        have O:Eq (b=m+(bE ((L.drop m).take bs)).length):=by show b=_;rw [fb,D];exact I
        have a8:Eq (a<b):=by show a<b;have:=f.o;omega
        have ax:Eq (b≤n):=K;clear E s D hb hm I K;go_wp2_with fail
        refine (uf base g n c hn _ r (bE ((L.drop a).take bs)) (bE ((L.drop m).take bs)) (jA bs (L.drop b)) a m b _ (Fv _) a9.o (fa _) (fa _) am.o aj.o HZ.o.symm ab.o O.o).mono ?_;rintro e R ⟨rfl,F,Q⟩;have Y:Eq (ag R base g n c ((r++bE ((L.drop a).take d))++jA bs (L.drop b))):=by show ag _ _ _ _ _ _;rw [← a7.o,FT];exact F
        have a6:Eq (w.grownBy R (some g)):=af ad.o Q;clear F Q;go_wp2;go_roundw
        case rel=>exact ⟨b,_,rfl,rfl,ax.o,ak.o,W.o,Y.o,a6.o⟩
        case measure=>have:=a8.o;have:=ax.o;simp [intOf];omega
      · have ai:¬(b:Int)≤(n:Int):=by omega
        have ay:Eq (jA d L=r++bE (L.drop a)):=by show jA d L=_;rw [U.o,js (by have:=t.o;rw [FN];omega)]
        by_cases az:m<n
        · have aE:(m:Int)<(n:Int):=by omega
          have s:((L.drop a).take bs).length=bs:=by have:=t.o;simp;omega
          have D:(L.drop m).length=n - m:=by have:=t.o;rw [FN];omega
          have E:jA bs (L.drop a)=bE ((L.drop a).take bs)++(bE (L.drop m)++[]):=by
           rw [qD (show 1≤bs by have:=f.o;omega) (L.drop a),GP,← hm,js (by rw [D];omega),GR]
          have a9:Eq (ag wr base g n c (r++(bE ((L.drop a).take bs)++(bE (L.drop m)++[])))):=by have:=a4.o;rw [E] at this;exact this
          have a7:Eq (fX (bE ((L.drop a).take bs)) (bE (L.drop m))=bE (L.drop a)):=by
           show _=_
           have h:=yD bs (L.drop a);rw [GP,← hm] at h;exact h
          have am:Eq (1≤(bE ((L.drop a).take bs)).length):=by show _≤_;rw [fb,s];have:=f.o;omega
          have aj:Eq (1≤(bE (L.drop m)).length):=by show _≤_;rw [fb,D];omega
          have ab:Eq (m=a+(bE ((L.drop a).take bs)).length):=by show m=_;rw [fb,s];exact hm
          have O:Eq (n=m+(bE (L.drop m)).length):=by show n=_;rw [fb,D];omega
          clear E s D hb hm I K az;go_wp2_with fail
          refine (uf base g n c hn _ r (bE ((L.drop a).take bs)) (bE (L.drop m)) [] a m n _ (Fv _) a9.o (fa _) (fa _) am.o aj.o HZ.o.symm ab.o O.o).mono ?_;rintro e R ⟨rfl,F,Q⟩;have Y:Eq (ag R base g n c (jA d L)):=by show ag _ _ _ _ _ _;rw [ay.o,← a7.o];rw [GR] at F;exact F
          have a6:Eq (w.grownBy R (some g)):=af ad.o Q;clear F Q;go_wp2;go_roundw
          case rel=>exact ⟨d,rfl,by have:=u.o;have:=f.o;omega,by have:=u.o;have:=J.o;omega,Y.o,a6.o⟩
          case measure=>have:=u.o;have:=f.o;have:=J.o;simp [intOf];omega
        · have aE:¬(m:Int)<(n:Int):=by omega
          have Y:Eq (ag wr base g n c (jA d L)):=by
           show ag _ _ _ _ _ _
           have h:=a4.o;rw [js (by have:=t.o;rw [FN];omega),← ay.o] at h;exact h
          clear hb hm I K az a4;go_wp2;go_roundw
          case rel=>exact ⟨d,rfl,by have:=u.o;have:=f.o;omega,by have:=u.o;have:=J.o;omega,Y.o,ad.o⟩
          case measure=>have:=u.o;have:=f.o;have:=J.o;simp [intOf];omega
    · have aq:¬(bs:Int)<(n:Int):=by omega
      have HD:Eq (ag wo base g n c (bE L)):=by have:=Z.o;rw [js (by rw [t.o];omega)] at this;exact this
      clear Z;go_wp2;go_end0;exact ⟨rfl,HD.o,aA.o⟩
end
end Go.Proofs.YtpobkmjicbobdaaGreat
namespace Go.Proofs.YtpobkmjicbobdaaGreat
open Go.RowKit
set_option maxRecDepth 100000
set_option maxHeartbeats 1000000
attribute [local go_sem] Gi
theorem rh (c:fe) (w:World) (h:c.2.1.size≤281474976710656) :
 Calls Tryz.prog 113 #[eW c] w fun e w'=>e=.returned (eW c)∧Bl w w':=by
 obtain ⟨b,t,n⟩:=c;simp only at h;unfold eW;simp only;have o:Bl w ((w.alloc (.cells #[.bool b,.string t,iT n] 57)).alloc (.cells #[.bool false,.string ⟨#[]⟩,iT 0] 57)):=bZ.alloc (by simp) _;go_enter Tryz.func113,Tryz.ntmps113
 go_wp2_with fail
 refine (pl _ _ h).mono ?_;rintro e w1 ⟨rfl,g⟩;obtain ⟨d,f⟩:=vw g;have k1:Bl w w1:=o.trans (g.mono (by simp;omega));have s:w.heap.size+1<w1.heap.size:=by have:=g.size;simp at this;omega
 have x0:w1.cell? ⟨w.heap.size,0,none⟩=some (.bool b):=(d _ _ (by simp only [FP];omega)).trans (by simp);have x1:w1.cell? ⟨w.heap.size,1,none⟩=some (.string t):=(d _ _ (by simp only [FP];omega)).trans (by simp);have F:w1.cell? ⟨w.heap.size,2,none⟩=some (iT n):=(d _ _ (by simp only [FP];omega)).trans (by simp);have f1:w1.frozen? ⟨w.heap.size,1,none⟩=false:=(f _ _ (by simp only [FP];omega)).trans (by simp);have y0:w1.cell? ⟨w.heap.size+1,0,none⟩=some (.bool false):=(d _ _ (by simp only [FP];omega)).trans (by simp);have y1:w1.cell? ⟨w.heap.size+1,1,none⟩=some (.string ⟨#[]⟩):=(d _ _ (by simp only [FP];omega)).trans (by simp);have r:w1.cell? ⟨w.heap.size+1,2,none⟩=some (iT 0):=(d _ _ (by simp only [FP];omega)).trans (by simp);have E:w1.frozen? ⟨w.heap.size+1,0,none⟩=false:=(f _ _ (by simp only [FP];omega)).trans (by simp);have u:w1.frozen? ⟨w.heap.size+1,1,none⟩=false:=(f _ _ (by simp only [FP];omega)).trans (by simp);have D:w1.frozen? ⟨w.heap.size+1,2,none⟩=false:=(f _ _ (by simp only [FP];omega)).trans (by simp);clear d f g o;go_wp2;refine bodyPost_ret (v:=.agg #[.bool b,.string t,iT n]) (by simp [results,Tryz.results113,go_sem,y0,y1,r]) rfl ⟨rfl,?_⟩;exact (((k1.setCell (p:=⟨w.heap.size,1,none⟩) (Fv _) _).setCell (p:=⟨w.heap.size+1,0,none⟩) (Nat.le_succ _) _).setCell (p:=⟨w.heap.size+1,1,none⟩) (Nat.le_succ _) _).setCell (p:=⟨w.heap.size+1,2,none⟩) (Nat.le_succ _) _
theorem xQ {b:Bool} {t f:ByteArray} {n d o:Int} {L:Nat} (g:t.size≤L) (e:f.size≤L):(fY b t n d f o).2.1.size≤L:=by
 unfold fY;split
 · exact e
 · split
   · exact FB _
   · split
     · exact g
     · exact g
end Go.Proofs.YtpobkmjicbobdaaGreat
namespace Go.Proofs.YtpobkmjicbobdaaGreat
open Go.RowKit
set_option maxRecDepth 100000
set_option maxHeartbeats 1000000
theorem BQ (b:Bool) (t k g:ByteArray) (n q d f:Int):∃T F:Nat,
 (∀w,Calls Tryz.prog 100 #[.agg #[.string k,iT q,iT d,.string g,iT f]] w fun e w'=>e=.returned (.iface T (.agg #[]))∧Bl w w') ∧
 (∀ w : World, (method 400 T (.agg #[]) "loop.example/comptoir/impl.do").run Tryz.prog w = .ok (F, .agg #[]) w) ∧
 (∀(args:Array Value) (w:World),(callFunc F args).run Tryz.prog w=.ok (.enter F args) w) ∧
 (∀w,Calls Tryz.prog F #[.agg #[],.agg #[.bool b,.string t,iT n],.agg #[.string k,iT q,iT d,.string g,iT f]] w fun e w'=>e=.returned (eW (fY b t n d g f))∧Bl w w'):=by
 by_cases o:d=1
 · subst o;exact ⟨176,311,fun w=>jO k g q f w,fun _=>by kernel_rfl,enters_of Tryz.func311 (by kernel_rfl) rfl,fun w=>by rw [yI];exact xM b t k g n q 1 f w⟩
 by_cases s:d=2
 · subst s;exact ⟨177,313,fun w=>jP k g q f w,fun _=>by kernel_rfl,enters_of Tryz.func313 (by kernel_rfl) rfl,fun w=>by rw [yH];exact xN b t k g n q 2 f w⟩
 by_cases r:d=3
 · subst r;exact ⟨178,315,fun w=>jQ k g q f w,fun _=>by kernel_rfl,enters_of Tryz.func315 (by kernel_rfl) rfl,fun w=>by rw [yG];exact xO b t k g n q 3 f w⟩
 exact ⟨179,317,fun w=>ll k g q d f w o s r,fun _=>by kernel_rfl,enters_of Tryz.func317 (by kernel_rfl) rfl,fun w=>by rw [yJ o s r];exact As b t k g n q d f w⟩
end Go.Proofs.YtpobkmjicbobdaaGreat
