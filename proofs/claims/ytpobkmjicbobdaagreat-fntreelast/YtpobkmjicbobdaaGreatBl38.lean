/- Walks. -/
import Derived.Test.YtpobkmjicbobdaaGreatBl37
namespace Go.Proofs.YtpobkmjicbobdaaGreat
set_option maxRecDepth 100000
set_option maxHeartbeats 40000000
open Go.RowKit
variable {A B:List ac} {C:Int} {H a m p:Nat} {x y:ac}
section
attribute [local go_sem] DN
def gW (A B:List ac) (a m p k:Nat):Prop:=∃x y,A[k - a]?=some x∧B[p - k - m]?=some y∧y.2.1<x.2.1
theorem jn (h:iY A) {i j:Nat} {x y:ac} (hi:A[i]?=some x) (d:A[j]?=some y) (b:i≤j):x.2.1≤y.2.1:=by
 obtain ⟨h1,h2⟩:=Cx.1 hi;obtain ⟨h3,h4⟩:=Cx.1 d;by_cases e:i=j
 · subst e;rw [h2] at h4;rw [h4];exact Int.le_refl _
 · have:=Dt.1 h i j h1 h3 (by omega);rw [h2,h4] at this;exact this
theorem zO {b:Nat} (hA:iY A) (hB:iY B) (hC:(C<0→y.2.1<x.2.1)∧(y.2.1<x.2.1→C<0)) (e:C<0) (hx:A[H - a]?=some x∧a≤H∧b≤a+A.length) (hy:B[p - H - m]?=some y∧b+m≤p+1):∀k,H≤k→k<b→gW A B a m p k:=by
 intro k hk hh;obtain ⟨f,o,s⟩:=hx;obtain ⟨d,r⟩:=hy;have l1:=(Cx.1 d).1;have n:=j' (show k - a<A.length by omega);have g:=j' (show p - k - m<B.length by omega);refine ⟨_,_,n,g,?_⟩;have h1:=jn hA f n (by omega);have h2:=jn hB g d (by omega);have:=hC.1 e;omega
theorem Bb {g:Nat} (hA:iY A) (hB:iY B) (hC:(C<0→y.2.1<x.2.1)∧(y.2.1<x.2.1→C<0)) (d:¬C<0) {b:Nat} (hx:A[H - a]?=some x∧a≤H∧b≤a+A.length) (hy:B[p - H - m]?=some y∧b+m≤p+1):∀k,g≤k→k<H+1→¬gW A B a m p k:=by
 intro k hk hh hl;obtain ⟨o,n,f,e,h3⟩:=hl;have h1:=jn hA f hx.1 (by omega);have h2:=jn hB hy.1 e (by omega);exact d (hC.2 (by omega))
theorem wH {b d s:Nat} (hA:iY A) (hB:iY B) (hm:m=a+A.length) (hb:b=m+B.length) (hp:p+1=d+m) (has:a≤s) (D:s≤m) (u:s≤d) (n:∀k,a≤k→d+m≤k+b→k<s→¬gW A B a m p k) (e:∀k,s≤k→k<m→k<d→gW A B a m p k) :
 fw A B=fw (A.take (s - a)) (B.take (d - s))++fw (A.drop (s - a)) (B.drop (d - s)):=by
 have h:=fE (A.take (s - a)) (A.drop (s - a)) (B.take (d - s)) (B.drop (d - s)) ?_ ?_
 · rw [Ds,Ds] at h;exact h
 · intro x hx y hy o;obtain ⟨i,hi,rfl⟩:=Em.1 hx;obtain ⟨j,r,rfl⟩:=Em.1 hy;simp only [D3,D8] at o;simp at hi r;have t:a<s:=by omega
   have g:=j' (show s - 1 - a<A.length by omega);have f:=j' (show p - (s - 1) - m<B.length by omega);refine n (s - 1) (by omega) (by omega) (by omega) ⟨_,_,g,f,?_⟩;have h1:=jn hA (j' (show i<A.length by omega)) g (by omega);have h2:=jn hB f (j' (show d - s+j<B.length by omega)) (by omega);omega
 · intro y hy x hx;obtain ⟨j,r,rfl⟩:=Em.1 hy;obtain ⟨i,hi,rfl⟩:=Em.1 hx;simp only [D3,D8];simp at hi r;obtain ⟨E,F,g,f,h3⟩:=e s (Cy _) (by omega) (by omega);have h1:=jn hA g (j' (show s - a+i<A.length by omega)) (by omega);have h2:=jn hB (j' (show j<B.length by omega)) f (by omega);omega
theorem tO (h:iY A) (k:Nat):iY (A.take k):=DV (List.take_sublist k A) h
theorem tP (h:iY A) (k:Nat):iY (A.drop k):=DV (ET k A) h
theorem Al (base g n c:Nat) (Z A B Y:List ac) (a m b:Nat) (w:World) (hO:af w base g n c (Z++(A++(B++Y)))) (hA:iY A) (hB:iY B) (a8:2≤A.length) (ab:2≤B.length) (ha:a=Z.length) (hm:m=a+A.length) (hb:b=m+B.length) (hn:n≤1048576)
 (hrec:∀(Z' A' B' Y':List ac) (a' m' b':Nat) (w':World),A'.length+B'.length<A.length+B.length→af w' base g n c (Z'++(A'++(B'++Y')))→iY A'→iY B'→1≤A'.length→1≤B'.length→a'=Z'.length→m'=a'+A'.length→b'=m'+B'.length →
  Calls Tryz.prog 214 #[sL g n c,iT a',iT m',iT b',.func (.func 112) #[] #[]] w' fun e al=>e=.returned (.tuple #[])∧af al base g n c (Z'++(fw A' B'++Y'))∧w'.grownBy al (some g)) :
 Calls Tryz.prog 214 #[sL g n c,iT a,iT m,iT b,.func (.func 112) #[] #[]] w fun e w'=>e=.returned (.tuple #[])∧af w' base g n c (Z++(fw A B++Y))∧w.grownBy w' (some g):=by
 have aK:CG (∀(Z' A' B' Y':List ac) (a' m' b':Nat) (w':World),A'.length+B'.length<A.length+B.length→af w' base g n c (Z'++(A'++(B'++Y')))→iY A'→iY B'→1≤A'.length→1≤B'.length→a'=Z'.length→m'=a'+A'.length→b'=m'+B'.length →
  Calls Tryz.prog 214 #[sL g n c,iT a',iT m',iT b',.func (.func 112) #[] #[]] w' fun e al=>e=.returned (.tuple #[])∧af al base g n c (Z'++(fw A' B'++Y'))∧w'.grownBy al (some g)):=hrec
 have ar:=bO hA;have ao:=bO hB;have hl:=hO.len;simp only [CW] at hl;have bK:=hO.entsAt.big;have ct:=hO.entsAt.room;unfold maxLen at bK;have HZ:=bO ha;have HM:=bO hm;have HB:=bO hb;have bM:=bO a8;have c7:=bO ab;have HO:=bO hO;have cw:b≤n:=by omega
 have ci:m+2≤b:=by omega
 have cm:a+2≤m:=by omega
 obtain ⟨ka,bG⟩:=aH A.length;obtain ⟨kb,c5⟩:=aH B.length;have bR:IntKind.i64.wrap ((m:Int) - (a:Int))=(ka:Int):=by rw [Dv];omega
 have bN:((ka:Int) == 1)=false:=by simp;omega
 have bI:IntKind.i64.wrap ((b:Int) - (m:Int))=(kb:Int):=by rw [Dv];omega
 have bV:((kb:Int) == 1)=false:=by simp;omega
 obtain ⟨mid,b8⟩:=aH ((a+b) / 2);have eM:((a:Int)+(b:Int)) / 2=(mid:Int):=by omega
 have bU:a+2≤mid:=by omega
 have bX:mid+2≤b:=by omega
 have c2:IntKind.i64.wrap ((a:Int)+(b:Int))=(a:Int)+(b:Int):=by rw [Dv];omega
 obtain ⟨N,hN⟩:=aH (mid+m);have rN:IntKind.i64.wrap ((mid:Int)+(m:Int))=(N:Int):=by rw [Dv];omega
 obtain ⟨p,hp⟩:=aH (N - 1);have rp:IntKind.i64.wrap ((N:Int) - 1)=(p:Int):=by rw [Dv];omega
 obtain ⟨lo,a3⟩:=aH (if mid<m then N - b else a);obtain ⟨f,ay⟩:=aH (if mid<m then mid else m);have bd:mid<m→IntKind.i64.wrap ((N:Int) - (b:Int))=(lo:Int):=fun h=>by rw [Dv,a3,if_pos h];omega
 have aJ:CG (N=mid+m∧p+1=N):=by show N=mid+m∧p+1=N;omega
 have aU:CG (a≤lo∧N≤lo+b∧lo≤f∧f≤m∧f≤mid):=by
  show a≤lo∧N≤lo+b∧lo≤f∧f≤m∧f≤mid
  rw [a3,ay];split <;> omega
 have bF:CG (f=m∨f=mid):=by show f=m∨f=mid;rw [ay];split <;> omega
 have bZ:CG (lo=a∨lo+b=N):=by show lo=a∨lo+b=N;rw [a3];split <;> omega
 have bv:CG (mid<m→lo+b=N∧f=mid):=fun h=>by rw [a3,ay,if_pos h,if_pos h];omega
 have bn:CG (¬mid<m→lo=a∧f=m):=fun h=>by rw [a3,ay,if_neg h,if_neg h];exact ⟨rfl,rfl⟩
 clear hO hA hB ha hb hl hm a8 ab bG c5 b8 hN hp a3 ay hrec;go_enter Tryz.func214,Tryz.ntmps214
 go_upto_if 140 with fail
 clear bR bI bN bV eM c2 rN;go_cut [20,21] (fun am bS wx=>am=iT lo∧bS=iT f∧w=wx)
 case first =>
  as_aux_lemma =>
   by_cases aW:mid<m
   · have bm:(mid:Int)<(m:Int):=by omega
     have hr:=bd aW;have HE:=bv.o aW;have aE:CG (f=mid):=HE.2;clear HE;go_wp2;go_meet
     exact ⟨rfl,by rw [aE.o],rfl⟩
   · have bm:¬(mid:Int)<(m:Int):=by omega
     have HE:=bn.o aW;have aE:CG (lo=a∧f=m):=HE;clear HE;go_wp2;go_meet
     exact ⟨by rw [aE.o.1],by rw [aE.o.2],rfl⟩
 case rest =>
 obtain ⟨rfl,rfl,bW⟩:=hcut;subst bW;clear bd bv bn;go_wp2;clear rp;go_loopw [20,21] (fun sv rv wr=>∃S Rr:Nat,sv=iT S∧rv=iT Rr∧lo≤S∧S≤Rr∧Rr≤f∧af wr base g n c (Z++(A++(B++Y)))∧w.grownBy wr (some g)∧(∀k,lo≤k→k<S→¬gW A B a m p k)∧(∀k,Rr≤k→k<f→gW A B a m p k)) (fun sv rv _=>(intOf rv).toNat - (intOf sv).toNat)
 case atStart=>exact ⟨lo,f,rfl,rfl,Cy _,aU.o.2.2.1,Cy _,HO.o,⟨rfl,rfl,rfl,Cy _,fun _ _ _=>rfl⟩,(fun k h1 h2=>absurd h2 (by omega)),(fun k h1 h2=>absurd h2 (by omega))⟩
 case round =>
  obtain ⟨S,Rr,rfl,rfl,b4,cv,bs,bh,bi,h1,h2⟩:=hrel;have aF:CG (af wr base g n c (Z++(A++(B++Y)))):=bh;have W:CG (w.grownBy wr (some g)):=bi;have H1:CG (∀k,lo≤k→k<S→¬gW A B a m p k):=h1;have H2:CG (∀k,Rr≤k→k<f→gW A B a m p k):=h2;clear bh bi h1 h2 HO;by_cases cu:S<Rr
  · have bt:(S:Int)<(Rr:Int):=by omega
    obtain ⟨H,hH⟩:=aH ((S+Rr) / 2);have cn:S≤H:=by omega
    have cs:H<Rr:=by omega
    have eH:((S:Int)+(Rr:Int)) / 2=(H:Int):=by omega
    obtain ⟨aZ,aM⟩:=aJ.o;obtain ⟨aX,aL,aN,aS,b3⟩:=aU.o;have aG:=HM.o;have aD:=HB.o;have aC:=HZ.o;obtain ⟨Q,hQ⟩:=aH (p - H);have rQ:IntKind.i64.wrap ((p:Int) - (H:Int))=(Q:Int):=by rw [Dv];omega
    obtain ⟨x,hx⟩:∃x,A[H - a]?=some x:=⟨_,j' (by omega)⟩;obtain ⟨y,hy⟩:∃y,B[p - H - m]?=some y:=⟨_,j' (by omega)⟩;have bu:CG (A[H - a]?=some x∧a≤H∧f≤a+A.length):=⟨hx,by omega,by omega⟩;have b7:CG (B[p - H - m]?=some y∧f+m≤p+1):=⟨hy,by omega⟩;have bj:(Z++(A++(B++Y)))[H]?=some x:=by
     rw [CU (by omega),C7 (by omega),← aC];exact hx
    have bq:(Z++(A++(B++Y)))[Q]?=some y:=by
     rw [CU (by omega),CU (by omega),C7 (by omega),show Q - Z.length - A.length=p - H - m by omega];exact hy
    obtain ⟨C,hC⟩:=aH (Lib.compareInt y.2.1 x.2.1);have HC:CG ((C<0→y.2.1<x.2.1)∧(y.2.1<x.2.1→C<0)):=by rw [hC];exact ⟨(mo _ _).1,(mo _ _).2⟩
    have bk:∀w,Calls Tryz.prog 112 #[.agg #[.string y.1,iT y.2.1,iT y.2.2.1,.string y.2.2.2.1,iT y.2.2.2.2],.agg #[.string x.1,iT x.2.1,iT x.2.2.1,.string x.2.2.2.1,iT x.2.2.2.2]] w fun e w'=>e=.returned (iT C)∧Bl w w':=by rw [hC];exact fun w=>oM y.1 y.2.2.2.1 x.1 x.2.2.2.1 y.2.1 y.2.2.1 y.2.2.2.2 x.2.1 x.2.2.1 x.2.2.2.2 w
    obtain ⟨s,q,d,t,nn⟩:=y;obtain ⟨s',q',d',t',br⟩:=x;have HX:CG ((Z++(A++(B++Y)))[Q]?=some (s,q,d,t,nn)):=bq;have HY:CG ((Z++(A++(B++Y)))[H]?=some (s',q',d',t',br)):=bj;have CQ:CG (∀w,Calls Tryz.prog 112 #[.agg #[.string s,iT q,iT d,.string t,iT nn],.agg #[.string s',iT q',iT d',.string t',iT br]] w fun e w'=>e=.returned (iT C)∧Bl w w'):=bk;have co:(H:Int)<(n:Int):=by omega
    have ck:(Q:Int)<(n:Int):=by omega
    have r:af wr.drew base g n c (Z++(A++(B++Y))):=aF.o.below (Below.refl _ _).drew;have gd:w.grownBy wr.drew (some g):=ae W.o (fd _ _);clear hH hx hy bj bq hC bk aF W aZ aM aG aD aC hQ aX aL aN aS b3;by_cases aB:C<0
    · have c4:decide (C<0)=true:=decide_eq_true aB;have bl:CG (∀k,H≤k→k<f→gW A B a m p k):=zO ar.o ao.o HC.o aB bu.o b7.o;go_wp2_with fail
      as_aux_lemma =>
       refine wp_region_held_drew (S:=(fun w'=>g<w'.heap.size)) (by kernel_rfl) (by exact r.lt.2) (fun aa=>?_);generalize wr.drew=wd at r gd aa ⊢;refine aP 0 6 aa ?_;refine aP 7 3 aa ?_;refine jX 6 10 (fun K hK=>?_) fun K hK=>?_
       · obtain ⟨J,L,I,T,R⟩:=r.at5 HX.o;have F:=r.lt.2;go_simp;clear J L I T R F;refine hK.o _ _ (by exact r.lt.2) fun aa=>?_
         (try go_frame);refine aR 10 fun K hK=>?_
         obtain ⟨J,L,I,T,R⟩:=r.at5 HY.o;have F:=r.lt.2;go_simp;clear J L I T R F;refine hK.o _ _ (by exact r.lt.2) fun aa=>?_
         (try go_frame);refine aR 11 fun K hK=>?_
         go_simp;refine (CQ.o _).mono ?_;rintro e w1 ⟨rfl,b1⟩;have k1:=r.below b1;have gw:w.grownBy w1 (some g):=ae gd (cU b1);go_wp2_with fail
         refine hK.o _ _ (by exact k1.lt.2) fun aa=>?_
         (try go_frame);refine aP 12 2 aa ?_;refine dN ?_;have ad:CG (af w1 base g n c (Z++(A++(B++Y)))):=k1;have W:CG (w.grownBy w1 (some g)):=gw;clear r gd k1 gw aa b1;go_wp2;go_roundw
         case rel=>exact ⟨S,H,rfl,rfl,b4,by omega,by omega,ad.o,W.o,H1.o,bl.o⟩
         case measure=>simp [intOf];omega
       · obtain ⟨J,L,I,T,R⟩:=r.at5 HY.o;have F:=r.lt.2;go_simp;clear J L I T R F;refine hK.o _ _ (by exact r.lt.2) fun aa=>?_
         (try go_frame);refine aR 6 fun K hK=>?_
         obtain ⟨J,L,I,T,R⟩:=r.at5 HX.o;have F:=r.lt.2;go_simp;clear J L I T R F;refine hK.o _ _ (by exact r.lt.2) fun aa=>?_
         (try go_frame);refine aR 11 fun K hK=>?_
         go_simp;refine (CQ.o _).mono ?_;rintro e w1 ⟨rfl,b1⟩;have k1:=r.below b1;have gw:w.grownBy w1 (some g):=ae gd (cU b1);go_wp2_with fail
         refine hK.o _ _ (by exact k1.lt.2) fun aa=>?_
         (try go_frame);refine aP 12 2 aa ?_;refine dN ?_;have ad:CG (af w1 base g n c (Z++(A++(B++Y)))):=k1;have W:CG (w.grownBy w1 (some g)):=gw;clear r gd k1 gw aa b1;go_wp2;go_roundw
         case rel=>exact ⟨S,H,rfl,rfl,b4,by omega,by omega,ad.o,W.o,H1.o,bl.o⟩
         case measure=>simp [intOf];omega
    · have c4:decide (C<0)=false:=decide_eq_false aB;have b5:CG (∀k,lo≤k→k<H+1→¬gW A B a m p k):=Bb ar.o ao.o HC.o aB bu.o b7.o;go_wp2_with fail
      as_aux_lemma =>
       refine wp_region_held_drew (S:=(fun w'=>g<w'.heap.size)) (by kernel_rfl) (by exact r.lt.2) (fun aa=>?_);generalize wr.drew=wd at r gd aa ⊢;refine aP 0 6 aa ?_;refine aP 7 3 aa ?_;refine jX 6 10 (fun K hK=>?_) fun K hK=>?_
       · obtain ⟨J,L,I,T,R⟩:=r.at5 HX.o;have F:=r.lt.2;go_simp;clear J L I T R F;refine hK.o _ _ (by exact r.lt.2) fun aa=>?_
         (try go_frame);refine aR 10 fun K hK=>?_
         obtain ⟨J,L,I,T,R⟩:=r.at5 HY.o;have F:=r.lt.2;go_simp;clear J L I T R F;refine hK.o _ _ (by exact r.lt.2) fun aa=>?_
         (try go_frame);refine aR 11 fun K hK=>?_
         go_simp;refine (CQ.o _).mono ?_;rintro e w1 ⟨rfl,b1⟩;have k1:=r.below b1;have gw:w.grownBy w1 (some g):=ae gd (cU b1);go_wp2_with fail
         refine hK.o _ _ (by exact k1.lt.2) fun aa=>?_
         (try go_frame);refine aP 12 2 aa ?_;refine dN ?_;have ad:CG (af w1 base g n c (Z++(A++(B++Y)))):=k1;have W:CG (w.grownBy w1 (some g)):=gw;clear r gd k1 gw aa b1;go_wp2;go_roundw
         case rel=>exact ⟨H+1,Rr,by go_num,rfl,by omega,by omega,bs,ad.o,W.o,b5.o,H2.o⟩
         case measure=>simp [intOf];omega
       · obtain ⟨J,L,I,T,R⟩:=r.at5 HY.o;have F:=r.lt.2;go_simp;clear J L I T R F;refine hK.o _ _ (by exact r.lt.2) fun aa=>?_
         (try go_frame);refine aR 6 fun K hK=>?_
         obtain ⟨J,L,I,T,R⟩:=r.at5 HX.o;have F:=r.lt.2;go_simp;clear J L I T R F;refine hK.o _ _ (by exact r.lt.2) fun aa=>?_
         (try go_frame);refine aR 11 fun K hK=>?_
         go_simp;refine (CQ.o _).mono ?_;rintro e w1 ⟨rfl,b1⟩;have k1:=r.below b1;have gw:w.grownBy w1 (some g):=ae gd (cU b1);go_wp2_with fail
         refine hK.o _ _ (by exact k1.lt.2) fun aa=>?_
         (try go_frame);refine aP 12 2 aa ?_;refine dN ?_;have ad:CG (af w1 base g n c (Z++(A++(B++Y)))):=k1;have W:CG (w.grownBy w1 (some g)):=gw;clear r gd k1 gw aa b1;go_wp2;go_roundw
         case rel=>exact ⟨H+1,Rr,by go_num,rfl,by omega,by omega,bs,ad.o,W.o,b5.o,H2.o⟩
         case measure=>simp [intOf];omega
  · have bt:¬(S:Int)<(Rr:Int):=by omega
    have bp:S=Rr:=by omega
    subst bp;obtain ⟨aZ,aM⟩:=aJ.o;obtain ⟨aX,aL,aN,aS,b3⟩:=aU.o;have aG:=HM.o;have aD:=HB.o;have aC:=HZ.o;have bx:=bM.o;have b9:=c7.o;have ap:CG (fw A B=fw (A.take (S - a)) (B.take (mid - S))++fw (A.drop (S - a)) (B.drop (mid - S))):=wH (p:=p) ar.o ao.o aG aD (by omega) (by omega) (by omega) (by omega)
     (fun k h1 h2 h3=>H1.o k (by rcases bZ.o with h | h <;> omega) h3) (fun k h1 h2 h3=>H2.o k h1 (by rcases bF.o with h | h <;> omega))
    obtain ⟨D,au⟩:=aH (A.take (S - a));obtain ⟨U,a8⟩:=aH (A.drop (S - a));obtain ⟨O,ax⟩:=aH (B.take (mid - S));obtain ⟨B2,ab⟩:=aH (B.drop (mid - S));rw [← au,← a8,← ax,← ab] at ap;have bT:CG (iY D):=by rw [au];exact tO ar.o _
    have bb:CG (iY U):=by rw [a8];exact tP ar.o _
    have bQ:CG (iY O):=by rw [ax];exact tO ao.o _
    have ba:CG (iY B2):=by rw [ab];exact tP ao.o _
    have ag:CG (D.length=S - a∧U.length=m - S∧O.length=mid - S∧B2.length=b - (N - S)):=by
     show D.length=S - a∧U.length=m - S∧O.length=mid - S∧B2.length=b - (N - S)
     rw [au,a8,ax,ab,C5,Dh,C5,Dh];omega
    have bc:CG (D.length+O.length<A.length+B.length∧U.length+B2.length<A.length+B.length):=by
     show D.length+O.length<A.length+B.length∧U.length+B2.length<A.length+B.length
     have:=ag.o;omega
    have HD:CG (af wr base g n c (Z++(D++(U++(O++(B2++Y)))))):=by
     have:=aF.o;rw [show A=D++U by rw [au,a8,Ds],show B=O++B2 by rw [ax,ab,Ds]] at this;simpa [CG] using this
    obtain ⟨E,hE⟩:=aH (N - S);have rE:IntKind.i64.wrap ((N:Int) - (S:Int))=(E:Int):=by rw [Dv];omega
    have X:CG (E=mid+m - S∧a≤S∧S≤m∧S≤mid∧E≤b∧m≤E):=by show E=mid+m - S∧a≤S∧S≤m∧S≤mid∧E≤b∧m≤E;omega
    clear au a8 ax ab aF aZ aM aX aL aN aS b3 aG aD aC bx b9 hE H1 H2;go_upto_region 39 with fail
    clear rE;go_cut [185] (fun v wx=>v=.bool (decide (S<m) && decide (m<E))∧wr=wx)
    case first =>
     as_aux_lemma =>
      by_cases a7:S<m
      · have a6:(S:Int)<(m:Int):=by omega
        by_cases a5:m<E
        · have a9:(m:Int)<(E:Int):=by omega
          go_wp2;go_meet
          exact ⟨by simp [a7,a5],rfl⟩
        · have a9:¬(m:Int)<(E:Int):=by omega
          go_wp2;go_meet
          exact ⟨by simp [a5],rfl⟩
      · have a6:¬(S:Int)<(m:Int):=by omega
        go_wp2;go_meet
        exact ⟨by simp [a7],rfl⟩
    case rest =>
    obtain ⟨rfl,bP⟩:=hcut;subst bP;go_upto_if 185 with fail
    go_cut [20] (fun am wx=>am=iT S∧af wx base g n c (Z++(D++(O++(U++(B2++Y)))))∧w.grownBy wx (some g))
    case first =>
     as_aux_lemma =>
      by_cases hs:S<m∧m<E
      · have hd:(decide (S<m) && decide (m<E))=true:=by simp [hs.1,hs.2]
        have bH:CG (af wr base g n c ((Z++D)++(U++(O++(B2++Y))))):=by simpa [CG] using HD.o
        have u:CG (S=(Z++D).length∧m=(Z++D).length+U.length∧E=(Z++D).length+U.length+O.length∧1≤U.length∧1≤O.length):=by
         show S=(Z++D).length∧m=(Z++D).length+U.length∧E=(Z++D).length+U.length+O.length∧1≤U.length∧1≤O.length
         have:=ag.o;have:=X.o;have:=HZ.o;rw [CW];omega
        clear hs;rw [hd];clear hd;go_wp2_with fail
        refine (Bj base g n c (Z++D) U O (B2++Y) S m E _ _ bH.o u.o.1 u.o.2.1 u.o.2.2.1 u.o.2.2.2.1 u.o.2.2.2.2 hn).mono ?_;rintro e w1 ⟨rfl,an,az⟩;have b2:CG (af w1 base g n c (Z++(D++(O++(U++(B2++Y)))))):=by simpa [CG] using an
        have aq:CG (w.grownBy w1 (some g)):=ae W.o az;clear an az;go_wp2;go_meet
        exact ⟨rfl,b2.o,aq.o⟩
      · have hd:(decide (S<m) && decide (m<E))=false:=by
         cases h:(decide (S<m) && decide (m<E)) with
         | false=>rfl
         | true=>simp at h;exact absurd h hs
        have b2:CG (af wr base g n c (Z++(D++(O++(U++(B2++Y)))))):=by
         have h0:U=[]∨O=[]:=by
          have:=ag.o;have:=X.o;by_cases h1:S<m
          · right;exact DQ.1 (by omega)
          · left;exact DQ.1 (by omega)
         have:=HD.o;rcases h0 with h0 | h0
         · rw [h0] at this ⊢;simpa [CG] using this
         · rw [h0] at this ⊢;simpa [CG] using this
        clear hs;rw [hd];clear hd;go_wp2;go_meet
        exact ⟨rfl,b2.o,W.o⟩
    case rest =>
    rename World=>wA
    obtain ⟨rfl,an,az⟩:=hcut;have b0:CG (af wA base g n c (Z++(D++(O++(U++(B2++Y)))))):=an;have aq:CG (w.grownBy wA (some g)):=az;clear an az HD W;go_upto_region 41 with fail
    go_cut [199] (fun v wx=>v=.bool (decide (a<S) && decide (S<mid))∧wA=wx)
    case first =>
     as_aux_lemma =>
      by_cases a7:a<S
      · have a6:(a:Int)<(S:Int):=by omega
        by_cases a5:S<mid
        · have a9:(S:Int)<(mid:Int):=by omega
          go_wp2;go_meet
          exact ⟨by simp [a7,a5],rfl⟩
        · have a9:¬(S:Int)<(mid:Int):=by omega
          go_wp2;go_meet
          exact ⟨by simp [a5],rfl⟩
      · have a6:¬(a:Int)<(S:Int):=by omega
        go_wp2;go_meet
        exact ⟨by simp [a7],rfl⟩
    case rest =>
    obtain ⟨rfl,bY⟩:=hcut;subst bY;go_upto_if 199 with fail
    go_cut [20] (fun am wx=>am=iT S∧af wx base g n c (Z++(fw D O++(U++(B2++Y))))∧w.grownBy wx (some g))
    case first =>
     as_aux_lemma =>
      by_cases hs:a<S∧S<mid
      · have hd:(decide (a<S) && decide (S<mid))=true:=by simp [hs.1,hs.2]
        have u:CG (1≤D.length∧1≤O.length∧S=a+D.length∧mid=S+O.length):=by
         show 1≤D.length∧1≤O.length∧S=a+D.length∧mid=S+O.length
         have:=ag.o;have:=X.o;omega
        clear hs;rw [hd];clear hd;go_wp2_with fail
        refine (aK.o Z D O (U++(B2++Y)) a S mid _ bc.o.1 b0.o bT.o bQ.o u.o.1 u.o.2.1 HZ.o u.o.2.2.1 u.o.2.2.2).mono ?_;rintro e w1 ⟨rfl,av,ak⟩;have aO:CG (af w1 base g n c (Z++(fw D O++(U++(B2++Y))))):=av;have aI:CG (w.grownBy w1 (some g)):=ae aq.o ak;clear av ak;go_wp2;go_meet
        exact ⟨rfl,aO.o,aI.o⟩
      · have hd:(decide (a<S) && decide (S<mid))=false:=by
         cases h:(decide (a<S) && decide (S<mid)) with
         | false=>rfl
         | true=>simp at h;exact absurd h hs
        have aO:CG (af wA base g n c (Z++(fw D O++(U++(B2++Y))))):=by
         have h0:D=[]∨O=[]:=by
          have:=ag.o;have:=X.o;by_cases h1:a<S
          · right;exact DQ.1 (by omega)
          · left;exact DQ.1 (by omega)
         have:=b0.o;rcases h0 with h0 | h0
         · rw [h0] at this ⊢;rw [eQ];simpa [CG] using this
         · rw [h0] at this ⊢;rw [dO];simpa [CG] using this
        clear hs;rw [hd];clear hd;go_wp2;go_meet
        exact ⟨rfl,aO.o,aq.o⟩
    case rest =>
    rename World=>wB
    obtain ⟨rfl,av,ak⟩:=hcut;have b6:CG (af wB base g n c ((Z++fw D O)++(U++(B2++Y)))):=by simpa [CG] using av
    have aI:CG (w.grownBy wB (some g)):=ak;clear av ak b0 aq;go_upto_region 43 with fail
    go_cut [213] (fun v wx=>v=.bool (decide (mid<E) && decide (E<b))∧wB=wx)
    case first =>
     as_aux_lemma =>
      by_cases a7:mid<E
      · have a6:(mid:Int)<(E:Int):=by omega
        by_cases a5:E<b
        · have a9:(E:Int)<(b:Int):=by omega
          go_wp2;go_meet
          exact ⟨by simp [a7,a5],rfl⟩
        · have a9:¬(E:Int)<(b:Int):=by omega
          go_wp2;go_meet
          exact ⟨by simp [a5],rfl⟩
      · have a6:¬(mid:Int)<(E:Int):=by omega
        go_wp2;go_meet
        exact ⟨by simp [a7],rfl⟩
    case rest =>
    obtain ⟨rfl,bJ⟩:=hcut;subst bJ;go_upto_if 213 with fail
    by_cases hs:mid<E∧E<b
    · have hd:(decide (mid<E) && decide (E<b))=true:=by simp [hs.1,hs.2]
      have u:CG (1≤U.length∧1≤B2.length∧mid=(Z++fw D O).length∧E=mid+U.length∧b=E+B2.length):=by
       show 1≤U.length∧1≤B2.length∧mid=(Z++fw D O).length∧E=mid+U.length∧b=E+B2.length
       have:=ag.o;have:=X.o;have:=HZ.o;have:=aJ.o;rw [CW,rj];omega
      clear hs;rw [hd];clear hd;go_wp2_with fail
      refine (aK.o (Z++fw D O) U B2 Y mid E b _ bc.o.2 b6.o bb.o ba.o u.o.1 u.o.2.1 u.o.2.2.1 u.o.2.2.2.1 u.o.2.2.2.2).mono ?_;rintro e w1 ⟨rfl,bo,bg⟩;have aY:CG (af w1 base g n c (Z++(fw A B++Y))):=by rw [ap.o];simpa [CG] using bo
      have c6:CG (w.grownBy w1 (some g)):=ae aI.o bg;clear bo bg;go_wp2;go_end0;exact ⟨rfl,aY.o,c6.o⟩
    · have hd:(decide (mid<E) && decide (E<b))=false:=by
       cases h:(decide (mid<E) && decide (E<b)) with
       | false=>rfl
       | true=>simp at h;exact absurd h hs
      have aY:CG (af wB base g n c (Z++(fw A B++Y))):=by
       have h0:U=[]∨B2=[]:=by
        have:=ag.o;have:=X.o;have:=aJ.o;by_cases h1:mid<E
        · right;exact DQ.1 (by omega)
        · left;exact DQ.1 (by omega)
       have:=b6.o;rw [ap.o];rcases h0 with h0 | h0
       · rw [h0] at this ⊢;rw [eQ];simpa [CG] using this
       · rw [h0] at this ⊢;rw [dO];simpa [CG] using this
      clear hs;rw [hd];clear hd;go_wp2;go_end0;exact ⟨rfl,aY.o,aI.o⟩
theorem se (base g n c:Nat) (hn:n≤1048576):∀(N:Nat) (Z A B Y:List ac) (a m b:Nat) (w:World),A.length+B.length≤N→af w base g n c (Z++(A++(B++Y)))→iY A→iY B→1≤A.length→1≤B.length→a=Z.length→m=a+A.length→b=m+B.length →
 Calls Tryz.prog 214 #[sL g n c,iT a,iT m,iT b,.func (.func 112) #[] #[]] w fun e w'=>e=.returned (.tuple #[])∧af w' base g n c (Z++(fw A B++Y))∧w.grownBy w' (some g):=by
 intro N;induction N with
 | zero=>intro Z A B Y a m b w h _ _ _ hA _;omega
 | succ N F =>
  intro Z A B Y a m b w h hO hA hB s L ha hm hb;by_cases h1:A.length=1
  · obtain ⟨x,rfl⟩:=List.length_eq_one_iff.1 h1;exact Ak base g n c Z B Y x a m b w (by simpa using hO) hB ha (by simpa using hm) hb hn
  by_cases h2:B.length=1
  · obtain ⟨y,rfl⟩:=List.length_eq_one_iff.1 h2;exact Aj base g n c Z A Y y a m b w (by simpa using hO) hA (by omega) ha hm (by simpa using hb) hn
  exact Al base g n c Z A B Y a m b w hO hA hB (by omega) (by omega) ha hm hb hn (fun t J r u O D b' w' hl o d f l1 l2 K I E=>F t J r u O D b' w' (by omega) o d f l1 l2 K I E)
end
section
attribute [local go_sem] DN
theorem AM {b:Nat} (hb:1≤b) (R:List ac):iV b R=bk (R.take b)++(bk ((R.drop b).take b)++iV b (R.drop (2*b))):=by
 rw [pe hb R,pe hb (R.drop b),D5,show b+b=2*b by omega]
theorem Av (b:Nat) (R:List ac):fw (bk (R.take b)) (bk ((R.drop b).take b))=bk (R.take (2*b)):=by
 have h:=vU b (R.take (2*b));rw [List.take_take,List.drop_take,Nat.min_eq_left (by omega),show 2*b - b=b by omega] at h;exact h
theorem wL (base g n c:Nat) (L:List ac) (w:World) (hO:af w base g n c L) (hn:n≤1048576) :
 Calls Tryz.prog 169 #[sL g n c,iT n,.func (.func 112) #[] #[]] w fun e w'=>e=.returned (.tuple #[])∧af w' base g n c (bk L)∧w.grownBy w' (some g):=by
 have u:CG (L.length=n):=hO.len;have HO:=bO hO;clear hO;go_enter Tryz.func169,Tryz.ntmps169
 go_wp2;go_loopw [7,8] (fun va vb wr=>∃(a:Nat) (r:List ac),va=iT a∧vb=iT ((a+20:Nat):Int)∧a≤n∧r.length=a∧iV 20 L=r++iV 20 (L.drop a)∧af wr base g n c (r++L.drop a)∧w.grownBy wr (some g)) (fun va _ _=>n - (intOf va).toNat)
 case atStart=>exact ⟨0,[],rfl,rfl,C3 _,rfl,by simp,by simpa using HO.o,⟨rfl,rfl,rfl,Cy _,fun _ _ _=>rfl⟩⟩
 case round =>
  obtain ⟨a,r,rfl,rfl,aE,hz,W,ao,aA⟩:=hrel;have HZ:CG (r.length=a):=hz;have T:CG (iV 20 L=r++iV 20 (L.drop a)):=W;have a8:CG (af wr base g n c (r++L.drop a)):=ao;have ah:CG (w.grownBy wr (some g)):=aA;clear hz W ao aA HO;obtain ⟨b,hb⟩:=aH (a+20);rw [← hb];by_cases I:b≤n
  · have ag:(b:Int)≤(n:Int):=by omega
    have rb:IntKind.i64.wrap ((b:Int)+20)=((b+20:Nat):Int):=by rw [Dv];omega
    have D:L.drop a=(L.drop a).take 20++L.drop b:=by rw [hb,← D5,Ds]
    have s:((L.drop a).take 20).length=20:=by have:=u.o;simp;omega
    have a4:CG (af wr base g n c (r++((L.drop a).take 20++L.drop b))):=by have:=a8.o;rw [D] at this;exact this
    have Y:CG (iV 20 L=(r++bk ((L.drop a).take 20))++iV 20 (L.drop b)):=by
     show iV 20 L=_
     rw [T.o,pe (by omega) (L.drop a),D5,← hb,Di]
    have al:CG ((r++bk ((L.drop a).take 20)).length=b):=by show _=b;rw [CW,eJ,s,HZ.o,hb]
    have Q:CG (b=r.length+((L.drop a).take 20).length):=by show b=_;rw [s,HZ.o];exact hb
    have ad:CG (a<b):=by show a<b;omega
    clear D s hb;go_wp2_with fail
    refine (vI base g n c r ((L.drop a).take 20) (L.drop b) a b _ a4.o HZ.o.symm Q.o hn).mono ?_;rintro e X ⟨rfl,U,N⟩;have a0:CG (af X base g n c ((r++bk ((L.drop a).take 20))++L.drop b)):=by simpa [CG] using U
    have a1:CG (w.grownBy X (some g)):=ae ah.o N;clear U N;go_wp2;go_roundw
    case rel=>exact ⟨b,_,rfl,rfl,I,al.o,Y.o,a0.o,a1.o⟩
    case measure=>have:=ad.o;simp [intOf];omega
  · have ag:¬(b:Int)≤(n:Int):=by omega
    have a4:CG (af wr base g n c (r++(L.drop a++[]))):=by simpa [CG] using a8.o
    have aC:CG (n=r.length+(L.drop a).length):=by show n=_;have:=u.o;have:=HZ.o;rw [Dh];omega
    have aB:CG (iV 20 L=r++bk (L.drop a)):=by show iV 20 L=_;rw [T.o,iM (by have:=u.o;rw [Dh];omega)]
    clear hb;go_wp2_with fail
    refine (vI base g n c r (L.drop a) [] a n _ a4.o HZ.o.symm aC.o hn).mono ?_;rintro e X ⟨rfl,U,N⟩;have a0:CG (af X base g n c (iV 20 L)):=by rw [aB.o];simpa [CG] using U
    have a1:CG (w.grownBy X (some g)):=ae ah.o N;clear U N a8 ah a4;go_wp2;go_loopw [6] (fun vb wq=>∃bs:Nat,vb=iT bs∧20≤bs∧bs≤2097152∧af wq base g n c (iV bs L)∧w.grownBy wq (some g)) (fun vb _=>4194304 - (intOf vb).toNat)
    case atStart=>exact ⟨20,rfl,Cy _,by omega,a0.o,a1.o⟩
    case round =>
    rename World=>wo
    obtain ⟨bs,rfl,a5,F,av,ax⟩:=hrel;have Z:CG (af wo base g n c (iV bs L)):=av;have az:CG (w.grownBy wo (some g)):=ax;clear av ax a0 a1;by_cases au:bs<n
    · have an:(bs:Int)<(n:Int):=by omega
      obtain ⟨d,hd⟩:=aH (2*bs);have r2:IntKind.i64.wrap (2*(bs:Int))=(d:Int):=by rw [Dv];omega
      have aI:IntKind.i64.wrap ((bs:Int)*2)=(d:Int):=by rw [Dv];omega
      have t:CG (d=2*bs):=hd;have f:CG (20≤bs):=a5;have J:CG (bs<n):=au;clear hd a5 F au;go_wp2;go_loopw [7,8] (fun va vb wr=>∃(a:Nat) (r:List ac),va=iT a∧vb=iT ((a+d:Nat):Int)∧a≤n∧r.length=a∧iV d L=r++iV d (L.drop a)∧af wr base g n c (r++iV bs (L.drop a))∧w.grownBy wr (some g)) (fun va _ _=>n - (intOf va).toNat)
      case atStart=>exact ⟨0,[],rfl,by rw [C6],C3 _,rfl,by simp,by simpa using Z.o,az.o⟩
      case round =>
      obtain ⟨a,r,rfl,rfl,aE,hz,W,aw,ap⟩:=hrel;have HZ:CG (r.length=a):=hz;have T:CG (iV d L=r++iV d (L.drop a)):=W;have a3:CG (af wr base g n c (r++iV bs (L.drop a))):=aw;have ak:CG (w.grownBy wr (some g)):=ap;clear hz W aw ap Z;obtain ⟨b,hb⟩:=aH (a+d);rw [← hb];obtain ⟨m,hm⟩:=aH (a+bs);have F:b=m+bs:=by have:=t.o;omega
      have rm:IntKind.i64.wrap ((a:Int)+(bs:Int))=(m:Int):=by have:=J.o;rw [Dv];omega
      by_cases I:b≤n
      · have ag:(b:Int)≤(n:Int):=by omega
        have rb:IntKind.i64.wrap ((b:Int)+(d:Int))=((b+d:Nat):Int):=by have:=J.o;have:=t.o;rw [Dv];omega
        have s:((L.drop a).take bs).length=bs:=by have:=u.o;simp;omega
        have E:((L.drop m).take bs).length=bs:=by have:=u.o;simp;omega
        have D:iV bs (L.drop a)=bk ((L.drop a).take bs)++(bk ((L.drop m).take bs)++iV bs (L.drop b)):=by
         have h:=AM (show 1≤bs by have:=f.o;omega) (L.drop a);rw [D5,D5,← hm,← t.o,← hb] at h;exact h
        have aa:CG (af wr base g n c (r++(bk ((L.drop a).take bs)++(bk ((L.drop m).take bs)++iV bs (L.drop b))))):=by have:=a3.o;rw [D] at this;exact this
        have ab:CG (fw (bk ((L.drop a).take bs)) (bk ((L.drop m).take bs))=bk ((L.drop a).take d)):=by
         show _=_
         have h:=Av bs (L.drop a);rw [D5,← hm,← t.o] at h;exact h
        have Y:CG (iV d L=(r++bk ((L.drop a).take d))++iV d (L.drop b)):=by
         show iV d L=_
         rw [T.o,pe (by have:=f.o;have:=t.o;omega) (L.drop a),D5,← hb,Di]
        have al:CG ((r++bk ((L.drop a).take d)).length=b):=by
         show _=b
         have:=u.o;have:=HZ.o;rw [CW,eJ,C5,Dh];omega
        have am:CG (1≤(bk ((L.drop a).take bs)).length):=by show _≤_;rw [eJ,s];have:=f.o;omega
        have a6:CG (1≤(bk ((L.drop m).take bs)).length):=by show _≤_;rw [eJ,E];have:=f.o;omega
        have aj:CG (m=a+(bk ((L.drop a).take bs)).length):=by show m=_;rw [eJ,s];exact hm
        have Q:CG (b=m+(bk ((L.drop m).take bs)).length):=by show b=_;rw [eJ,E];exact F
        have ad:CG (a<b):=by show a<b;have:=f.o;omega
        have aq:CG (b≤n):=I;clear D s E hb hm F I;go_wp2_with fail
        refine (se base g n c hn _ r (bk ((L.drop a).take bs)) (bk ((L.drop m).take bs)) (iV bs (L.drop b)) a m b _ (Cy _) aa.o (fg _) (fg _) am.o a6.o HZ.o.symm aj.o Q.o).mono ?_;rintro e X ⟨rfl,K,O⟩;have R:CG (af X base g n c ((r++bk ((L.drop a).take d))++iV bs (L.drop b))):=by show af _ _ _ _ _ _;rw [← ab.o,Di];exact K
        have a9:CG (w.grownBy X (some g)):=ae ak.o O;clear K O;go_wp2;go_roundw
        case rel=>exact ⟨b,_,rfl,rfl,aq.o,al.o,Y.o,R.o,a9.o⟩
        case measure=>have:=ad.o;have:=aq.o;simp [intOf];omega
      · have ag:¬(b:Int)≤(n:Int):=by omega
        have ar:CG (iV d L=r++bk (L.drop a)):=by show iV d L=_;rw [T.o,iM (by have:=u.o;rw [Dh];omega)]
        by_cases ay:m<n
        · have aD:(m:Int)<(n:Int):=by omega
          have s:((L.drop a).take bs).length=bs:=by have:=u.o;simp;omega
          have E:(L.drop m).length=n - m:=by have:=u.o;rw [Dh];omega
          have D:iV bs (L.drop a)=bk ((L.drop a).take bs)++(bk (L.drop m)++[]):=by
           rw [pe (show 1≤bs by have:=f.o;omega) (L.drop a),D5,← hm,iM (by rw [E];omega),Eh]
          have aa:CG (af wr base g n c (r++(bk ((L.drop a).take bs)++(bk (L.drop m)++[])))):=by have:=a3.o;rw [D] at this;exact this
          have ab:CG (fw (bk ((L.drop a).take bs)) (bk (L.drop m))=bk (L.drop a)):=by
           show _=_
           have h:=vU bs (L.drop a);rw [D5,← hm] at h;exact h
          have am:CG (1≤(bk ((L.drop a).take bs)).length):=by show _≤_;rw [eJ,s];have:=f.o;omega
          have a6:CG (1≤(bk (L.drop m)).length):=by show _≤_;rw [eJ,E];omega
          have aj:CG (m=a+(bk ((L.drop a).take bs)).length):=by show m=_;rw [eJ,s];exact hm
          have Q:CG (n=m+(bk (L.drop m)).length):=by show n=_;rw [eJ,E];omega
          clear D s E hb hm F I ay;go_wp2_with fail
          refine (se base g n c hn _ r (bk ((L.drop a).take bs)) (bk (L.drop m)) [] a m n _ (Cy _) aa.o (fg _) (fg _) am.o a6.o HZ.o.symm aj.o Q.o).mono ?_;rintro e X ⟨rfl,K,O⟩;have R:CG (af X base g n c (iV d L)):=by show af _ _ _ _ _ _;rw [ar.o,← ab.o];rw [Eh] at K;exact K
          have a9:CG (w.grownBy X (some g)):=ae ak.o O;clear K O;go_wp2;go_roundw
          case rel=>exact ⟨d,rfl,by have:=t.o;have:=f.o;omega,by have:=t.o;have:=J.o;omega,R.o,a9.o⟩
          case measure=>have:=t.o;have:=f.o;have:=J.o;simp [intOf];omega
        · have aD:¬(m:Int)<(n:Int):=by omega
          have R:CG (af wr base g n c (iV d L)):=by
           show af _ _ _ _ _ _
           have h:=a3.o;rw [iM (by have:=u.o;rw [Dh];omega),← ar.o] at h;exact h
          clear hb hm F I ay a3;go_wp2;go_roundw
          case rel=>exact ⟨d,rfl,by have:=t.o;have:=f.o;omega,by have:=t.o;have:=J.o;omega,R.o,ak.o⟩
          case measure=>have:=t.o;have:=f.o;have:=J.o;simp [intOf];omega
    · have an:¬(bs:Int)<(n:Int):=by omega
      have HD:CG (af wo base g n c (bk L)):=by have:=Z.o;rw [iM (by rw [u.o];omega)] at this;exact this
      clear Z;go_wp2;go_end0;exact ⟨rfl,HD.o,az.o⟩
end
end Go.Proofs.YtpobkmjicbobdaaGreat
