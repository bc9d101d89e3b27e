/- Walks. -/
import Derived.Test.YtpobkmjicbobdaaGreatBD35
namespace Go.Proofs.YtpobkmjicbobdaaGreat
set_option maxRecDepth 100000
set_option maxHeartbeats 40000000
open Go.RowKit
variable {A B:List ac} {C:Int} {H a m p:Nat} {x y:ac}
section
attribute [local go_sem] Hc
def iG (A B:List ac) (a m p k:Nat):Prop:=∃x y,A[k - a]?=some x∧B[p - k - m]?=some y∧y.2.1<x.2.1
theorem jZ (h:Asc A) {i j:Nat} {x y:ac} (hi:A[i]?=some x) (b:A[j]?=some y) (d:i≤j):x.2.1≤y.2.1:=by
 obtain ⟨h1,h2⟩:=F'.1 hi;obtain ⟨h3,h4⟩:=F'.1 b;by_cases e:i=j
 · subst e;rw [h2] at h4;rw [h4];exact Int.le_refl _
 · have:=GO.1 h i j h1 h3 (by omega);rw [h2,h4] at this;exact this
theorem Dx {hi':Nat} (hA:Asc A) (hB:Asc B) (hC:(C<0→y.2.1<x.2.1)∧(y.2.1<x.2.1→C<0)) (d:C<0) (hx:A[H - a]?=some x∧a≤H∧hi'≤a+A.length) (hy:B[p - H - m]?=some y∧hi'+m≤p+1):∀k,H≤k→k<hi'→iG A B a m p k:=by
 intro k hk hh;obtain ⟨e,g,f⟩:=hx;obtain ⟨b,n⟩:=hy;have l1:=(F'.1 b).1;have e1:=j' (show k - a<A.length by omega);have e2:=j' (show p - k - m<B.length by omega);refine ⟨_,_,e1,e2,?_⟩;have h1:=jZ hA e e1 (by omega);have h2:=jZ hB e2 b (by omega);have:=hC.1 d;omega
theorem E0 {lo:Nat} (hA:Asc A) (hB:Asc B) (hC:(C<0→y.2.1<x.2.1)∧(y.2.1<x.2.1→C<0)) (b:¬C<0) {hi':Nat} (hx:A[H - a]?=some x∧a≤H∧hi'≤a+A.length) (hy:B[p - H - m]?=some y∧hi'+m≤p+1):∀k,lo≤k→k<H+1→¬iG A B a m p k:=by
 intro k hk hh hl;obtain ⟨e,d,e1,e2,h3⟩:=hl;have h1:=jZ hA e1 hx.1 (by omega);have h2:=jZ hB hy.1 e2 (by omega);exact b (hC.2 (by omega))
theorem zK {b d s:Nat} (hA:Asc A) (hB:Asc B) (hm:m=a+A.length) (hb:b=m+B.length) (hp:p+1=d+m) (has:a≤s) (t:s≤m) (o:s≤d) (f:∀k,a≤k→d+m≤k+b→k<s→¬iG A B a m p k) (e:∀k,s≤k→k<m→k<d→iG A B a m p k) :
 fX A B=fX (A.take (s - a)) (B.take (d - s))++fX (A.drop (s - a)) (B.drop (d - s)):=by
 have h:=gg (A.take (s - a)) (A.drop (s - a)) (B.take (d - s)) (B.drop (d - s)) ?_ ?_
 · rw [GK,GK] at h;exact h
 · intro x hx y hy g;obtain ⟨i,hi,rfl⟩:=Ir.1 hx;obtain ⟨j,n,rfl⟩:=Ir.1 hy;simp only [Hf,Hj] at g;simp at hi n;have r:a<s:=by omega
   have e1:=j' (show s - 1 - a<A.length by omega);have e2:=j' (show p - (s - 1) - m<B.length by omega);refine f (s - 1) (by omega) (by omega) (by omega) ⟨_,_,e1,e2,?_⟩;have h1:=jZ hA (j' (show i<A.length by omega)) e1 (by omega);have h2:=jZ hB e2 (j' (show d - s+j<B.length by omega)) (by omega);omega
 · intro y hy x hx;obtain ⟨j,n,rfl⟩:=Ir.1 hy;obtain ⟨i,hi,rfl⟩:=Ir.1 hx;simp only [Hf,Hj];simp at hi n;obtain ⟨D,u,e1,e2,h3⟩:=e s (Gg _) (by omega) (by omega);have h1:=jZ hA e1 (j' (show s - a+i<A.length by omega)) (by omega);have h2:=jZ hB (j' (show j<B.length by omega)) e2 (by omega);omega
theorem wF (h:Asc A) (k:Nat):Asc (A.take k):=Hw (List.take_sublist k A) h
theorem wG (h:Asc A) (k:Nat):Asc (A.drop k):=Hw (IT k A) h
theorem D4 (base g n c:Nat) (Z A B Y:List ac) (a m b:Nat) (w:World) (hO:ah w base g n c (Z++(A++(B++Y)))) (hA:Asc A) (hB:Asc B) (a4:2≤A.length) (a7:2≤B.length) (ha:a=Z.length) (hm:m=a+A.length) (hb:b=m+B.length) (hn:n≤1048576)
 (hrec:∀(Z' A' B' Y':List ac) (a' m' b':Nat) (w':World),A'.length+B'.length<A.length+B.length→ah w' base g n c (Z'++(A'++(B'++Y')))→Asc A'→Asc B'→1≤A'.length→1≤B'.length→a'=Z'.length→m'=a'+A'.length→b'=m'+B'.length →
  Calls Tryz.prog 214 #[sL g n c,iT a',iT m',iT b',.func (.func 112) #[] #[]] w' fun e av=>e=.returned (.tuple #[])∧ah av base g n c (Z'++(fX A' B'++Y'))∧w'.grownBy av (some g)) :
 Calls Tryz.prog 214 #[sL g n c,iT a,iT m,iT b,.func (.func 112) #[] #[]] w fun e w'=>e=.returned (.tuple #[])∧ah w' base g n c (Z++(fX A B++Y))∧w.grownBy w' (some g):=by
 have aI:Eq (∀(Z' A' B' Y':List ac) (a' m' b':Nat) (w':World),A'.length+B'.length<A.length+B.length→ah w' base g n c (Z'++(A'++(B'++Y')))→Asc A'→Asc B'→1≤A'.length→1≤B'.length→a'=Z'.length→m'=a'+A'.length→b'=m'+B'.length →
  Calls Tryz.prog 214 #[sL g n c,iT a',iT m',iT b',.func (.func 112) #[] #[]] w' fun e av=>e=.returned (.tuple #[])∧ah av base g n c (Z'++(fX A' B'++Y'))∧w'.grownBy av (some g)):=hrec
 have aj:=az hA;have aw:=az hB;have hl:=hO.len;simp only [Gj] at hl;have bT:=hO.entsAt.big;have cu:=hO.entsAt.room;unfold maxLen at bT;have HZ:=az ha;have HM:=az hm;have HB:=az hb;have bK:=az a4;have bI:=az a7;have HO:=az hO;have cv:b≤n:=by omega
 have ct:m+2≤b:=by omega
 have ck:a+2≤m:=by omega
 obtain ⟨ka,bB⟩:=aF A.length;obtain ⟨kb,bA⟩:=aF B.length;have bW:IntKind.i64.wrap ((m:Int) - (a:Int))=(ka:Int):=by rw [GN];omega
 have bU:((ka:Int) == 1)=false:=by simp;omega
 have bV:IntKind.i64.wrap ((b:Int) - (m:Int))=(kb:Int):=by rw [GN];omega
 have bE:((kb:Int) == 1)=false:=by simp;omega
 obtain ⟨mid,b9⟩:=aF ((a+b) / 2);have eM:((a:Int)+(b:Int)) / 2=(mid:Int):=by omega
 have bY:a+2≤mid:=by omega
 have bX:mid+2≤b:=by omega
 have c4:IntKind.i64.wrap ((a:Int)+(b:Int))=(a:Int)+(b:Int):=by rw [GN];omega
 obtain ⟨N,hN⟩:=aF (mid+m);have rN:IntKind.i64.wrap ((mid:Int)+(m:Int))=(N:Int):=by rw [GN];omega
 obtain ⟨p,hp⟩:=aF (N - 1);have rp:IntKind.i64.wrap ((N:Int) - 1)=(p:Int):=by rw [GN];omega
 obtain ⟨lo,a1⟩:=aF (if mid<m then N - b else a);obtain ⟨f,am⟩:=aF (if mid<m then mid else m);have bn:mid<m→IntKind.i64.wrap ((N:Int) - (b:Int))=(lo:Int):=fun h=>by rw [GN,a1,if_pos h];omega
 have aG:Eq (N=mid+m∧p+1=N):=by show N=mid+m∧p+1=N;omega
 have aT:Eq (a≤lo∧N≤lo+b∧lo≤f∧f≤m∧f≤mid):=by
  show a≤lo∧N≤lo+b∧lo≤f∧f≤m∧f≤mid
  rw [a1,am];split <;> omega
 have c2:Eq (f=m∨f=mid):=by show f=m∨f=mid;rw [am];split <;> omega
 have bN:Eq (lo=a∨lo+b=N):=by show lo=a∨lo+b=N;rw [a1];split <;> omega
 have bb:Eq (mid<m→lo+b=N∧f=mid):=fun h=>by rw [a1,am,if_pos h,if_pos h];omega
 have bf:Eq (¬mid<m→lo=a∧f=m):=fun h=>by rw [a1,am,if_neg h,if_neg h];exact ⟨rfl,rfl⟩
 clear hO hA hB ha hb hl hm a4 a7 bB bA b9 hN hp a1 am hrec;go_enter Tryz.func214,Tryz.ntmps214
 go_upto_if 140 with fail
 clear bW bV bU bE eM c4 rN;go_cut [20,21] (fun aq c0 wx=>aq=iT lo∧c0=iT f∧w=wx)
 case first =>
  as_aux_lemma =>
   by_cases aX:mid<m
   · have b6:(mid:Int)<(m:Int):=by omega
     have hr:=bn aX;have HE:=bb.o aX;have ay:Eq (f=mid):=HE.2;clear HE;go_wp2;go_meet
     exact ⟨rfl,by rw [ay.o],rfl⟩
   · have b6:¬(mid:Int)<(m:Int):=by omega
     have HE:=bf.o aX;have ay:Eq (lo=a∧f=m):=HE;clear HE;go_wp2;go_meet
     exact ⟨by rw [ay.o.1],by rw [ay.o.2],rfl⟩
 case rest =>
 obtain ⟨rfl,rfl,bP⟩:=hcut;subst bP;clear bn bb bf;go_wp2;clear rp;go_loopw [20,21] (fun sv rv wr=>∃S Rr:Nat,sv=iT S∧rv=iT Rr∧lo≤S∧S≤Rr∧Rr≤f∧ah wr base g n c (Z++(A++(B++Y)))∧w.grownBy wr (some g)∧(∀k,lo≤k→k<S→¬iG A B a m p k)∧(∀k,Rr≤k→k<f→iG A B a m p k)) (fun sv rv _=>(intOf rv).toNat - (intOf sv).toNat)
 case atStart=>exact ⟨lo,f,rfl,rfl,Gg _,aT.o.2.2.1,Gg _,HO.o,⟨rfl,rfl,rfl,Gg _,fun _ _ _=>rfl⟩,(fun k h1 h2=>absurd h2 (by omega)),(fun k h1 h2=>absurd h2 (by omega))⟩
 case round =>
  obtain ⟨S,Rr,rfl,rfl,bG,co,bF,bl,bq,h1,h2⟩:=hrel;have aA:Eq (ah wr base g n c (Z++(A++(B++Y)))):=bl;have a3:Eq (w.grownBy wr (some g)):=bq;have H1:Eq (∀k,lo≤k→k<S→¬iG A B a m p k):=h1;have H2:Eq (∀k,Rr≤k→k<f→iG A B a m p k):=h2;clear bl bq h1 h2 HO;by_cases cj:S<Rr
  · have bs:(S:Int)<(Rr:Int):=by omega
    obtain ⟨H,hH⟩:=aF ((S+Rr) / 2);have cm:S≤H:=by omega
    have cn:H<Rr:=by omega
    have eH:((S:Int)+(Rr:Int)) / 2=(H:Int):=by omega
    obtain ⟨hN1,hN2⟩:=aG.o;obtain ⟨aQ,aV,aM,aJ,aR⟩:=aT.o;have aD:=HM.o;have aE:=HB.o;have aC:=HZ.o;obtain ⟨Q,hQ⟩:=aF (p - H);have rQ:IntKind.i64.wrap ((p:Int) - (H:Int))=(Q:Int):=by rw [GN];omega
    obtain ⟨x,hx⟩:∃x,A[H - a]?=some x:=⟨_,j' (by omega)⟩;obtain ⟨y,hy⟩:∃y,B[p - H - m]?=some y:=⟨_,j' (by omega)⟩;have bc:Eq (A[H - a]?=some x∧a≤H∧f≤a+A.length):=⟨hx,by omega,by omega⟩;have bg:Eq (B[p - H - m]?=some y∧f+m≤p+1):=⟨hy,by omega⟩;have b4:(Z++(A++(B++Y)))[H]?=some x:=by
     rw [Gm (by omega),Gt (by omega),← aC];exact hx
    have b2:(Z++(A++(B++Y)))[Q]?=some y:=by
     rw [Gm (by omega),Gm (by omega),Gt (by omega),show Q - Z.length - A.length=p - H - m by omega];exact hy
    obtain ⟨C,hC⟩:=aF (Lib.compareInt y.2.1 x.2.1);have HC:Eq ((C<0→y.2.1<x.2.1)∧(y.2.1<x.2.1→C<0)):=by rw [hC];exact ⟨(oh _ _).1,(oh _ _).2⟩
    have bp:∀w,Calls Tryz.prog 112 #[.agg #[.string y.1,iT y.2.1,iT y.2.2.1,.string y.2.2.2.1,iT y.2.2.2.2],.agg #[.string x.1,iT x.2.1,iT x.2.2.1,.string x.2.2.2.1,iT x.2.2.2.2]] w fun e w'=>e=.returned (iT C)∧Bl w w':=by rw [hC];exact fun w=>qv y.1 y.2.2.2.1 x.1 x.2.2.2.1 y.2.1 y.2.2.1 y.2.2.2.2 x.2.1 x.2.2.1 x.2.2.2.2 w
    obtain ⟨s,q,d,t,nn⟩:=y;obtain ⟨s',q',d',t',bj⟩:=x;have HX:Eq ((Z++(A++(B++Y)))[Q]?=some (s,q,d,t,nn)):=b2;have HY:Eq ((Z++(A++(B++Y)))[H]?=some (s',q',d',t',bj)):=b4;have CQ:Eq (∀w,Calls Tryz.prog 112 #[.agg #[.string s,iT q,iT d,.string t,iT nn],.agg #[.string s',iT q',iT d',.string t',iT bj]] w fun e w'=>e=.returned (iT C)∧Bl w w'):=bp;have cr:(H:Int)<(n:Int):=by omega
    have ch:(Q:Int)<(n:Int):=by omega
    have I:ah wr.drew base g n c (Z++(A++(B++Y))):=aA.o.below (Below.refl _ _).drew;have gd:w.grownBy wr.drew (some g):=ae a3.o (fF _ _);clear hH hx hy b4 b2 hC bp aA a3 hN1 hN2 aD aE aC hQ aQ aV aM aJ aR;by_cases aB:C<0
    · have bS:decide (C<0)=true:=decide_eq_true aB;have bC:Eq (∀k,H≤k→k<f→iG A B a m p k):=Dx aj.o aw.o HC.o aB bc.o bg.o;go_wp2_with fail
      as_aux_lemma =>
       refine wp_region_held_drew (S:=(fun w'=>g<w'.heap.size)) (by kernel_rfl) (by exact I.lt.2) (fun aa=>?_);generalize wr.drew=wd at I gd aa ⊢;refine aO 0 6 aa ?_;refine aO 7 3 aa ?_;refine lI 6 10 (fun K hK=>?_) fun K hK=>?_
       focus
        obtain ⟨R,J,L,U,O⟩:=I.at5 HX.o
        have X:=I.lt.2
        go_simp
        clear R J L U O X
        refine hK.o _ _ (by exact I.lt.2) fun aa=>?_
        (try go_frame)
        refine aS 10 fun K hK=>?_
        obtain ⟨R,J,L,U,O⟩:=I.at5 HY.o
       rotate_left
       focus
        obtain ⟨R,J,L,U,O⟩:=I.at5 HY.o
        have X:=I.lt.2
        go_simp
        clear R J L U O X
        refine hK.o _ _ (by exact I.lt.2) fun aa=>?_
        (try go_frame)
        refine aS 6 fun K hK=>?_
        obtain ⟨R,J,L,U,O⟩:=I.at5 HX.o
       all_goals
        have X:=I.lt.2
        go_simp
        clear R J L U O X
        refine hK.o _ _ (by exact I.lt.2) fun aa=>?_
        (try go_frame)
        refine aS 11 fun K hK=>?_
        go_simp
        refine (CQ.o _).mono ?_
        rintro e w1 ⟨rfl,b1⟩
        have k1:=I.below b1
        have gw:w.grownBy w1 (some g):=ae gd (fT b1)
        go_wp2_with fail
        refine hK.o _ _ (by exact k1.lt.2) fun aa=>?_
        (try go_frame)
        refine aO 12 2 aa ?_
        refine dN ?_
        have aL:Eq (ah w1 base g n c (Z++(A++(B++Y)))):=k1
        have a3:Eq (w.grownBy w1 (some g)):=gw
        clear I gd k1 gw aa b1
        go_wp2
        go_roundw
        case rel=>exact ⟨S,H,rfl,rfl,bG,by omega,by omega,aL.o,a3.o,H1.o,bC.o⟩
        case measure=>simp [intOf];omega
    · have bS:decide (C<0)=false:=decide_eq_false aB;have bD:Eq (∀k,lo≤k→k<H+1→¬iG A B a m p k):=E0 aj.o aw.o HC.o aB bc.o bg.o;go_wp2_with fail
      as_aux_lemma =>
       refine wp_region_held_drew (S:=(fun w'=>g<w'.heap.size)) (by kernel_rfl) (by exact I.lt.2) (fun aa=>?_);generalize wr.drew=wd at I gd aa ⊢;refine aO 0 6 aa ?_;refine aO 7 3 aa ?_;refine lI 6 10 (fun K hK=>?_) fun K hK=>?_
       focus
        obtain ⟨R,J,L,U,O⟩:=I.at5 HX.o
        have X:=I.lt.2
        go_simp
        clear R J L U O X
        refine hK.o _ _ (by exact I.lt.2) fun aa=>?_
        (try go_frame)
        refine aS 10 fun K hK=>?_
        obtain ⟨R,J,L,U,O⟩:=I.at5 HY.o
       rotate_left
       focus
        obtain ⟨R,J,L,U,O⟩:=I.at5 HY.o
        have X:=I.lt.2
        go_simp
        clear R J L U O X
        refine hK.o _ _ (by exact I.lt.2) fun aa=>?_
        (try go_frame)
        refine aS 6 fun K hK=>?_
        obtain ⟨R,J,L,U,O⟩:=I.at5 HX.o
       all_goals
        have X:=I.lt.2
        go_simp
        clear R J L U O X
        refine hK.o _ _ (by exact I.lt.2) fun aa=>?_
        (try go_frame)
        refine aS 11 fun K hK=>?_
        go_simp
        refine (CQ.o _).mono ?_
        rintro e w1 ⟨rfl,b1⟩
        have k1:=I.below b1
        have gw:w.grownBy w1 (some g):=ae gd (fT b1)
        go_wp2_with fail
        refine hK.o _ _ (by exact k1.lt.2) fun aa=>?_
        (try go_frame)
        refine aO 12 2 aa ?_
        refine dN ?_
        have aL:Eq (ah w1 base g n c (Z++(A++(B++Y)))):=k1
        have a3:Eq (w.grownBy w1 (some g)):=gw
        clear I gd k1 gw aa b1
        go_wp2
        go_roundw
        case rel=>exact ⟨H+1,Rr,by go_num,rfl,by omega,by omega,bF,aL.o,a3.o,bD.o,H2.o⟩
        case measure=>simp [intOf];omega
  · have bs:¬(S:Int)<(Rr:Int):=by omega
    have be:S=Rr:=by omega
    subst be;obtain ⟨hN1,hN2⟩:=aG.o;obtain ⟨aQ,aV,aM,aJ,aR⟩:=aT.o;have aD:=HM.o;have aE:=HB.o;have aC:=HZ.o;have bm:=bK.o;have br:=bI.o;have ax:Eq (fX A B=fX (A.take (S - a)) (B.take (mid - S))++fX (A.drop (S - a)) (B.drop (mid - S))):=zK (p:=p) aj.o aw.o aD aE (by omega) (by omega) (by omega) (by omega)
     (fun k h1 h2 h3=>H1.o k (by rcases bN.o with h | h <;> omega) h3) (fun k h1 h2 h3=>H2.o k h1 (by rcases c2.o with h | h <;> omega))
    obtain ⟨u,ap⟩:=aF (A.take (S - a));obtain ⟨F,a4⟩:=aF (A.drop (S - a));obtain ⟨D,ak⟩:=aF (B.take (mid - S));obtain ⟨W,a7⟩:=aF (B.drop (mid - S));rw [← ap,← a4,← ak,← a7] at ax;have bw:Eq (Asc u):=by rw [ap];exact wF aj.o _
    have bd:Eq (Asc F):=by rw [a4];exact wG aj.o _
    have bQ:Eq (Asc D):=by rw [ak];exact wF aw.o _
    have b3:Eq (Asc W):=by rw [a7];exact wG aw.o _
    have ad:Eq (u.length=S - a∧F.length=m - S∧D.length=mid - S∧W.length=b - (N - S)):=by
     show u.length=S - a∧F.length=m - S∧D.length=mid - S∧W.length=b - (N - S)
     rw [ap,a4,ak,a7,Gn,Gy,Gn,Gy];omega
    have bi:Eq (u.length+D.length<A.length+B.length∧F.length+W.length<A.length+B.length):=by
     show u.length+D.length<A.length+B.length∧F.length+W.length<A.length+B.length
     have:=ad.o;omega
    have HD:Eq (ah wr base g n c (Z++(u++(F++(D++(W++Y)))))):=by
     have:=aA.o;rw [show A=u++F by rw [ap,a4,GK],show B=D++W by rw [ak,a7,GK]] at this;simpa [Eq] using this
    obtain ⟨E,hE⟩:=aF (N - S);have rE:IntKind.i64.wrap ((N:Int) - (S:Int))=(E:Int):=by rw [GN];omega
    have T:Eq (E=mid+m - S∧a≤S∧S≤m∧S≤mid∧E≤b∧m≤E):=by show E=mid+m - S∧a≤S∧S≤m∧S≤mid∧E≤b∧m≤E;omega
    clear ap a4 ak a7 aA hN1 hN2 aQ aV aM aJ aR aD aE aC bm br hE H1 H2;go_upto_region 39 with fail
    clear rE;go_cut [185] (fun v wx=>v=.bool (decide (S<m) && decide (m<E))∧wr=wx)
    case first =>
     as_aux_lemma =>
      by_cases a8:S<m
      · have a9:(S:Int)<(m:Int):=by omega
        by_cases a5:m<E
        · have a6:(m:Int)<(E:Int):=by omega
          go_wp2;go_meet
          exact ⟨by simp [a8,a5],rfl⟩
        · have a6:¬(m:Int)<(E:Int):=by omega
          go_wp2;go_meet
          exact ⟨by simp [a5],rfl⟩
      · have a9:¬(S:Int)<(m:Int):=by omega
        go_wp2;go_meet
        exact ⟨by simp [a8],rfl⟩
    case rest =>
    obtain ⟨rfl,bz⟩:=hcut;subst bz;go_upto_if 185 with fail
    go_cut [20] (fun aq wx=>aq=iT S∧ah wx base g n c (Z++(u++(D++(F++(W++Y)))))∧w.grownBy wx (some g))
    case first =>
     as_aux_lemma =>
      by_cases hs:S<m∧m<E
      · have hd:(decide (S<m) && decide (m<E))=true:=by simp [hs.1,hs.2]
        have bJ:Eq (ah wr base g n c ((Z++u)++(F++(D++(W++Y))))):=by simpa [Eq] using HD.o
        have r:Eq (S=(Z++u).length∧m=(Z++u).length+F.length∧E=(Z++u).length+F.length+D.length∧1≤F.length∧1≤D.length):=by
         show S=(Z++u).length∧m=(Z++u).length+F.length∧E=(Z++u).length+F.length+D.length∧1≤F.length∧1≤D.length
         have:=ad.o;have:=T.o;have:=HZ.o;rw [Gj];omega
        clear hs;rw [hd];clear hd;go_wp2_with fail
        refine (Fa base g n c (Z++u) F D (W++Y) S m E _ _ bJ.o r.o.1 r.o.2.1 r.o.2.2.1 r.o.2.2.2.1 r.o.2.2.2.2 hn).mono ?_;rintro e w1 ⟨rfl,al,an⟩;have aP:Eq (ah w1 base g n c (Z++(u++(D++(F++(W++Y)))))):=by simpa [Eq] using al
        have ar:Eq (w.grownBy w1 (some g)):=ae a3.o an;clear al an;go_wp2;go_meet
        exact ⟨rfl,aP.o,ar.o⟩
      · have hd:(decide (S<m) && decide (m<E))=false:=by
         cases h:(decide (S<m) && decide (m<E)) with
         | false=>rfl
         | true=>simp at h;exact absurd h hs
        have aP:Eq (ah wr base g n c (Z++(u++(D++(F++(W++Y)))))):=by
         have h0:F=[]∨D=[]:=by
          have:=ad.o;have:=T.o;by_cases h1:S<m
          · right;exact G6.1 (by omega)
          · left;exact G6.1 (by omega)
         have:=HD.o;rcases h0 with h0 | h0
         · rw [h0] at this ⊢;simpa [Eq] using this
         · rw [h0] at this ⊢;simpa [Eq] using this
        clear hs;rw [hd];clear hd;go_wp2;go_meet
        exact ⟨rfl,aP.o,a3.o⟩
    case rest =>
    rename World=>wA
    obtain ⟨rfl,al,an⟩:=hcut;have aK:Eq (ah wA base g n c (Z++(u++(D++(F++(W++Y)))))):=al;have ar:Eq (w.grownBy wA (some g)):=an;clear al an HD a3;go_upto_region 41 with fail
    go_cut [199] (fun v wx=>v=.bool (decide (a<S) && decide (S<mid))∧wA=wx)
    case first =>
     as_aux_lemma =>
      by_cases a8:a<S
      · have a9:(a:Int)<(S:Int):=by omega
        by_cases a5:S<mid
        · have a6:(S:Int)<(mid:Int):=by omega
          go_wp2;go_meet
          exact ⟨by simp [a8,a5],rfl⟩
        · have a6:¬(S:Int)<(mid:Int):=by omega
          go_wp2;go_meet
          exact ⟨by simp [a5],rfl⟩
      · have a9:¬(a:Int)<(S:Int):=by omega
        go_wp2;go_meet
        exact ⟨by simp [a8],rfl⟩
    case rest =>
    obtain ⟨rfl,bv⟩:=hcut;subst bv;go_upto_if 199 with fail
    go_cut [20] (fun aq wx=>aq=iT S∧ah wx base g n c (Z++(fX u D++(F++(W++Y))))∧w.grownBy wx (some g))
    case first =>
     as_aux_lemma =>
      by_cases hs:a<S∧S<mid
      · have hd:(decide (a<S) && decide (S<mid))=true:=by simp [hs.1,hs.2]
        have r:Eq (1≤u.length∧1≤D.length∧S=a+u.length∧mid=S+D.length):=by
         show 1≤u.length∧1≤D.length∧S=a+u.length∧mid=S+D.length
         have:=ad.o;have:=T.o;omega
        clear hs;rw [hd];clear hd;go_wp2_with fail
        refine (aI.o Z u D (F++(W++Y)) a S mid _ bi.o.1 aK.o bw.o bQ.o r.o.1 r.o.2.1 HZ.o r.o.2.2.1 r.o.2.2.2).mono ?_;rintro e w1 ⟨rfl,au,ao⟩;have aY:Eq (ah w1 base g n c (Z++(fX u D++(F++(W++Y))))):=au;have aH:Eq (w.grownBy w1 (some g)):=ae ar.o ao;clear au ao;go_wp2;go_meet
        exact ⟨rfl,aY.o,aH.o⟩
      · have hd:(decide (a<S) && decide (S<mid))=false:=by
         cases h:(decide (a<S) && decide (S<mid)) with
         | false=>rfl
         | true=>simp at h;exact absurd h hs
        have aY:Eq (ah wA base g n c (Z++(fX u D++(F++(W++Y))))):=by
         have h0:u=[]∨D=[]:=by
          have:=ad.o;have:=T.o;by_cases h1:a<S
          · right;exact G6.1 (by omega)
          · left;exact G6.1 (by omega)
         have:=aK.o;rcases h0 with h0 | h0
         · rw [h0] at this ⊢;rw [fd];simpa [Eq] using this
         · rw [h0] at this ⊢;rw [dY];simpa [Eq] using this
        clear hs;rw [hd];clear hd;go_wp2;go_meet
        exact ⟨rfl,aY.o,ar.o⟩
    case rest =>
    rename World=>wB
    obtain ⟨rfl,au,ao⟩:=hcut;have ba:Eq (ah wB base g n c ((Z++fX u D)++(F++(W++Y)))):=by simpa [Eq] using au
    have aH:Eq (w.grownBy wB (some g)):=ao;clear au ao aK ar;go_upto_region 43 with fail
    go_cut [213] (fun v wx=>v=.bool (decide (mid<E) && decide (E<b))∧wB=wx)
    case first =>
     as_aux_lemma =>
      by_cases a8:mid<E
      · have a9:(mid:Int)<(E:Int):=by omega
        by_cases a5:E<b
        · have a6:(E:Int)<(b:Int):=by omega
          go_wp2;go_meet
          exact ⟨by simp [a8,a5],rfl⟩
        · have a6:¬(E:Int)<(b:Int):=by omega
          go_wp2;go_meet
          exact ⟨by simp [a5],rfl⟩
      · have a9:¬(mid:Int)<(E:Int):=by omega
        go_wp2;go_meet
        exact ⟨by simp [a8],rfl⟩
    case rest =>
    obtain ⟨rfl,bO⟩:=hcut;subst bO;go_upto_if 213 with fail
    by_cases hs:mid<E∧E<b
    · have hd:(decide (mid<E) && decide (E<b))=true:=by simp [hs.1,hs.2]
      have r:Eq (1≤F.length∧1≤W.length∧mid=(Z++fX u D).length∧E=mid+F.length∧b=E+W.length):=by
       show 1≤F.length∧1≤W.length∧mid=(Z++fX u D).length∧E=mid+F.length∧b=E+W.length
       have:=ad.o;have:=T.o;have:=HZ.o;have:=aG.o;rw [Gj,tV];omega
      clear hs;rw [hd];clear hd;go_wp2_with fail
      refine (aI.o (Z++fX u D) F W Y mid E b _ bi.o.2 ba.o bd.o b3.o r.o.1 r.o.2.1 r.o.2.2.1 r.o.2.2.2.1 r.o.2.2.2.2).mono ?_;rintro e w1 ⟨rfl,bk,bo⟩;have aU:Eq (ah w1 base g n c (Z++(fX A B++Y))):=by rw [ax.o];simpa [Eq] using bk
      have bL:Eq (w.grownBy w1 (some g)):=ae aH.o bo;clear bk bo;go_wp2;go_end0;exact ⟨rfl,aU.o,bL.o⟩
    · have hd:(decide (mid<E) && decide (E<b))=false:=by
       cases h:(decide (mid<E) && decide (E<b)) with
       | false=>rfl
       | true=>simp at h;exact absurd h hs
      have aU:Eq (ah wB base g n c (Z++(fX A B++Y))):=by
       have h0:F=[]∨W=[]:=by
        have:=ad.o;have:=T.o;have:=aG.o;by_cases h1:mid<E
        · right;exact G6.1 (by omega)
        · left;exact G6.1 (by omega)
       have:=ba.o;rw [ax.o];rcases h0 with h0 | h0
       · rw [h0] at this ⊢;rw [fd];simpa [Eq] using this
       · rw [h0] at this ⊢;rw [dY];simpa [Eq] using this
      clear hs;rw [hd];clear hd;go_wp2;go_end0;exact ⟨rfl,aU.o,aH.o⟩
theorem uH (base g n c:Nat) (hn:n≤1048576):∀(N:Nat) (Z A B Y:List ac) (a m b:Nat) (w:World),A.length+B.length≤N→ah w base g n c (Z++(A++(B++Y)))→Asc A→Asc B→1≤A.length→1≤B.length→a=Z.length→m=a+A.length→b=m+B.length →
 Calls Tryz.prog 214 #[sL g n c,iT a,iT m,iT b,.func (.func 112) #[] #[]] w fun e w'=>e=.returned (.tuple #[])∧ah w' base g n c (Z++(fX A B++Y))∧w.grownBy w' (some g):=by
 intro N;induction N with
 | zero=>intro Z A B Y a m b w h _ _ _ hA _;omega
 | succ N J =>
  intro Z A B Y a m b w h hO hA hB u t ha hm hb;by_cases h1:A.length=1
  · obtain ⟨x,rfl⟩:=List.length_eq_one_iff.1 h1;exact D3 base g n c Z B Y x a m b w (by simpa using hO) hB ha (by simpa using hm) hb hn
  by_cases h2:B.length=1
  · obtain ⟨y,rfl⟩:=List.length_eq_one_iff.1 h2;exact D0 base g n c Z A Y y a m b w (by simpa using hO) hA (by omega) ha hm (by simpa using hb) hn
  exact D4 base g n c Z A B Y a m b w hO hA hB (by omega) (by omega) ha hm hb hn (fun s E r F D I b' w' hl o f d l1 l2 e1 e2 e3=>J s E r F D I b' w' (by omega) o f d l1 l2 e1 e2 e3)
end
section
attribute [local go_sem] Hc
theorem EA {b:Nat} (hb:1≤b) (R:List ac):jA b R=bK (R.take b)++(bK ((R.drop b).take b)++jA b (R.drop (2*b))):=by
 rw [qZ hb R,qZ hb (R.drop b),Ie,show b+b=2*b by omega]
theorem Ee (b:Nat) (R:List ac):fX (bK (R.take b)) (bK ((R.drop b).take b))=bK (R.take (2*b)):=by
 have h:=zq b (R.take (2*b));rw [List.take_take,List.drop_take,Nat.min_eq_left (by omega),show 2*b - b=b by omega] at h;exact h
theorem zO (base g n c:Nat) (L:List ac) (w:World) (hO:ah w base g n c L) (hn:n≤1048576) :
 Calls Tryz.prog 169 #[sL g n c,iT n,.func (.func 112) #[] #[]] w fun e w'=>e=.returned (.tuple #[])∧ah w' base g n c (bK L)∧w.grownBy w' (some g):=by
 have s:Eq (L.length=n):=hO.len;have HO:=az hO;clear hO;go_enter Tryz.func169,Tryz.ntmps169
 go_wp2;go_loopw [7,8] (fun va vb wr=>∃(a:Nat) (r:List ac),va=iT a∧vb=iT ((a+20:Nat):Int)∧a≤n∧r.length=a∧jA 20 L=r++jA 20 (L.drop a)∧ah wr base g n c (r++L.drop a)∧w.grownBy wr (some g)) (fun va _ _=>n - (intOf va).toNat)
 case atStart=>exact ⟨0,[],rfl,rfl,Gl _,rfl,by simp,by simpa using HO.o,⟨rfl,rfl,rfl,Gg _,fun _ _ _=>rfl⟩⟩
 case round =>
  obtain ⟨a,r,rfl,rfl,aC,hz,T,ao,av⟩:=hrel;have Z:Eq (r.length=a):=hz;have W:Eq (jA 20 L=r++jA 20 (L.drop a)):=T;have ad:Eq (ah wr base g n c (r++L.drop a)):=ao;have am:Eq (w.grownBy wr (some g)):=av;clear hz T ao av HO;obtain ⟨b,hb⟩:=aF (a+20);rw [← hb];by_cases K:b≤n
  · have af:(b:Int)≤(n:Int):=by omega
    have rb:IntKind.i64.wrap ((b:Int)+20)=((b+20:Nat):Int):=by rw [GN];omega
    have D:L.drop a=(L.drop a).take 20++L.drop b:=by rw [hb,← Ie,GK]
    have t:((L.drop a).take 20).length=20:=by have:=s.o;simp;omega
    have a1:Eq (ah wr base g n c (r++((L.drop a).take 20++L.drop b))):=by have:=ad.o;rw [D] at this;exact this
    have X:Eq (jA 20 L=(r++bK ((L.drop a).take 20))++jA 20 (L.drop b)):=by
     show jA 20 L=_
     rw [W.o,qZ (by omega) (L.drop a),Ie,← hb,GJ]
    have ak:Eq ((r++bK ((L.drop a).take 20)).length=b):=by show _=b;rw [Gj,eX,t,Z.o,hb]
    have R:Eq (b=r.length+((L.drop a).take 20).length):=by show b=_;rw [t,Z.o];exact hb
    have a8:Eq (a<b):=by show a<b;omega
    clear D t hb;go_wp2_with fail
    refine (yY base g n c r ((L.drop a).take 20) (L.drop b) a b _ a1.o Z.o.symm R.o hn).mono ?_;rintro e U ⟨rfl,Q,N⟩;have a2:Eq (ah U base g n c ((r++bK ((L.drop a).take 20))++L.drop b)):=by simpa [Eq] using Q
    have a3:Eq (w.grownBy U (some g)):=ae am.o N;clear Q N;go_wp2;go_roundw
    case rel=>exact ⟨b,_,rfl,rfl,K,ak.o,X.o,a2.o,a3.o⟩
    case measure=>have:=a8.o;simp [intOf];omega
  · have af:¬(b:Int)≤(n:Int):=by omega
    have a1:Eq (ah wr base g n c (r++(L.drop a++[]))):=by simpa [Eq] using ad.o
    have aG:Eq (n=r.length+(L.drop a).length):=by show n=_;have:=s.o;have:=Z.o;rw [Gy];omega
    have aD:Eq (jA 20 L=r++bK (L.drop a)):=by show jA 20 L=_;rw [W.o,ju (by have:=s.o;rw [Gy];omega)]
    clear hb;go_wp2_with fail
    refine (yY base g n c r (L.drop a) [] a n _ a1.o Z.o.symm aG.o hn).mono ?_;rintro e U ⟨rfl,Q,N⟩;have a2:Eq (ah U base g n c (jA 20 L)):=by rw [aD.o];simpa [Eq] using Q
    have a3:Eq (w.grownBy U (some g)):=ae am.o N;clear Q N ad am a1;go_wp2;go_loopw [6] (fun vb wq=>∃bs:Nat,vb=iT bs∧20≤bs∧bs≤2097152∧ah wq base g n c (jA bs L)∧w.grownBy wq (some g)) (fun vb _=>4194304 - (intOf vb).toNat)
    case atStart=>exact ⟨20,rfl,Gg _,by omega,a2.o,a3.o⟩
    case round =>
    rename World=>wo
    obtain ⟨bs,rfl,a5,J,aB,au⟩:=hrel;have a4:Eq (ah wo base g n c (jA bs L)):=aB;have aA:Eq (w.grownBy wo (some g)):=au;clear aB au a2 a3;by_cases an:bs<n
    · have ax:(bs:Int)<(n:Int):=by omega
      obtain ⟨d,hd⟩:=aF (2*bs);have r2:IntKind.i64.wrap (2*(bs:Int))=(d:Int):=by rw [GN];omega
      have aK:IntKind.i64.wrap ((bs:Int)*2)=(d:Int):=by rw [GN];omega
      have u:Eq (d=2*bs):=hd;have f:Eq (20≤bs):=a5;have F:Eq (bs<n):=an;clear hd a5 J an;go_wp2;go_loopw [7,8] (fun va vb wr=>∃(a:Nat) (r:List ac),va=iT a∧vb=iT ((a+d:Nat):Int)∧a≤n∧r.length=a∧jA d L=r++jA d (L.drop a)∧ah wr base g n c (r++jA bs (L.drop a))∧w.grownBy wr (some g)) (fun va _ _=>n - (intOf va).toNat)
      case atStart=>exact ⟨0,[],rfl,by rw [Gp],Gl _,rfl,by simp,by simpa using a4.o,aA.o⟩
      case round =>
      obtain ⟨a,r,rfl,rfl,aC,hz,T,aq,ap⟩:=hrel;have Z:Eq (r.length=a):=hz;have W:Eq (jA d L=r++jA d (L.drop a)):=T;have a0:Eq (ah wr base g n c (r++jA bs (L.drop a))):=aq;have a6:Eq (w.grownBy wr (some g)):=ap;clear hz T aq ap a4;obtain ⟨b,hb⟩:=aF (a+d);rw [← hb];obtain ⟨m,hm⟩:=aF (a+bs);have J:b=m+bs:=by have:=u.o;omega
      have rm:IntKind.i64.wrap ((a:Int)+(bs:Int))=(m:Int):=by have:=F.o;rw [GN];omega
      by_cases K:b≤n
      · have af:(b:Int)≤(n:Int):=by omega
        have rb:IntKind.i64.wrap ((b:Int)+(d:Int))=((b+d:Nat):Int):=by have:=F.o;have:=u.o;rw [GN];omega
        have t:((L.drop a).take bs).length=bs:=by have:=s.o;simp;omega
        have E:((L.drop m).take bs).length=bs:=by have:=s.o;simp;omega
        have D:jA bs (L.drop a)=bK ((L.drop a).take bs)++(bK ((L.drop m).take bs)++jA bs (L.drop b)):=by
         have h:=EA (show 1≤bs by have:=f.o;omega) (L.drop a);rw [Ie,Ie,← hm,← u.o,← hb] at h;exact h
        have aa:Eq (ah wr base g n c (r++(bK ((L.drop a).take bs)++(bK ((L.drop m).take bs)++jA bs (L.drop b))))):=by have:=a0.o;rw [D] at this;exact this
        have ag:Eq (fX (bK ((L.drop a).take bs)) (bK ((L.drop m).take bs))=bK ((L.drop a).take d)):=by
         show _=_
         have h:=Ee bs (L.drop a);rw [Ie,← hm,← u.o] at h;exact h
        have X:Eq (jA d L=(r++bK ((L.drop a).take d))++jA d (L.drop b)):=by
         show jA d L=_
         rw [W.o,qZ (by have:=f.o;have:=u.o;omega) (L.drop a),Ie,← hb,GJ]
        have ak:Eq ((r++bK ((L.drop a).take d)).length=b):=by
         show _=b
         have:=s.o;have:=Z.o;rw [Gj,eX,Gn,Gy];omega
        have a9:Eq (1≤(bK ((L.drop a).take bs)).length):=by show _≤_;rw [eX,t];have:=f.o;omega
        have ai:Eq (1≤(bK ((L.drop m).take bs)).length):=by show _≤_;rw [eX,E];have:=f.o;omega
        have al:Eq (m=a+(bK ((L.drop a).take bs)).length):=by show m=_;rw [eX,t];exact hm
        have R:Eq (b=m+(bK ((L.drop m).take bs)).length):=by show b=_;rw [eX,E];exact J
        have a8:Eq (a<b):=by show a<b;have:=f.o;omega
        have aw:Eq (b≤n):=K;clear D t E hb hm J K;go_wp2_with fail
        refine (uH base g n c hn _ r (bK ((L.drop a).take bs)) (bK ((L.drop m).take bs)) (jA bs (L.drop b)) a m b _ (Gg _) aa.o (fI _) (fI _) a9.o ai.o Z.o.symm al.o R.o).mono ?_;rintro e U ⟨rfl,I,O⟩;have Y:Eq (ah U base g n c ((r++bK ((L.drop a).take d))++jA bs (L.drop b))):=by show ah _ _ _ _ _ _;rw [← ag.o,GJ];exact I
        have a7:Eq (w.grownBy U (some g)):=ae a6.o O;clear I O;go_wp2;go_roundw
        case rel=>exact ⟨b,_,rfl,rfl,aw.o,ak.o,X.o,Y.o,a7.o⟩
        case measure=>have:=a8.o;have:=aw.o;simp [intOf];omega
      · have af:¬(b:Int)≤(n:Int):=by omega
        have ar:Eq (jA d L=r++bK (L.drop a)):=by show jA d L=_;rw [W.o,ju (by have:=s.o;rw [Gy];omega)]
        by_cases ay:m<n
        · have aE:(m:Int)<(n:Int):=by omega
          have t:((L.drop a).take bs).length=bs:=by have:=s.o;simp;omega
          have E:(L.drop m).length=n - m:=by have:=s.o;rw [Gy];omega
          have D:jA bs (L.drop a)=bK ((L.drop a).take bs)++(bK (L.drop m)++[]):=by
           rw [qZ (show 1≤bs by have:=f.o;omega) (L.drop a),Ie,← hm,ju (by rw [E];omega),Iq]
          have aa:Eq (ah wr base g n c (r++(bK ((L.drop a).take bs)++(bK (L.drop m)++[])))):=by have:=a0.o;rw [D] at this;exact this
          have ag:Eq (fX (bK ((L.drop a).take bs)) (bK (L.drop m))=bK (L.drop a)):=by
           show _=_
           have h:=zq bs (L.drop a);rw [Ie,← hm] at h;exact h
          have a9:Eq (1≤(bK ((L.drop a).take bs)).length):=by show _≤_;rw [eX,t];have:=f.o;omega
          have ai:Eq (1≤(bK (L.drop m)).length):=by show _≤_;rw [eX,E];omega
          have al:Eq (m=a+(bK ((L.drop a).take bs)).length):=by show m=_;rw [eX,t];exact hm
          have R:Eq (n=m+(bK (L.drop m)).length):=by show n=_;rw [eX,E];omega
          clear D t E hb hm J K ay;go_wp2_with fail
          refine (uH base g n c hn _ r (bK ((L.drop a).take bs)) (bK (L.drop m)) [] a m n _ (Gg _) aa.o (fI _) (fI _) a9.o ai.o Z.o.symm al.o R.o).mono ?_;rintro e U ⟨rfl,I,O⟩;have Y:Eq (ah U base g n c (jA d L)):=by show ah _ _ _ _ _ _;rw [ar.o,← ag.o];rw [Iq] at I;exact I
          have a7:Eq (w.grownBy U (some g)):=ae a6.o O;clear I O;go_wp2;go_roundw
          case rel=>exact ⟨d,rfl,by have:=u.o;have:=f.o;omega,by have:=u.o;have:=F.o;omega,Y.o,a7.o⟩
          case measure=>have:=u.o;have:=f.o;have:=F.o;simp [intOf];omega
        · have aE:¬(m:Int)<(n:Int):=by omega
          have Y:Eq (ah wr base g n c (jA d L)):=by
           show ah _ _ _ _ _ _
           have h:=a0.o;rw [ju (by have:=s.o;rw [Gy];omega),← ar.o] at h;exact h
          clear hb hm J K ay a0;go_wp2;go_roundw
          case rel=>exact ⟨d,rfl,by have:=u.o;have:=f.o;omega,by have:=u.o;have:=F.o;omega,Y.o,a6.o⟩
          case measure=>have:=u.o;have:=f.o;have:=F.o;simp [intOf];omega
    · have ax:¬(bs:Int)<(n:Int):=by omega
      have HD:Eq (ah wo base g n c (bK L)):=by have:=a4.o;rw [ju (by rw [s.o];omega)] at this;exact this
      clear a4;go_wp2;go_end0;exact ⟨rfl,HD.o,aA.o⟩
end
end Go.Proofs.YtpobkmjicbobdaaGreat
namespace Go.Proofs.YtpobkmjicbobdaaGreat
open Go.RowKit
set_option maxRecDepth 100000
set_option maxHeartbeats 1000000
attribute [local go_sem] Hc
theorem rY (c:fp) (w:World) (h:c.2.1.size≤281474976710656) :
 Calls Tryz.prog 113 #[iD c] w fun e w'=>e=.returned (iD c)∧Bl w w':=by
 obtain ⟨b,t,n⟩:=c;simp only at h;unfold iD;simp only;have s:Bl w ((w.alloc (.cells #[.bool b,.string t,iT n] 57)).alloc (.cells #[.bool false,.string ⟨#[]⟩,iT 0] 57)):=bZ.alloc (by simp) _;go_enter Tryz.func113,Tryz.ntmps113
 go_wp2_with fail
 refine (pD _ _ h).mono ?_;rintro e w1 ⟨rfl,g⟩;obtain ⟨d,f⟩:=wg g;have k1:Bl w w1:=s.trans (g.mono (by simp;omega));have o:w.heap.size+1<w1.heap.size:=by have:=g.size;simp at this;omega
 have x0:w1.cell? ⟨w.heap.size,0,none⟩=some (.bool b):=(d _ _ (by simp only [Gu];omega)).trans (by simp);have x1:w1.cell? ⟨w.heap.size,1,none⟩=some (.string t):=(d _ _ (by simp only [Gu];omega)).trans (by simp);have D:w1.cell? ⟨w.heap.size,2,none⟩=some (iT n):=(d _ _ (by simp only [Gu];omega)).trans (by simp);have f1:w1.frozen? ⟨w.heap.size,1,none⟩=false:=(f _ _ (by simp only [Gu];omega)).trans (by simp);have y0:w1.cell? ⟨w.heap.size+1,0,none⟩=some (.bool false):=(d _ _ (by simp only [Gu];omega)).trans (by simp);have y1:w1.cell? ⟨w.heap.size+1,1,none⟩=some (.string ⟨#[]⟩):=(d _ _ (by simp only [Gu];omega)).trans (by simp);have r:w1.cell? ⟨w.heap.size+1,2,none⟩=some (iT 0):=(d _ _ (by simp only [Gu];omega)).trans (by simp);have F:w1.frozen? ⟨w.heap.size+1,0,none⟩=false:=(f _ _ (by simp only [Gu];omega)).trans (by simp);have u:w1.frozen? ⟨w.heap.size+1,1,none⟩=false:=(f _ _ (by simp only [Gu];omega)).trans (by simp);have E:w1.frozen? ⟨w.heap.size+1,2,none⟩=false:=(f _ _ (by simp only [Gu];omega)).trans (by simp);go_wp2;refine bodyPost_ret (v:=.agg #[.bool b,.string t,iT n]) (by simp [results,Tryz.results113,go_sem,y0,y1,r]) rfl ⟨rfl,?_⟩;exact (((k1.setCell (p:=⟨w.heap.size,1,none⟩) (Gg _) _).setCell (p:=⟨w.heap.size+1,0,none⟩) (Nat.le_succ _) _).setCell (p:=⟨w.heap.size+1,1,none⟩) (Nat.le_succ _) _).setCell (p:=⟨w.heap.size+1,2,none⟩) (Nat.le_succ _) _
theorem yH {b:Bool} {t f:ByteArray} {n d o:Int} {L:Nat} (g:t.size≤L) (e:f.size≤L):(gV b t n d f o).2.1.size≤L:=by
 unfold gV;split
 · exact e
 · split
   · exact Gl _
   · split
     · exact g
     · exact g
end Go.Proofs.YtpobkmjicbobdaaGreat
namespace Go.Proofs.YtpobkmjicbobdaaGreat
open Go.RowKit
set_option maxRecDepth 100000
set_option maxHeartbeats 1000000
theorem Cx (b:Bool) (t k g:ByteArray) (n q d f:Int):∃T F:Nat,
 (∀w,Calls Tryz.prog 100 #[.agg #[.string k,iT q,iT d,.string g,iT f]] w fun e w'=>e=.returned (.iface T (.agg #[]))∧Bl w w') ∧
 (∀ w : World, (method 400 T (.agg #[]) "loop.example/comptoir/impl.do").run Tryz.prog w = .ok (F, .agg #[]) w) ∧
 (∀(args:Array Value) (w:World),(callFunc F args).run Tryz.prog w=.ok (.enter F args) w) ∧
 (∀w,Calls Tryz.prog F #[.agg #[],.agg #[.bool b,.string t,iT n],.agg #[.string k,iT q,iT d,.string g,iT f]] w fun e w'=>e=.returned (iD (gV b t n d g f))∧Bl w w'):=by
 by_cases s:d=1
 · subst s;exact ⟨176,311,fun w=>jR k g q f w,fun _=>by kernel_rfl,enters_of Tryz.func311 (by kernel_rfl) rfl,fun w=>by rw [ED];exact yD b t k g n q 1 f w⟩
 by_cases o:d=2
 · subst o;exact ⟨177,313,fun w=>jS k g q f w,fun _=>by kernel_rfl,enters_of Tryz.func313 (by kernel_rfl) rfl,fun w=>by rw [EC];exact yE b t k g n q 2 f w⟩
 by_cases r:d=3
 · subst r;exact ⟨178,315,fun w=>jT k g q f w,fun _=>by kernel_rfl,enters_of Tryz.func315 (by kernel_rfl) rfl,fun w=>by rw [EB];exact yF b t k g n q 3 f w⟩
 exact ⟨179,317,fun w=>lJ k g q d f w s o r,fun _=>by kernel_rfl,enters_of Tryz.func317 (by kernel_rfl) rfl,fun w=>by rw [EE s o r];exact A4 b t k g n q d f w⟩
end Go.Proofs.YtpobkmjicbobdaaGreat
