/- Walks. -/
import Derived.Test.YtpobkmjicbobdaaGreatBW38
namespace Go.Proofs.YtpobkmjicbobdaaGreat
set_option maxRecDepth 100000
set_option maxHeartbeats 40000000
open Go.RowKit
variable {A B:List ac} {C:Int} {H a m p:Nat} {x y:ac}
section
attribute [local go_sem] Ic
def iU (A B:List ac) (a m p k:Nat):Prop:=∃x y,A[k - a]?=some x∧B[p - k - m]?=some y∧y.2.1<x.2.1
theorem kV (h:Asc A) {i j:Nat} {x y:ac} (hi:A[i]?=some x) (b:A[j]?=some y) (d:i≤j):x.2.1≤y.2.1:=by
 obtain ⟨h1,h2⟩:=F'.1 hi;obtain ⟨h3,h4⟩:=F'.1 b;by_cases e:i=j
 · subst e;rw [h2] at h4;rw [h4];exact Int.le_refl _
 · have:=Hl.1 h i j h1 h3 (by omega);rw [h2,h4] at this;exact this
theorem DV {hi':Nat} (hA:Asc A) (hB:Asc B) (hC:(C<0→y.2.1<x.2.1)∧(y.2.1<x.2.1→C<0)) (d:C<0) (hx:A[H - a]?=some x∧a≤H∧hi'≤a+A.length) (hy:B[p - H - m]?=some y∧hi'+m≤p+1):∀k,H≤k→k<hi'→iU A B a m p k:=by
 intro k hk hh;obtain ⟨e,g,f⟩:=hx;obtain ⟨b,n⟩:=hy;have l1:=(F'.1 b).1;have e1:=j' (show k - a<A.length by omega);have e2:=j' (show p - k - m<B.length by omega);refine ⟨_,_,e1,e2,?_⟩;have h1:=kV hA e e1 (by omega);have h2:=kV hB e2 b (by omega);have:=hC.1 d;omega
theorem Ft {lo:Nat} (hA:Asc A) (hB:Asc B) (hC:(C<0→y.2.1<x.2.1)∧(y.2.1<x.2.1→C<0)) (b:¬C<0) {hi':Nat} (hx:A[H - a]?=some x∧a≤H∧hi'≤a+A.length) (hy:B[p - H - m]?=some y∧hi'+m≤p+1):∀k,lo≤k→k<H+1→¬iU A B a m p k:=by
 intro k hk hh hl;obtain ⟨e,d,e1,e2,h3⟩:=hl;have h1:=kV hA e1 hx.1 (by omega);have h2:=kV hB hy.1 e2 (by omega);exact b (hC.2 (by omega))
theorem Aj {b d s:Nat} (hA:Asc A) (hB:Asc B) (hm:m=a+A.length) (hb:b=m+B.length) (hp:p+1=d+m) (has:a≤s) (t:s≤m) (o:s≤d) (f:∀k,a≤k→d+m≤k+b→k<s→¬iU A B a m p k) (e:∀k,s≤k→k<m→k<d→iU A B a m p k) :
 f9 A B=f9 (A.take (s - a)) (B.take (d - s))++f9 (A.drop (s - a)) (B.drop (d - s)):=by
 have h:=gF (A.take (s - a)) (A.drop (s - a)) (B.take (d - s)) (B.drop (d - s)) ?_ ?_
 · rw [Hh,Hh] at h;exact h
 · intro x hx y hy g;obtain ⟨i,hi,rfl⟩:=IY.1 hx;obtain ⟨j,n,rfl⟩:=IY.1 hy;simp only [If,Ij] at g;simp at hi n;have r:a<s:=by omega
   have e1:=j' (show s - 1 - a<A.length by omega);have e2:=j' (show p - (s - 1) - m<B.length by omega);refine f (s - 1) (by omega) (by omega) (by omega) ⟨_,_,e1,e2,?_⟩;have h1:=kV hA (j' (show i<A.length by omega)) e1 (by omega);have h2:=kV hB e2 (j' (show d - s+j<B.length by omega)) (by omega);omega
 · intro y hy x hx;obtain ⟨j,n,rfl⟩:=IY.1 hy;obtain ⟨i,hi,rfl⟩:=IY.1 hx;simp only [If,Ij];simp at hi n;obtain ⟨D,u,e1,e2,h3⟩:=e s (GL _) (by omega) (by omega);have h1:=kV hA e1 (j' (show s - a+i<A.length by omega)) (by omega);have h2:=kV hB (j' (show j<B.length by omega)) e2 (by omega);omega
theorem xp (h:Asc A) (k:Nat):Asc (A.take k):=It (List.take_sublist k A) h
theorem xq (h:Asc A) (k:Nat):Asc (A.drop k):=It (Jo k A) h
theorem Ev (base g n c:Nat) (Z A B Y:List ac) (a m b:Nat) (w:World) (hO:ag w base g n c (Z++(A++(B++Y)))) (hA:Asc A) (hB:Asc B) (a3:2≤A.length) (a6:2≤B.length) (ha:a=Z.length) (hm:m=a+A.length) (hb:b=m+B.length) (hn:n≤1048576)
 (hrec:∀(Z' A' B' Y':List ac) (a' m' b':Nat) (w':World),A'.length+B'.length<A.length+B.length→ag w' base g n c (Z'++(A'++(B'++Y')))→Asc A'→Asc B'→1≤A'.length→1≤B'.length→a'=Z'.length→m'=a'+A'.length→b'=m'+B'.length →
  Calls Tryz.prog 214 #[sL g n c,iT a',iT m',iT b',.func (.func 112) #[] #[]] w' fun e au=>e=.returned (.tuple #[])∧ag au base g n c (Z'++(f9 A' B'++Y'))∧w'.grownBy au (some g)) :
 Calls Tryz.prog 214 #[sL g n c,iT a,iT m,iT b,.func (.func 112) #[] #[]] w fun e w'=>e=.returned (.tuple #[])∧ag w' base g n c (Z++(f9 A B++Y))∧w.grownBy w' (some g):=by
 have aH:Eq (∀(Z' A' B' Y':List ac) (a' m' b':Nat) (w':World),A'.length+B'.length<A.length+B.length→ag w' base g n c (Z'++(A'++(B'++Y')))→Asc A'→Asc B'→1≤A'.length→1≤B'.length→a'=Z'.length→m'=a'+A'.length→b'=m'+B'.length →
  Calls Tryz.prog 214 #[sL g n c,iT a',iT m',iT b',.func (.func 112) #[] #[]] w' fun e au=>e=.returned (.tuple #[])∧ag au base g n c (Z'++(f9 A' B'++Y'))∧w'.grownBy au (some g)):=hrec
 have ai:=az hA;have av:=az hB;have hl:=hO.len;simp only [GO] at hl;have bS:=hO.entsAt.big;have ct:=hO.entsAt.room;unfold maxLen at bS;have HZ:=az ha;have HM:=az hm;have HB:=az hb;have bJ:=az a3;have bH:=az a6;have HO:=az hO;have cu:b≤n:=by omega
 have cs:m+2≤b:=by omega
 have cj:a+2≤m:=by omega
 obtain ⟨ka,bA⟩:=aG A.length;obtain ⟨kb,bz⟩:=aG B.length;have bV:IntKind.i64.wrap ((m:Int) - (a:Int))=(ka:Int):=by rw [Hg];omega
 have bT:((ka:Int) == 1)=false:=by simp;omega
 have bU:IntKind.i64.wrap ((b:Int) - (m:Int))=(kb:Int):=by rw [Hg];omega
 have bD:((kb:Int) == 1)=false:=by simp;omega
 obtain ⟨mid,b8⟩:=aG ((a+b) / 2);have eM:((a:Int)+(b:Int)) / 2=(mid:Int):=by omega
 have bX:a+2≤mid:=by omega
 have bW:mid+2≤b:=by omega
 have c2:IntKind.i64.wrap ((a:Int)+(b:Int))=(a:Int)+(b:Int):=by rw [Hg];omega
 obtain ⟨N,hN⟩:=aG (mid+m);have rN:IntKind.i64.wrap ((mid:Int)+(m:Int))=(N:Int):=by rw [Hg];omega
 obtain ⟨p,hp⟩:=aG (N - 1);have rp:IntKind.i64.wrap ((N:Int) - 1)=(p:Int):=by rw [Hg];omega
 obtain ⟨X,a0⟩:=aG (if mid<m then N - b else a);obtain ⟨hi',al⟩:=aG (if mid<m then mid else m);have bm:mid<m→IntKind.i64.wrap ((N:Int) - (b:Int))=(X:Int):=fun h=>by rw [Hg,a0,if_pos h];omega
 have aE:Eq (N=mid+m∧p+1=N):=by show N=mid+m∧p+1=N;omega
 have aQ:Eq (a≤X∧N≤X+b∧X≤hi'∧hi'≤m∧hi'≤mid):=by
  show a≤X∧N≤X+b∧X≤hi'∧hi'≤m∧hi'≤mid
  rw [a0,al];split <;> omega
 have c0:Eq (hi'=m∨hi'=mid):=by show hi'=m∨hi'=mid;rw [al];split <;> omega
 have bM:Eq (X=a∨X+b=N):=by show X=a∨X+b=N;rw [a0];split <;> omega
 have ba:Eq (mid<m→X+b=N∧hi'=mid):=fun h=>by rw [a0,al,if_pos h,if_pos h];omega
 have be:Eq (¬mid<m→X=a∧hi'=m):=fun h=>by rw [a0,al,if_neg h,if_neg h];exact ⟨rfl,rfl⟩
 clear hO hA hB ha hb hl hm a3 a6 bA bz b8 hN hp a0 al hrec;go_enter Tryz.func214,Tryz.ntmps214
 go_upto_if 140 with fail
 clear bV bU bT bD eM c2 rN;go_cut [20,21] (fun ap bZ wx=>ap=iT X∧bZ=iT hi'∧w=wx)
 case first =>
  as_aux_lemma =>
   by_cases aW:mid<m
   · have b5:(mid:Int)<(m:Int):=by omega
     have hr:=bm aW;have HE:=ba.o aW;have ax:Eq (hi'=mid):=HE.2;clear HE;go_wp2;go_meet
     exact ⟨rfl,by rw [ax.o],rfl⟩
   · have b5:¬(mid:Int)<(m:Int):=by omega
     have HE:=be.o aW;have ax:Eq (X=a∧hi'=m):=HE;clear HE;go_wp2;go_meet
     exact ⟨by rw [ax.o.1],by rw [ax.o.2],rfl⟩
 case rest =>
 obtain ⟨rfl,rfl,bO⟩:=hcut;subst bO;clear bm ba be;go_wp2;clear rp;go_loopw [20,21] (fun sv rv wr=>∃S Rr:Nat,sv=iT S∧rv=iT Rr∧X≤S∧S≤Rr∧Rr≤hi'∧ag wr base g n c (Z++(A++(B++Y)))∧w.grownBy wr (some g)∧(∀k,X≤k→k<S→¬iU A B a m p k)∧(∀k,Rr≤k→k<hi'→iU A B a m p k)) (fun sv rv _=>(intOf rv).toNat - (intOf sv).toNat)
 case atStart=>exact ⟨X,hi',rfl,rfl,GL _,aQ.o.2.2.1,GL _,HO.o,⟨rfl,rfl,rfl,GL _,fun _ _ _=>rfl⟩,(fun k h1 h2=>absurd h2 (by omega)),(fun k h1 h2=>absurd h2 (by omega))⟩
 case round =>
  obtain ⟨S,Rr,rfl,rfl,bF,cn,bE,bk,bp,h1,h2⟩:=hrel;have ay:Eq (ag wr base g n c (Z++(A++(B++Y)))):=bk;have a2:Eq (w.grownBy wr (some g)):=bp;have H1:Eq (∀k,X≤k→k<S→¬iU A B a m p k):=h1;have H2:Eq (∀k,Rr≤k→k<hi'→iU A B a m p k):=h2;clear bk bp h1 h2 HO;by_cases ci:S<Rr
  · have br:(S:Int)<(Rr:Int):=by omega
    obtain ⟨H,hH⟩:=aG ((S+Rr) / 2);have cl:S≤H:=by omega
    have cm:H<Rr:=by omega
    have eH:((S:Int)+(Rr:Int)) / 2=(H:Int):=by omega
    obtain ⟨hN1,hN2⟩:=aE.o;obtain ⟨aO,aT,aL,aI,aP⟩:=aQ.o;have aC:=HM.o;have aD:=HB.o;have aB:=HZ.o;obtain ⟨Q,hQ⟩:=aG (p - H);have rQ:IntKind.i64.wrap ((p:Int) - (H:Int))=(Q:Int):=by rw [Hg];omega
    obtain ⟨x,hx⟩:∃x,A[H - a]?=some x:=⟨_,j' (by omega)⟩;obtain ⟨y,hy⟩:∃y,B[p - H - m]?=some y:=⟨_,j' (by omega)⟩;have bb:Eq (A[H - a]?=some x∧a≤H∧hi'≤a+A.length):=⟨hx,by omega,by omega⟩;have bf:Eq (B[p - H - m]?=some y∧hi'+m≤p+1):=⟨hy,by omega⟩;have b3:(Z++(A++(B++Y)))[H]?=some x:=by
     rw [GR (by omega),GW (by omega),← aB];exact hx
    have b0:(Z++(A++(B++Y)))[Q]?=some y:=by
     rw [GR (by omega),GR (by omega),GW (by omega),show Q - Z.length - A.length=p - H - m by omega];exact hy
    obtain ⟨C,hC⟩:=aG (Lib.compareInt y.2.1 x.2.1);have HC:Eq ((C<0→y.2.1<x.2.1)∧(y.2.1<x.2.1→C<0)):=by rw [hC];exact ⟨(oU _ _).1,(oU _ _).2⟩
    have bo:∀w,Calls Tryz.prog 112 #[.agg #[.string y.1,iT y.2.1,iT y.2.2.1,.string y.2.2.2.1,iT y.2.2.2.2],.agg #[.string x.1,iT x.2.1,iT x.2.2.1,.string x.2.2.2.1,iT x.2.2.2.2]] w fun e w'=>e=.returned (iT C)∧Bl w w':=by rw [hC];exact fun w=>qV y.1 y.2.2.2.1 x.1 x.2.2.2.1 y.2.1 y.2.2.1 y.2.2.2.2 x.2.1 x.2.2.1 x.2.2.2.2 w
    obtain ⟨s,q,d,t,nn⟩:=y;obtain ⟨s',q',d',t',bi⟩:=x;have HX:Eq ((Z++(A++(B++Y)))[Q]?=some (s,q,d,t,nn)):=b0;have HY:Eq ((Z++(A++(B++Y)))[H]?=some (s',q',d',t',bi)):=b3;have CQ:Eq (∀w,Calls Tryz.prog 112 #[.agg #[.string s,iT q,iT d,.string t,iT nn],.agg #[.string s',iT q',iT d',.string t',iT bi]] w fun e w'=>e=.returned (iT C)∧Bl w w'):=bo;have cq:(H:Int)<(n:Int):=by omega
    have cg:(Q:Int)<(n:Int):=by omega
    have F:ag wr.drew base g n c (Z++(A++(B++Y))):=ay.o.below (Below.refl _ _).drew;have gd:w.grownBy wr.drew (some g):=ae a2.o (fN _ _);clear hH hx hy b3 b0 hC bo ay a2 hN1 hN2 aC aD aB hQ aO aT aL aI aP;by_cases aA:C<0
    · have bR:decide (C<0)=true:=decide_eq_true aA;have bB:Eq (∀k,H≤k→k<hi'→iU A B a m p k):=DV ai.o av.o HC.o aA bb.o bf.o;go_wp2_with fail
      as_aux_lemma =>
       refine wp_region_held_drew (S:=(fun w'=>g<w'.heap.size)) (by kernel_rfl) (by exact F.lt.2) (fun aa=>?_);generalize wr.drew=wd at F gd aa ⊢;refine aR 0 6 aa ?_;refine aR 7 3 aa ?_;refine mK 6 10 (fun K hK=>?_) fun K hK=>?_
       focus
        obtain ⟨O,I,J,T,L⟩:=F.at5 HX.o
        have W:=F.lt.2
        go_simp
        clear O I J T L W
        refine hK.o _ _ (by exact F.lt.2) fun aa=>?_
        (try go_frame)
        refine aV 10 fun K hK=>?_
        obtain ⟨O,I,J,T,L⟩:=F.at5 HY.o
       rotate_left
       focus
        obtain ⟨O,I,J,T,L⟩:=F.at5 HY.o
        have W:=F.lt.2
        go_simp
        clear O I J T L W
        refine hK.o _ _ (by exact F.lt.2) fun aa=>?_
        (try go_frame)
        refine aV 6 fun K hK=>?_
        obtain ⟨O,I,J,T,L⟩:=F.at5 HX.o
       all_goals
        have W:=F.lt.2
        go_simp
        clear O I J T L W
        refine hK.o _ _ (by exact F.lt.2) fun aa=>?_
        (try go_frame)
        refine aV 11 fun K hK=>?_
        go_simp
        refine (CQ.o _).mono ?_
        rintro e w1 ⟨rfl,b1⟩
        have k1:=F.below b1
        have gw:w.grownBy w1 (some g):=ae gd (fZ b1)
        go_wp2_with fail
        refine hK.o _ _ (by exact k1.lt.2) fun aa=>?_
        (try go_frame)
        refine aR 12 2 aa ?_
        refine dN ?_
        have aK:Eq (ag w1 base g n c (Z++(A++(B++Y)))):=k1
        have a2:Eq (w.grownBy w1 (some g)):=gw
        clear F gd k1 gw aa b1
        go_wp2
        go_roundw
        case rel=>exact ⟨S,H,rfl,rfl,bF,by omega,by omega,aK.o,a2.o,H1.o,bB.o⟩
        case measure=>simp [intOf];omega
    · have bR:decide (C<0)=false:=decide_eq_false aA;have bC:Eq (∀k,X≤k→k<H+1→¬iU A B a m p k):=Ft ai.o av.o HC.o aA bb.o bf.o;go_wp2_with fail
      as_aux_lemma =>
       refine wp_region_held_drew (S:=(fun w'=>g<w'.heap.size)) (by kernel_rfl) (by exact F.lt.2) (fun aa=>?_);generalize wr.drew=wd at F gd aa ⊢;refine aR 0 6 aa ?_;refine aR 7 3 aa ?_;refine mK 6 10 (fun K hK=>?_) fun K hK=>?_
       focus
        obtain ⟨O,I,J,T,L⟩:=F.at5 HX.o
        have W:=F.lt.2
        go_simp
        clear O I J T L W
        refine hK.o _ _ (by exact F.lt.2) fun aa=>?_
        (try go_frame)
        refine aV 10 fun K hK=>?_
        obtain ⟨O,I,J,T,L⟩:=F.at5 HY.o
       rotate_left
       focus
        obtain ⟨O,I,J,T,L⟩:=F.at5 HY.o
        have W:=F.lt.2
        go_simp
        clear O I J T L W
        refine hK.o _ _ (by exact F.lt.2) fun aa=>?_
        (try go_frame)
        refine aV 6 fun K hK=>?_
        obtain ⟨O,I,J,T,L⟩:=F.at5 HX.o
       all_goals
        have W:=F.lt.2
        go_simp
        clear O I J T L W
        refine hK.o _ _ (by exact F.lt.2) fun aa=>?_
        (try go_frame)
        refine aV 11 fun K hK=>?_
        go_simp
        refine (CQ.o _).mono ?_
        rintro e w1 ⟨rfl,b1⟩
        have k1:=F.below b1
        have gw:w.grownBy w1 (some g):=ae gd (fZ b1)
        go_wp2_with fail
        refine hK.o _ _ (by exact k1.lt.2) fun aa=>?_
        (try go_frame)
        refine aR 12 2 aa ?_
        refine dN ?_
        have aK:Eq (ag w1 base g n c (Z++(A++(B++Y)))):=k1
        have a2:Eq (w.grownBy w1 (some g)):=gw
        clear F gd k1 gw aa b1
        go_wp2
        go_roundw
        case rel=>exact ⟨H+1,Rr,by go_num,rfl,by omega,by omega,bE,aK.o,a2.o,bC.o,H2.o⟩
        case measure=>simp [intOf];omega
  · have br:¬(S:Int)<(Rr:Int):=by omega
    have bd:S=Rr:=by omega
    subst bd;obtain ⟨hN1,hN2⟩:=aE.o;obtain ⟨aO,aT,aL,aI,aP⟩:=aQ.o;have aC:=HM.o;have aD:=HB.o;have aB:=HZ.o;have bl:=bJ.o;have bq:=bH.o;have aw:Eq (f9 A B=f9 (A.take (S - a)) (B.take (mid - S))++f9 (A.drop (S - a)) (B.drop (mid - S))):=Aj (p:=p) ai.o av.o aC aD (by omega) (by omega) (by omega) (by omega)
     (fun k h1 h2 h3=>H1.o k (by rcases bM.o with h | h <;> omega) h3) (fun k h1 h2 h3=>H2.o k h1 (by rcases c0.o with h | h <;> omega))
    obtain ⟨r,ao⟩:=aG (A.take (S - a));obtain ⟨D,a3⟩:=aG (A.drop (S - a));obtain ⟨u,aj⟩:=aG (B.take (mid - S));obtain ⟨U,a6⟩:=aG (B.drop (mid - S));rw [← ao,← a3,← aj,← a6] at aw;have bv:Eq (Asc r):=by rw [ao];exact xp ai.o _
    have bc:Eq (Asc D):=by rw [a3];exact xq ai.o _
    have bP:Eq (Asc u):=by rw [aj];exact xp av.o _
    have b2:Eq (Asc U):=by rw [a6];exact xq av.o _
    have ab:Eq (r.length=S - a∧D.length=m - S∧u.length=mid - S∧U.length=b - (N - S)):=by
     show r.length=S - a∧D.length=m - S∧u.length=mid - S∧U.length=b - (N - S)
     rw [ao,a3,aj,a6,GS,G7,GS,G7];omega
    have bh:Eq (r.length+u.length<A.length+B.length∧D.length+U.length<A.length+B.length):=by
     show r.length+u.length<A.length+B.length∧D.length+U.length<A.length+B.length
     have:=ab.o;omega
    have HD:Eq (ag wr base g n c (Z++(r++(D++(u++(U++Y)))))):=by
     have:=ay.o;rw [show A=r++D by rw [ao,a3,Hh],show B=u++U by rw [aj,a6,Hh]] at this;simpa [Eq] using this
    obtain ⟨E,hE⟩:=aG (N - S);have rE:IntKind.i64.wrap ((N:Int) - (S:Int))=(E:Int):=by rw [Hg];omega
    have R:Eq (E=mid+m - S∧a≤S∧S≤m∧S≤mid∧E≤b∧m≤E):=by show E=mid+m - S∧a≤S∧S≤m∧S≤mid∧E≤b∧m≤E;omega
    clear ao a3 aj a6 ay hN1 hN2 aO aT aL aI aP aC aD aB bl bq hE H1 H2;go_upto_region 39 with fail
    clear rE;go_cut [185] (fun v wx=>v=.bool (decide (S<m) && decide (m<E))∧wr=wx)
    case first =>
     as_aux_lemma =>
      by_cases a7:S<m
      · have a8:(S:Int)<(m:Int):=by omega
        by_cases a4:m<E
        · have a5:(m:Int)<(E:Int):=by omega
          go_wp2;go_meet
          exact ⟨by simp [a7,a4],rfl⟩
        · have a5:¬(m:Int)<(E:Int):=by omega
          go_wp2;go_meet
          exact ⟨by simp [a4],rfl⟩
      · have a8:¬(S:Int)<(m:Int):=by omega
        go_wp2;go_meet
        exact ⟨by simp [a7],rfl⟩
    case rest =>
    obtain ⟨rfl,bx⟩:=hcut;subst bx;go_upto_if 185 with fail
    go_cut [20] (fun ap wx=>ap=iT S∧ag wx base g n c (Z++(r++(u++(D++(U++Y)))))∧w.grownBy wx (some g))
    case first =>
     as_aux_lemma =>
      by_cases hs:S<m∧m<E
      · have hd:(decide (S<m) && decide (m<E))=true:=by simp [hs.1,hs.2]
        have bI:Eq (ag wr base g n c ((Z++r)++(D++(u++(U++Y))))):=by simpa [Eq] using HD.o
        have f:Eq (S=(Z++r).length∧m=(Z++r).length+D.length∧E=(Z++r).length+D.length+u.length∧1≤D.length∧1≤u.length):=by
         show S=(Z++r).length∧m=(Z++r).length+D.length∧E=(Z++r).length+D.length+u.length∧1≤D.length∧1≤u.length
         have:=ab.o;have:=R.o;have:=HZ.o;rw [GO];omega
        clear hs;rw [hd];clear hd;go_wp2_with fail
        refine (FB base g n c (Z++r) D u (U++Y) S m E _ _ bI.o f.o.1 f.o.2.1 f.o.2.2.1 f.o.2.2.2.1 f.o.2.2.2.2 hn).mono ?_;rintro e w1 ⟨rfl,ak,am⟩;have aN:Eq (ag w1 base g n c (Z++(r++(u++(D++(U++Y)))))):=by simpa [Eq] using ak
        have aq:Eq (w.grownBy w1 (some g)):=ae a2.o am;clear ak am;go_wp2;go_meet
        exact ⟨rfl,aN.o,aq.o⟩
      · have hd:(decide (S<m) && decide (m<E))=false:=by
         cases h:(decide (S<m) && decide (m<E)) with
         | false=>rfl
         | true=>simp at h;exact absurd h hs
        have aN:Eq (ag wr base g n c (Z++(r++(u++(D++(U++Y)))))):=by
         have h0:D=[]∨u=[]:=by
          have:=ab.o;have:=R.o;by_cases h1:S<m
          · right;exact Hy.1 (by omega)
          · left;exact Hy.1 (by omega)
         have:=HD.o;rcases h0 with h0 | h0
         · rw [h0] at this ⊢;simpa [Eq] using this
         · rw [h0] at this ⊢;simpa [Eq] using this
        clear hs;rw [hd];clear hd;go_wp2;go_meet
        exact ⟨rfl,aN.o,a2.o⟩
    case rest =>
    rename World=>wA
    obtain ⟨rfl,ak,am⟩:=hcut;have aJ:Eq (ag wA base g n c (Z++(r++(u++(D++(U++Y)))))):=ak;have aq:Eq (w.grownBy wA (some g)):=am;clear ak am HD a2;go_upto_region 41 with fail
    go_cut [199] (fun v wx=>v=.bool (decide (a<S) && decide (S<mid))∧wA=wx)
    case first =>
     as_aux_lemma =>
      by_cases a7:a<S
      · have a8:(a:Int)<(S:Int):=by omega
        by_cases a4:S<mid
        · have a5:(S:Int)<(mid:Int):=by omega
          go_wp2;go_meet
          exact ⟨by simp [a7,a4],rfl⟩
        · have a5:¬(S:Int)<(mid:Int):=by omega
          go_wp2;go_meet
          exact ⟨by simp [a4],rfl⟩
      · have a8:¬(a:Int)<(S:Int):=by omega
        go_wp2;go_meet
        exact ⟨by simp [a7],rfl⟩
    case rest =>
    obtain ⟨rfl,bu⟩:=hcut;subst bu;go_upto_if 199 with fail
    go_cut [20] (fun ap wx=>ap=iT S∧ag wx base g n c (Z++(f9 r u++(D++(U++Y))))∧w.grownBy wx (some g))
    case first =>
     as_aux_lemma =>
      by_cases hs:a<S∧S<mid
      · have hd:(decide (a<S) && decide (S<mid))=true:=by simp [hs.1,hs.2]
        have f:Eq (1≤r.length∧1≤u.length∧S=a+r.length∧mid=S+u.length):=by
         show 1≤r.length∧1≤u.length∧S=a+r.length∧mid=S+u.length
         have:=ab.o;have:=R.o;omega
        clear hs;rw [hd];clear hd;go_wp2_with fail
        refine (aH.o Z r u (D++(U++Y)) a S mid _ bh.o.1 aJ.o bv.o bP.o f.o.1 f.o.2.1 HZ.o f.o.2.2.1 f.o.2.2.2).mono ?_;rintro e w1 ⟨rfl,ar,an⟩;have aX:Eq (ag w1 base g n c (Z++(f9 r u++(D++(U++Y))))):=ar;have aF:Eq (w.grownBy w1 (some g)):=ae aq.o an;clear ar an;go_wp2;go_meet
        exact ⟨rfl,aX.o,aF.o⟩
      · have hd:(decide (a<S) && decide (S<mid))=false:=by
         cases h:(decide (a<S) && decide (S<mid)) with
         | false=>rfl
         | true=>simp at h;exact absurd h hs
        have aX:Eq (ag wA base g n c (Z++(f9 r u++(D++(U++Y))))):=by
         have h0:r=[]∨u=[]:=by
          have:=ab.o;have:=R.o;by_cases h1:a<S
          · right;exact Hy.1 (by omega)
          · left;exact Hy.1 (by omega)
         have:=aJ.o;rcases h0 with h0 | h0
         · rw [h0] at this ⊢;rw [fp];simpa [Eq] using this
         · rw [h0] at this ⊢;rw [ep];simpa [Eq] using this
        clear hs;rw [hd];clear hd;go_wp2;go_meet
        exact ⟨rfl,aX.o,aq.o⟩
    case rest =>
    rename World=>wB
    obtain ⟨rfl,ar,an⟩:=hcut;have b9:Eq (ag wB base g n c ((Z++f9 r u)++(D++(U++Y)))):=by simpa [Eq] using ar
    have aF:Eq (w.grownBy wB (some g)):=an;clear ar an aJ aq;go_upto_region 43 with fail
    go_cut [213] (fun v wx=>v=.bool (decide (mid<E) && decide (E<b))∧wB=wx)
    case first =>
     as_aux_lemma =>
      by_cases a7:mid<E
      · have a8:(mid:Int)<(E:Int):=by omega
        by_cases a4:E<b
        · have a5:(E:Int)<(b:Int):=by omega
          go_wp2;go_meet
          exact ⟨by simp [a7,a4],rfl⟩
        · have a5:¬(E:Int)<(b:Int):=by omega
          go_wp2;go_meet
          exact ⟨by simp [a4],rfl⟩
      · have a8:¬(mid:Int)<(E:Int):=by omega
        go_wp2;go_meet
        exact ⟨by simp [a7],rfl⟩
    case rest =>
    obtain ⟨rfl,bN⟩:=hcut;subst bN;go_upto_if 213 with fail
    by_cases hs:mid<E∧E<b
    · have hd:(decide (mid<E) && decide (E<b))=true:=by simp [hs.1,hs.2]
      have f:Eq (1≤D.length∧1≤U.length∧mid=(Z++f9 r u).length∧E=mid+D.length∧b=E+U.length):=by
       show 1≤D.length∧1≤U.length∧mid=(Z++f9 r u).length∧E=mid+D.length∧b=E+U.length
       have:=ab.o;have:=R.o;have:=HZ.o;have:=aE.o;rw [GO,uA];omega
      clear hs;rw [hd];clear hd;go_wp2_with fail
      refine (aH.o (Z++f9 r u) D U Y mid E b _ bh.o.2 b9.o bc.o b2.o f.o.1 f.o.2.1 f.o.2.2.1 f.o.2.2.2.1 f.o.2.2.2.2).mono ?_;rintro e w1 ⟨rfl,bj,bn⟩;have aS:Eq (ag w1 base g n c (Z++(f9 A B++Y))):=by rw [aw.o];simpa [Eq] using bj
      have bK:Eq (w.grownBy w1 (some g)):=ae aF.o bn;clear bj bn;go_wp2;go_end0;exact ⟨rfl,aS.o,bK.o⟩
    · have hd:(decide (mid<E) && decide (E<b))=false:=by
       cases h:(decide (mid<E) && decide (E<b)) with
       | false=>rfl
       | true=>simp at h;exact absurd h hs
      have aS:Eq (ag wB base g n c (Z++(f9 A B++Y))):=by
       have h0:D=[]∨U=[]:=by
        have:=ab.o;have:=R.o;have:=aE.o;by_cases h1:mid<E
        · right;exact Hy.1 (by omega)
        · left;exact Hy.1 (by omega)
       have:=b9.o;rw [aw.o];rcases h0 with h0 | h0
       · rw [h0] at this ⊢;rw [fp];simpa [Eq] using this
       · rw [h0] at this ⊢;rw [ep];simpa [Eq] using this
      clear hs;rw [hd];clear hd;go_wp2;go_end0;exact ⟨rfl,aS.o,aF.o⟩
theorem vm (base g n c:Nat) (hn:n≤1048576):∀(N:Nat) (Z A B Y:List ac) (a m b:Nat) (w:World),A.length+B.length≤N→ag w base g n c (Z++(A++(B++Y)))→Asc A→Asc B→1≤A.length→1≤B.length→a=Z.length→m=a+A.length→b=m+B.length →
 Calls Tryz.prog 214 #[sL g n c,iT a,iT m,iT b,.func (.func 112) #[] #[]] w fun e w'=>e=.returned (.tuple #[])∧ag w' base g n c (Z++(f9 A B++Y))∧w.grownBy w' (some g):=by
 intro N;induction N with
 | zero=>intro Z A B Y a m b w h _ _ _ hA _;omega
 | succ N J =>
  intro Z A B Y a m b w h hO hA hB u t ha hm hb;by_cases h1:A.length=1
  · obtain ⟨x,rfl⟩:=List.length_eq_one_iff.1 h1;exact Eu base g n c Z B Y x a m b w (by simpa using hO) hB ha (by simpa using hm) hb hn
  by_cases h2:B.length=1
  · obtain ⟨y,rfl⟩:=List.length_eq_one_iff.1 h2;exact Et base g n c Z A Y y a m b w (by simpa using hO) hA (by omega) ha hm (by simpa using hb) hn
  exact Ev base g n c Z A B Y a m b w hO hA hB (by omega) (by omega) ha hm hb hn (fun s E r F D I b' w' hl o f d l1 l2 e1 e2 e3=>J s E r F D I b' w' (by omega) o f d l1 l2 e1 e2 e3)
end
section
attribute [local go_sem] Ic
theorem E4 {b:Nat} (hb:1≤b) (R:List ac):jU b R=bH (R.take b)++(bH ((R.drop b).take b)++jU b (R.drop (2*b))):=by
 rw [rZ hb R,rZ hb (R.drop b),IG,show b+b=2*b by omega]
theorem EG (b:Nat) (R:List ac):f9 (bH (R.take b)) (bH ((R.drop b).take b))=bH (R.take (2*b)):=by
 have h:=zT b (R.take (2*b));rw [List.take_take,List.drop_take,Nat.min_eq_left (by omega),show 2*b - b=b by omega] at h;exact h
theorem Al (base g n c:Nat) (L:List ac) (w:World) (hO:ag w base g n c L) (hn:n≤1048576) :
 Calls Tryz.prog 169 #[sL g n c,iT n,.func (.func 112) #[] #[]] w fun e w'=>e=.returned (.tuple #[])∧ag w' base g n c (bH L)∧w.grownBy w' (some g):=by
 have s:Eq (L.length=n):=hO.len;have HO:=az hO;clear hO;go_enter Tryz.func169,Tryz.ntmps169
 go_wp2;go_loopw [7,8] (fun va vb wr=>∃(a:Nat) (r:List ac),va=iT a∧vb=iT ((a+20:Nat):Int)∧a≤n∧r.length=a∧jU 20 L=r++jU 20 (L.drop a)∧ag wr base g n c (r++L.drop a)∧w.grownBy wr (some g)) (fun va _ _=>n - (intOf va).toNat)
 case atStart=>exact ⟨0,[],rfl,rfl,GQ _,rfl,by simp,by simpa using HO.o,⟨rfl,rfl,rfl,GL _,fun _ _ _=>rfl⟩⟩
 case round =>
  obtain ⟨a,r,rfl,rfl,aC,hz,T,ao,av⟩:=hrel;have Z:Eq (r.length=a):=hz;have W:Eq (jU 20 L=r++jU 20 (L.drop a)):=T;have ad:Eq (ag wr base g n c (r++L.drop a)):=ao;have am:Eq (w.grownBy wr (some g)):=av;clear hz T ao av HO;obtain ⟨b,hb⟩:=aG (a+20);rw [← hb];by_cases K:b≤n
  · have af:(b:Int)≤(n:Int):=by omega
    have rb:IntKind.i64.wrap ((b:Int)+20)=((b+20:Nat):Int):=by rw [Hg];omega
    have D:L.drop a=(L.drop a).take 20++L.drop b:=by rw [hb,← IG,Hh]
    have t:((L.drop a).take 20).length=20:=by have:=s.o;simp;omega
    have a1:Eq (ag wr base g n c (r++((L.drop a).take 20++L.drop b))):=by have:=ad.o;rw [D] at this;exact this
    have X:Eq (jU 20 L=(r++bH ((L.drop a).take 20))++jU 20 (L.drop b)):=by
     show jU 20 L=_
     rw [W.o,rZ (by omega) (L.drop a),IG,← hb,Hd]
    have ak:Eq ((r++bH ((L.drop a).take 20)).length=b):=by show _=b;rw [GO,fg,t,Z.o,hb]
    have R:Eq (b=r.length+((L.drop a).take 20).length):=by show b=_;rw [t,Z.o];exact hb
    have a8:Eq (a<b):=by show a<b;omega
    clear D t hb;go_wp2_with fail
    refine (zH base g n c r ((L.drop a).take 20) (L.drop b) a b _ a1.o Z.o.symm R.o hn).mono ?_;rintro e U ⟨rfl,Q,N⟩;have a2:Eq (ag U base g n c ((r++bH ((L.drop a).take 20))++L.drop b)):=by simpa [Eq] using Q
    have a3:Eq (w.grownBy U (some g)):=ae am.o N;clear Q N;go_wp2;go_roundw
    case rel=>exact ⟨b,_,rfl,rfl,K,ak.o,X.o,a2.o,a3.o⟩
    case measure=>have:=a8.o;simp [intOf];omega
  · have af:¬(b:Int)≤(n:Int):=by omega
    have a1:Eq (ag wr base g n c (r++(L.drop a++[]))):=by simpa [Eq] using ad.o
    have aF:Eq (n=r.length+(L.drop a).length):=by show n=_;have:=s.o;have:=Z.o;rw [G7];omega
    have aD:Eq (jU 20 L=r++bH (L.drop a)):=by show jU 20 L=_;rw [W.o,jN (by have:=s.o;rw [G7];omega)]
    clear hb;go_wp2_with fail
    refine (zH base g n c r (L.drop a) [] a n _ a1.o Z.o.symm aF.o hn).mono ?_;rintro e U ⟨rfl,Q,N⟩;have a2:Eq (ag U base g n c (jU 20 L)):=by rw [aD.o];simpa [Eq] using Q
    have a3:Eq (w.grownBy U (some g)):=ae am.o N;clear Q N ad am a1;go_wp2;go_loopw [6] (fun vb wq=>∃bs:Nat,vb=iT bs∧20≤bs∧bs≤2097152∧ag wq base g n c (jU bs L)∧w.grownBy wq (some g)) (fun vb _=>4194304 - (intOf vb).toNat)
    case atStart=>exact ⟨20,rfl,GL _,by omega,a2.o,a3.o⟩
    case round =>
    rename World=>wo
    obtain ⟨bs,rfl,a5,J,aB,au⟩:=hrel;have a4:Eq (ag wo base g n c (jU bs L)):=aB;have aA:Eq (w.grownBy wo (some g)):=au;clear aB au a2 a3;by_cases an:bs<n
    · have ax:(bs:Int)<(n:Int):=by omega
      obtain ⟨d,hd⟩:=aG (2*bs);have r2:IntKind.i64.wrap (2*(bs:Int))=(d:Int):=by rw [Hg];omega
      have aK:IntKind.i64.wrap ((bs:Int)*2)=(d:Int):=by rw [Hg];omega
      have u:Eq (d=2*bs):=hd;have f:Eq (20≤bs):=a5;have F:Eq (bs<n):=an;clear hd a5 J an;go_wp2;go_loopw [7,8] (fun va vb wr=>∃(a:Nat) (r:List ac),va=iT a∧vb=iT ((a+d:Nat):Int)∧a≤n∧r.length=a∧jU d L=r++jU d (L.drop a)∧ag wr base g n c (r++jU bs (L.drop a))∧w.grownBy wr (some g)) (fun va _ _=>n - (intOf va).toNat)
      case atStart=>exact ⟨0,[],rfl,by rw [GT],GQ _,rfl,by simp,by simpa using a4.o,aA.o⟩
      case round =>
      obtain ⟨a,r,rfl,rfl,aC,hz,T,aq,ap⟩:=hrel;have Z:Eq (r.length=a):=hz;have W:Eq (jU d L=r++jU d (L.drop a)):=T;have a0:Eq (ag wr base g n c (r++jU bs (L.drop a))):=aq;have a6:Eq (w.grownBy wr (some g)):=ap;clear hz T aq ap a4;obtain ⟨b,hb⟩:=aG (a+d);rw [← hb];obtain ⟨m,hm⟩:=aG (a+bs);have J:b=m+bs:=by have:=u.o;omega
      have rm:IntKind.i64.wrap ((a:Int)+(bs:Int))=(m:Int):=by have:=F.o;rw [Hg];omega
      by_cases K:b≤n
      · have af:(b:Int)≤(n:Int):=by omega
        have rb:IntKind.i64.wrap ((b:Int)+(d:Int))=((b+d:Nat):Int):=by have:=F.o;have:=u.o;rw [Hg];omega
        have t:((L.drop a).take bs).length=bs:=by have:=s.o;simp;omega
        have E:((L.drop m).take bs).length=bs:=by have:=s.o;simp;omega
        have D:jU bs (L.drop a)=bH ((L.drop a).take bs)++(bH ((L.drop m).take bs)++jU bs (L.drop b)):=by
         have h:=E4 (show 1≤bs by have:=f.o;omega) (L.drop a);rw [IG,IG,← hm,← u.o,← hb] at h;exact h
        have aa:Eq (ag wr base g n c (r++(bH ((L.drop a).take bs)++(bH ((L.drop m).take bs)++jU bs (L.drop b))))):=by have:=a0.o;rw [D] at this;exact this
        have ah:Eq (f9 (bH ((L.drop a).take bs)) (bH ((L.drop m).take bs))=bH ((L.drop a).take d)):=by
         show _=_
         have h:=EG bs (L.drop a);rw [IG,← hm,← u.o] at h;exact h
        have X:Eq (jU d L=(r++bH ((L.drop a).take d))++jU d (L.drop b)):=by
         show jU d L=_
         rw [W.o,rZ (by have:=f.o;have:=u.o;omega) (L.drop a),IG,← hb,Hd]
        have ak:Eq ((r++bH ((L.drop a).take d)).length=b):=by
         show _=b
         have:=s.o;have:=Z.o;rw [GO,fg,GS,G7];omega
        have a9:Eq (1≤(bH ((L.drop a).take bs)).length):=by show _≤_;rw [fg,t];have:=f.o;omega
        have ai:Eq (1≤(bH ((L.drop m).take bs)).length):=by show _≤_;rw [fg,E];have:=f.o;omega
        have al:Eq (m=a+(bH ((L.drop a).take bs)).length):=by show m=_;rw [fg,t];exact hm
        have R:Eq (b=m+(bH ((L.drop m).take bs)).length):=by show b=_;rw [fg,E];exact J
        have a8:Eq (a<b):=by show a<b;have:=f.o;omega
        have aw:Eq (b≤n):=K;clear D t E hb hm J K;go_wp2_with fail
        refine (vm base g n c hn _ r (bH ((L.drop a).take bs)) (bH ((L.drop m).take bs)) (jU bs (L.drop b)) a m b _ (GL _) aa.o (fe _) (fe _) a9.o ai.o Z.o.symm al.o R.o).mono ?_;rintro e U ⟨rfl,I,O⟩;have Y:Eq (ag U base g n c ((r++bH ((L.drop a).take d))++jU bs (L.drop b))):=by show ag _ _ _ _ _ _;rw [← ah.o,Hd];exact I
        have a7:Eq (w.grownBy U (some g)):=ae a6.o O;clear I O;go_wp2;go_roundw
        case rel=>exact ⟨b,_,rfl,rfl,aw.o,ak.o,X.o,Y.o,a7.o⟩
        case measure=>have:=a8.o;have:=aw.o;simp [intOf];omega
      · have af:¬(b:Int)≤(n:Int):=by omega
        have ar:Eq (jU d L=r++bH (L.drop a)):=by show jU d L=_;rw [W.o,jN (by have:=s.o;rw [G7];omega)]
        by_cases ay:m<n
        · have aE:(m:Int)<(n:Int):=by omega
          have t:((L.drop a).take bs).length=bs:=by have:=s.o;simp;omega
          have E:(L.drop m).length=n - m:=by have:=s.o;rw [G7];omega
          have D:jU bs (L.drop a)=bH ((L.drop a).take bs)++(bH (L.drop m)++[]):=by
           rw [rZ (show 1≤bs by have:=f.o;omega) (L.drop a),IG,← hm,jN (by rw [E];omega),Iv]
          have aa:Eq (ag wr base g n c (r++(bH ((L.drop a).take bs)++(bH (L.drop m)++[])))):=by have:=a0.o;rw [D] at this;exact this
          have ah:Eq (f9 (bH ((L.drop a).take bs)) (bH (L.drop m))=bH (L.drop a)):=by
           show _=_
           have h:=zT bs (L.drop a);rw [IG,← hm] at h;exact h
          have a9:Eq (1≤(bH ((L.drop a).take bs)).length):=by show _≤_;rw [fg,t];have:=f.o;omega
          have ai:Eq (1≤(bH (L.drop m)).length):=by show _≤_;rw [fg,E];omega
          have al:Eq (m=a+(bH ((L.drop a).take bs)).length):=by show m=_;rw [fg,t];exact hm
          have R:Eq (n=m+(bH (L.drop m)).length):=by show n=_;rw [fg,E];omega
          clear D t E hb hm J K ay;go_wp2_with fail
          refine (vm base g n c hn _ r (bH ((L.drop a).take bs)) (bH (L.drop m)) [] a m n _ (GL _) aa.o (fe _) (fe _) a9.o ai.o Z.o.symm al.o R.o).mono ?_;rintro e U ⟨rfl,I,O⟩;have Y:Eq (ag U base g n c (jU d L)):=by show ag _ _ _ _ _ _;rw [ar.o,← ah.o];rw [Iv] at I;exact I
          have a7:Eq (w.grownBy U (some g)):=ae a6.o O;clear I O;go_wp2;go_roundw
          case rel=>exact ⟨d,rfl,by have:=u.o;have:=f.o;omega,by have:=u.o;have:=F.o;omega,Y.o,a7.o⟩
          case measure=>have:=u.o;have:=f.o;have:=F.o;simp [intOf];omega
        · have aE:¬(m:Int)<(n:Int):=by omega
          have Y:Eq (ag wr base g n c (jU d L)):=by
           show ag _ _ _ _ _ _
           have h:=a0.o;rw [jN (by have:=s.o;rw [G7];omega),← ar.o] at h;exact h
          clear hb hm J K ay a0;go_wp2;go_roundw
          case rel=>exact ⟨d,rfl,by have:=u.o;have:=f.o;omega,by have:=u.o;have:=F.o;omega,Y.o,a6.o⟩
          case measure=>have:=u.o;have:=f.o;have:=F.o;simp [intOf];omega
    · have ax:¬(bs:Int)<(n:Int):=by omega
      have HD:Eq (ag wo base g n c (bH L)):=by have:=a4.o;rw [jN (by rw [s.o];omega)] at this;exact this
      clear a4;go_wp2;go_end0;exact ⟨rfl,HD.o,aA.o⟩
end
end Go.Proofs.YtpobkmjicbobdaaGreat
namespace Go.Proofs.YtpobkmjicbobdaaGreat
open Go.RowKit
set_option maxRecDepth 100000
set_option maxHeartbeats 1000000
attribute [local go_sem] Ic
theorem l8 (c:dE) (w:World) (h:c.2.1.size≤281474976710656) :
 Calls Tryz.prog 113 #[f5 c] w fun e w'=>e=.returned (f5 c)∧Bl w w':=by
 obtain ⟨b,t,n⟩:=c;simp only at h;unfold f5;simp only;have s:Bl w ((w.alloc (.cells #[.bool b,.string t,iT n] 57)).alloc (.cells #[.bool false,.string ⟨#[]⟩,iT 0] 57)):=bZ.alloc (by simp) _;go_enter Tryz.func113,Tryz.ntmps113
 go_wp2_with fail
 refine (p9 _ _ h).mono ?_;rintro e w1 ⟨rfl,g⟩;obtain ⟨d,f⟩:=xe g;have k1:Bl w w1:=s.trans (g.mono (by simp;omega));have o:w.heap.size+1<w1.heap.size:=by have:=g.size;simp at this;omega
 have x0:w1.cell? ⟨w.heap.size,0,none⟩=some (.bool b):=(d _ _ (by simp only [GY];omega)).trans (by simp);have x1:w1.cell? ⟨w.heap.size,1,none⟩=some (.string t):=(d _ _ (by simp only [GY];omega)).trans (by simp);have D:w1.cell? ⟨w.heap.size,2,none⟩=some (iT n):=(d _ _ (by simp only [GY];omega)).trans (by simp);have f1:w1.frozen? ⟨w.heap.size,1,none⟩=false:=(f _ _ (by simp only [GY];omega)).trans (by simp);have y0:w1.cell? ⟨w.heap.size+1,0,none⟩=some (.bool false):=(d _ _ (by simp only [GY];omega)).trans (by simp);have y1:w1.cell? ⟨w.heap.size+1,1,none⟩=some (.string ⟨#[]⟩):=(d _ _ (by simp only [GY];omega)).trans (by simp);have r:w1.cell? ⟨w.heap.size+1,2,none⟩=some (iT 0):=(d _ _ (by simp only [GY];omega)).trans (by simp);have F:w1.frozen? ⟨w.heap.size+1,0,none⟩=false:=(f _ _ (by simp only [GY];omega)).trans (by simp);have u:w1.frozen? ⟨w.heap.size+1,1,none⟩=false:=(f _ _ (by simp only [GY];omega)).trans (by simp);have E:w1.frozen? ⟨w.heap.size+1,2,none⟩=false:=(f _ _ (by simp only [GY];omega)).trans (by simp);go_wp2;refine bodyPost_ret (v:=.agg #[.bool b,.string t,iT n]) (by simp [results,Tryz.results113,go_sem,y0,y1,r]) rfl ⟨rfl,?_⟩;exact (((k1.setCell (p:=⟨w.heap.size,1,none⟩) (GL _) _).setCell (p:=⟨w.heap.size+1,0,none⟩) (Nat.le_succ _) _).setCell (p:=⟨w.heap.size+1,1,none⟩) (Nat.le_succ _) _).setCell (p:=⟨w.heap.size+1,2,none⟩) (Nat.le_succ _) _
theorem se (w:World) (b e d:Obj) (o:Nat):(((w.alloc b).alloc e).alloc d).cell? ⟨w.heap.size,o,none⟩=(w.alloc b).cell? ⟨w.heap.size,o,none⟩ :=
 (((Below.refl (w.heap.size+1) (w.alloc b)).alloc (by simp) e).alloc (by simp) d).cell (p:=⟨w.heap.size,o,none⟩) (Nat.lt_succ_self _)
theorem k9 (w:World) (d b e:Obj) (o:Nat):(((w.alloc d).alloc b).alloc e).cell? ⟨w.heap.size+1,o,none⟩=((w.alloc d).alloc b).cell? ⟨w.heap.size+1,o,none⟩ :=
 ((Below.refl (w.heap.size+1+1) ((w.alloc d).alloc b)).alloc (by simp) e).cell (p:=⟨w.heap.size+1,o,none⟩) (Nat.lt_succ_self _)
theorem sd (w:World) (b d:Obj) (cs:Array Value) (t:TypeId) (o:Nat):(((w.alloc b).alloc d).alloc (.cells cs t)).cell? ⟨w.heap.size+1+1,o,none⟩=cs[o]?:=by
 have h:=World.cell?_alloc_new ((w.alloc b).alloc d) cs t o;simp only [GY] at h;exact h
theorem Eb (w:World) (b d:Obj) (cs:Array Value) (t:TypeId) (o:Nat):(((w.alloc b).alloc d).alloc (.cells cs t)).frozen? ⟨w.heap.size+1+1,o,none⟩=false:=by
 have h:(((w.alloc b).alloc d).alloc (.cells cs t)).frozen? ⟨((w.alloc b).alloc d).heap.size,o,none⟩=false:=Jc _ cs t o;simp only [GY] at h;exact h
theorem jO {b:Bool} {t f:ByteArray} {n d o:Int} {L:Nat} (g:t.size≤L) (e:f.size≤L):(fh b t n d f o).2.1.size≤L:=by
 unfold fh;split
 · exact e
 · split
   · exact GQ _
   · split
     · exact g
     · exact g
end Go.Proofs.YtpobkmjicbobdaaGreat
namespace Go.Proofs.YtpobkmjicbobdaaGreat
open Go.RowKit
set_option maxRecDepth 100000
set_option maxHeartbeats 1000000
theorem Dp (b:Bool) (t k g:ByteArray) (n q d f:Int):∃T F:Nat,
 (∀w,Calls Tryz.prog 100 #[.agg #[.string k,iT q,iT d,.string g,iT f]] w fun e w'=>e=.returned (.iface T (.agg #[]))∧Bl w w') ∧
 (∀ w : World, (method 400 T (.agg #[]) "loop.example/comptoir/impl.do").run Tryz.prog w = .ok (F, .agg #[]) w) ∧
 (∀(args:Array Value) (w:World),(callFunc F args).run Tryz.prog w=.ok (.enter F args) w) ∧
 (∀w,Calls Tryz.prog F #[.agg #[],.agg #[.bool b,.string t,iT n],.agg #[.string k,iT q,iT d,.string g,iT f]] w fun e w'=>e=.returned (f5 (fh b t n d g f))∧Bl w w'):=by
 by_cases s:d=1
 · subst s;exact ⟨176,311,fun w=>iz k g q f w,fun _=>by kernel_rfl,enters_of Tryz.func311 (by kernel_rfl) rfl,fun w=>by rw [zZ];exact rP b t k g n q 1 f w⟩
 by_cases o:d=2
 · subst o;exact ⟨177,313,fun w=>iA k g q f w,fun _=>by kernel_rfl,enters_of Tryz.func313 (by kernel_rfl) rfl,fun w=>by rw [zY];exact rS b t k g n q 2 f w⟩
 by_cases r:d=3
 · subst r;exact ⟨178,315,fun w=>iB k g q f w,fun _=>by kernel_rfl,enters_of Tryz.func315 (by kernel_rfl) rfl,fun w=>by rw [zW];exact rU b t k g n q 3 f w⟩
 exact ⟨179,317,fun w=>iV k g q d f w s o r,fun _=>by kernel_rfl,enters_of Tryz.func317 (by kernel_rfl) rfl,fun w=>by rw [z6 s o r];exact tV b t k g n q d f w⟩
end Go.Proofs.YtpobkmjicbobdaaGreat
