/- Walks. -/
import Derived.Test.YtpobkmjicbobdaaGreatBl36
namespace Go.Proofs.YtpobkmjicbobdaaGreat
set_option maxRecDepth 100000
set_option maxHeartbeats 40000000
open Go.RowKit
variable {A B:List ac} {a h k m:Nat} {x y z:ac}
section
attribute [local go_sem] DN
theorem cU {w w':World} {g:Nat} (hb:Bl w w'):w.grownBy w' (some g):=⟨hb.os,hb.tape,hb.output,hb.size,fun k hk _=>hb.block k hk⟩
theorem oM (u r t g:ByteArray) (d o n b f s:Int) (w:World) :
 Calls Tryz.prog 112 #[.agg #[.string u,iT d,iT o,.string r,iT n],.agg #[.string t,iT b,iT f,.string g,iT s]] w fun e w'=>e=.returned (iT (Lib.compareInt d b))∧Bl w w':=by
 obtain ⟨D,hD⟩:=aH (Lib.compareInt d b);have c2:∀w,Calls Tryz.prog 170 #[iT d,iT b] w fun e w'=>e=.returned (iT D)∧w'=w:=by rw [hD];exact ki d b
 rw [← hD];clear hD;go_enter Tryz.func112,Tryz.ntmps112
 go_wp2_with fail
 refine (c2 _).mono ?_;rintro e w' ⟨rfl,rfl⟩;go_wp2;go_ret;exact ⟨rfl,bZ.alloc (by simp) _⟩
theorem mo (a b:Int):Lib.compareInt a b<0 ↔ a<b:=by
 unfold Lib.compareInt;by_cases h:a<b
 · simp [h]
 · by_cases h2:a > b <;> simp [h,h2]
theorem vr (hB:iY B) (hy:B[h - m]?=some y) (hl:y.2.1<x.2.1) (hk:k - m=h - m+1):∀e ∈ B.take (k - m),e.2.1<x.2.1:=by
 intro e g;rw [hk] at g;obtain ⟨i,hi,rfl⟩:=Em.1 g;simp only [D3] at *;obtain ⟨d,b⟩:=Cx.1 hy;have n:i<h - m+1:=by simp at hi;omega
 by_cases f:i=h - m
 · subst f;rw [b];exact hl
 · have:=Dt.1 hB i (h - m) (by omega) d (by omega);rw [b] at this;omega
theorem qE (hB:iY B) (hy:B[h - m]?=some y) (hl:x.2.1≤y.2.1):∀e ∈ B.drop (h - m),x.2.1≤e.2.1:=by
 intro e g;obtain ⟨i,hi,rfl⟩:=Em.1 g;simp only [D8] at *;obtain ⟨d,b⟩:=Cx.1 hy;simp at hi;by_cases f:i=0
 · subst f;simp only [DS];rw [b];exact hl
 · have:=Dt.1 hB (h - m) (h - m+i) d (by omega) (by omega);rw [b] at this;omega
theorem Ak (base g n c:Nat) (Z B Y:List ac) (x:ac) (a m b:Nat) (w:World) (hO:af w base g n c (Z++(x :: (B++Y)))) (hB:iY B) (ha:a=Z.length) (hm:m=a+1) (hb:b=m+B.length) (hn:n≤1048576) :
 Calls Tryz.prog 214 #[sL g n c,iT a,iT m,iT b,.func (.func 112) #[] #[]] w fun e w'=>e=.returned (.tuple #[])∧af w' base g n c (Z++(fw [x] B++Y))∧w.grownBy w' (some g):=by
 have ah:=bO hB;have hl:=hO.len;simp only [CW,DC] at hl;have b2:=hO.entsAt.big;have bn:=hO.entsAt.room;unfold maxLen at b2;have HA:=bO ha;have ao:=bO hb;have HO:=bO hO;have br:b≤n:=by omega
 have b0:m≤b:=by omega
 have bh:a<m:=by omega
 have aK:=bO hm;have b3:IntKind.i64.wrap ((m:Int) - (a:Int))=1:=by rw [Dv];omega
 clear hO hB ha hb hl hm;go_enter Tryz.func214,Tryz.ntmps214
 go_wp2;clear b3;go_loopw [10,11] (fun iv jv wr=>∃i j:Nat,iv=iT i∧jv=iT j∧m≤i∧i≤j∧j≤b∧af wr base g n c (Z++(x :: (B++Y)))∧w.grownBy wr (some g)∧(∀e ∈ B.take (i - m),e.2.1<x.2.1)∧(∀e ∈ B.drop (j - m),x.2.1≤e.2.1)) (fun iv jv _=>(intOf jv).toNat - (intOf iv).toNat)
 case atStart=>exact ⟨m,b,rfl,rfl,Cy _,b0,Cy _,HO.o,⟨rfl,rfl,rfl,Cy _,fun _ _ _=>rfl⟩,by rw [Eg];simp,by rw [DY (by have:=ao.o;omega)];simp⟩
 case round =>
  obtain ⟨i,j,rfl,rfl,aU,bl,aI,aM,aN,h1,h2⟩:=hrel;have ad:CG (af wr base g n c (Z++(x :: (B++Y)))):=aM;have X:CG (w.grownBy wr (some g)):=aN;have H1:CG (∀e ∈ B.take (i - m),e.2.1<x.2.1):=h1;have H2:CG (∀e ∈ B.drop (j - m),x.2.1≤e.2.1):=h2;clear aM aN h1 h2 HO;by_cases bo:i<j
  · have aT:(i:Int)<(j:Int):=by omega
    obtain ⟨H,hH⟩:=aH ((i+j) / 2);have bi:i≤H:=by omega
    have bm:H<j:=by omega
    have eH:((i:Int)+(j:Int)) / 2=(H:Int):=by omega
    obtain ⟨y,hy⟩:∃y,B[H - m]?=some y:=⟨_,j' (by have:=ao.o;omega)⟩;have ag:CG (B[H - m]?=some y):=hy;have a7:(Z++(x :: (B++Y)))[H]?=some y:=by
     have:=HA.o;have:=aK.o;rw [CU (by omega),show H - Z.length=H - m+1 by omega,Ei,C7 (by have:=(Cx.1 hy).1;omega)];exact hy
    have a6:(Z++(x :: (B++Y)))[a]?=some x:=by
     rw [HA.o];simp
    obtain ⟨C,hC⟩:=aH (Lib.compareInt y.2.1 x.2.1);have HC:CG ((C<0→y.2.1<x.2.1)∧(y.2.1<x.2.1→C<0)):=by rw [hC];exact ⟨(mo _ _).1,(mo _ _).2⟩
    have aO:∀w,Calls Tryz.prog 112 #[.agg #[.string y.1,iT y.2.1,iT y.2.2.1,.string y.2.2.2.1,iT y.2.2.2.2],.agg #[.string x.1,iT x.2.1,iT x.2.2.1,.string x.2.2.2.1,iT x.2.2.2.2]] w fun e w'=>e=.returned (iT C)∧Bl w w':=by rw [hC];exact fun w=>oM y.1 y.2.2.2.1 x.1 x.2.2.2.1 y.2.1 y.2.2.1 y.2.2.2.2 x.2.1 x.2.2.1 x.2.2.2.2 w
    obtain ⟨s,q,d,t,nn⟩:=y;obtain ⟨W,R,U,Q,f⟩:=x;have HX:CG ((Z++((W,R,U,Q,f) :: (B++Y)))[H]?=some (s,q,d,t,nn)):=a7;have HY:CG ((Z++((W,R,U,Q,f) :: (B++Y)))[a]?=some (W,R,U,Q,f)):=a6;have CQ:CG (∀w,Calls Tryz.prog 112 #[.agg #[.string s,iT q,iT d,.string t,iT nn],.agg #[.string W,iT R,iT U,.string Q,iT f]] w fun e w'=>e=.returned (iT C)∧Bl w w'):=aO;have bj:(H:Int)<(n:Int):=by omega
    have bp:(a:Int)<(n:Int):=by omega
    have E:af wr.drew base g n c (Z++((W,R,U,Q,f) :: (B++Y))):=ad.o.below (Below.refl _ _).drew;have gd:w.grownBy wr.drew (some g):=ae X.o (fd _ _);clear hH hy a7 a6 hC aO ad X;go_wp2_with fail
    refine wp_region_held_drew (S:=(fun w'=>g<w'.heap.size)) (by kernel_rfl) (by exact E.lt.2) (fun N=>?_);generalize wr.drew=wd at E gd N ⊢;refine aP 0 4 N ?_;refine aP 5 3 N ?_;refine jX 4 8 (fun K hK=>?_) fun K hK=>?_
    · obtain ⟨F,I,D,L,J⟩:=E.at5 HX.o;have u:=E.lt.2;go_simp;clear F I D L J u;refine hK.o _ _ (by exact E.lt.2) fun N=>?_
      (try go_frame);refine aR 8 fun K hK=>?_
      obtain ⟨F,I,D,L,J⟩:=E.at5 HY.o;have u:=E.lt.2;go_simp;clear F I D L J u;refine hK.o _ _ (by exact E.lt.2) fun N=>?_
      (try go_frame);refine aR 9 fun K hK=>?_
      go_simp;refine (CQ.o _).mono ?_;rintro e w1 ⟨rfl,b1⟩;have k1:=E.below b1;have gw:w.grownBy w1 (some g):=ae gd (cU b1);go_wp2_with fail
      refine hK.o _ _ (by exact k1.lt.2) fun N=>?_
      (try go_frame);refine aP 10 1 N ?_;refine dN ?_;have a5:CG (af w1 base g n c (Z++((W,R,U,Q,f) :: (B++Y)))):=k1;have X:CG (w.grownBy w1 (some g)):=gw;clear E gd k1 gw N b1;by_cases a4:C<0
      · have HL:CG ((s,q,d,t,nn).2.1<(W,R,U,Q,f).2.1):=HC.o.1 a4;go_wp2;go_roundw
        case rel=>exact ⟨H+1,j,by go_num,rfl,by omega,by omega,aI,a5.o,X.o,vr ah.o ag.o HL.o (by omega),H2.o⟩
        case measure=>simp [intOf];omega
      · have HL:CG ((W,R,U,Q,f).2.1≤(s,q,d,t,nn).2.1):=Int.not_lt.1 (fun h=>a4 (HC.o.2 h));go_wp2;go_roundw
        case rel=>exact ⟨i,H,rfl,rfl,aU,by omega,by omega,a5.o,X.o,H1.o,qE ah.o ag.o HL.o⟩
        case measure=>simp [intOf];omega
    · obtain ⟨F,I,D,L,J⟩:=E.at5 HY.o;have u:=E.lt.2;go_simp;clear F I D L J u;refine hK.o _ _ (by exact E.lt.2) fun N=>?_
      (try go_frame);refine aR 4 fun K hK=>?_
      obtain ⟨F,I,D,L,J⟩:=E.at5 HX.o;have u:=E.lt.2;go_simp;clear F I D L J u;refine hK.o _ _ (by exact E.lt.2) fun N=>?_
      (try go_frame);refine aR 9 fun K hK=>?_
      go_simp;refine (CQ.o _).mono ?_;rintro e w1 ⟨rfl,b1⟩;have k1:=E.below b1;have gw:w.grownBy w1 (some g):=ae gd (cU b1);go_wp2_with fail
      refine hK.o _ _ (by exact k1.lt.2) fun N=>?_
      (try go_frame);refine aP 10 1 N ?_;refine dN ?_;have a5:CG (af w1 base g n c (Z++((W,R,U,Q,f) :: (B++Y)))):=k1;have X:CG (w.grownBy w1 (some g)):=gw;clear E gd k1 gw N b1;by_cases a4:C<0
      · have HL:CG ((s,q,d,t,nn).2.1<(W,R,U,Q,f).2.1):=HC.o.1 a4;go_wp2;go_roundw
        case rel=>exact ⟨H+1,j,by go_num,rfl,by omega,by omega,aI,a5.o,X.o,vr ah.o ag.o HL.o (by omega),H2.o⟩
        case measure=>simp [intOf];omega
      · have HL:CG ((W,R,U,Q,f).2.1≤(s,q,d,t,nn).2.1):=Int.not_lt.1 (fun h=>a4 (HC.o.2 h));go_wp2;go_roundw
        case rel=>exact ⟨i,H,rfl,rfl,aU,by omega,by omega,a5.o,X.o,H1.o,qE ah.o ag.o HL.o⟩
        case measure=>simp [intOf];omega
  · have aT:¬(i:Int)<(j:Int):=by omega
    have aQ:i=j:=by omega
    subst aQ;obtain ⟨r,ak⟩:=aH (B.take (i - m));obtain ⟨B2,aB⟩:=aH (B.drop (i - m));have ar:B=r++B2:=by rw [ak,aB,Ds]
    have aJ:CG (fw [x] B=r++x :: B2):=by
     show fw [x] B=_
     rw [ar];exact ri x r B2 (by rw [ak];exact H1.o) (by rw [aB];exact fun e he=>Int.not_lt.2 (H2.o e he))
    have al:CG (r.length=i - m):=by show r.length=i - m;rw [ak,C5];have:=ao.o;omega
    have aV:CG (af wr base g n c (Z++(r.take 0++x :: (r.drop 0++(B2++Y))))):=by have:=ad.o;rw [ar] at this;simpa [CG] using this
    have bt:IntKind.i64.wrap ((i:Int) - 1)=(i:Int) - 1:=by rw [Dv];omega
    clear ak aB ar H1 H2 ad;go_wp2;go_loopw [13] (fun kv wq=>∃T:Nat,T≤i - m∧kv=iT ((a:Int)+(T:Int))∧af wq base g n c (Z++(r.take T++x :: (r.drop T++(B2++Y))))∧w.grownBy wq (some g)) (fun kv _=>i - (intOf kv).toNat)
    case atStart=>exact ⟨0,C3 _,by simp,aV.o,X.o⟩
    case round =>
    obtain ⟨T,hT,rfl,aS,aC⟩:=hrel;have aj:CG (af wr base g n c (Z++(r.take T++x :: (r.drop T++(B2++Y))))):=aS;have aD:CG (w.grownBy wr (some g)):=aC;clear aS aC aV X;have aW:=aK.o;by_cases b7:T<i - m
    · have b5:(a:Int)+(T:Int)<(i:Int) - 1:=by omega
      obtain ⟨y,hy⟩:∃y,r[T]?=some y:=⟨_,j' (by rw [al.o];exact b7)⟩;have aF:r.drop T=y :: r.drop (T+1):=by
       obtain ⟨h1,h2⟩:=Cx.1 hy;rw [DR h1,h2]
      have aG:r.take (T+1)=r.take T++[y]:=by rw [Dl,hy];rfl
      have hD:Z++(r.take T++x :: (r.drop T++(B2++Y)))=(Z++r.take T)++x :: y :: (r.drop (T+1)++(B2++Y)):=by rw [aF];simp only [Di,DD]
      have a2:(Z++r.take T).length=a+T:=by have:=HA.o;have:=al.o;simp;omega
      have a6:(Z++(r.take T++x :: (r.drop T++(B2++Y))))[a+T]?=some x:=by rw [hD,← a2];simp
      have a7:(Z++(r.take T++x :: (r.drop T++(B2++Y))))[a+T+1]?=some y:=by
       rw [hD,← a2,CU (by omega),D0];rfl
      have an:(((Z++(r.take T++x :: (r.drop T++(B2++Y)))).set (a+T) y).set (a+T+1) x)=Z++(r.take (T+1)++x :: (r.drop (T+1)++(B2++Y))):=by
       have:=vx (Z++r.take T) [] (r.drop (T+1)++(B2++Y)) x y;simp only [DA,Ec,DS,a2] at this;rw [hD,this,aG];simp only [Di,DD,DA]
      obtain ⟨s,q,d,t,nn⟩:=x;obtain ⟨W,R,U,Q,f⟩:=y;have HX:CG ((Z++(r.take T++(s,q,d,t,nn) :: (r.drop T++(B2++Y))))[a+T]?=some (s,q,d,t,nn)):=a6;have HY:CG ((Z++(r.take T++(s,q,d,t,nn) :: (r.drop T++(B2++Y))))[a+T+1]?=some (W,R,U,Q,f)):=a7;have aL:CG ((((Z++(r.take T++(s,q,d,t,nn) :: (r.drop T++(B2++Y)))).set (a+T) (W,R,U,Q,f)).set (a+T+1) (s,q,d,t,nn))=Z++(r.take (T+1)++(s,q,d,t,nn) :: (r.drop (T+1)++(B2++Y)))):=an;have HI:CG (a+T<n):=by show a+T<n;omega
      have HJ:CG (a+T+1<n):=by show a+T+1<n;omega
      have aE:CG (a+T≠a+T+1):=by show a+T≠a+T+1;omega
      have ea:((a:Int)+(T:Int)).toNat=a+T:=by omega
      have pa:(0:Int)≤(a:Int)+(T:Int):=by omega
      have ba:(a:Int)+(T:Int)<(n:Int):=by omega
      have ec:((a:Int)+(T:Int)+1).toNat=a+T+1:=by omega
      have pc:(0:Int)≤(a:Int)+(T:Int)+1:=by omega
      have bc:(a:Int)+(T:Int)+1<(n:Int):=by omega
      have rc:IntKind.i64.wrap ((a:Int)+(T:Int)+1)=(a:Int)+(T:Int)+1:=by rw [Dv];omega
      have E:af wr.drew base g n c (Z++(r.take T++(s,q,d,t,nn) :: (r.drop T++(B2++Y)))):=aj.o.below (Below.refl _ _).drew;have gd:w.grownBy wr.drew (some g):=ae aD.o (fd _ _);clear aF aG hD a2 a6 a7 an hy aj aW;go_wp2_with fail
      refine wp_region_held_drew (S:=(fun w'=>g<w'.heap.size)) (by kernel_rfl) (by exact E.lt.2) (fun N=>?_);generalize wr.drew=wd at E gd N ⊢;refine aP 0 9 N ?_;refine aP 10 3 N ?_;refine jX 9 13 (fun K hK=>?_) fun K hK=>?_
      · obtain ⟨F,I,D,L,J⟩:=E.at5 HY.o;have u:=E.lt.2;go_simp;clear F I D L J u;refine hK.o _ _ (by exact E.lt.2) fun N=>?_
        (try go_frame);refine aR 13 fun K hK=>?_
        obtain ⟨F,I,D,L,J⟩:=E.at5 HX.o;have u:=E.lt.2;go_simp;clear F I D L J u;refine hK.o _ _ (by exact E.lt.2) fun N=>?_
        (try go_frame);refine aP 14 1 N ?_;refine aR 15 fun K hK=>?_
        obtain ⟨F,I,D,L,J⟩:=E.at5 HX.o;have u:=E.lt.2;have O:=E.owns.frozenAt;have f0:=O ((a+T)*5);have f1:=O ((a+T)*5+1);have f2:=O ((a+T)*5+2);have f3:=O ((a+T)*5+3);have f4:=O ((a+T)*5+4);clear O;go_simp;clear F I D L J u;clear f0 f1 f2 f3 f4;have k1:=E.setE (i:=a+T) (e:=(W,R,U,Q,f)) HI.o (E.ents _ (CV HY.o));refine hK.o _ (setE wd g (a+T) (W,R,U,Q,f)) (by exact k1.lt.2) (fun N=>?_);clear hK K;have a1:=df wd g (a+T) (W,R,U,Q,f);generalize setE wd g (a+T) (W,R,U,Q,f)=a0 at k1 a1 N ⊢;(try go_frame);refine aP 16 1 N ?_;refine aR 17 fun K hK=>?_
        have aw:((Z++(r.take T++(s,q,d,t,nn) :: (r.drop T++(B2++Y)))).set (a+T) (W,R,U,Q,f))[a+T+1]?=some (W,R,U,Q,f):=by rw [Dx aE.o];exact HY.o
        obtain ⟨F,I,D,L,J⟩:=k1.at5 aw;have u:=k1.lt.2;have O:=k1.owns.frozenAt;have f0:=O ((a+T+1)*5);have f1:=O ((a+T+1)*5+1);have f2:=O ((a+T+1)*5+2);have f3:=O ((a+T+1)*5+3);have f4:=O ((a+T+1)*5+4);clear O;go_simp;clear F I D L J u;clear f0 f1 f2 f3 f4;have k2:=k1.setE (i:=a+T+1) (e:=(s,q,d,t,nn)) HJ.o (E.ents _ (CV HX.o));refine hK.o _ (setE a0 g (a+T+1) (s,q,d,t,nn)) (by exact k2.lt.2) (fun N=>?_);clear hK K;have gw:wd.grownBy (setE a0 g (a+T+1) (s,q,d,t,nn)) (some g):=ae a1 (df a0 g (a+T+1) (s,q,d,t,nn));generalize setE a0 g (a+T+1) (s,q,d,t,nn)=a8 at k2 gw N ⊢;(try go_frame);refine dN ?_;have az:CG (af a8 base g n c (Z++(r.take (T+1)++(s,q,d,t,nn) :: (r.drop (T+1)++(B2++Y))))):=by have:=k2;rw [aL.o] at this;exact this
        have ax:CG (w.grownBy a8 (some g)):=ae gd gw;clear k2 gw E k1 a1 gd N;go_wp2;go_roundw
        case rel=>exact ⟨T+1,by omega,by first | go_num | (congr 1;omega),az.o,ax.o⟩
        case measure=>simp [intOf];omega
      · obtain ⟨F,I,D,L,J⟩:=E.at5 HX.o;have u:=E.lt.2;go_simp;clear F I D L J u;refine hK.o _ _ (by exact E.lt.2) fun N=>?_
        (try go_frame);refine aR 9 fun K hK=>?_
        obtain ⟨F,I,D,L,J⟩:=E.at5 HY.o;have u:=E.lt.2;go_simp;clear F I D L J u;refine hK.o _ _ (by exact E.lt.2) fun N=>?_
        (try go_frame);refine aP 14 1 N ?_;refine aR 15 fun K hK=>?_
        obtain ⟨F,I,D,L,J⟩:=E.at5 HX.o;have u:=E.lt.2;have O:=E.owns.frozenAt;have f0:=O ((a+T)*5);have f1:=O ((a+T)*5+1);have f2:=O ((a+T)*5+2);have f3:=O ((a+T)*5+3);have f4:=O ((a+T)*5+4);clear O;go_simp;clear F I D L J u;clear f0 f1 f2 f3 f4;have k1:=E.setE (i:=a+T) (e:=(W,R,U,Q,f)) HI.o (E.ents _ (CV HY.o));refine hK.o _ (setE wd g (a+T) (W,R,U,Q,f)) (by exact k1.lt.2) (fun N=>?_);clear hK K;have a1:=df wd g (a+T) (W,R,U,Q,f);generalize setE wd g (a+T) (W,R,U,Q,f)=a0 at k1 a1 N ⊢;(try go_frame);refine aP 16 1 N ?_;refine aR 17 fun K hK=>?_
        have aw:((Z++(r.take T++(s,q,d,t,nn) :: (r.drop T++(B2++Y)))).set (a+T) (W,R,U,Q,f))[a+T+1]?=some (W,R,U,Q,f):=by rw [Dx aE.o];exact HY.o
        obtain ⟨F,I,D,L,J⟩:=k1.at5 aw;have u:=k1.lt.2;have O:=k1.owns.frozenAt;have f0:=O ((a+T+1)*5);have f1:=O ((a+T+1)*5+1);have f2:=O ((a+T+1)*5+2);have f3:=O ((a+T+1)*5+3);have f4:=O ((a+T+1)*5+4);clear O;go_simp;clear F I D L J u;clear f0 f1 f2 f3 f4;have k2:=k1.setE (i:=a+T+1) (e:=(s,q,d,t,nn)) HJ.o (E.ents _ (CV HX.o));refine hK.o _ (setE a0 g (a+T+1) (s,q,d,t,nn)) (by exact k2.lt.2) (fun N=>?_);clear hK K;have gw:wd.grownBy (setE a0 g (a+T+1) (s,q,d,t,nn)) (some g):=ae a1 (df a0 g (a+T+1) (s,q,d,t,nn));generalize setE a0 g (a+T+1) (s,q,d,t,nn)=a8 at k2 gw N ⊢;(try go_frame);refine dN ?_;have az:CG (af a8 base g n c (Z++(r.take (T+1)++(s,q,d,t,nn) :: (r.drop (T+1)++(B2++Y))))):=by have:=k2;rw [aL.o] at this;exact this
        have ax:CG (w.grownBy a8 (some g)):=ae gd gw;clear k2 gw E k1 a1 gd N;go_wp2;go_roundw
        case rel=>exact ⟨T+1,by omega,by first | go_num | (congr 1;omega),az.o,ax.o⟩
        case measure=>simp [intOf];omega
    · have b5:¬(a:Int)+(T:Int)<(i:Int) - 1:=by omega
      have HD:CG (af wr base g n c (Z++(fw [x] B++Y))):=by
       have:=aj.o;rw [C9 (by rw [al.o];omega),DY (by rw [al.o];omega)] at this;rw [aJ.o];simpa [CG] using this
      clear aj aW;go_wp2;((try simp only [Exit.inBlock,Exit.then]);refine bodyPost_ret (results_none rfl _ _ _) rfl ?_)
      exact ⟨rfl,HD.o,aD.o⟩
theorem rX (hA:iY A) (hz:A[h - a]?=some z) (hl:z.2.1≤y.2.1) (hk:k - a=h - a+1):∀e ∈ A.take (k - a),e.2.1≤y.2.1:=by
 intro e g;rw [hk] at g;obtain ⟨i,hi,rfl⟩:=Em.1 g;simp only [D3] at *;obtain ⟨d,b⟩:=Cx.1 hz;have n:i<h - a+1:=by simp at hi;omega
 by_cases f:i=h - a
 · subst f;rw [b];exact hl
 · have:=Dt.1 hA i (h - a) (by omega) d (by omega);rw [b] at this;omega
theorem o5 (hA:iY A) (hz:A[h - a]?=some z) (hl:y.2.1<z.2.1):∀e ∈ A.drop (h - a),y.2.1<e.2.1:=by
 intro e g;obtain ⟨i,hi,rfl⟩:=Em.1 g;simp only [D8] at *;obtain ⟨d,b⟩:=Cx.1 hz;simp at hi;by_cases f:i=0
 · subst f;simp only [DS];rw [b];exact hl
 · have:=Dt.1 hA (h - a) (h - a+i) d (by omega) (by omega);rw [b] at this;omega
theorem sQ (b X3:List ac) (p q:ac):((b++p :: q :: X3).set (b.length+1) p).set b.length q=b++q :: p :: X3:=by
 rw [DZ _ _ (by omega),D0,ED,Eb,DZ _ _ (Cy _),Eg,Eb]
theorem Aj (base g n c:Nat) (Z A Y:List ac) (y:ac) (a m b:Nat) (w:World) (hO:af w base g n c (Z++(A++(y :: Y)))) (hA:iY A) (a7:2≤A.length) (ha:a=Z.length) (hm:m=a+A.length) (hb:b=m+1) (hn:n≤1048576) :
 Calls Tryz.prog 214 #[sL g n c,iT a,iT m,iT b,.func (.func 112) #[] #[]] w fun e w'=>e=.returned (.tuple #[])∧af w' base g n c (Z++(fw A [y]++Y))∧w.grownBy w' (some g):=by
 have al:=bO hA;have hl:=hO.len;simp only [CW,DC] at hl;have b4:=hO.entsAt.big;have bu:=hO.entsAt.room;unfold maxLen at b4;have HA:=bO ha;have a9:=bO hm;have HO:=bO hO;have bB:b≤n:=by omega
 have bk:m<b:=by omega
 have b5:a≤m:=by omega
 have bs:=bO hb;obtain ⟨ka,b2⟩:=aH A.length;have b6:IntKind.i64.wrap ((m:Int) - (a:Int))=(ka:Int):=by rw [Dv];omega
 have bo:((ka:Int) == 1)=false:=by simp;omega
 have b3:IntKind.i64.wrap ((b:Int) - (m:Int))=1:=by rw [Dv];omega
 clear hO hA ha hb hl hm a7 b2;go_enter Tryz.func214,Tryz.ntmps214
 go_wp2;clear b6 b3;go_loopw [14,15] (fun iv jv wr=>∃i j:Nat,iv=iT i∧jv=iT j∧a≤i∧i≤j∧j≤m∧af wr base g n c (Z++(A++(y :: Y)))∧w.grownBy wr (some g)∧(∀e ∈ A.take (i - a),e.2.1≤y.2.1)∧(∀e ∈ A.drop (j - a),y.2.1<e.2.1)) (fun iv jv _=>(intOf jv).toNat - (intOf iv).toNat)
 case atStart=>exact ⟨a,m,rfl,rfl,Cy _,b5,Cy _,HO.o,⟨rfl,rfl,rfl,Cy _,fun _ _ _=>rfl⟩,by rw [Eg];simp,by rw [DY (by have:=a9.o;omega)];simp⟩
 case round =>
  obtain ⟨i,j,rfl,rfl,aJ,bt,ar,aL,aM,h1,h2⟩:=hrel;have ak:CG (af wr base g n c (Z++(A++(y :: Y)))):=aL;have Q:CG (w.grownBy wr (some g)):=aM;have H1:CG (∀e ∈ A.take (i - a),e.2.1≤y.2.1):=h1;have H2:CG (∀e ∈ A.drop (j - a),y.2.1<e.2.1):=h2;clear aL aM h1 h2 HO;by_cases bw:i<j
  · have aV:(i:Int)<(j:Int):=by omega
    obtain ⟨H,hH⟩:=aH ((i+j) / 2);have bp:i≤H:=by omega
    have bv:H<j:=by omega
    have aQ:CG (H+1 - a=H - a+1):=by show H+1 - a=H - a+1;omega
    have eH:((i:Int)+(j:Int)) / 2=(H:Int):=by omega
    obtain ⟨z,hz⟩:∃z,A[H - a]?=some z:=⟨_,j' (by have:=a9.o;omega)⟩;have aj:CG (A[H - a]?=some z):=hz;have aT:(Z++(A++(y :: Y)))[H]?=some z:=by
     have:=HA.o;rw [CU (by omega),show H - Z.length=H - a by omega,C7 ((Cx.1 hz).1)];exact hz
    have ad:(Z++(A++(y :: Y)))[m]?=some y:=by
     have:=HA.o;have:=a9.o;rw [CU (by omega),CU (by omega),show m - Z.length - A.length=0 by omega];rfl
    obtain ⟨C,hC⟩:=aH (Lib.compareInt y.2.1 z.2.1);have HC:CG ((C<0→y.2.1<z.2.1)∧(y.2.1<z.2.1→C<0)):=by rw [hC];exact ⟨(mo _ _).1,(mo _ _).2⟩
    have aO:∀w,Calls Tryz.prog 112 #[.agg #[.string y.1,iT y.2.1,iT y.2.2.1,.string y.2.2.2.1,iT y.2.2.2.2],.agg #[.string z.1,iT z.2.1,iT z.2.2.1,.string z.2.2.2.1,iT z.2.2.2.2]] w fun e w'=>e=.returned (iT C)∧Bl w w':=by rw [hC];exact fun w=>oM y.1 y.2.2.2.1 z.1 z.2.2.2.1 y.2.1 y.2.2.1 y.2.2.2.2 z.2.1 z.2.2.1 z.2.2.2.2 w
    obtain ⟨s,q,d,t,nn⟩:=y;obtain ⟨X,U,W,T,N⟩:=z;have HX:CG ((Z++(A++((s,q,d,t,nn) :: Y)))[m]?=some (s,q,d,t,nn)):=ad;have HY:CG ((Z++(A++((s,q,d,t,nn) :: Y)))[H]?=some (X,U,W,T,N)):=aT;have CQ:CG (∀w,Calls Tryz.prog 112 #[.agg #[.string s,iT q,iT d,.string t,iT nn],.agg #[.string X,iT U,iT W,.string T,iT N]] w fun e w'=>e=.returned (iT C)∧Bl w w'):=aO;have bq:(H:Int)<(n:Int):=by omega
    have bl:(m:Int)<(n:Int):=by omega
    have r:af wr.drew base g n c (Z++(A++((s,q,d,t,nn) :: Y))):=ak.o.below (Below.refl _ _).drew;have gd:w.grownBy wr.drew (some g):=ae Q.o (fd _ _);clear hH hz ad aT hC aO ak Q;by_cases a8:C<0
    · have bb:decide (C<0)=true:=decide_eq_true a8;go_wp2_with fail
      refine wp_region_held_drew (S:=(fun w'=>g<w'.heap.size)) (by kernel_rfl) (by exact r.lt.2) (fun L=>?_);generalize wr.drew=wd at r gd L ⊢;refine aP 0 4 L ?_;refine aP 5 3 L ?_;refine jX 4 8 (fun K hK=>?_) fun K hK=>?_
      · obtain ⟨J,E,D,I,F⟩:=r.at5 HX.o;have u:=r.lt.2;go_simp;clear J E D I F u;refine hK.o _ _ (by exact r.lt.2) fun L=>?_
        (try go_frame);refine aR 8 fun K hK=>?_
        obtain ⟨J,E,D,I,F⟩:=r.at5 HY.o;have u:=r.lt.2;go_simp;clear J E D I F u;refine hK.o _ _ (by exact r.lt.2) fun L=>?_
        (try go_frame);refine aR 9 fun K hK=>?_
        go_simp;refine (CQ.o _).mono ?_;rintro e w1 ⟨rfl,b1⟩;have k1:=r.below b1;have gw:w.grownBy w1 (some g):=ae gd (cU b1);go_wp2_with fail
        refine hK.o _ _ (by exact k1.lt.2) fun L=>?_
        (try go_frame);refine aP 10 2 L ?_;refine dN ?_;have a4:CG (af w1 base g n c (Z++(A++((s,q,d,t,nn) :: Y)))):=k1;have Q:CG (w.grownBy w1 (some g)):=gw;clear r gd k1 gw L b1;have HL:CG ((s,q,d,t,nn).2.1<(X,U,W,T,N).2.1):=HC.o.1 a8;go_wp2;go_roundw
        case rel=>exact ⟨i,H,rfl,rfl,aJ,by omega,by omega,a4.o,Q.o,H1.o,o5 (y:=(s,q,d,t,nn)) al.o aj.o HL.o⟩
        case measure=>simp [intOf];omega
      · obtain ⟨J,E,D,I,F⟩:=r.at5 HY.o;have u:=r.lt.2;go_simp;clear J E D I F u;refine hK.o _ _ (by exact r.lt.2) fun L=>?_
        (try go_frame);refine aR 4 fun K hK=>?_
        obtain ⟨J,E,D,I,F⟩:=r.at5 HX.o;have u:=r.lt.2;go_simp;clear J E D I F u;refine hK.o _ _ (by exact r.lt.2) fun L=>?_
        (try go_frame);refine aR 9 fun K hK=>?_
        go_simp;refine (CQ.o _).mono ?_;rintro e w1 ⟨rfl,b1⟩;have k1:=r.below b1;have gw:w.grownBy w1 (some g):=ae gd (cU b1);go_wp2_with fail
        refine hK.o _ _ (by exact k1.lt.2) fun L=>?_
        (try go_frame);refine aP 10 2 L ?_;refine dN ?_;have a4:CG (af w1 base g n c (Z++(A++((s,q,d,t,nn) :: Y)))):=k1;have Q:CG (w.grownBy w1 (some g)):=gw;clear r gd k1 gw L b1;have HL:CG ((s,q,d,t,nn).2.1<(X,U,W,T,N).2.1):=HC.o.1 a8;go_wp2;go_roundw
        case rel=>exact ⟨i,H,rfl,rfl,aJ,by omega,by omega,a4.o,Q.o,H1.o,o5 (y:=(s,q,d,t,nn)) al.o aj.o HL.o⟩
        case measure=>simp [intOf];omega
    · have bb:decide (C<0)=false:=decide_eq_false a8;have HL:CG ((X,U,W,T,N).2.1≤(s,q,d,t,nn).2.1):=Int.not_lt.1 (fun h=>a8 (HC.o.2 h));go_wp2_with fail
      refine wp_region_held_drew (S:=(fun w'=>g<w'.heap.size)) (by kernel_rfl) (by exact r.lt.2) (fun L=>?_);generalize wr.drew=wd at r gd L ⊢;refine aP 0 4 L ?_;refine aP 5 3 L ?_;refine jX 4 8 (fun K hK=>?_) fun K hK=>?_
      · obtain ⟨J,E,D,I,F⟩:=r.at5 HX.o;have u:=r.lt.2;go_simp;clear J E D I F u;refine hK.o _ _ (by exact r.lt.2) fun L=>?_
        (try go_frame);refine aR 8 fun K hK=>?_
        obtain ⟨J,E,D,I,F⟩:=r.at5 HY.o;have u:=r.lt.2;go_simp;clear J E D I F u;refine hK.o _ _ (by exact r.lt.2) fun L=>?_
        (try go_frame);refine aR 9 fun K hK=>?_
        go_simp;refine (CQ.o _).mono ?_;rintro e w1 ⟨rfl,b1⟩;have k1:=r.below b1;have gw:w.grownBy w1 (some g):=ae gd (cU b1);go_wp2_with fail
        refine hK.o _ _ (by exact k1.lt.2) fun L=>?_
        (try go_frame);refine aP 10 2 L ?_;refine dN ?_;have a4:CG (af w1 base g n c (Z++(A++((s,q,d,t,nn) :: Y)))):=k1;have Q:CG (w.grownBy w1 (some g)):=gw;clear r gd k1 gw L b1;go_wp2;go_roundw
        case rel=>exact ⟨H+1,j,by go_num,rfl,by omega,by omega,ar,a4.o,Q.o,rX (y:=(s,q,d,t,nn)) al.o aj.o HL.o aQ.o,H2.o⟩
        case measure=>simp [intOf];omega
      · obtain ⟨J,E,D,I,F⟩:=r.at5 HY.o;have u:=r.lt.2;go_simp;clear J E D I F u;refine hK.o _ _ (by exact r.lt.2) fun L=>?_
        (try go_frame);refine aR 4 fun K hK=>?_
        obtain ⟨J,E,D,I,F⟩:=r.at5 HX.o;have u:=r.lt.2;go_simp;clear J E D I F u;refine hK.o _ _ (by exact r.lt.2) fun L=>?_
        (try go_frame);refine aR 9 fun K hK=>?_
        go_simp;refine (CQ.o _).mono ?_;rintro e w1 ⟨rfl,b1⟩;have k1:=r.below b1;have gw:w.grownBy w1 (some g):=ae gd (cU b1);go_wp2_with fail
        refine hK.o _ _ (by exact k1.lt.2) fun L=>?_
        (try go_frame);refine aP 10 2 L ?_;refine dN ?_;have a4:CG (af w1 base g n c (Z++(A++((s,q,d,t,nn) :: Y)))):=k1;have Q:CG (w.grownBy w1 (some g)):=gw;clear r gd k1 gw L b1;go_wp2;go_roundw
        case rel=>exact ⟨H+1,j,by go_num,rfl,by omega,by omega,ar,a4.o,Q.o,rX (y:=(s,q,d,t,nn)) al.o aj.o HL.o aQ.o,H2.o⟩
        case measure=>simp [intOf];omega
  · have aV:¬(i:Int)<(j:Int):=by omega
    have aS:i=j:=by omega
    subst aS;obtain ⟨R,am⟩:=aH (A.take (i - a));obtain ⟨A2,a7⟩:=aH (A.drop (i - a));have aw:A=R++A2:=by rw [am,a7,Ds]
    have aI:CG (fw A [y]=R++y :: A2):=by
     show fw A [y]=_
     rw [aw];exact pC y R A2 (by rw [am];exact fun e he=>Int.not_lt.2 (H1.o e he)) (by rw [a7];exact H2.o)
    have ao:CG (R.length=i - a∧A2.length=m - i):=by show R.length=i - a∧A2.length=m - i;rw [am,a7,C5,Dh];have:=a9.o;omega
    have aW:CG (af wr base g n c (Z++(R++(A2.take (m - i)++y :: (A2.drop (m - i)++Y))))):=by
     have:=ak.o;rw [aw] at this;rw [C9 (by rw [ao.o.2];omega),DY (by rw [ao.o.2];omega)];simpa [CG] using this
    clear am a7 aw H1 H2 ak;go_wp2;go_loopw [17] (fun kv wq=>∃f:Nat,i≤f∧f≤m∧kv=iT f∧af wq base g n c (Z++(R++(A2.take (f - i)++y :: (A2.drop (f - i)++Y))))∧w.grownBy wq (some g)) (fun kv _=>(intOf kv).toNat)
    case atStart=>exact ⟨m,ar,Cy _,rfl,aW.o,Q.o⟩
    case round =>
    obtain ⟨f,bz,bn,rfl,aU,aC⟩:=hrel;have an:CG (af wr base g n c (Z++(R++(A2.take (f - i)++y :: (A2.drop (f - i)++Y))))):=aU;have aD:CG (w.grownBy wr (some g)):=aC;clear aU aC aW Q;by_cases bm:i<f
    · have b0:(i:Int)<(f:Int):=by omega
      obtain ⟨z,hz⟩:∃z,A2[f - i - 1]?=some z:=⟨_,j' (by rw [ao.o.2];omega)⟩;have aF:A2.drop (f - 1 - i)=z :: A2.drop (f - i):=by
       obtain ⟨h1,h2⟩:=Cx.1 hz;rw [show f - 1 - i=f - i - 1 by omega,DR h1,h2,show f - i - 1+1=f - i by omega]
      have aG:A2.take (f - i)=A2.take (f - 1 - i)++[z]:=by rw [show f - i=f - 1 - i+1 by omega,Dl,show f - 1 - i=f - i - 1 by omega,hz];rfl
      have hD:Z++(R++(A2.take (f - i)++y :: (A2.drop (f - i)++Y)))=(Z++(R++A2.take (f - 1 - i)))++z :: y :: (A2.drop (f - i)++Y):=by rw [aG];simp only [Di,DD,DA]
      have a6:(Z++(R++A2.take (f - 1 - i))).length=f - 1:=by have:=HA.o;have:=ao.o;have:=a9.o;simp;omega
      have aN:(Z++(R++(A2.take (f - i)++y :: (A2.drop (f - i)++Y))))[f]?=some y:=by
       rw [hD,CU (by omega),a6,show f - (f - 1)=1 by omega];rfl
      have ad:(Z++(R++(A2.take (f - i)++y :: (A2.drop (f - i)++Y))))[f - 1]?=some z:=by rw [hD,CU (by omega),a6,Eg];rfl
      have ap:(((Z++(R++(A2.take (f - i)++y :: (A2.drop (f - i)++Y)))).set f z).set (f - 1) y)=Z++(R++(A2.take (f - 1 - i)++y :: (A2.drop (f - 1 - i)++Y))):=by
       have:=sQ (Z++(R++A2.take (f - 1 - i))) (A2.drop (f - i)++Y) z y;rw [a6,show f - 1+1=f by omega] at this;rw [hD,this,aF];simp only [Di,DD]
      obtain ⟨s,q,d,t,nn⟩:=y;obtain ⟨X,U,W,T,N⟩:=z;have HX:CG ((Z++(R++(A2.take (f - i)++(s,q,d,t,nn) :: (A2.drop (f - i)++Y))))[f]?=some (s,q,d,t,nn)):=aN;have HY:CG ((Z++(R++(A2.take (f - i)++(s,q,d,t,nn) :: (A2.drop (f - i)++Y))))[f - 1]?=some (X,U,W,T,N)):=ad;have aK:CG ((((Z++(R++(A2.take (f - i)++(s,q,d,t,nn) :: (A2.drop (f - i)++Y)))).set f (X,U,W,T,N)).set (f - 1) (s,q,d,t,nn))=Z++(R++(A2.take (f - 1 - i)++(s,q,d,t,nn) :: (A2.drop (f - 1 - i)++Y)))):=ap;have HI:CG (f<n):=by show f<n;omega
      have HJ:CG (f - 1<n):=by show f - 1<n;omega
      have aE:CG (f≠f - 1):=by show f≠f - 1;omega
      have ba:(f:Int)<(n:Int):=by omega
      have ec:((f:Int) - 1).toNat=f - 1:=by omega
      have pc:(0:Int)≤(f:Int) - 1:=by omega
      have bx:(1:Int)≤(f:Int):=by omega
      have bc:(f:Int) - 1<(n:Int):=by omega
      have rc:IntKind.i64.wrap ((f:Int) - 1)=(f:Int) - 1:=by rw [Dv];omega
      have r:af wr.drew base g n c (Z++(R++(A2.take (f - i)++(s,q,d,t,nn) :: (A2.drop (f - i)++Y)))):=an.o.below (Below.refl _ _).drew;have gd:w.grownBy wr.drew (some g):=ae aD.o (fd _ _);clear aF aG hD a6 aN ad ap hz an;go_wp2_with fail
      refine wp_region_held_drew (S:=(fun w'=>g<w'.heap.size)) (by kernel_rfl) (by exact r.lt.2) (fun L=>?_);generalize wr.drew=wd at r gd L ⊢;refine aP 0 9 L ?_;refine aP 10 3 L ?_;refine jX 9 13 (fun K hK=>?_) fun K hK=>?_
      · obtain ⟨J,E,D,I,F⟩:=r.at5 HY.o;have u:=r.lt.2;go_simp;clear J E D I F u;refine hK.o _ _ (by exact r.lt.2) fun L=>?_
        (try go_frame);refine aR 13 fun K hK=>?_
        obtain ⟨J,E,D,I,F⟩:=r.at5 HX.o;have u:=r.lt.2;go_simp;clear J E D I F u;refine hK.o _ _ (by exact r.lt.2) fun L=>?_
        (try go_frame);refine aP 14 1 L ?_;refine aR 15 fun K hK=>?_
        obtain ⟨J,E,D,I,F⟩:=r.at5 HX.o;have u:=r.lt.2;have O:=r.owns.frozenAt;have f0:=O ((f)*5);have f1:=O ((f)*5+1);have f2:=O ((f)*5+2);have f3:=O ((f)*5+3);have f4:=O ((f)*5+4);clear O;go_simp;clear J E D I F u;clear f0 f1 f2 f3 f4;have k1:=r.setE (i:=f) (e:=(X,U,W,T,N)) HI.o (r.ents _ (CV HY.o));refine hK.o _ (setE wd g (f) (X,U,W,T,N)) (by exact k1.lt.2) (fun L=>?_);clear hK K;have a5:=df wd g (f) (X,U,W,T,N);generalize setE wd g (f) (X,U,W,T,N)=a0 at k1 a5 L ⊢;(try go_frame);refine aP 16 1 L ?_;refine aR 17 fun K hK=>?_
        have ax:((Z++(R++(A2.take (f - i)++(s,q,d,t,nn) :: (A2.drop (f - i)++Y)))).set (f) (X,U,W,T,N))[f - 1]?=some (X,U,W,T,N):=by rw [Dx aE.o];exact HY.o
        obtain ⟨J,E,D,I,F⟩:=k1.at5 ax;have u:=k1.lt.2;have O:=k1.owns.frozenAt;have f0:=O ((f - 1)*5);have f1:=O ((f - 1)*5+1);have f2:=O ((f - 1)*5+2);have f3:=O ((f - 1)*5+3);have f4:=O ((f - 1)*5+4);clear O;go_simp;clear J E D I F u;clear f0 f1 f2 f3 f4;have k2:=k1.setE (i:=f - 1) (e:=(s,q,d,t,nn)) HJ.o (r.ents _ (CV HX.o));refine hK.o _ (setE a0 g (f - 1) (s,q,d,t,nn)) (by exact k2.lt.2) (fun L=>?_);clear hK K;have gw:wd.grownBy (setE a0 g (f - 1) (s,q,d,t,nn)) (some g):=ae a5 (df a0 g (f - 1) (s,q,d,t,nn));generalize setE a0 g (f - 1) (s,q,d,t,nn)=ag at k2 gw L ⊢;(try go_frame);refine dN ?_;have az:CG (af ag base g n c (Z++(R++(A2.take (f - 1 - i)++(s,q,d,t,nn) :: (A2.drop (f - 1 - i)++Y))))):=by have:=k2;rw [aK.o] at this;exact this
        have ay:CG (w.grownBy ag (some g)):=ae gd gw;clear k2 gw r k1 a5 gd L;go_wp2;go_roundw
        case rel=>exact ⟨f - 1,by omega,by omega,by first | go_num | (congr 1;omega),az.o,ay.o⟩
        case measure=>simp [intOf];omega
      · obtain ⟨J,E,D,I,F⟩:=r.at5 HX.o;have u:=r.lt.2;go_simp;clear J E D I F u;refine hK.o _ _ (by exact r.lt.2) fun L=>?_
        (try go_frame);refine aR 9 fun K hK=>?_
        obtain ⟨J,E,D,I,F⟩:=r.at5 HY.o;have u:=r.lt.2;go_simp;clear J E D I F u;refine hK.o _ _ (by exact r.lt.2) fun L=>?_
        (try go_frame);refine aP 14 1 L ?_;refine aR 15 fun K hK=>?_
        obtain ⟨J,E,D,I,F⟩:=r.at5 HX.o;have u:=r.lt.2;have O:=r.owns.frozenAt;have f0:=O ((f)*5);have f1:=O ((f)*5+1);have f2:=O ((f)*5+2);have f3:=O ((f)*5+3);have f4:=O ((f)*5+4);clear O;go_simp;clear J E D I F u;clear f0 f1 f2 f3 f4;have k1:=r.setE (i:=f) (e:=(X,U,W,T,N)) HI.o (r.ents _ (CV HY.o));refine hK.o _ (setE wd g (f) (X,U,W,T,N)) (by exact k1.lt.2) (fun L=>?_);clear hK K;have a5:=df wd g (f) (X,U,W,T,N);generalize setE wd g (f) (X,U,W,T,N)=a0 at k1 a5 L ⊢;(try go_frame);refine aP 16 1 L ?_;refine aR 17 fun K hK=>?_
        have ax:((Z++(R++(A2.take (f - i)++(s,q,d,t,nn) :: (A2.drop (f - i)++Y)))).set (f) (X,U,W,T,N))[f - 1]?=some (X,U,W,T,N):=by rw [Dx aE.o];exact HY.o
        obtain ⟨J,E,D,I,F⟩:=k1.at5 ax;have u:=k1.lt.2;have O:=k1.owns.frozenAt;have f0:=O ((f - 1)*5);have f1:=O ((f - 1)*5+1);have f2:=O ((f - 1)*5+2);have f3:=O ((f - 1)*5+3);have f4:=O ((f - 1)*5+4);clear O;go_simp;clear J E D I F u;clear f0 f1 f2 f3 f4;have k2:=k1.setE (i:=f - 1) (e:=(s,q,d,t,nn)) HJ.o (r.ents _ (CV HX.o));refine hK.o _ (setE a0 g (f - 1) (s,q,d,t,nn)) (by exact k2.lt.2) (fun L=>?_);clear hK K;have gw:wd.grownBy (setE a0 g (f - 1) (s,q,d,t,nn)) (some g):=ae a5 (df a0 g (f - 1) (s,q,d,t,nn));generalize setE a0 g (f - 1) (s,q,d,t,nn)=ag at k2 gw L ⊢;(try go_frame);refine dN ?_;have az:CG (af ag base g n c (Z++(R++(A2.take (f - 1 - i)++(s,q,d,t,nn) :: (A2.drop (f - 1 - i)++Y))))):=by have:=k2;rw [aK.o] at this;exact this
        have ay:CG (w.grownBy ag (some g)):=ae gd gw;clear k2 gw r k1 a5 gd L;go_wp2;go_roundw
        case rel=>exact ⟨f - 1,by omega,by omega,by first | go_num | (congr 1;omega),az.o,ay.o⟩
        case measure=>simp [intOf];omega
    · have b0:¬(i:Int)<(f:Int):=by omega
      have HD:CG (af wr base g n c (Z++(fw A [y]++Y))):=by
       have:=an.o;rw [show f - i=0 by omega] at this;rw [aI.o];simpa [CG] using this
      clear an;go_wp2;((try simp only [Exit.inBlock,Exit.then]);refine bodyPost_ret (results_none rfl _ _ _) rfl ?_)
      exact ⟨rfl,HD.o,aD.o⟩
end
end Go.Proofs.YtpobkmjicbobdaaGreat
