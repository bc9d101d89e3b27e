/- Walks. -/
import Derived.Test.YtpobkmjicbobdaaGreatBc32
namespace Go.Proofs.YtpobkmjicbobdaaGreat
set_option maxRecDepth 100000
set_option maxHeartbeats 40000000
open Go.RowKit
variable {A B:List ae} {a h k m:Nat} {x y z:ae}
section
attribute [local go_sem] Gi
theorem dq {w w':World} {g:Nat} (hb:Bl w w'):w.grownBy w' (some g):=⟨hb.os,hb.tape,hb.output,hb.size,fun k hk _=>hb.block k hk⟩
theorem pY (t n r o:ByteArray) (b g f d u s:Int) (w:World) :
 Calls Tryz.prog 112 #[.agg #[.string t,iT b,iT g,.string n,iT f],.agg #[.string r,iT d,iT u,.string o,iT s]] w fun e w'=>e=.returned (iT (Lib.compareInt b d))∧Bl w w':=by
 obtain ⟨D,hD⟩:=aG (Lib.compareInt b d);have c2:∀w,Calls Tryz.prog 170 #[iT b,iT d] w fun e w'=>e=.returned (iT D)∧w'=w:=by rw [hD];exact jn b d
 rw [← hD];clear hD;go_enter Tryz.func112,Tryz.ntmps112
 go_wp2_with fail
 refine (c2 _).mono ?_;rintro e w' ⟨rfl,rfl⟩;go_wp2;go_ret;exact ⟨rfl,bZ.alloc (by simp) _⟩
theorem nJ (a b:Int):Lib.compareInt a b<0 ↔ a<b:=by
 unfold Lib.compareInt;by_cases h:a<b
 · simp [h]
 · by_cases h2:a > b <;> simp [h,h2]
theorem xX (hB:Asc B) (hy:B[h - m]?=some y) (hl:y.2.1<x.2.1) (hk:k - m=h - m+1):∀e ∈ B.take (k - m),e.2.1<x.2.1:=by
 intro e g;rw [hk] at g;obtain ⟨i,hi,rfl⟩:=G7.1 g;simp only [Gn] at *;obtain ⟨d,b⟩:=E'.1 hy;have n:i<h - m+1:=by simp at hi;omega
 by_cases f:i=h - m
 · subst f;rw [b];exact hl
 · have:=F2.1 hB i (h - m) (by omega) d (by omega);rw [b] at this;omega
theorem sR (hB:Asc B) (hy:B[h - m]?=some y) (hl:x.2.1≤y.2.1):∀e ∈ B.drop (h - m),x.2.1≤e.2.1:=by
 intro e g;obtain ⟨i,hi,rfl⟩:=G7.1 g;simp only [Gr] at *;obtain ⟨d,b⟩:=E'.1 hy;simp at hi;by_cases f:i=0
 · subst f;simp only [Gv];rw [b];exact hl
 · have:=F2.1 hB (h - m) (h - m+i) d (by omega) (by omega);rw [b] at this;omega
theorem Dh (base g n c:Nat) (Z B Y:List ae) (x:ae) (a m b:Nat) (w:World) (hO:ag w base g n c (Z++(x :: (B++Y)))) (hB:Asc B) (ha:a=Z.length) (hm:m=a+1) (hb:b=m+B.length) (hn:n≤1048576) :
 Calls Tryz.prog 214 #[sL g n c,iT a,iT m,iT b,.func (.func 112) #[] #[]] w fun e w'=>e=.returned (.tuple #[])∧ag w' base g n c (Z++(fX [x] B++Y))∧w.grownBy w' (some g):=by
 have a9:=bT hB;have hl:=hO.len;simp only [Fy,F5] at hl;have aY:=hO.entsAt.big;have bg:=hO.entsAt.room;unfold maxLen at aY;have HA:=bT ha;have ar:=bT hb;have HO:=bT hO;have bl:b≤n:=by omega
 have b3:m≤b:=by omega
 have bn:a<m:=by omega
 have ax:=bT hm;have b2:IntKind.i64.wrap ((m:Int) - (a:Int))=1:=by rw [F0];omega
 clear hO hB ha hb hl hm;go_enter Tryz.func214,Tryz.ntmps214
 go_wp2;clear b2;go_loopw [10,11] (fun iv jv wr=>∃i j:Nat,iv=iT i∧jv=iT j∧m≤i∧i≤j∧j≤b∧ag wr base g n c (Z++(x :: (B++Y)))∧w.grownBy wr (some g)∧(∀e ∈ B.take (i - m),e.2.1<x.2.1)∧(∀e ∈ B.drop (j - m),x.2.1≤e.2.1)) (fun iv jv _=>(intOf jv).toNat - (intOf iv).toNat)
 case atStart=>exact ⟨m,b,rfl,rfl,Fv _,b3,Fv _,HO.o,⟨rfl,rfl,rfl,Fv _,fun _ _ _=>rfl⟩,by rw [G5];simp,by rw [GD (by have:=ar.o;omega)];simp⟩
 case round =>
  obtain ⟨i,j,rfl,rfl,aE,bj,ay,aJ,az,h1,h2⟩:=hrel;have ai:Eq (ag wr base g n c (Z++(x :: (B++Y)))):=aJ;have X:Eq (w.grownBy wr (some g)):=az;have H1:Eq (∀e ∈ B.take (i - m),e.2.1<x.2.1):=h1;have H2:Eq (∀e ∈ B.drop (j - m),x.2.1≤e.2.1):=h2;clear aJ az h1 h2 HO;by_cases bh:i<j
  · have aL:(i:Int)<(j:Int):=by omega
    obtain ⟨H,hH⟩:=aG ((i+j) / 2);have bk:i≤H:=by omega
    have bi:H<j:=by omega
    have eH:((i:Int)+(j:Int)) / 2=(H:Int):=by omega
    obtain ⟨y,hy⟩:∃y,B[H - m]?=some y:=⟨_,j' (by have:=ar.o;omega)⟩;have ab:Eq (B[H - m]?=some y):=hy;have a6:(Z++(x :: (B++Y)))[H]?=some y:=by
     have:=HA.o;have:=ax.o;rw [Fz (by omega),show H - Z.length=H - m+1 by omega,Gw,FE (by have:=(E'.1 hy).1;omega)];exact hy
    have a7:(Z++(x :: (B++Y)))[a]?=some x:=by
     rw [HA.o];simp
    obtain ⟨C,hC⟩:=aG (Lib.compareInt y.2.1 x.2.1);have HC:Eq ((C<0→y.2.1<x.2.1)∧(y.2.1<x.2.1→C<0)):=by rw [hC];exact ⟨(nJ _ _).1,(nJ _ _).2⟩
    have aF:∀w,Calls Tryz.prog 112 #[.agg #[.string y.1,iT y.2.1,iT y.2.2.1,.string y.2.2.2.1,iT y.2.2.2.2],.agg #[.string x.1,iT x.2.1,iT x.2.2.1,.string x.2.2.2.1,iT x.2.2.2.2]] w fun e w'=>e=.returned (iT C)∧Bl w w':=by rw [hC];exact fun w=>pY y.1 y.2.2.2.1 x.1 x.2.2.2.1 y.2.1 y.2.2.1 y.2.2.2.2 x.2.1 x.2.2.1 x.2.2.2.2 w
    obtain ⟨s,q,d,t,nn⟩:=y;obtain ⟨Q,R,W,U,f⟩:=x;have HX:Eq ((Z++((Q,R,W,U,f) :: (B++Y)))[H]?=some (s,q,d,t,nn)):=a6;have HY:Eq ((Z++((Q,R,W,U,f) :: (B++Y)))[a]?=some (Q,R,W,U,f)):=a7;have CQ:Eq (∀w,Calls Tryz.prog 112 #[.agg #[.string s,iT q,iT d,.string t,iT nn],.agg #[.string Q,iT R,iT W,.string U,iT f]] w fun e w'=>e=.returned (iT C)∧Bl w w'):=aF;have be:(H:Int)<(n:Int):=by omega
    have bf:(a:Int)<(n:Int):=by omega
    have D:ag wr.drew base g n c (Z++((Q,R,W,U,f) :: (B++Y))):=ai.o.below (Below.refl _ _).drew;have gd:w.grownBy wr.drew (some g):=af X.o (fD _ _);clear hH hy a6 a7 hC aF ai X;go_wp2_with fail
    refine wp_region_held_drew (S:=(fun w'=>g<w'.heap.size)) (by kernel_rfl) (by exact D.lt.2) (fun N=>?_);generalize wr.drew=wd at D gd N ⊢;refine aP 0 4 N ?_;refine aP 5 3 N ?_;refine lg 4 8 (fun K hK=>?_) fun K hK=>?_
    · obtain ⟨J,E,u,I,L⟩:=D.at5 HX.o;have F:=D.lt.2;go_simp;clear J E u I L F;refine hK.o _ _ (by exact D.lt.2) fun N=>?_
      (try go_frame);refine aQ 8 fun K hK=>?_
      obtain ⟨J,E,u,I,L⟩:=D.at5 HY.o;have F:=D.lt.2;go_simp;clear J E u I L F;refine hK.o _ _ (by exact D.lt.2) fun N=>?_
      (try go_frame);refine aQ 9 fun K hK=>?_
      go_simp;refine (CQ.o _).mono ?_;rintro e w1 ⟨rfl,b1⟩;have k1:=D.below b1;have gw:w.grownBy w1 (some g):=af gd (dq b1);go_wp2_with fail
      refine hK.o _ _ (by exact k1.lt.2) fun N=>?_
      (try go_frame);refine aP 10 1 N ?_;refine dN ?_;have a3:Eq (ag w1 base g n c (Z++((Q,R,W,U,f) :: (B++Y)))):=k1;have X:Eq (w.grownBy w1 (some g)):=gw;clear D gd k1 gw N b1;by_cases a8:C<0
      · have HL:Eq ((s,q,d,t,nn).2.1<(Q,R,W,U,f).2.1):=HC.o.1 a8;go_wp2;go_roundw
        case rel=>exact ⟨H+1,j,by go_num,rfl,by omega,by omega,ay,a3.o,X.o,xX a9.o ab.o HL.o (by omega),H2.o⟩
        case measure=>simp [intOf];omega
      · have HL:Eq ((Q,R,W,U,f).2.1≤(s,q,d,t,nn).2.1):=Int.not_lt.1 (fun h=>a8 (HC.o.2 h));go_wp2;go_roundw
        case rel=>exact ⟨i,H,rfl,rfl,aE,by omega,by omega,a3.o,X.o,H1.o,sR a9.o ab.o HL.o⟩
        case measure=>simp [intOf];omega
    · obtain ⟨J,E,u,I,L⟩:=D.at5 HY.o;have F:=D.lt.2;go_simp;clear J E u I L F;refine hK.o _ _ (by exact D.lt.2) fun N=>?_
      (try go_frame);refine aQ 4 fun K hK=>?_
      obtain ⟨J,E,u,I,L⟩:=D.at5 HX.o;have F:=D.lt.2;go_simp;clear J E u I L F;refine hK.o _ _ (by exact D.lt.2) fun N=>?_
      (try go_frame);refine aQ 9 fun K hK=>?_
      go_simp;refine (CQ.o _).mono ?_;rintro e w1 ⟨rfl,b1⟩;have k1:=D.below b1;have gw:w.grownBy w1 (some g):=af gd (dq b1);go_wp2_with fail
      refine hK.o _ _ (by exact k1.lt.2) fun N=>?_
      (try go_frame);refine aP 10 1 N ?_;refine dN ?_;have a3:Eq (ag w1 base g n c (Z++((Q,R,W,U,f) :: (B++Y)))):=k1;have X:Eq (w.grownBy w1 (some g)):=gw;clear D gd k1 gw N b1;by_cases a8:C<0
      · have HL:Eq ((s,q,d,t,nn).2.1<(Q,R,W,U,f).2.1):=HC.o.1 a8;go_wp2;go_roundw
        case rel=>exact ⟨H+1,j,by go_num,rfl,by omega,by omega,ay,a3.o,X.o,xX a9.o ab.o HL.o (by omega),H2.o⟩
        case measure=>simp [intOf];omega
      · have HL:Eq ((Q,R,W,U,f).2.1≤(s,q,d,t,nn).2.1):=Int.not_lt.1 (fun h=>a8 (HC.o.2 h));go_wp2;go_roundw
        case rel=>exact ⟨i,H,rfl,rfl,aE,by omega,by omega,a3.o,X.o,H1.o,sR a9.o ab.o HL.o⟩
        case measure=>simp [intOf];omega
  · have aL:¬(i:Int)<(j:Int):=by omega
    have aR:i=j:=by omega
    subst aR;obtain ⟨r,al⟩:=aG (B.take (i - m));obtain ⟨B2,au⟩:=aG (B.drop (i - m));have av:B=r++B2:=by rw [al,au,FX]
    have aI:Eq (fX [x] B=r++x :: B2):=by
     show fX [x] B=_
     rw [av];exact tz x r B2 (by rw [al];exact H1.o) (by rw [au];exact fun e he=>Int.not_lt.2 (H2.o e he))
    have aj:Eq (r.length=i - m):=by show r.length=i - m;rw [al,FC];have:=ar.o;omega
    have aK:Eq (ag wr base g n c (Z++(r.take 0++x :: (r.drop 0++(B2++Y))))):=by have:=ai.o;rw [av] at this;simpa [Eq] using this
    have bm:IntKind.i64.wrap ((i:Int) - 1)=(i:Int) - 1:=by rw [F0];omega
    clear al au av H1 H2 ai;go_wp2;go_loopw [13] (fun kv wq=>∃T:Nat,T≤i - m∧kv=iT ((a:Int)+(T:Int))∧ag wq base g n c (Z++(r.take T++x :: (r.drop T++(B2++Y))))∧w.grownBy wq (some g)) (fun kv _=>i - (intOf kv).toNat)
    case atStart=>exact ⟨0,FB _,by simp,aK.o,X.o⟩
    case round =>
    obtain ⟨T,hT,rfl,aH,aA⟩:=hrel;have ad:Eq (ag wr base g n c (Z++(r.take T++x :: (r.drop T++(B2++Y))))):=aH;have aO:Eq (w.grownBy wr (some g)):=aA;clear aH aA aK X;have aB:=ax.o;by_cases aW:T<i - m
    · have aZ:(a:Int)+(T:Int)<(i:Int) - 1:=by omega
      obtain ⟨y,hy⟩:∃y,r[T]?=some y:=⟨_,j' (by rw [aj.o];exact aW)⟩;have aC:r.drop T=y :: r.drop (T+1):=by
       obtain ⟨h1,h2⟩:=E'.1 hy;rw [Gj h1,h2]
      have aD:r.take (T+1)=r.take T++[y]:=by rw [FU,hy];rfl
      have hD:Z++(r.take T++x :: (r.drop T++(B2++Y)))=(Z++r.take T)++x :: y :: (r.drop (T+1)++(B2++Y)):=by rw [aC];simp only [FT,Gd]
      have hlen:(Z++r.take T).length=a+T:=by have:=HA.o;have:=aj.o;simp;omega
      have a7:(Z++(r.take T++x :: (r.drop T++(B2++Y))))[a+T]?=some x:=by rw [hD,← hlen];simp
      have a6:(Z++(r.take T++x :: (r.drop T++(B2++Y))))[a+T+1]?=some y:=by
       rw [hD,← hlen,Fz (by omega),GI];rfl
      have am:(((Z++(r.take T++x :: (r.drop T++(B2++Y)))).set (a+T) y).set (a+T+1) x)=Z++(r.take (T+1)++x :: (r.drop (T+1)++(B2++Y))):=by
       have:=x7 (Z++r.take T) [] (r.drop (T+1)++(B2++Y)) x y;simp only [Gb,Gz,Gv,hlen] at this;rw [hD,this,aD];simp only [FT,Gd,Gb]
      obtain ⟨s,q,d,t,nn⟩:=x;obtain ⟨Q,R,W,U,f⟩:=y;have HX:Eq ((Z++(r.take T++(s,q,d,t,nn) :: (r.drop T++(B2++Y))))[a+T]?=some (s,q,d,t,nn)):=a7;have HY:Eq ((Z++(r.take T++(s,q,d,t,nn) :: (r.drop T++(B2++Y))))[a+T+1]?=some (Q,R,W,U,f)):=a6;have aM:Eq ((((Z++(r.take T++(s,q,d,t,nn) :: (r.drop T++(B2++Y)))).set (a+T) (Q,R,W,U,f)).set (a+T+1) (s,q,d,t,nn))=Z++(r.take (T+1)++(s,q,d,t,nn) :: (r.drop (T+1)++(B2++Y)))):=am;have HI:Eq (a+T<n):=by show a+T<n;omega
      have HJ:Eq (a+T+1<n):=by show a+T+1<n;omega
      have aN:Eq (a+T≠a+T+1):=by show a+T≠a+T+1;omega
      have ea:((a:Int)+(T:Int)).toNat=a+T:=by omega
      have pa:(0:Int)≤(a:Int)+(T:Int):=by omega
      have ba:(a:Int)+(T:Int)<(n:Int):=by omega
      have ec:((a:Int)+(T:Int)+1).toNat=a+T+1:=by omega
      have pc:(0:Int)≤(a:Int)+(T:Int)+1:=by omega
      have bc:(a:Int)+(T:Int)+1<(n:Int):=by omega
      have rc:IntKind.i64.wrap ((a:Int)+(T:Int)+1)=(a:Int)+(T:Int)+1:=by rw [F0];omega
      have D:ag wr.drew base g n c (Z++(r.take T++(s,q,d,t,nn) :: (r.drop T++(B2++Y)))):=ad.o.below (Below.refl _ _).drew;have gd:w.grownBy wr.drew (some g):=af aO.o (fD _ _);clear aC aD hD hlen a7 a6 am hy ad aB;go_wp2_with fail
      refine wp_region_held_drew (S:=(fun w'=>g<w'.heap.size)) (by kernel_rfl) (by exact D.lt.2) (fun N=>?_);generalize wr.drew=wd at D gd N ⊢;refine aP 0 9 N ?_;refine aP 10 3 N ?_;refine lg 9 13 (fun K hK=>?_) fun K hK=>?_
      · obtain ⟨J,E,u,I,L⟩:=D.at5 HY.o;have F:=D.lt.2;go_simp;clear J E u I L F;refine hK.o _ _ (by exact D.lt.2) fun N=>?_
        (try go_frame);refine aQ 13 fun K hK=>?_
        obtain ⟨J,E,u,I,L⟩:=D.at5 HX.o;have F:=D.lt.2;go_simp;clear J E u I L F;refine hK.o _ _ (by exact D.lt.2) fun N=>?_
        (try go_frame);refine aP 14 1 N ?_;refine aQ 15 fun K hK=>?_
        obtain ⟨J,E,u,I,L⟩:=D.at5 HX.o;have F:=D.lt.2;have O:=D.owns.frozenAt;have f0:=O ((a+T)*5);have f1:=O ((a+T)*5+1);have f2:=O ((a+T)*5+2);have f3:=O ((a+T)*5+3);have f4:=O ((a+T)*5+4);clear O;go_simp;clear J E u I L F;clear f0 f1 f2 f3 f4;have k1:=D.setE (i:=a+T) (e:=(Q,R,W,U,f)) HI.o (D.ents _ (Fw HY.o));refine hK.o _ (setE wd g (a+T) (Q,R,W,U,f)) (by exact k1.lt.2) (fun N=>?_);clear hK K;have a1:=dz wd g (a+T) (Q,R,W,U,f);generalize setE wd g (a+T) (Q,R,W,U,f)=a0 at k1 a1 N ⊢;(try go_frame);refine aP 16 1 N ?_;refine aQ 17 fun K hK=>?_
        have ao:((Z++(r.take T++(s,q,d,t,nn) :: (r.drop T++(B2++Y)))).set (a+T) (Q,R,W,U,f))[a+T+1]?=some (Q,R,W,U,f):=by rw [F3 aN.o];exact HY.o
        obtain ⟨J,E,u,I,L⟩:=k1.at5 ao;have F:=k1.lt.2;have O:=k1.owns.frozenAt;have f0:=O ((a+T+1)*5);have f1:=O ((a+T+1)*5+1);have f2:=O ((a+T+1)*5+2);have f3:=O ((a+T+1)*5+3);have f4:=O ((a+T+1)*5+4);clear O;go_simp;clear J E u I L F;clear f0 f1 f2 f3 f4;have k2:=k1.setE (i:=a+T+1) (e:=(s,q,d,t,nn)) HJ.o (D.ents _ (Fw HX.o));refine hK.o _ (setE a0 g (a+T+1) (s,q,d,t,nn)) (by exact k2.lt.2) (fun N=>?_);clear hK K;have gw:wd.grownBy (setE a0 g (a+T+1) (s,q,d,t,nn)) (some g):=af a1 (dz a0 g (a+T+1) (s,q,d,t,nn));generalize setE a0 g (a+T+1) (s,q,d,t,nn)=a5 at k2 gw N ⊢;(try go_frame);refine dN ?_;have aq:Eq (ag a5 base g n c (Z++(r.take (T+1)++(s,q,d,t,nn) :: (r.drop (T+1)++(B2++Y))))):=by have:=k2;rw [aM.o] at this;exact this
        have aw:Eq (w.grownBy a5 (some g)):=af gd gw;clear k2 gw D k1 a1 gd N;go_wp2;go_roundw
        case rel=>exact ⟨T+1,by omega,by first | go_num | (congr 1;omega),aq.o,aw.o⟩
        case measure=>simp [intOf];omega
      · obtain ⟨J,E,u,I,L⟩:=D.at5 HX.o;have F:=D.lt.2;go_simp;clear J E u I L F;refine hK.o _ _ (by exact D.lt.2) fun N=>?_
        (try go_frame);refine aQ 9 fun K hK=>?_
        obtain ⟨J,E,u,I,L⟩:=D.at5 HY.o;have F:=D.lt.2;go_simp;clear J E u I L F;refine hK.o _ _ (by exact D.lt.2) fun N=>?_
        (try go_frame);refine aP 14 1 N ?_;refine aQ 15 fun K hK=>?_
        obtain ⟨J,E,u,I,L⟩:=D.at5 HX.o;have F:=D.lt.2;have O:=D.owns.frozenAt;have f0:=O ((a+T)*5);have f1:=O ((a+T)*5+1);have f2:=O ((a+T)*5+2);have f3:=O ((a+T)*5+3);have f4:=O ((a+T)*5+4);clear O;go_simp;clear J E u I L F;clear f0 f1 f2 f3 f4;have k1:=D.setE (i:=a+T) (e:=(Q,R,W,U,f)) HI.o (D.ents _ (Fw HY.o));refine hK.o _ (setE wd g (a+T) (Q,R,W,U,f)) (by exact k1.lt.2) (fun N=>?_);clear hK K;have a1:=dz wd g (a+T) (Q,R,W,U,f);generalize setE wd g (a+T) (Q,R,W,U,f)=a0 at k1 a1 N ⊢;(try go_frame);refine aP 16 1 N ?_;refine aQ 17 fun K hK=>?_
        have ao:((Z++(r.take T++(s,q,d,t,nn) :: (r.drop T++(B2++Y)))).set (a+T) (Q,R,W,U,f))[a+T+1]?=some (Q,R,W,U,f):=by rw [F3 aN.o];exact HY.o
        obtain ⟨J,E,u,I,L⟩:=k1.at5 ao;have F:=k1.lt.2;have O:=k1.owns.frozenAt;have f0:=O ((a+T+1)*5);have f1:=O ((a+T+1)*5+1);have f2:=O ((a+T+1)*5+2);have f3:=O ((a+T+1)*5+3);have f4:=O ((a+T+1)*5+4);clear O;go_simp;clear J E u I L F;clear f0 f1 f2 f3 f4;have k2:=k1.setE (i:=a+T+1) (e:=(s,q,d,t,nn)) HJ.o (D.ents _ (Fw HX.o));refine hK.o _ (setE a0 g (a+T+1) (s,q,d,t,nn)) (by exact k2.lt.2) (fun N=>?_);clear hK K;have gw:wd.grownBy (setE a0 g (a+T+1) (s,q,d,t,nn)) (some g):=af a1 (dz a0 g (a+T+1) (s,q,d,t,nn));generalize setE a0 g (a+T+1) (s,q,d,t,nn)=a5 at k2 gw N ⊢;(try go_frame);refine dN ?_;have aq:Eq (ag a5 base g n c (Z++(r.take (T+1)++(s,q,d,t,nn) :: (r.drop (T+1)++(B2++Y))))):=by have:=k2;rw [aM.o] at this;exact this
        have aw:Eq (w.grownBy a5 (some g)):=af gd gw;clear k2 gw D k1 a1 gd N;go_wp2;go_roundw
        case rel=>exact ⟨T+1,by omega,by first | go_num | (congr 1;omega),aq.o,aw.o⟩
        case measure=>simp [intOf];omega
    · have aZ:¬(a:Int)+(T:Int)<(i:Int) - 1:=by omega
      have HD:Eq (ag wr base g n c (Z++(fX [x] B++Y))):=by
       have:=ad.o;rw [FH (by rw [aj.o];omega),GD (by rw [aj.o];omega)] at this;rw [aI.o];simpa [Eq] using this
      clear ad aB;go_wp2;((try simp only [Exit.inBlock,Exit.then]);refine bodyPost_ret (results_none rfl _ _ _) rfl ?_)
      exact ⟨rfl,HD.o,aO.o⟩
theorem tY (hA:Asc A) (hz:A[h - a]?=some z) (hl:z.2.1≤y.2.1) (hk:k - a=h - a+1):∀e ∈ A.take (k - a),e.2.1≤y.2.1:=by
 intro e g;rw [hk] at g;obtain ⟨i,hi,rfl⟩:=G7.1 g;simp only [Gn] at *;obtain ⟨d,b⟩:=E'.1 hz;have n:i<h - a+1:=by simp at hi;omega
 by_cases f:i=h - a
 · subst f;rw [b];exact hl
 · have:=F2.1 hA i (h - a) (by omega) d (by omega);rw [b] at this;omega
theorem qw (hA:Asc A) (hz:A[h - a]?=some z) (hl:y.2.1<z.2.1):∀e ∈ A.drop (h - a),y.2.1<e.2.1:=by
 intro e g;obtain ⟨i,hi,rfl⟩:=G7.1 g;simp only [Gr] at *;obtain ⟨d,b⟩:=E'.1 hz;simp at hi;by_cases f:i=0
 · subst f;simp only [Gv];rw [b];exact hl
 · have:=F2.1 hA (h - a) (h - a+i) d (by omega) (by omega);rw [b] at this;omega
theorem uB (b X3:List ae) (p q:ae):((b++p :: q :: X3).set (b.length+1) p).set b.length q=b++q :: p :: X3:=by
 rw [GB _ _ (by omega),GI,GL,GY,GB _ _ (Fv _),G5,GY]
theorem Dg (base g n c:Nat) (Z A Y:List ae) (y:ae) (a m b:Nat) (w:World) (hO:ag w base g n c (Z++(A++(y :: Y)))) (hA:Asc A) (a6:2≤A.length) (ha:a=Z.length) (hm:m=a+A.length) (hb:b=m+1) (hn:n≤1048576) :
 Calls Tryz.prog 214 #[sL g n c,iT a,iT m,iT b,.func (.func 112) #[] #[]] w fun e w'=>e=.returned (.tuple #[])∧ag w' base g n c (Z++(fX A [y]++Y))∧w.grownBy w' (some g):=by
 have ak:=bT hA;have hl:=hO.len;simp only [Fy,F5] at hl;have aX:=hO.entsAt.big;have bl:=hO.entsAt.room;unfold maxLen at aX;have HA:=bT ha;have aa:=bT hm;have HO:=bT hO;have bt:b≤n:=by omega
 have bu:m<b:=by omega
 have b5:a≤m:=by omega
 have bj:=bT hb;obtain ⟨ka,b7⟩:=aG A.length;have b4:IntKind.i64.wrap ((m:Int) - (a:Int))=(ka:Int):=by rw [F0];omega
 have bq:((ka:Int) == 1)=false:=by simp;omega
 have aY:IntKind.i64.wrap ((b:Int) - (m:Int))=1:=by rw [F0];omega
 clear hO hA ha hb hl hm a6 b7;go_enter Tryz.func214,Tryz.ntmps214
 go_wp2;clear b4 aY;go_loopw [14,15] (fun iv jv wr=>∃i j:Nat,iv=iT i∧jv=iT j∧a≤i∧i≤j∧j≤m∧ag wr base g n c (Z++(A++(y :: Y)))∧w.grownBy wr (some g)∧(∀e ∈ A.take (i - a),e.2.1≤y.2.1)∧(∀e ∈ A.drop (j - a),y.2.1<e.2.1)) (fun iv jv _=>(intOf jv).toNat - (intOf iv).toNat)
 case atStart=>exact ⟨a,m,rfl,rfl,Fv _,b5,Fv _,HO.o,⟨rfl,rfl,rfl,Fv _,fun _ _ _=>rfl⟩,by rw [G5];simp,by rw [GD (by have:=aa.o;omega)];simp⟩
 case round =>
  obtain ⟨i,j,rfl,rfl,aF,br,ar,aI,ay,h1,h2⟩:=hrel;have am:Eq (ag wr base g n c (Z++(A++(y :: Y)))):=aI;have R:Eq (w.grownBy wr (some g)):=ay;have H1:Eq (∀e ∈ A.take (i - a),e.2.1≤y.2.1):=h1;have H2:Eq (∀e ∈ A.drop (j - a),y.2.1<e.2.1):=h2;clear aI ay h1 h2 HO;by_cases bm:i<j
  · have aK:(i:Int)<(j:Int):=by omega
    obtain ⟨H,hH⟩:=aG ((i+j) / 2);have bs:i≤H:=by omega
    have bo:H<j:=by omega
    have ax:Eq (H+1 - a=H - a+1):=by show H+1 - a=H - a+1;omega
    have eH:((i:Int)+(j:Int)) / 2=(H:Int):=by omega
    obtain ⟨z,hz⟩:∃z,A[H - a]?=some z:=⟨_,j' (by have:=aa.o;omega)⟩;have al:Eq (A[H - a]?=some z):=hz;have aD:(Z++(A++(y :: Y)))[H]?=some z:=by
     have:=HA.o;rw [Fz (by omega),show H - Z.length=H - a by omega,FE ((E'.1 hz).1)];exact hz
    have a9:(Z++(A++(y :: Y)))[m]?=some y:=by
     have:=HA.o;have:=aa.o;rw [Fz (by omega),Fz (by omega),show m - Z.length - A.length=0 by omega];rfl
    obtain ⟨C,hC⟩:=aG (Lib.compareInt y.2.1 z.2.1);have HC:Eq ((C<0→y.2.1<z.2.1)∧(y.2.1<z.2.1→C<0)):=by rw [hC];exact ⟨(nJ _ _).1,(nJ _ _).2⟩
    have aC:∀w,Calls Tryz.prog 112 #[.agg #[.string y.1,iT y.2.1,iT y.2.2.1,.string y.2.2.2.1,iT y.2.2.2.2],.agg #[.string z.1,iT z.2.1,iT z.2.2.1,.string z.2.2.2.1,iT z.2.2.2.2]] w fun e w'=>e=.returned (iT C)∧Bl w w':=by rw [hC];exact fun w=>pY y.1 y.2.2.2.1 z.1 z.2.2.2.1 y.2.1 y.2.2.1 y.2.2.2.2 z.2.1 z.2.2.1 z.2.2.2.2 w
    obtain ⟨s,q,d,t,nn⟩:=y;obtain ⟨T,U,X,W,N⟩:=z;have HX:Eq ((Z++(A++((s,q,d,t,nn) :: Y)))[m]?=some (s,q,d,t,nn)):=a9;have HY:Eq ((Z++(A++((s,q,d,t,nn) :: Y)))[H]?=some (T,U,X,W,N)):=aD;have CQ:Eq (∀w,Calls Tryz.prog 112 #[.agg #[.string s,iT q,iT d,.string t,iT nn],.agg #[.string T,iT U,iT X,.string W,iT N]] w fun e w'=>e=.returned (iT C)∧Bl w w'):=aC;have bh:(H:Int)<(n:Int):=by omega
    have bn:(m:Int)<(n:Int):=by omega
    have r:ag wr.drew base g n c (Z++(A++((s,q,d,t,nn) :: Y))):=am.o.below (Below.refl _ _).drew;have gd:w.grownBy wr.drew (some g):=af R.o (fD _ _);clear hH hz a9 aD hC aC am R;by_cases ad:C<0
    · have b0:decide (C<0)=true:=decide_eq_true ad;go_wp2_with fail
      refine wp_region_held_drew (S:=(fun w'=>g<w'.heap.size)) (by kernel_rfl) (by exact r.lt.2) (fun L=>?_);generalize wr.drew=wd at r gd L ⊢;refine aP 0 4 L ?_;refine aP 5 3 L ?_;refine lg 4 8 (fun K hK=>?_) fun K hK=>?_
      · obtain ⟨I,D,u,F,J⟩:=r.at5 HX.o;have E:=r.lt.2;go_simp;clear I D u F J E;refine hK.o _ _ (by exact r.lt.2) fun L=>?_
        (try go_frame);refine aQ 8 fun K hK=>?_
        obtain ⟨I,D,u,F,J⟩:=r.at5 HY.o;have E:=r.lt.2;go_simp;clear I D u F J E;refine hK.o _ _ (by exact r.lt.2) fun L=>?_
        (try go_frame);refine aQ 9 fun K hK=>?_
        go_simp;refine (CQ.o _).mono ?_;rintro e w1 ⟨rfl,b1⟩;have k1:=r.below b1;have gw:w.grownBy w1 (some g):=af gd (dq b1);go_wp2_with fail
        refine hK.o _ _ (by exact k1.lt.2) fun L=>?_
        (try go_frame);refine aP 10 2 L ?_;refine dN ?_;have a4:Eq (ag w1 base g n c (Z++(A++((s,q,d,t,nn) :: Y)))):=k1;have R:Eq (w.grownBy w1 (some g)):=gw;clear r gd k1 gw L b1;have HL:Eq ((s,q,d,t,nn).2.1<(T,U,X,W,N).2.1):=HC.o.1 ad;go_wp2;go_roundw
        case rel=>exact ⟨i,H,rfl,rfl,aF,by omega,by omega,a4.o,R.o,H1.o,qw (y:=(s,q,d,t,nn)) ak.o al.o HL.o⟩
        case measure=>simp [intOf];omega
      · obtain ⟨I,D,u,F,J⟩:=r.at5 HY.o;have E:=r.lt.2;go_simp;clear I D u F J E;refine hK.o _ _ (by exact r.lt.2) fun L=>?_
        (try go_frame);refine aQ 4 fun K hK=>?_
        obtain ⟨I,D,u,F,J⟩:=r.at5 HX.o;have E:=r.lt.2;go_simp;clear I D u F J E;refine hK.o _ _ (by exact r.lt.2) fun L=>?_
        (try go_frame);refine aQ 9 fun K hK=>?_
        go_simp;refine (CQ.o _).mono ?_;rintro e w1 ⟨rfl,b1⟩;have k1:=r.below b1;have gw:w.grownBy w1 (some g):=af gd (dq b1);go_wp2_with fail
        refine hK.o _ _ (by exact k1.lt.2) fun L=>?_
        (try go_frame);refine aP 10 2 L ?_;refine dN ?_;have a4:Eq (ag w1 base g n c (Z++(A++((s,q,d,t,nn) :: Y)))):=k1;have R:Eq (w.grownBy w1 (some g)):=gw;clear r gd k1 gw L b1;have HL:Eq ((s,q,d,t,nn).2.1<(T,U,X,W,N).2.1):=HC.o.1 ad;go_wp2;go_roundw
        case rel=>exact ⟨i,H,rfl,rfl,aF,by omega,by omega,a4.o,R.o,H1.o,qw (y:=(s,q,d,t,nn)) ak.o al.o HL.o⟩
        case measure=>simp [intOf];omega
    · have b0:decide (C<0)=false:=decide_eq_false ad;have HL:Eq ((T,U,X,W,N).2.1≤(s,q,d,t,nn).2.1):=Int.not_lt.1 (fun h=>ad (HC.o.2 h));go_wp2_with fail
      refine wp_region_held_drew (S:=(fun w'=>g<w'.heap.size)) (by kernel_rfl) (by exact r.lt.2) (fun L=>?_);generalize wr.drew=wd at r gd L ⊢;refine aP 0 4 L ?_;refine aP 5 3 L ?_;refine lg 4 8 (fun K hK=>?_) fun K hK=>?_
      · obtain ⟨I,D,u,F,J⟩:=r.at5 HX.o;have E:=r.lt.2;go_simp;clear I D u F J E;refine hK.o _ _ (by exact r.lt.2) fun L=>?_
        (try go_frame);refine aQ 8 fun K hK=>?_
        obtain ⟨I,D,u,F,J⟩:=r.at5 HY.o;have E:=r.lt.2;go_simp;clear I D u F J E;refine hK.o _ _ (by exact r.lt.2) fun L=>?_
        (try go_frame);refine aQ 9 fun K hK=>?_
        go_simp;refine (CQ.o _).mono ?_;rintro e w1 ⟨rfl,b1⟩;have k1:=r.below b1;have gw:w.grownBy w1 (some g):=af gd (dq b1);go_wp2_with fail
        refine hK.o _ _ (by exact k1.lt.2) fun L=>?_
        (try go_frame);refine aP 10 2 L ?_;refine dN ?_;have a4:Eq (ag w1 base g n c (Z++(A++((s,q,d,t,nn) :: Y)))):=k1;have R:Eq (w.grownBy w1 (some g)):=gw;clear r gd k1 gw L b1;go_wp2;go_roundw
        case rel=>exact ⟨H+1,j,by go_num,rfl,by omega,by omega,ar,a4.o,R.o,tY (y:=(s,q,d,t,nn)) ak.o al.o HL.o ax.o,H2.o⟩
        case measure=>simp [intOf];omega
      · obtain ⟨I,D,u,F,J⟩:=r.at5 HY.o;have E:=r.lt.2;go_simp;clear I D u F J E;refine hK.o _ _ (by exact r.lt.2) fun L=>?_
        (try go_frame);refine aQ 4 fun K hK=>?_
        obtain ⟨I,D,u,F,J⟩:=r.at5 HX.o;have E:=r.lt.2;go_simp;clear I D u F J E;refine hK.o _ _ (by exact r.lt.2) fun L=>?_
        (try go_frame);refine aQ 9 fun K hK=>?_
        go_simp;refine (CQ.o _).mono ?_;rintro e w1 ⟨rfl,b1⟩;have k1:=r.below b1;have gw:w.grownBy w1 (some g):=af gd (dq b1);go_wp2_with fail
        refine hK.o _ _ (by exact k1.lt.2) fun L=>?_
        (try go_frame);refine aP 10 2 L ?_;refine dN ?_;have a4:Eq (ag w1 base g n c (Z++(A++((s,q,d,t,nn) :: Y)))):=k1;have R:Eq (w.grownBy w1 (some g)):=gw;clear r gd k1 gw L b1;go_wp2;go_roundw
        case rel=>exact ⟨H+1,j,by go_num,rfl,by omega,by omega,ar,a4.o,R.o,tY (y:=(s,q,d,t,nn)) ak.o al.o HL.o ax.o,H2.o⟩
        case measure=>simp [intOf];omega
  · have aK:¬(i:Int)<(j:Int):=by omega
    have aR:i=j:=by omega
    subst aR;obtain ⟨Q,ai⟩:=aG (A.take (i - a));obtain ⟨A2,a6⟩:=aG (A.drop (i - a));have ap:A=Q++A2:=by rw [ai,a6,FX]
    have aH:Eq (fX A [y]=Q++y :: A2):=by
     show fX A [y]=_
     rw [ap];exact re y Q A2 (by rw [ai];exact fun e he=>Int.not_lt.2 (H1.o e he)) (by rw [a6];exact H2.o)
    have an:Eq (Q.length=i - a∧A2.length=m - i):=by show Q.length=i - a∧A2.length=m - i;rw [ai,a6,FC,FN];have:=aa.o;omega
    have aJ:Eq (ag wr base g n c (Z++(Q++(A2.take (m - i)++y :: (A2.drop (m - i)++Y))))):=by
     have:=am.o;rw [ap] at this;rw [FH (by rw [an.o.2];omega),GD (by rw [an.o.2];omega)];simpa [Eq] using this
    clear ai a6 ap H1 H2 am;go_wp2;go_loopw [17] (fun kv wq=>∃f:Nat,i≤f∧f≤m∧kv=iT f∧ag wq base g n c (Z++(Q++(A2.take (f - i)++y :: (A2.drop (f - i)++Y))))∧w.grownBy wq (some g)) (fun kv _=>(intOf kv).toNat)
    case atStart=>exact ⟨m,ar,Fv _,rfl,aJ.o,R.o⟩
    case round =>
    obtain ⟨f,bp,bk,rfl,aE,az⟩:=hrel;have aj:Eq (ag wr base g n c (Z++(Q++(A2.take (f - i)++y :: (A2.drop (f - i)++Y))))):=aE;have aN:Eq (w.grownBy wr (some g)):=az;clear aE az aJ R;by_cases hK1:i<f
    · have aZ:(i:Int)<(f:Int):=by omega
      obtain ⟨z,hz⟩:∃z,A2[f - i - 1]?=some z:=⟨_,j' (by rw [an.o.2];omega)⟩;have aA:A2.drop (f - 1 - i)=z :: A2.drop (f - i):=by
       obtain ⟨h1,h2⟩:=E'.1 hz;rw [show f - 1 - i=f - i - 1 by omega,Gj h1,h2,show f - i - 1+1=f - i by omega]
      have aB:A2.take (f - i)=A2.take (f - 1 - i)++[z]:=by rw [show f - i=f - 1 - i+1 by omega,FU,show f - 1 - i=f - i - 1 by omega,hz];rfl
      have hD:Z++(Q++(A2.take (f - i)++y :: (A2.drop (f - i)++Y)))=(Z++(Q++A2.take (f - 1 - i)))++z :: y :: (A2.drop (f - i)++Y):=by rw [aB];simp only [FT,Gd,Gb]
      have hlen:(Z++(Q++A2.take (f - 1 - i))).length=f - 1:=by have:=HA.o;have:=an.o;have:=aa.o;simp;omega
      have aO:(Z++(Q++(A2.take (f - i)++y :: (A2.drop (f - i)++Y))))[f]?=some y:=by
       rw [hD,Fz (by omega),hlen,show f - (f - 1)=1 by omega];rfl
      have a9:(Z++(Q++(A2.take (f - i)++y :: (A2.drop (f - i)++Y))))[f - 1]?=some z:=by rw [hD,Fz (by omega),hlen,G5];rfl
      have ao:(((Z++(Q++(A2.take (f - i)++y :: (A2.drop (f - i)++Y)))).set f z).set (f - 1) y)=Z++(Q++(A2.take (f - 1 - i)++y :: (A2.drop (f - 1 - i)++Y))):=by
       have:=uB (Z++(Q++A2.take (f - 1 - i))) (A2.drop (f - i)++Y) z y;rw [hlen,show f - 1+1=f by omega] at this;rw [hD,this,aA];simp only [FT,Gd]
      obtain ⟨s,q,d,t,nn⟩:=y;obtain ⟨T,U,X,W,N⟩:=z;have HX:Eq ((Z++(Q++(A2.take (f - i)++(s,q,d,t,nn) :: (A2.drop (f - i)++Y))))[f]?=some (s,q,d,t,nn)):=aO;have HY:Eq ((Z++(Q++(A2.take (f - i)++(s,q,d,t,nn) :: (A2.drop (f - i)++Y))))[f - 1]?=some (T,U,X,W,N)):=a9;have aL:Eq ((((Z++(Q++(A2.take (f - i)++(s,q,d,t,nn) :: (A2.drop (f - i)++Y)))).set f (T,U,X,W,N)).set (f - 1) (s,q,d,t,nn))=Z++(Q++(A2.take (f - 1 - i)++(s,q,d,t,nn) :: (A2.drop (f - 1 - i)++Y)))):=ao;have HI:Eq (f<n):=by show f<n;omega
      have HJ:Eq (f - 1<n):=by show f - 1<n;omega
      have aM:Eq (f≠f - 1):=by show f≠f - 1;omega
      have ba:(f:Int)<(n:Int):=by omega
      have ec:((f:Int) - 1).toNat=f - 1:=by omega
      have pc:(0:Int)≤(f:Int) - 1:=by omega
      have bi:(1:Int)≤(f:Int):=by omega
      have bc:(f:Int) - 1<(n:Int):=by omega
      have rc:IntKind.i64.wrap ((f:Int) - 1)=(f:Int) - 1:=by rw [F0];omega
      have r:ag wr.drew base g n c (Z++(Q++(A2.take (f - i)++(s,q,d,t,nn) :: (A2.drop (f - i)++Y)))):=aj.o.below (Below.refl _ _).drew;have gd:w.grownBy wr.drew (some g):=af aN.o (fD _ _);clear aA aB hD hlen aO a9 ao hz aj;go_wp2_with fail
      refine wp_region_held_drew (S:=(fun w'=>g<w'.heap.size)) (by kernel_rfl) (by exact r.lt.2) (fun L=>?_);generalize wr.drew=wd at r gd L ⊢;refine aP 0 9 L ?_;refine aP 10 3 L ?_;refine lg 9 13 (fun K hK=>?_) fun K hK=>?_
      · obtain ⟨I,D,u,F,J⟩:=r.at5 HY.o;have E:=r.lt.2;go_simp;clear I D u F J E;refine hK.o _ _ (by exact r.lt.2) fun L=>?_
        (try go_frame);refine aQ 13 fun K hK=>?_
        obtain ⟨I,D,u,F,J⟩:=r.at5 HX.o;have E:=r.lt.2;go_simp;clear I D u F J E;refine hK.o _ _ (by exact r.lt.2) fun L=>?_
        (try go_frame);refine aP 14 1 L ?_;refine aQ 15 fun K hK=>?_
        obtain ⟨I,D,u,F,J⟩:=r.at5 HX.o;have E:=r.lt.2;have O:=r.owns.frozenAt;have f0:=O ((f)*5);have f1:=O ((f)*5+1);have f2:=O ((f)*5+2);have f3:=O ((f)*5+3);have f4:=O ((f)*5+4);clear O;go_simp;clear I D u F J E;clear f0 f1 f2 f3 f4;have k1:=r.setE (i:=f) (e:=(T,U,X,W,N)) HI.o (r.ents _ (Fw HY.o));refine hK.o _ (setE wd g (f) (T,U,X,W,N)) (by exact k1.lt.2) (fun L=>?_);clear hK K;have a5:=dz wd g (f) (T,U,X,W,N);generalize setE wd g (f) (T,U,X,W,N)=a1 at k1 a5 L ⊢;(try go_frame);refine aP 16 1 L ?_;refine aQ 17 fun K hK=>?_
        have aq:((Z++(Q++(A2.take (f - i)++(s,q,d,t,nn) :: (A2.drop (f - i)++Y)))).set (f) (T,U,X,W,N))[f - 1]?=some (T,U,X,W,N):=by rw [F3 aM.o];exact HY.o
        obtain ⟨I,D,u,F,J⟩:=k1.at5 aq;have E:=k1.lt.2;have O:=k1.owns.frozenAt;have f0:=O ((f - 1)*5);have f1:=O ((f - 1)*5+1);have f2:=O ((f - 1)*5+2);have f3:=O ((f - 1)*5+3);have f4:=O ((f - 1)*5+4);clear O;go_simp;clear I D u F J E;clear f0 f1 f2 f3 f4;have k2:=k1.setE (i:=f - 1) (e:=(s,q,d,t,nn)) HJ.o (r.ents _ (Fw HX.o));refine hK.o _ (setE a1 g (f - 1) (s,q,d,t,nn)) (by exact k2.lt.2) (fun L=>?_);clear hK K;have gw:wd.grownBy (setE a1 g (f - 1) (s,q,d,t,nn)) (some g):=af a5 (dz a1 g (f - 1) (s,q,d,t,nn));generalize setE a1 g (f - 1) (s,q,d,t,nn)=a8 at k2 gw L ⊢;(try go_frame);refine dN ?_;have av:Eq (ag a8 base g n c (Z++(Q++(A2.take (f - 1 - i)++(s,q,d,t,nn) :: (A2.drop (f - 1 - i)++Y))))):=by have:=k2;rw [aL.o] at this;exact this
        have au:Eq (w.grownBy a8 (some g)):=af gd gw;clear k2 gw r k1 a5 gd L;go_wp2;go_roundw
        case rel=>exact ⟨f - 1,by omega,by omega,by first | go_num | (congr 1;omega),av.o,au.o⟩
        case measure=>simp [intOf];omega
      · obtain ⟨I,D,u,F,J⟩:=r.at5 HX.o;have E:=r.lt.2;go_simp;clear I D u F J E;refine hK.o _ _ (by exact r.lt.2) fun L=>?_
        (try go_frame);refine aQ 9 fun K hK=>?_
        obtain ⟨I,D,u,F,J⟩:=r.at5 HY.o;have E:=r.lt.2;go_simp;clear I D u F J E;refine hK.o _ _ (by exact r.lt.2) fun L=>?_
        (try go_frame);refine aP 14 1 L ?_;refine aQ 15 fun K hK=>?_
        obtain ⟨I,D,u,F,J⟩:=r.at5 HX.o;have E:=r.lt.2;have O:=r.owns.frozenAt;have f0:=O ((f)*5);have f1:=O ((f)*5+1);have f2:=O ((f)*5+2);have f3:=O ((f)*5+3);have f4:=O ((f)*5+4);clear O;go_simp;clear I D u F J E;clear f0 f1 f2 f3 f4;have k1:=r.setE (i:=f) (e:=(T,U,X,W,N)) HI.o (r.ents _ (Fw HY.o));refine hK.o _ (setE wd g (f) (T,U,X,W,N)) (by exact k1.lt.2) (fun L=>?_);clear hK K;have a5:=dz wd g (f) (T,U,X,W,N);generalize setE wd g (f) (T,U,X,W,N)=a1 at k1 a5 L ⊢;(try go_frame);refine aP 16 1 L ?_;refine aQ 17 fun K hK=>?_
        have aq:((Z++(Q++(A2.take (f - i)++(s,q,d,t,nn) :: (A2.drop (f - i)++Y)))).set (f) (T,U,X,W,N))[f - 1]?=some (T,U,X,W,N):=by rw [F3 aM.o];exact HY.o
        obtain ⟨I,D,u,F,J⟩:=k1.at5 aq;have E:=k1.lt.2;have O:=k1.owns.frozenAt;have f0:=O ((f - 1)*5);have f1:=O ((f - 1)*5+1);have f2:=O ((f - 1)*5+2);have f3:=O ((f - 1)*5+3);have f4:=O ((f - 1)*5+4);clear O;go_simp;clear I D u F J E;clear f0 f1 f2 f3 f4;have k2:=k1.setE (i:=f - 1) (e:=(s,q,d,t,nn)) HJ.o (r.ents _ (Fw HX.o));refine hK.o _ (setE a1 g (f - 1) (s,q,d,t,nn)) (by exact k2.lt.2) (fun L=>?_);clear hK K;have gw:wd.grownBy (setE a1 g (f - 1) (s,q,d,t,nn)) (some g):=af a5 (dz a1 g (f - 1) (s,q,d,t,nn));generalize setE a1 g (f - 1) (s,q,d,t,nn)=a8 at k2 gw L ⊢;(try go_frame);refine dN ?_;have av:Eq (ag a8 base g n c (Z++(Q++(A2.take (f - 1 - i)++(s,q,d,t,nn) :: (A2.drop (f - 1 - i)++Y))))):=by have:=k2;rw [aL.o] at this;exact this
        have au:Eq (w.grownBy a8 (some g)):=af gd gw;clear k2 gw r k1 a5 gd L;go_wp2;go_roundw
        case rel=>exact ⟨f - 1,by omega,by omega,by first | go_num | (congr 1;omega),av.o,au.o⟩
        case measure=>simp [intOf];omega
    · have aZ:¬(i:Int)<(f:Int):=by omega
      have HD:Eq (ag wr base g n c (Z++(fX A [y]++Y))):=by
       have:=aj.o;rw [show f - i=0 by omega] at this;rw [aH.o];simpa [Eq] using this
      clear aj;go_wp2;((try simp only [Exit.inBlock,Exit.then]);refine bodyPost_ret (results_none rfl _ _ _) rfl ?_)
      exact ⟨rfl,HD.o,aN.o⟩
end
end Go.Proofs.YtpobkmjicbobdaaGreat
