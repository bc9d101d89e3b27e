/- Walks. -/
import Derived.Test.YtpobkmjicbobdaaGreatBW37
namespace Go.Proofs.YtpobkmjicbobdaaGreat
set_option maxRecDepth 100000
set_option maxHeartbeats 40000000
open Go.RowKit
variable {A B:List ac} {a h k m:Nat} {x y z:ac}
section
attribute [local go_sem] Ic
theorem fZ {w w':World} {g:Nat} (hb:Bl w w'):w.grownBy w' (some g):=⟨hb.os,hb.tape,hb.output,hb.size,fun k hk _=>hb.block k hk⟩
theorem qV (n u C f:ByteArray) (d s o b t r:Int) (w:World) :
 Calls Tryz.prog 112 #[.agg #[.string n,iT d,iT s,.string u,iT o],.agg #[.string C,iT b,iT t,.string f,iT r]] w fun e w'=>e=.returned (iT (Lib.compareInt d b))∧Bl w w':=by
 obtain ⟨D,hD⟩:=aG (Lib.compareInt d b);have g:∀w,Calls Tryz.prog 170 #[iT d,iT b] w fun e w'=>e=.returned (iT D)∧w'=w:=by rw [hD];exact jG d b
 rw [← hD];clear hD;go_enter Tryz.func112,Tryz.ntmps112
 go_wp2_with fail
 refine (g _).mono ?_;rintro e w' ⟨rfl,rfl⟩;go_wp2;go_ret;exact ⟨rfl,bZ.alloc (by simp) _⟩
theorem oU (a b:Int):Lib.compareInt a b<0 ↔ a<b:=by
 unfold Lib.compareInt;by_cases h:a<b
 · simp [h]
 · by_cases h2:a > b <;> simp [h,h2]
theorem Ep (hB:Asc B) (hy:B[h - m]?=some y) (hl:y.2.1<x.2.1) (hk:k - m=h - m+1):∀e ∈ B.take (k - m),e.2.1<x.2.1:=by
 intro e g;rw [hk] at g;obtain ⟨i,hi,rfl⟩:=IY.1 g;simp only [If] at *;obtain ⟨f,b⟩:=F'.1 hy;have hi':i<h - m+1:=by simp at hi;omega
 by_cases d:i=h - m
 · subst d;rw [b];exact hl
 · have:=Hl.1 hB i (h - m) (by omega) f (by omega);rw [b] at this;omega
theorem Bv (hB:Asc B) (hy:B[h - m]?=some y) (hl:x.2.1≤y.2.1):∀e ∈ B.drop (h - m),x.2.1≤e.2.1:=by
 intro e g;obtain ⟨i,hi,rfl⟩:=IY.1 g;simp only [Ij] at *;obtain ⟨f,b⟩:=F'.1 hy;simp at hi;by_cases d:i=0
 · subst d;simp only [Ik];rw [b];exact hl
 · have:=Hl.1 hB (h - m) (h - m+i) f (by omega) (by omega);rw [b] at this;omega
theorem Eu (base g n c:Nat) (Z B Y:List ac) (x:ac) (a m b:Nat) (w:World) (hO:ag w base g n c (Z++(x :: (B++Y)))) (hB:Asc B) (ha:a=Z.length) (hm:m=a+1) (hb:b=m+B.length) (hn:n≤1048576) :
 Calls Tryz.prog 214 #[sL g n c,iT a,iT m,iT b,.func (.func 112) #[] #[]] w fun e w'=>e=.returned (.tuple #[])∧ag w' base g n c (Z++(f9 [x] B++Y))∧w.grownBy w' (some g):=by
 have al:=az hB;have hl:=hO.len;simp only [GO,Hn] at hl;have aY:=hO.entsAt.big;have bn:=hO.entsAt.room;unfold maxLen at aY;have HA:=az ha;have a9:=az hb;have HO:=az hO;have bo:b≤n:=by omega
 have b2:m≤b:=by omega
 have bb:a<m:=by omega
 have aF:=az hm;have b0:IntKind.i64.wrap ((m:Int) - (a:Int))=1:=by rw [Hg];omega
 clear hO hB ha hb hl hm;go_enter Tryz.func214,Tryz.ntmps214
 go_wp2;clear b0;go_loopw [10,11] (fun iv jv wr=>∃i j:Nat,iv=iT i∧jv=iT j∧m≤i∧i≤j∧j≤b∧ag wr base g n c (Z++(x :: (B++Y)))∧w.grownBy wr (some g)∧(∀e ∈ B.take (i - m),e.2.1<x.2.1)∧(∀e ∈ B.drop (j - m),x.2.1≤e.2.1)) (fun iv jv _=>(intOf jv).toNat - (intOf iv).toNat)
 case atStart=>exact ⟨m,b,rfl,rfl,GL _,b2,GL _,HO.o,⟨rfl,rfl,rfl,GL _,fun _ _ _=>rfl⟩,by rw [IW];simp,by rw [Iz (by have:=a9.o;omega)];simp⟩
 case round =>
  obtain ⟨i,j,rfl,rfl,aU,bd,aP,ax,aC,h1,h2⟩:=hrel;have a3:Eq (ag wr base g n c (Z++(x :: (B++Y)))):=ax;have W:Eq (w.grownBy wr (some g)):=aC;have H1:Eq (∀e ∈ B.take (i - m),e.2.1<x.2.1):=h1;have H2:Eq (∀e ∈ B.drop (j - m),x.2.1≤e.2.1):=h2;clear ax aC h1 h2 HO;by_cases b9:i<j
  · have aE:(i:Int)<(j:Int):=by omega
    obtain ⟨H,hH⟩:=aG ((i+j) / 2);have bf:i≤H:=by omega
    have bg:H<j:=by omega
    have eH:((i:Int)+(j:Int)) / 2=(H:Int):=by omega
    obtain ⟨y,hy⟩:∃y,B[H - m]?=some y:=⟨_,j' (by have:=a9.o;omega)⟩;have aw:Eq (B[H - m]?=some y):=hy;have a0:(Z++(x :: (B++Y)))[H]?=some y:=by
     have:=HA.o;have:=aF.o;rw [GR (by omega),show H - Z.length=H - m+1 by omega,Ig,GW (by have:=(F'.1 hy).1;omega)];exact hy
    have a1:(Z++(x :: (B++Y)))[a]?=some x:=by
     rw [HA.o];simp
    obtain ⟨C,hC⟩:=aG (Lib.compareInt y.2.1 x.2.1);have HC:Eq ((C<0→y.2.1<x.2.1)∧(y.2.1<x.2.1→C<0)):=by rw [hC];exact ⟨(oU _ _).1,(oU _ _).2⟩
    have aB:∀w,Calls Tryz.prog 112 #[.agg #[.string y.1,iT y.2.1,iT y.2.2.1,.string y.2.2.2.1,iT y.2.2.2.2],.agg #[.string x.1,iT x.2.1,iT x.2.2.1,.string x.2.2.2.1,iT x.2.2.2.2]] w fun e w'=>e=.returned (iT C)∧Bl w w':=by rw [hC];exact fun w=>qV y.1 y.2.2.2.1 x.1 x.2.2.2.1 y.2.1 y.2.2.1 y.2.2.2.2 x.2.1 x.2.2.1 x.2.2.2.2 w
    obtain ⟨s,q,d,t,nn⟩:=y;obtain ⟨U,Q,R,O,F⟩:=x;have HX:Eq ((Z++((U,Q,R,O,F) :: (B++Y)))[H]?=some (s,q,d,t,nn)):=a0;have HY:Eq ((Z++((U,Q,R,O,F) :: (B++Y)))[a]?=some (U,Q,R,O,F)):=a1;have CQ:Eq (∀w,Calls Tryz.prog 112 #[.agg #[.string s,iT q,iT d,.string t,iT nn],.agg #[.string U,iT Q,iT R,.string O,iT F]] w fun e w'=>e=.returned (iT C)∧Bl w w'):=aB;have bk:(H:Int)<(n:Int):=by omega
    have b7:(a:Int)<(n:Int):=by omega
    have J:ag wr.drew base g n c (Z++((U,Q,R,O,F) :: (B++Y))):=a3.o.below (Below.refl _ _).drew;have gd:w.grownBy wr.drew (some g):=ae W.o (fN _ _);clear hH hy a0 a1 hC aB a3 W;go_wp2_with fail
    refine wp_region_held_drew (S:=(fun w'=>g<w'.heap.size)) (by kernel_rfl) (by exact J.lt.2) (fun N=>?_);generalize wr.drew=wd at J gd N ⊢;refine aR 0 4 N ?_;refine aR 5 3 N ?_;refine mK 4 8 (fun K hK=>?_) fun K hK=>?_
    focus
     obtain ⟨E,r,u,I,D⟩:=J.at5 HX.o
     have L:=J.lt.2
     go_simp
     clear E r u I D L
     refine hK.o _ _ (by exact J.lt.2) fun N=>?_
     (try go_frame)
     refine aV 8 fun K hK=>?_
     obtain ⟨E,r,u,I,D⟩:=J.at5 HY.o
    rotate_left
    focus
     obtain ⟨E,r,u,I,D⟩:=J.at5 HY.o
     have L:=J.lt.2
     go_simp
     clear E r u I D L
     refine hK.o _ _ (by exact J.lt.2) fun N=>?_
     (try go_frame)
     refine aV 4 fun K hK=>?_
     obtain ⟨E,r,u,I,D⟩:=J.at5 HX.o
    all_goals
     have L:=J.lt.2
     go_simp
     clear E r u I D L
     refine hK.o _ _ (by exact J.lt.2) fun N=>?_
     (try go_frame)
     refine aV 9 fun K hK=>?_
     go_simp
     refine (CQ.o _).mono ?_
     rintro e w1 ⟨rfl,b1⟩
     have k1:=J.below b1
     have gw:w.grownBy w1 (some g):=ae gd (fZ b1)
     go_wp2_with fail
     refine hK.o _ _ (by exact k1.lt.2) fun N=>?_
     (try go_frame)
     refine aR 10 1 N ?_
     refine dN ?_
     have am:Eq (ag w1 base g n c (Z++((U,Q,R,O,F) :: (B++Y)))):=k1
     have W:Eq (w.grownBy w1 (some g)):=gw
     clear J gd k1 gw N b1
     by_cases ao:C<0
     · have HL:Eq ((s,q,d,t,nn).2.1<(U,Q,R,O,F).2.1):=HC.o.1 ao;go_wp2;go_roundw
       case rel=>exact ⟨H+1,j,by go_num,rfl,by omega,by omega,aP,am.o,W.o,Ep al.o aw.o HL.o (by omega),H2.o⟩
       case measure=>simp [intOf];omega
     · have HL:Eq ((U,Q,R,O,F).2.1≤(s,q,d,t,nn).2.1):=Int.not_lt.1 (fun h=>ao (HC.o.2 h));go_wp2;go_roundw
       case rel=>exact ⟨i,H,rfl,rfl,aU,by omega,by omega,am.o,W.o,H1.o,Bv al.o aw.o HL.o⟩
       case measure=>simp [intOf];omega
  · have aE:¬(i:Int)<(j:Int):=by omega
    have av:i=j:=by omega
    subst av;obtain ⟨f,a2⟩:=aG (B.take (i - m));obtain ⟨B2,ab⟩:=aG (B.drop (i - m));have ah:B=f++B2:=by rw [a2,ab,Hh]
    have an:Eq (f9 [x] B=f++x :: B2):=by
     show f9 [x] B=_
     rw [ah];exact uy x f B2 (by rw [a2];exact H1.o) (by rw [ab];exact fun e he=>Int.not_lt.2 (H2.o e he))
    have a6:Eq (f.length=i - m):=by show f.length=i - m;rw [a2,GS];have:=a9.o;omega
    have ar:Eq (ag wr base g n c (Z++(f.take 0++x :: (f.drop 0++(B2++Y))))):=by have:=a3.o;rw [ah] at this;simpa [Eq] using this
    have b8:IntKind.i64.wrap ((i:Int) - 1)=(i:Int) - 1:=by rw [Hg];omega
    clear a2 ab ah H1 H2 a3;go_wp2;go_loopw [13] (fun kv wq=>∃T:Nat,T≤i - m∧kv=iT ((a:Int)+(T:Int))∧ag wq base g n c (Z++(f.take T++x :: (f.drop T++(B2++Y))))∧w.grownBy wq (some g)) (fun kv _=>i - (intOf kv).toNat)
    case atStart=>exact ⟨0,GQ _,by simp,ar.o,W.o⟩
    case round =>
    obtain ⟨T,hT,rfl,aq,ak⟩:=hrel;have a5:Eq (ag wr base g n c (Z++(f.take T++x :: (f.drop T++(B2++Y))))):=aq;have au:Eq (w.grownBy wr (some g)):=ak;clear aq ak ar W;have aD:=aF.o;by_cases hT1:T<i - m
    · have aI:(a:Int)+(T:Int)<(i:Int) - 1:=by omega
      obtain ⟨y,hy⟩:∃y,f[T]?=some y:=⟨_,j' (by rw [a6.o];exact hT1)⟩;have ay:f.drop T=y :: f.drop (T+1):=by
       obtain ⟨h1,h2⟩:=F'.1 hy;rw [Ie h1,h2]
      have ht1:f.take (T+1)=f.take T++[y]:=by rw [Hc,hy];rfl
      have hD:Z++(f.take T++x :: (f.drop T++(B2++Y)))=(Z++f.take T)++x :: y :: (f.drop (T+1)++(B2++Y)):=by rw [ay];simp only [Hd,Ht]
      have hlen:(Z++f.take T).length=a+T:=by have:=HA.o;have:=a6.o;simp;omega
      have a1:(Z++(f.take T++x :: (f.drop T++(B2++Y))))[a+T]?=some x:=by rw [hD,← hlen];simp
      have a0:(Z++(f.take T++x :: (f.drop T++(B2++Y))))[a+T+1]?=some y:=by
       rw [hD,← hlen,GR (by omega),Iu];rfl
      have a7:(((Z++(f.take T++x :: (f.drop T++(B2++Y)))).set (a+T) y).set (a+T+1) x)=Z++(f.take (T+1)++x :: (f.drop (T+1)++(B2++Y))):=by
       have:=zq (Z++f.take T) [] (f.drop (T+1)++(B2++Y)) x y;simp only [Ho,Io,Ik,hlen] at this;rw [hD,this,ht1];simp only [Hd,Ht,Ho]
      obtain ⟨s,q,d,t,nn⟩:=x;obtain ⟨U,Q,R,O,F⟩:=y;have HX:Eq ((Z++(f.take T++(s,q,d,t,nn) :: (f.drop T++(B2++Y))))[a+T]?=some (s,q,d,t,nn)):=a1;have HY:Eq ((Z++(f.take T++(s,q,d,t,nn) :: (f.drop T++(B2++Y))))[a+T+1]?=some (U,Q,R,O,F)):=a0;have b3:Eq ((((Z++(f.take T++(s,q,d,t,nn) :: (f.drop T++(B2++Y)))).set (a+T) (U,Q,R,O,F)).set (a+T+1) (s,q,d,t,nn))=Z++(f.take (T+1)++(s,q,d,t,nn) :: (f.drop (T+1)++(B2++Y)))):=a7;have HI:Eq (a+T<n):=by show a+T<n;omega
      have HJ:Eq (a+T+1<n):=by show a+T+1<n;omega
      have aL:Eq (a+T≠a+T+1):=by show a+T≠a+T+1;omega
      have ea:((a:Int)+(T:Int)).toNat=a+T:=by omega
      have pa:(0:Int)≤(a:Int)+(T:Int):=by omega
      have ba:(a:Int)+(T:Int)<(n:Int):=by omega
      have ec:((a:Int)+(T:Int)+1).toNat=a+T+1:=by omega
      have pc:(0:Int)≤(a:Int)+(T:Int)+1:=by omega
      have bc:(a:Int)+(T:Int)+1<(n:Int):=by omega
      have rc:IntKind.i64.wrap ((a:Int)+(T:Int)+1)=(a:Int)+(T:Int)+1:=by rw [Hg];omega
      have J:ag wr.drew base g n c (Z++(f.take T++(s,q,d,t,nn) :: (f.drop T++(B2++Y)))):=a5.o.below (Below.refl _ _).drew;have gd:w.grownBy wr.drew (some g):=ae au.o (fN _ _);clear ay ht1 hD hlen a1 a0 a7 hy a5 aD;go_wp2_with fail
      refine wp_region_held_drew (S:=(fun w'=>g<w'.heap.size)) (by kernel_rfl) (by exact J.lt.2) (fun N=>?_);generalize wr.drew=wd at J gd N ⊢;refine aR 0 9 N ?_;refine aR 10 3 N ?_;refine mK 9 13 (fun K hK=>?_) fun K hK=>?_
      focus
       obtain ⟨E,r,u,I,D⟩:=J.at5 HY.o
       have L:=J.lt.2
       go_simp
       clear E r u I D L
       refine hK.o _ _ (by exact J.lt.2) fun N=>?_
       (try go_frame)
       refine aV 13 fun K hK=>?_
       obtain ⟨E,r,u,I,D⟩:=J.at5 HX.o
      rotate_left
      focus
       obtain ⟨E,r,u,I,D⟩:=J.at5 HX.o
       have L:=J.lt.2
       go_simp
       clear E r u I D L
       refine hK.o _ _ (by exact J.lt.2) fun N=>?_
       (try go_frame)
       refine aV 9 fun K hK=>?_
       obtain ⟨E,r,u,I,D⟩:=J.at5 HY.o
      all_goals
       have L:=J.lt.2
       go_simp
       clear E r u I D L
       refine hK.o _ _ (by exact J.lt.2) fun N=>?_
       (try go_frame)
       refine aR 14 1 N ?_
       refine aV 15 fun K hK=>?_
       obtain ⟨E,r,u,I,D⟩:=J.at5 HX.o
       have L:=J.lt.2
       have X:=J.owns.frozenAt
       have f0:=X ((a+T)*5)
       have f1:=X ((a+T)*5+1)
       have f2:=X ((a+T)*5+2)
       have f3:=X ((a+T)*5+3)
       have f4:=X ((a+T)*5+4)
       clear X
       go_simp
       clear E r u I D L
       clear f0 f1 f2 f3 f4
       have k1:=J.setE (i:=a+T) (e:=(U,Q,R,O,F)) HI.o (J.ents _ (GP HY.o))
       refine hK.o _ (setE wd g (a+T) (U,Q,R,O,F)) (by exact k1.lt.2) (fun N=>?_)
       clear hK K
       have ad:=gK wd g (a+T) (U,Q,R,O,F)
       generalize setE wd g (a+T) (U,Q,R,O,F)=a4 at k1 ad N ⊢
       (try go_frame)
       refine aR 16 1 N ?_
       refine aV 17 fun K hK=>?_
       have aO:((Z++(f.take T++(s,q,d,t,nn) :: (f.drop T++(B2++Y)))).set (a+T) (U,Q,R,O,F))[a+T+1]?=some (U,Q,R,O,F):=by rw [G9 aL.o];exact HY.o
       obtain ⟨E,r,u,I,D⟩:=k1.at5 aO;have L:=k1.lt.2;have X:=k1.owns.frozenAt;have f0:=X ((a+T+1)*5);have f1:=X ((a+T+1)*5+1);have f2:=X ((a+T+1)*5+2);have f3:=X ((a+T+1)*5+3);have f4:=X ((a+T+1)*5+4);clear X;go_simp;clear E r u I D L;clear f0 f1 f2 f3 f4;have k2:=k1.setE (i:=a+T+1) (e:=(s,q,d,t,nn)) HJ.o (J.ents _ (GP HX.o));refine hK.o _ (setE a4 g (a+T+1) (s,q,d,t,nn)) (by exact k2.lt.2) (fun N=>?_);clear hK K;have gw:wd.grownBy (setE a4 g (a+T+1) (s,q,d,t,nn)) (some g):=ae ad (gK a4 g (a+T+1) (s,q,d,t,nn));generalize setE a4 g (a+T+1) (s,q,d,t,nn)=aA at k2 gw N ⊢;(try go_frame);refine dN ?_;have aT:Eq (ag aA base g n c (Z++(f.take (T+1)++(s,q,d,t,nn) :: (f.drop (T+1)++(B2++Y))))):=by have:=k2;rw [b3.o] at this;exact this
       have aQ:Eq (w.grownBy aA (some g)):=ae gd gw
       clear k2 gw J k1 ad gd N
       go_wp2
       go_roundw
       case rel=>exact ⟨T+1,by omega,by first | go_num | (congr 1;omega),aT.o,aQ.o⟩
       case measure=>simp [intOf];omega
    · have aI:¬(a:Int)+(T:Int)<(i:Int) - 1:=by omega
      have HD:Eq (ag wr base g n c (Z++(f9 [x] B++Y))):=by
       have:=a5.o;rw [GV (by rw [a6.o];omega),Iz (by rw [a6.o];omega)] at this;rw [an.o];simpa [Eq] using this
      clear a5 aD;go_wp2;((try simp only [Exit.inBlock,Exit.then]);refine bodyPost_ret (results_none rfl _ _ _) rfl ?_)
      exact ⟨rfl,HD.o,au.o⟩
theorem B7 (hA:Asc A) (hz:A[h - a]?=some z) (hl:z.2.1≤y.2.1) (hk:k - a=h - a+1):∀e ∈ A.take (k - a),e.2.1≤y.2.1:=by
 intro e g;rw [hk] at g;obtain ⟨i,hi,rfl⟩:=IY.1 g;simp only [If] at *;obtain ⟨f,b⟩:=F'.1 hz;have hi':i<h - a+1:=by simp at hi;omega
 by_cases d:i=h - a
 · subst d;rw [b];exact hl
 · have:=Hl.1 hA i (h - a) (by omega) f (by omega);rw [b] at this;omega
theorem y7 (hA:Asc A) (hz:A[h - a]?=some z) (hl:y.2.1<z.2.1):∀e ∈ A.drop (h - a),y.2.1<e.2.1:=by
 intro e g;obtain ⟨i,hi,rfl⟩:=IY.1 g;simp only [Ij] at *;obtain ⟨f,b⟩:=F'.1 hz;simp at hi;by_cases d:i=0
 · subst d;simp only [Ik];rw [b];exact hl
 · have:=Hl.1 hA (h - a) (h - a+i) f (by omega) (by omega);rw [b] at this;omega
theorem vG (b X3:List ac) (p q:ac):((b++p :: q :: X3).set (b.length+1) p).set b.length q=b++q :: p :: X3:=by
 rw [Iq _ _ (by omega),Iu,IC,IQ,Iq _ _ (GL _),IW,IQ]
theorem Et (base g n c:Nat) (Z A Y:List ac) (y:ac) (a m b:Nat) (w:World) (hO:ag w base g n c (Z++(A++(y :: Y)))) (hA:Asc A) (T:2≤A.length) (ha:a=Z.length) (hm:m=a+A.length) (hb:b=m+1) (hn:n≤1048576) :
 Calls Tryz.prog 214 #[sL g n c,iT a,iT m,iT b,.func (.func 112) #[] #[]] w fun e w'=>e=.returned (.tuple #[])∧ag w' base g n c (Z++(f9 A [y]++Y))∧w.grownBy w' (some g):=by
 have an:=az hA;have hl:=hO.len;simp only [GO,Hn] at hl;have b0:=hO.entsAt.big;have bv:=hO.entsAt.room;unfold maxLen at b0;have HA:=az ha;have a2:=az hm;have HO:=az hO;have bw:b≤n:=by omega
 have bu:m<b:=by omega
 have aP:a≤m:=by omega
 have bp:=az hb;obtain ⟨ka,aN⟩:=aG A.length;have b4:IntKind.i64.wrap ((m:Int) - (a:Int))=(ka:Int):=by rw [Hg];omega
 have bt:((ka:Int) == 1)=false:=by simp;omega
 have b2:IntKind.i64.wrap ((b:Int) - (m:Int))=1:=by rw [Hg];omega
 clear hO hA ha hb hl hm T aN;go_enter Tryz.func214,Tryz.ntmps214
 go_wp2;clear b4 b2;go_loopw [14,15] (fun iv jv wr=>∃i j:Nat,iv=iT i∧jv=iT j∧a≤i∧i≤j∧j≤m∧ag wr base g n c (Z++(A++(y :: Y)))∧w.grownBy wr (some g)∧(∀e ∈ A.take (i - a),e.2.1≤y.2.1)∧(∀e ∈ A.drop (j - a),y.2.1<e.2.1)) (fun iv jv _=>(intOf jv).toNat - (intOf iv).toNat)
 case atStart=>exact ⟨a,m,rfl,rfl,GL _,aP,GL _,HO.o,⟨rfl,rfl,rfl,GL _,fun _ _ _=>rfl⟩,by rw [IW];simp,by rw [Iz (by have:=a2.o;omega)];simp⟩
 case round =>
  obtain ⟨i,j,rfl,rfl,aM,bg,aq,aA,aE,h1,h2⟩:=hrel;have a5:Eq (ag wr base g n c (Z++(A++(y :: Y)))):=aA;have Q:Eq (w.grownBy wr (some g)):=aE;have H1:Eq (∀e ∈ A.take (i - a),e.2.1≤y.2.1):=h1;have H2:Eq (∀e ∈ A.drop (j - a),y.2.1<e.2.1):=h2;clear aA aE h1 h2 HO;by_cases bf:i<j
  · have aH:(i:Int)<(j:Int):=by omega
    obtain ⟨H,hH⟩:=aG ((i+j) / 2);have bj:i≤H:=by omega
    have bl:H<j:=by omega
    have b5:Eq (H+1 - a=H - a+1):=by show H+1 - a=H - a+1;omega
    have eH:((i:Int)+(j:Int)) / 2=(H:Int):=by omega
    obtain ⟨z,hz⟩:∃z,A[H - a]?=some z:=⟨_,j' (by have:=a2.o;omega)⟩;have aF:Eq (A[H - a]?=some z):=hz;have au:(Z++(A++(y :: Y)))[H]?=some z:=by
     have:=HA.o;rw [GR (by omega),show H - Z.length=H - a by omega,GW ((F'.1 hz).1)];exact hz
    have a1:(Z++(A++(y :: Y)))[m]?=some y:=by
     have:=HA.o;have:=a2.o;rw [GR (by omega),GR (by omega),show m - Z.length - A.length=0 by omega];rfl
    obtain ⟨C,hC⟩:=aG (Lib.compareInt y.2.1 z.2.1);have HC:Eq ((C<0→y.2.1<z.2.1)∧(y.2.1<z.2.1→C<0)):=by rw [hC];exact ⟨(oU _ _).1,(oU _ _).2⟩
    have aD:∀w,Calls Tryz.prog 112 #[.agg #[.string y.1,iT y.2.1,iT y.2.2.1,.string y.2.2.2.1,iT y.2.2.2.2],.agg #[.string z.1,iT z.2.1,iT z.2.2.1,.string z.2.2.2.1,iT z.2.2.2.2]] w fun e w'=>e=.returned (iT C)∧Bl w w':=by rw [hC];exact fun w=>qV y.1 y.2.2.2.1 z.1 z.2.2.2.1 y.2.1 y.2.2.1 y.2.2.2.2 z.2.1 z.2.2.1 z.2.2.2.2 w
    obtain ⟨s,q,d,t,nn⟩:=y;obtain ⟨s',U,W,R,N⟩:=z;have HX:Eq ((Z++(A++((s,q,d,t,nn) :: Y)))[m]?=some (s,q,d,t,nn)):=a1;have HY:Eq ((Z++(A++((s,q,d,t,nn) :: Y)))[H]?=some (s',U,W,R,N)):=au;have CQ:Eq (∀w,Calls Tryz.prog 112 #[.agg #[.string s,iT q,iT d,.string t,iT nn],.agg #[.string s',iT U,iT W,.string R,iT N]] w fun e w'=>e=.returned (iT C)∧Bl w w'):=aD;have bq:(H:Int)<(n:Int):=by omega
    have bk:(m:Int)<(n:Int):=by omega
    have I:ag wr.drew base g n c (Z++(A++((s,q,d,t,nn) :: Y))):=a5.o.below (Below.refl _ _).drew;have gd:w.grownBy wr.drew (some g):=ae Q.o (fN _ _);clear hH hz a1 au hC aD a5 Q;by_cases a6:C<0
    · have aZ:decide (C<0)=true:=decide_eq_true a6;go_wp2_with fail
      refine wp_region_held_drew (S:=(fun w'=>g<w'.heap.size)) (by kernel_rfl) (by exact I.lt.2) (fun L=>?_);generalize wr.drew=wd at I gd L ⊢;refine aR 0 4 L ?_;refine aR 5 3 L ?_;refine mK 4 8 (fun K hK=>?_) fun K hK=>?_
      focus
       obtain ⟨E,r,u,F,D⟩:=I.at5 HX.o
       have J:=I.lt.2
       go_simp
       clear E r u F D J
       refine hK.o _ _ (by exact I.lt.2) fun L=>?_
       (try go_frame)
       refine aV 8 fun K hK=>?_
       obtain ⟨E,r,u,F,D⟩:=I.at5 HY.o
      rotate_left
      focus
       obtain ⟨E,r,u,F,D⟩:=I.at5 HY.o
       have J:=I.lt.2
       go_simp
       clear E r u F D J
       refine hK.o _ _ (by exact I.lt.2) fun L=>?_
       (try go_frame)
       refine aV 4 fun K hK=>?_
       obtain ⟨E,r,u,F,D⟩:=I.at5 HX.o
      all_goals
       have J:=I.lt.2
       go_simp
       clear E r u F D J
       refine hK.o _ _ (by exact I.lt.2) fun L=>?_
       (try go_frame)
       refine aV 9 fun K hK=>?_
       go_simp
       refine (CQ.o _).mono ?_
       rintro e w1 ⟨rfl,b1⟩
       have k1:=I.below b1
       have gw:w.grownBy w1 (some g):=ae gd (fZ b1)
       go_wp2_with fail
       refine hK.o _ _ (by exact k1.lt.2) fun L=>?_
       (try go_frame)
       refine aR 10 2 L ?_
       refine dN ?_
       have ai:Eq (ag w1 base g n c (Z++(A++((s,q,d,t,nn) :: Y)))):=k1
       have Q:Eq (w.grownBy w1 (some g)):=gw
       clear I gd k1 gw L b1
       have HL:Eq ((s,q,d,t,nn).2.1<(s',U,W,R,N).2.1):=HC.o.1 a6
       go_wp2
       go_roundw
       case rel=>exact ⟨i,H,rfl,rfl,aM,by omega,by omega,ai.o,Q.o,H1.o,y7 (y:=(s,q,d,t,nn)) an.o aF.o HL.o⟩
       case measure=>simp [intOf];omega
    · have aZ:decide (C<0)=false:=decide_eq_false a6;have HL:Eq ((s',U,W,R,N).2.1≤(s,q,d,t,nn).2.1):=Int.not_lt.1 (fun h=>a6 (HC.o.2 h));go_wp2_with fail
      refine wp_region_held_drew (S:=(fun w'=>g<w'.heap.size)) (by kernel_rfl) (by exact I.lt.2) (fun L=>?_);generalize wr.drew=wd at I gd L ⊢;refine aR 0 4 L ?_;refine aR 5 3 L ?_;refine mK 4 8 (fun K hK=>?_) fun K hK=>?_
      focus
       obtain ⟨E,r,u,F,D⟩:=I.at5 HX.o
       have J:=I.lt.2
       go_simp
       clear E r u F D J
       refine hK.o _ _ (by exact I.lt.2) fun L=>?_
       (try go_frame)
       refine aV 8 fun K hK=>?_
       obtain ⟨E,r,u,F,D⟩:=I.at5 HY.o
      rotate_left
      focus
       obtain ⟨E,r,u,F,D⟩:=I.at5 HY.o
       have J:=I.lt.2
       go_simp
       clear E r u F D J
       refine hK.o _ _ (by exact I.lt.2) fun L=>?_
       (try go_frame)
       refine aV 4 fun K hK=>?_
       obtain ⟨E,r,u,F,D⟩:=I.at5 HX.o
      all_goals
       have J:=I.lt.2
       go_simp
       clear E r u F D J
       refine hK.o _ _ (by exact I.lt.2) fun L=>?_
       (try go_frame)
       refine aV 9 fun K hK=>?_
       go_simp
       refine (CQ.o _).mono ?_
       rintro e w1 ⟨rfl,b1⟩
       have k1:=I.below b1
       have gw:w.grownBy w1 (some g):=ae gd (fZ b1)
       go_wp2_with fail
       refine hK.o _ _ (by exact k1.lt.2) fun L=>?_
       (try go_frame)
       refine aR 10 2 L ?_
       refine dN ?_
       have ai:Eq (ag w1 base g n c (Z++(A++((s,q,d,t,nn) :: Y)))):=k1
       have Q:Eq (w.grownBy w1 (some g)):=gw
       clear I gd k1 gw L b1
       go_wp2
       go_roundw
       case rel=>exact ⟨H+1,j,by go_num,rfl,by omega,by omega,aq,ai.o,Q.o,B7 (y:=(s,q,d,t,nn)) an.o aF.o HL.o b5.o,H2.o⟩
       case measure=>simp [intOf];omega
  · have aH:¬(i:Int)<(j:Int):=by omega
    have ay:i=j:=by omega
    subst ay;obtain ⟨O,ab⟩:=aG (A.take (i - a));obtain ⟨A2,T⟩:=aG (A.drop (i - a));have al:A=O++A2:=by rw [ab,T,Hh]
    have ar:Eq (f9 A [y]=O++y :: A2):=by
     show f9 A [y]=_
     rw [al];exact sM y O A2 (by rw [ab];exact fun e he=>Int.not_lt.2 (H1.o e he)) (by rw [T];exact H2.o)
    have a9:Eq (O.length=i - a∧A2.length=m - i):=by show O.length=i - a∧A2.length=m - i;rw [ab,T,GS,G7];have:=a2.o;omega
    have aw:Eq (ag wr base g n c (Z++(O++(A2.take (m - i)++y :: (A2.drop (m - i)++Y))))):=by
     have:=a5.o;rw [al] at this;rw [GV (by rw [a9.o.2];omega),Iz (by rw [a9.o.2];omega)];simpa [Eq] using this
    clear ab T al H1 H2 a5;go_wp2;go_loopw [17] (fun kv wq=>∃f:Nat,i≤f∧f≤m∧kv=iT f∧ag wq base g n c (Z++(O++(A2.take (f - i)++y :: (A2.drop (f - i)++Y))))∧w.grownBy wq (some g)) (fun kv _=>(intOf kv).toNat)
    case atStart=>exact ⟨m,aq,GL _,rfl,aw.o,Q.o⟩
    case round =>
    obtain ⟨f,be,bo,rfl,av,ao⟩:=hrel;have a8:Eq (ag wr base g n c (Z++(O++(A2.take (f - i)++y :: (A2.drop (f - i)++Y))))):=av;have ax:Eq (w.grownBy wr (some g)):=ao;clear av ao aw Q;by_cases hK1:i<f
    · have b3:(i:Int)<(f:Int):=by omega
      obtain ⟨z,hz⟩:∃z,A2[f - i - 1]?=some z:=⟨_,j' (by rw [a9.o.2];omega)⟩;have aB:A2.drop (f - 1 - i)=z :: A2.drop (f - i):=by
       obtain ⟨h1,h2⟩:=F'.1 hz;rw [show f - 1 - i=f - i - 1 by omega,Ie h1,h2,show f - i - 1+1=f - i by omega]
      have ht1:A2.take (f - i)=A2.take (f - 1 - i)++[z]:=by rw [show f - i=f - 1 - i+1 by omega,Hc,show f - 1 - i=f - i - 1 by omega,hz];rfl
      have hD:Z++(O++(A2.take (f - i)++y :: (A2.drop (f - i)++Y)))=(Z++(O++A2.take (f - 1 - i)))++z :: y :: (A2.drop (f - i)++Y):=by rw [ht1];simp only [Hd,Ht,Ho]
      have hlen:(Z++(O++A2.take (f - 1 - i))).length=f - 1:=by have:=HA.o;have:=a9.o;have:=a2.o;simp;omega
      have ap:(Z++(O++(A2.take (f - i)++y :: (A2.drop (f - i)++Y))))[f]?=some y:=by
       rw [hD,GR (by omega),hlen,show f - (f - 1)=1 by omega];rfl
      have a1:(Z++(O++(A2.take (f - i)++y :: (A2.drop (f - i)++Y))))[f - 1]?=some z:=by rw [hD,GR (by omega),hlen,IW];rfl
      have ah:(((Z++(O++(A2.take (f - i)++y :: (A2.drop (f - i)++Y)))).set f z).set (f - 1) y)=Z++(O++(A2.take (f - 1 - i)++y :: (A2.drop (f - 1 - i)++Y))):=by
       have:=vG (Z++(O++A2.take (f - 1 - i))) (A2.drop (f - i)++Y) z y;rw [hlen,show f - 1+1=f by omega] at this;rw [hD,this,aB];simp only [Hd,Ht]
      obtain ⟨s,q,d,t,nn⟩:=y;obtain ⟨s',U,W,R,N⟩:=z;have HX:Eq ((Z++(O++(A2.take (f - i)++(s,q,d,t,nn) :: (A2.drop (f - i)++Y))))[f]?=some (s,q,d,t,nn)):=ap;have HY:Eq ((Z++(O++(A2.take (f - i)++(s,q,d,t,nn) :: (A2.drop (f - i)++Y))))[f - 1]?=some (s',U,W,R,N)):=a1;have b6:Eq ((((Z++(O++(A2.take (f - i)++(s,q,d,t,nn) :: (A2.drop (f - i)++Y)))).set f (s',U,W,R,N)).set (f - 1) (s,q,d,t,nn))=Z++(O++(A2.take (f - 1 - i)++(s,q,d,t,nn) :: (A2.drop (f - 1 - i)++Y)))):=ah;have HI:Eq (f<n):=by show f<n;omega
      have HJ:Eq (f - 1<n):=by show f - 1<n;omega
      have aL:Eq (f≠f - 1):=by show f≠f - 1;omega
      have ba:(f:Int)<(n:Int):=by omega
      have ec:((f:Int) - 1).toNat=f - 1:=by omega
      have pc:(0:Int)≤(f:Int) - 1:=by omega
      have bh:(1:Int)≤(f:Int):=by omega
      have bc:(f:Int) - 1<(n:Int):=by omega
      have rc:IntKind.i64.wrap ((f:Int) - 1)=(f:Int) - 1:=by rw [Hg];omega
      have I:ag wr.drew base g n c (Z++(O++(A2.take (f - i)++(s,q,d,t,nn) :: (A2.drop (f - i)++Y)))):=a8.o.below (Below.refl _ _).drew;have gd:w.grownBy wr.drew (some g):=ae ax.o (fN _ _);clear aB ht1 hD hlen ap a1 ah hz a8;go_wp2_with fail
      refine wp_region_held_drew (S:=(fun w'=>g<w'.heap.size)) (by kernel_rfl) (by exact I.lt.2) (fun L=>?_);generalize wr.drew=wd at I gd L ⊢;refine aR 0 9 L ?_;refine aR 10 3 L ?_;refine mK 9 13 (fun K hK=>?_) fun K hK=>?_
      focus
       obtain ⟨E,r,u,F,D⟩:=I.at5 HY.o
       have J:=I.lt.2
       go_simp
       clear E r u F D J
       refine hK.o _ _ (by exact I.lt.2) fun L=>?_
       (try go_frame)
       refine aV 13 fun K hK=>?_
       obtain ⟨E,r,u,F,D⟩:=I.at5 HX.o
      rotate_left
      focus
       obtain ⟨E,r,u,F,D⟩:=I.at5 HX.o
       have J:=I.lt.2
       go_simp
       clear E r u F D J
       refine hK.o _ _ (by exact I.lt.2) fun L=>?_
       (try go_frame)
       refine aV 9 fun K hK=>?_
       obtain ⟨E,r,u,F,D⟩:=I.at5 HY.o
      all_goals
       have J:=I.lt.2
       go_simp
       clear E r u F D J
       refine hK.o _ _ (by exact I.lt.2) fun L=>?_
       (try go_frame)
       refine aR 14 1 L ?_
       refine aV 15 fun K hK=>?_
       obtain ⟨E,r,u,F,D⟩:=I.at5 HX.o
       have J:=I.lt.2
       have X:=I.owns.frozenAt
       have f0:=X ((f)*5)
       have f1:=X ((f)*5+1)
       have f2:=X ((f)*5+2)
       have f3:=X ((f)*5+3)
       have f4:=X ((f)*5+4)
       clear X
       go_simp
       clear E r u F D J
       clear f0 f1 f2 f3 f4
       have k1:=I.setE (i:=f) (e:=(s',U,W,R,N)) HI.o (I.ents _ (GP HY.o))
       refine hK.o _ (setE wd g (f) (s',U,W,R,N)) (by exact k1.lt.2) (fun L=>?_)
       clear hK K
       have aj:=gK wd g (f) (s',U,W,R,N)
       generalize setE wd g (f) (s',U,W,R,N)=a7 at k1 aj L ⊢
       (try go_frame)
       refine aR 16 1 L ?_
       refine aV 17 fun K hK=>?_
       have aS:((Z++(O++(A2.take (f - i)++(s,q,d,t,nn) :: (A2.drop (f - i)++Y)))).set (f) (s',U,W,R,N))[f - 1]?=some (s',U,W,R,N):=by rw [G9 aL.o];exact HY.o
       obtain ⟨E,r,u,F,D⟩:=k1.at5 aS;have J:=k1.lt.2;have X:=k1.owns.frozenAt;have f0:=X ((f - 1)*5);have f1:=X ((f - 1)*5+1);have f2:=X ((f - 1)*5+2);have f3:=X ((f - 1)*5+3);have f4:=X ((f - 1)*5+4);clear X;go_simp;clear E r u F D J;clear f0 f1 f2 f3 f4;have k2:=k1.setE (i:=f - 1) (e:=(s,q,d,t,nn)) HJ.o (I.ents _ (GP HX.o));refine hK.o _ (setE a7 g (f - 1) (s,q,d,t,nn)) (by exact k2.lt.2) (fun L=>?_);clear hK K;have gw:wd.grownBy (setE a7 g (f - 1) (s,q,d,t,nn)) (some g):=ae aj (gK a7 g (f - 1) (s,q,d,t,nn));generalize setE a7 g (f - 1) (s,q,d,t,nn)=aC at k2 gw L ⊢;(try go_frame);refine dN ?_;have aW:Eq (ag aC base g n c (Z++(O++(A2.take (f - 1 - i)++(s,q,d,t,nn) :: (A2.drop (f - 1 - i)++Y))))):=by have:=k2;rw [b6.o] at this;exact this
       have aT:Eq (w.grownBy aC (some g)):=ae gd gw
       clear k2 gw I k1 aj gd L
       go_wp2
       go_roundw
       case rel=>exact ⟨f - 1,by omega,by omega,by first | go_num | (congr 1;omega),aW.o,aT.o⟩
       case measure=>simp [intOf];omega
    · have b3:¬(i:Int)<(f:Int):=by omega
      have HD:Eq (ag wr base g n c (Z++(f9 A [y]++Y))):=by
       have:=a8.o;rw [show f - i=0 by omega] at this;rw [ar.o];simpa [Eq] using this
      clear a8;go_wp2;((try simp only [Exit.inBlock,Exit.then]);refine bodyPost_ret (results_none rfl _ _ _) rfl ?_)
      exact ⟨rfl,HD.o,ax.o⟩
end
end Go.Proofs.YtpobkmjicbobdaaGreat
