/- Walks. -/
import Derived.Test.YtpobkmjicbobdaaGreatBD34
namespace Go.Proofs.YtpobkmjicbobdaaGreat
set_option maxRecDepth 100000
set_option maxHeartbeats 40000000
open Go.RowKit
variable {A B:List ac} {a h k m:Nat} {x y z:ac}
section
attribute [local go_sem] Hc
theorem fT {w w':World} {g:Nat} (hb:Bl w w'):w.grownBy w' (some g):=⟨hb.os,hb.tape,hb.output,hb.size,fun k hk _=>hb.block k hk⟩
theorem qv (n u C f:ByteArray) (d s o b t r:Int) (w:World) :
 Calls Tryz.prog 112 #[.agg #[.string n,iT d,iT s,.string u,iT o],.agg #[.string C,iT b,iT t,.string f,iT r]] w fun e w'=>e=.returned (iT (Lib.compareInt d b))∧Bl w w':=by
 obtain ⟨D,hD⟩:=aF (Lib.compareInt d b);have g:∀w,Calls Tryz.prog 170 #[iT d,iT b] w fun e w'=>e=.returned (iT D)∧w'=w:=by rw [hD];exact jq d b
 rw [← hD];clear hD;go_enter Tryz.func112,Tryz.ntmps112
 go_wp2_with fail
 refine (g _).mono ?_;rintro e w' ⟨rfl,rfl⟩;go_wp2;go_ret;exact ⟨rfl,bZ.alloc (by simp) _⟩
theorem oh (a b:Int):Lib.compareInt a b<0 ↔ a<b:=by
 unfold Lib.compareInt;by_cases h:a<b
 · simp [h]
 · by_cases h2:a > b <;> simp [h,h2]
theorem DW (hB:Asc B) (hy:B[h - m]?=some y) (hl:y.2.1<x.2.1) (hk:k - m=h - m+1):∀e ∈ B.take (k - m),e.2.1<x.2.1:=by
 intro e g;rw [hk] at g;obtain ⟨i,hi,rfl⟩:=Ir.1 g;simp only [Hf] at *;obtain ⟨f,b⟩:=F'.1 hy;have n:i<h - m+1:=by simp at hi;omega
 by_cases d:i=h - m
 · subst d;rw [b];exact hl
 · have:=GO.1 hB i (h - m) (by omega) f (by omega);rw [b] at this;omega
theorem AY (hB:Asc B) (hy:B[h - m]?=some y) (hl:x.2.1≤y.2.1):∀e ∈ B.drop (h - m),x.2.1≤e.2.1:=by
 intro e g;obtain ⟨i,hi,rfl⟩:=Ir.1 g;simp only [Hj] at *;obtain ⟨f,b⟩:=F'.1 hy;simp at hi;by_cases d:i=0
 · subst d;simp only [Hl];rw [b];exact hl
 · have:=GO.1 hB (h - m) (h - m+i) f (by omega) (by omega);rw [b] at this;omega
theorem D3 (base g n c:Nat) (Z B Y:List ac) (x:ac) (a m b:Nat) (w:World) (hO:ah w base g n c (Z++(x :: (B++Y)))) (hB:Asc B) (ha:a=Z.length) (hm:m=a+1) (hb:b=m+B.length) (hn:n≤1048576) :
 Calls Tryz.prog 214 #[sL g n c,iT a,iT m,iT b,.func (.func 112) #[] #[]] w fun e w'=>e=.returned (.tuple #[])∧ah w' base g n c (Z++(fX [x] B++Y))∧w.grownBy w' (some g):=by
 have al:=az hB;have hl:=hO.len;simp only [Gj,GR] at hl;have aX:=hO.entsAt.big;have bm:=hO.entsAt.room;unfold maxLen at aX;have HA:=az ha;have a9:=az hb;have HO:=az hO;have bn:b≤n:=by omega
 have b0:m≤b:=by omega
 have b9:a<m:=by omega
 have aG:=az hm;have aZ:IntKind.i64.wrap ((m:Int) - (a:Int))=1:=by rw [GN];omega
 clear hO hB ha hb hl hm;go_enter Tryz.func214,Tryz.ntmps214
 go_wp2;clear aZ;go_loopw [10,11] (fun iv jv wr=>∃i j:Nat,iv=iT i∧jv=iT j∧m≤i∧i≤j∧j≤b∧ah wr base g n c (Z++(x :: (B++Y)))∧w.grownBy wr (some g)∧(∀e ∈ B.take (i - m),e.2.1<x.2.1)∧(∀e ∈ B.drop (j - m),x.2.1≤e.2.1)) (fun iv jv _=>(intOf jv).toNat - (intOf iv).toNat)
 case atStart=>exact ⟨m,b,rfl,rfl,Gg _,b0,Gg _,HO.o,⟨rfl,rfl,rfl,Gg _,fun _ _ _=>rfl⟩,by rw [Hn];simp,by rw [Hs (by have:=a9.o;omega)];simp⟩
 case round =>
  obtain ⟨i,j,rfl,rfl,aU,bb,aP,ax,aC,h1,h2⟩:=hrel;have a3:Eq (ah wr base g n c (Z++(x :: (B++Y)))):=ax;have W:Eq (w.grownBy wr (some g)):=aC;have H1:Eq (∀e ∈ B.take (i - m),e.2.1<x.2.1):=h1;have H2:Eq (∀e ∈ B.drop (j - m),x.2.1≤e.2.1):=h2;clear ax aC h1 h2 HO;by_cases b8:i<j
  · have aE:(i:Int)<(j:Int):=by omega
    obtain ⟨H,hH⟩:=aF ((i+j) / 2);have be:i≤H:=by omega
    have bf:H<j:=by omega
    have eH:((i:Int)+(j:Int)) / 2=(H:Int):=by omega
    obtain ⟨y,hy⟩:∃y,B[H - m]?=some y:=⟨_,j' (by have:=a9.o;omega)⟩;have aw:Eq (B[H - m]?=some y):=hy;have a0:(Z++(x :: (B++Y)))[H]?=some y:=by
     have:=HA.o;have:=aG.o;rw [Gm (by omega),show H - Z.length=H - m+1 by omega,Hg,Gt (by have:=(F'.1 hy).1;omega)];exact hy
    have a1:(Z++(x :: (B++Y)))[a]?=some x:=by
     rw [HA.o];simp
    obtain ⟨C,hC⟩:=aF (Lib.compareInt y.2.1 x.2.1);have HC:Eq ((C<0→y.2.1<x.2.1)∧(y.2.1<x.2.1→C<0)):=by rw [hC];exact ⟨(oh _ _).1,(oh _ _).2⟩
    have aB:∀w,Calls Tryz.prog 112 #[.agg #[.string y.1,iT y.2.1,iT y.2.2.1,.string y.2.2.2.1,iT y.2.2.2.2],.agg #[.string x.1,iT x.2.1,iT x.2.2.1,.string x.2.2.2.1,iT x.2.2.2.2]] w fun e w'=>e=.returned (iT C)∧Bl w w':=by rw [hC];exact fun w=>qv y.1 y.2.2.2.1 x.1 x.2.2.2.1 y.2.1 y.2.2.1 y.2.2.2.2 x.2.1 x.2.2.1 x.2.2.2.2 w
    obtain ⟨s,q,d,t,nn⟩:=y;obtain ⟨U,Q,R,O,F⟩:=x;have HX:Eq ((Z++((U,Q,R,O,F) :: (B++Y)))[H]?=some (s,q,d,t,nn)):=a0;have HY:Eq ((Z++((U,Q,R,O,F) :: (B++Y)))[a]?=some (U,Q,R,O,F)):=a1;have CQ:Eq (∀w,Calls Tryz.prog 112 #[.agg #[.string s,iT q,iT d,.string t,iT nn],.agg #[.string U,iT Q,iT R,.string O,iT F]] w fun e w'=>e=.returned (iT C)∧Bl w w'):=aB;have bj:(H:Int)<(n:Int):=by omega
    have b6:(a:Int)<(n:Int):=by omega
    have J:ah wr.drew base g n c (Z++((U,Q,R,O,F) :: (B++Y))):=a3.o.below (Below.refl _ _).drew;have gd:w.grownBy wr.drew (some g):=ae W.o (fF _ _);clear hH hy a0 a1 hC aB a3 W;go_wp2_with fail
    refine wp_region_held_drew (S:=(fun w'=>g<w'.heap.size)) (by kernel_rfl) (by exact J.lt.2) (fun N=>?_);generalize wr.drew=wd at J gd N ⊢;refine aO 0 4 N ?_;refine aO 5 3 N ?_;refine lI 4 8 (fun K hK=>?_) fun K hK=>?_
    focus
     obtain ⟨E,r,u,I,D⟩:=J.at5 HX.o
     have L:=J.lt.2
     go_simp
     clear E r u I D L
     refine hK.o _ _ (by exact J.lt.2) fun N=>?_
     (try go_frame)
     refine aS 8 fun K hK=>?_
     obtain ⟨E,r,u,I,D⟩:=J.at5 HY.o
    rotate_left
    focus
     obtain ⟨E,r,u,I,D⟩:=J.at5 HY.o
     have L:=J.lt.2
     go_simp
     clear E r u I D L
     refine hK.o _ _ (by exact J.lt.2) fun N=>?_
     (try go_frame)
     refine aS 4 fun K hK=>?_
     obtain ⟨E,r,u,I,D⟩:=J.at5 HX.o
    all_goals
     have L:=J.lt.2
     go_simp
     clear E r u I D L
     refine hK.o _ _ (by exact J.lt.2) fun N=>?_
     (try go_frame)
     refine aS 9 fun K hK=>?_
     go_simp
     refine (CQ.o _).mono ?_
     rintro e w1 ⟨rfl,b1⟩
     have k1:=J.below b1
     have gw:w.grownBy w1 (some g):=ae gd (fT b1)
     go_wp2_with fail
     refine hK.o _ _ (by exact k1.lt.2) fun N=>?_
     (try go_frame)
     refine aO 10 1 N ?_
     refine dN ?_
     have am:Eq (ah w1 base g n c (Z++((U,Q,R,O,F) :: (B++Y)))):=k1
     have W:Eq (w.grownBy w1 (some g)):=gw
     clear J gd k1 gw N b1
     by_cases ao:C<0
     · have HL:Eq ((s,q,d,t,nn).2.1<(U,Q,R,O,F).2.1):=HC.o.1 ao;go_wp2;go_roundw
       case rel=>exact ⟨H+1,j,by go_num,rfl,by omega,by omega,aP,am.o,W.o,DW al.o aw.o HL.o (by omega),H2.o⟩
       case measure=>simp [intOf];omega
     · have HL:Eq ((U,Q,R,O,F).2.1≤(s,q,d,t,nn).2.1):=Int.not_lt.1 (fun h=>ao (HC.o.2 h));go_wp2;go_roundw
       case rel=>exact ⟨i,H,rfl,rfl,aU,by omega,by omega,am.o,W.o,H1.o,AY al.o aw.o HL.o⟩
       case measure=>simp [intOf];omega
  · have aE:¬(i:Int)<(j:Int):=by omega
    have av:i=j:=by omega
    subst av;obtain ⟨f,a2⟩:=aF (B.take (i - m));obtain ⟨B2,ab⟩:=aF (B.drop (i - m));have ag:B=f++B2:=by rw [a2,ab,GK]
    have an:Eq (fX [x] B=f++x :: B2):=by
     show fX [x] B=_
     rw [ag];exact tU x f B2 (by rw [a2];exact H1.o) (by rw [ab];exact fun e he=>Int.not_lt.2 (H2.o e he))
    have a6:Eq (f.length=i - m):=by show f.length=i - m;rw [a2,Gn];have:=a9.o;omega
    have ar:Eq (ah wr base g n c (Z++(f.take 0++x :: (f.drop 0++(B2++Y))))):=by have:=a3.o;rw [ag] at this;simpa [Eq] using this
    have b7:IntKind.i64.wrap ((i:Int) - 1)=(i:Int) - 1:=by rw [GN];omega
    clear a2 ab ag H1 H2 a3;go_wp2;go_loopw [13] (fun kv wq=>∃T:Nat,T≤i - m∧kv=iT ((a:Int)+(T:Int))∧ah wq base g n c (Z++(f.take T++x :: (f.drop T++(B2++Y))))∧w.grownBy wq (some g)) (fun kv _=>i - (intOf kv).toNat)
    case atStart=>exact ⟨0,Gl _,by simp,ar.o,W.o⟩
    case round =>
    obtain ⟨T,hT,rfl,aq,ak⟩:=hrel;have a5:Eq (ah wr base g n c (Z++(f.take T++x :: (f.drop T++(B2++Y))))):=aq;have au:Eq (w.grownBy wr (some g)):=ak;clear aq ak ar W;have aD:=aG.o;by_cases hT1:T<i - m
    · have aH:(a:Int)+(T:Int)<(i:Int) - 1:=by omega
      obtain ⟨y,hy⟩:∃y,f[T]?=some y:=⟨_,j' (by rw [a6.o];exact hT1)⟩;have ay:f.drop T=y :: f.drop (T+1):=by
       obtain ⟨h1,h2⟩:=F'.1 hy;rw [He h1,h2]
      have ht1:f.take (T+1)=f.take T++[y]:=by rw [GH,hy];rfl
      have hD:Z++(f.take T++x :: (f.drop T++(B2++Y)))=(Z++f.take T)++x :: y :: (f.drop (T+1)++(B2++Y)):=by rw [ay];simp only [GJ,GY]
      have hlen:(Z++f.take T).length=a+T:=by have:=HA.o;have:=a6.o;simp;omega
      have a1:(Z++(f.take T++x :: (f.drop T++(B2++Y))))[a+T]?=some x:=by rw [hD,← hlen];simp
      have a0:(Z++(f.take T++x :: (f.drop T++(B2++Y))))[a+T+1]?=some y:=by
       rw [hD,← hlen,Gm (by omega),Hx];rfl
      have a7:(((Z++(f.take T++x :: (f.drop T++(B2++Y)))).set (a+T) y).set (a+T+1) x)=Z++(f.take (T+1)++x :: (f.drop (T+1)++(B2++Y))):=by
       have:=yO (Z++f.take T) [] (f.drop (T+1)++(B2++Y)) x y;simp only [GU,Hp,Hl,hlen] at this;rw [hD,this,ht1];simp only [GJ,GY,GU]
      obtain ⟨s,q,d,t,nn⟩:=x;obtain ⟨U,Q,R,O,F⟩:=y;have HX:Eq ((Z++(f.take T++(s,q,d,t,nn) :: (f.drop T++(B2++Y))))[a+T]?=some (s,q,d,t,nn)):=a1;have HY:Eq ((Z++(f.take T++(s,q,d,t,nn) :: (f.drop T++(B2++Y))))[a+T+1]?=some (U,Q,R,O,F)):=a0;have b2:Eq ((((Z++(f.take T++(s,q,d,t,nn) :: (f.drop T++(B2++Y)))).set (a+T) (U,Q,R,O,F)).set (a+T+1) (s,q,d,t,nn))=Z++(f.take (T+1)++(s,q,d,t,nn) :: (f.drop (T+1)++(B2++Y)))):=a7;have HI:Eq (a+T<n):=by show a+T<n;omega
      have HJ:Eq (a+T+1<n):=by show a+T+1<n;omega
      have aK:Eq (a+T≠a+T+1):=by show a+T≠a+T+1;omega
      have ea:((a:Int)+(T:Int)).toNat=a+T:=by omega
      have pa:(0:Int)≤(a:Int)+(T:Int):=by omega
      have ba:(a:Int)+(T:Int)<(n:Int):=by omega
      have ec:((a:Int)+(T:Int)+1).toNat=a+T+1:=by omega
      have pc:(0:Int)≤(a:Int)+(T:Int)+1:=by omega
      have bc:(a:Int)+(T:Int)+1<(n:Int):=by omega
      have rc:IntKind.i64.wrap ((a:Int)+(T:Int)+1)=(a:Int)+(T:Int)+1:=by rw [GN];omega
      have J:ah wr.drew base g n c (Z++(f.take T++(s,q,d,t,nn) :: (f.drop T++(B2++Y)))):=a5.o.below (Below.refl _ _).drew;have gd:w.grownBy wr.drew (some g):=ae au.o (fF _ _);clear ay ht1 hD hlen a1 a0 a7 hy a5 aD;go_wp2_with fail
      refine wp_region_held_drew (S:=(fun w'=>g<w'.heap.size)) (by kernel_rfl) (by exact J.lt.2) (fun N=>?_);generalize wr.drew=wd at J gd N ⊢;refine aO 0 9 N ?_;refine aO 10 3 N ?_;refine lI 9 13 (fun K hK=>?_) fun K hK=>?_
      focus
       obtain ⟨E,r,u,I,D⟩:=J.at5 HY.o
       have L:=J.lt.2
       go_simp
       clear E r u I D L
       refine hK.o _ _ (by exact J.lt.2) fun N=>?_
       (try go_frame)
       refine aS 13 fun K hK=>?_
       obtain ⟨E,r,u,I,D⟩:=J.at5 HX.o
      rotate_left
      focus
       obtain ⟨E,r,u,I,D⟩:=J.at5 HX.o
       have L:=J.lt.2
       go_simp
       clear E r u I D L
       refine hK.o _ _ (by exact J.lt.2) fun N=>?_
       (try go_frame)
       refine aS 9 fun K hK=>?_
       obtain ⟨E,r,u,I,D⟩:=J.at5 HY.o
      all_goals
       have L:=J.lt.2
       go_simp
       clear E r u I D L
       refine hK.o _ _ (by exact J.lt.2) fun N=>?_
       (try go_frame)
       refine aO 14 1 N ?_
       refine aS 15 fun K hK=>?_
       obtain ⟨E,r,u,I,D⟩:=J.at5 HX.o
       have L:=J.lt.2
       have X:=J.owns.frozenAt
       have f0:=X ((a+T)*5)
       have f1:=X ((a+T)*5+1)
       have f2:=X ((a+T)*5+2)
       have f3:=X ((a+T)*5+3)
       have f4:=X ((a+T)*5+4)
       clear X
       go_simp
       clear E r u I D L
       clear f0 f1 f2 f3 f4
       have k1:=J.setE (i:=a+T) (e:=(U,Q,R,O,F)) HI.o (J.ents _ (Gk HY.o))
       refine hK.o _ (setE wd g (a+T) (U,Q,R,O,F)) (by exact k1.lt.2) (fun N=>?_)
       clear hK K
       have ad:=gu wd g (a+T) (U,Q,R,O,F)
       generalize setE wd g (a+T) (U,Q,R,O,F)=a4 at k1 ad N ⊢
       (try go_frame)
       refine aO 16 1 N ?_
       refine aS 17 fun K hK=>?_
       have aN:((Z++(f.take T++(s,q,d,t,nn) :: (f.drop T++(B2++Y)))).set (a+T) (U,Q,R,O,F))[a+T+1]?=some (U,Q,R,O,F):=by rw [GE aK.o];exact HY.o
       obtain ⟨E,r,u,I,D⟩:=k1.at5 aN;have L:=k1.lt.2;have X:=k1.owns.frozenAt;have f0:=X ((a+T+1)*5);have f1:=X ((a+T+1)*5+1);have f2:=X ((a+T+1)*5+2);have f3:=X ((a+T+1)*5+3);have f4:=X ((a+T+1)*5+4);clear X;go_simp;clear E r u I D L;clear f0 f1 f2 f3 f4;have k2:=k1.setE (i:=a+T+1) (e:=(s,q,d,t,nn)) HJ.o (J.ents _ (Gk HX.o));refine hK.o _ (setE a4 g (a+T+1) (s,q,d,t,nn)) (by exact k2.lt.2) (fun N=>?_);clear hK K;have gw:wd.grownBy (setE a4 g (a+T+1) (s,q,d,t,nn)) (some g):=ae ad (gu a4 g (a+T+1) (s,q,d,t,nn));generalize setE a4 g (a+T+1) (s,q,d,t,nn)=aA at k2 gw N ⊢;(try go_frame);refine dN ?_;have aT:Eq (ah aA base g n c (Z++(f.take (T+1)++(s,q,d,t,nn) :: (f.drop (T+1)++(B2++Y))))):=by have:=k2;rw [b2.o] at this;exact this
       have aQ:Eq (w.grownBy aA (some g)):=ae gd gw
       clear k2 gw J k1 ad gd N
       go_wp2
       go_roundw
       case rel=>exact ⟨T+1,by omega,by first | go_num | (congr 1;omega),aT.o,aQ.o⟩
       case measure=>simp [intOf];omega
    · have aH:¬(a:Int)+(T:Int)<(i:Int) - 1:=by omega
      have HD:Eq (ah wr base g n c (Z++(fX [x] B++Y))):=by
       have:=a5.o;rw [Gr (by rw [a6.o];omega),Hs (by rw [a6.o];omega)] at this;rw [an.o];simpa [Eq] using this
      clear a5 aD;go_wp2;((try simp only [Exit.inBlock,Exit.then]);refine bodyPost_ret (results_none rfl _ _ _) rfl ?_)
      exact ⟨rfl,HD.o,au.o⟩
theorem Bu (hA:Asc A) (hz:A[h - a]?=some z) (hl:z.2.1≤y.2.1) (hk:k - a=h - a+1):∀e ∈ A.take (k - a),e.2.1≤y.2.1:=by
 intro e g;rw [hk] at g;obtain ⟨i,hi,rfl⟩:=Ir.1 g;simp only [Hf] at *;obtain ⟨f,b⟩:=F'.1 hz;have n:i<h - a+1:=by simp at hi;omega
 by_cases d:i=h - a
 · subst d;rw [b];exact hl
 · have:=GO.1 hA i (h - a) (by omega) f (by omega);rw [b] at this;omega
theorem yC (hA:Asc A) (hz:A[h - a]?=some z) (hl:y.2.1<z.2.1):∀e ∈ A.drop (h - a),y.2.1<e.2.1:=by
 intro e g;obtain ⟨i,hi,rfl⟩:=Ir.1 g;simp only [Hj] at *;obtain ⟨f,b⟩:=F'.1 hz;simp at hi;by_cases d:i=0
 · subst d;simp only [Hl];rw [b];exact hl
 · have:=GO.1 hA (h - a) (h - a+i) f (by omega) (by omega);rw [b] at this;omega
theorem uY (b X3:List ac) (p q:ac):((b++p :: q :: X3).set (b.length+1) p).set b.length q=b++q :: p :: X3:=by
 rw [Hr _ _ (by omega),Hx,H9,Ik,Hr _ _ (Gg _),Hn,Ik]
theorem D0 (base g n c:Nat) (Z A Y:List ac) (y:ac) (a m b:Nat) (w:World) (hO:ah w base g n c (Z++(A++(y :: Y)))) (hA:Asc A) (T:2≤A.length) (ha:a=Z.length) (hm:m=a+A.length) (hb:b=m+1) (hn:n≤1048576) :
 Calls Tryz.prog 214 #[sL g n c,iT a,iT m,iT b,.func (.func 112) #[] #[]] w fun e w'=>e=.returned (.tuple #[])∧ah w' base g n c (Z++(fX A [y]++Y))∧w.grownBy w' (some g):=by
 have an:=az hA;have hl:=hO.len;simp only [Gj,GR] at hl;have aZ:=hO.entsAt.big;have bu:=hO.entsAt.room;unfold maxLen at aZ;have HA:=az ha;have a2:=az hm;have HO:=az hO;have bv:b≤n:=by omega
 have bt:m<b:=by omega
 have aP:a≤m:=by omega
 have bo:=az hb;obtain ⟨ka,aM⟩:=aF A.length;have b3:IntKind.i64.wrap ((m:Int) - (a:Int))=(ka:Int):=by rw [GN];omega
 have bs:((ka:Int) == 1)=false:=by simp;omega
 have b0:IntKind.i64.wrap ((b:Int) - (m:Int))=1:=by rw [GN];omega
 clear hO hA ha hb hl hm T aM;go_enter Tryz.func214,Tryz.ntmps214
 go_wp2;clear b3 b0;go_loopw [14,15] (fun iv jv wr=>∃i j:Nat,iv=iT i∧jv=iT j∧a≤i∧i≤j∧j≤m∧ah wr base g n c (Z++(A++(y :: Y)))∧w.grownBy wr (some g)∧(∀e ∈ A.take (i - a),e.2.1≤y.2.1)∧(∀e ∈ A.drop (j - a),y.2.1<e.2.1)) (fun iv jv _=>(intOf jv).toNat - (intOf iv).toNat)
 case atStart=>exact ⟨a,m,rfl,rfl,Gg _,aP,Gg _,HO.o,⟨rfl,rfl,rfl,Gg _,fun _ _ _=>rfl⟩,by rw [Hn];simp,by rw [Hs (by have:=a2.o;omega)];simp⟩
 case round =>
  obtain ⟨i,j,rfl,rfl,aL,bf,aq,aA,aE,h1,h2⟩:=hrel;have a5:Eq (ah wr base g n c (Z++(A++(y :: Y)))):=aA;have Q:Eq (w.grownBy wr (some g)):=aE;have H1:Eq (∀e ∈ A.take (i - a),e.2.1≤y.2.1):=h1;have H2:Eq (∀e ∈ A.drop (j - a),y.2.1<e.2.1):=h2;clear aA aE h1 h2 HO;by_cases be:i<j
  · have aH:(i:Int)<(j:Int):=by omega
    obtain ⟨H,hH⟩:=aF ((i+j) / 2);have bi:i≤H:=by omega
    have bk:H<j:=by omega
    have b4:Eq (H+1 - a=H - a+1):=by show H+1 - a=H - a+1;omega
    have eH:((i:Int)+(j:Int)) / 2=(H:Int):=by omega
    obtain ⟨z,hz⟩:∃z,A[H - a]?=some z:=⟨_,j' (by have:=a2.o;omega)⟩;have aG:Eq (A[H - a]?=some z):=hz;have au:(Z++(A++(y :: Y)))[H]?=some z:=by
     have:=HA.o;rw [Gm (by omega),show H - Z.length=H - a by omega,Gt ((F'.1 hz).1)];exact hz
    have a1:(Z++(A++(y :: Y)))[m]?=some y:=by
     have:=HA.o;have:=a2.o;rw [Gm (by omega),Gm (by omega),show m - Z.length - A.length=0 by omega];rfl
    obtain ⟨C,hC⟩:=aF (Lib.compareInt y.2.1 z.2.1);have HC:Eq ((C<0→y.2.1<z.2.1)∧(y.2.1<z.2.1→C<0)):=by rw [hC];exact ⟨(oh _ _).1,(oh _ _).2⟩
    have aD:∀w,Calls Tryz.prog 112 #[.agg #[.string y.1,iT y.2.1,iT y.2.2.1,.string y.2.2.2.1,iT y.2.2.2.2],.agg #[.string z.1,iT z.2.1,iT z.2.2.1,.string z.2.2.2.1,iT z.2.2.2.2]] w fun e w'=>e=.returned (iT C)∧Bl w w':=by rw [hC];exact fun w=>qv y.1 y.2.2.2.1 z.1 z.2.2.2.1 y.2.1 y.2.2.1 y.2.2.2.2 z.2.1 z.2.2.1 z.2.2.2.2 w
    obtain ⟨s,q,d,t,nn⟩:=y;obtain ⟨s',U,W,R,N⟩:=z;have HX:Eq ((Z++(A++((s,q,d,t,nn) :: Y)))[m]?=some (s,q,d,t,nn)):=a1;have HY:Eq ((Z++(A++((s,q,d,t,nn) :: Y)))[H]?=some (s',U,W,R,N)):=au;have CQ:Eq (∀w,Calls Tryz.prog 112 #[.agg #[.string s,iT q,iT d,.string t,iT nn],.agg #[.string s',iT U,iT W,.string R,iT N]] w fun e w'=>e=.returned (iT C)∧Bl w w'):=aD;have bp:(H:Int)<(n:Int):=by omega
    have bj:(m:Int)<(n:Int):=by omega
    have I:ah wr.drew base g n c (Z++(A++((s,q,d,t,nn) :: Y))):=a5.o.below (Below.refl _ _).drew;have gd:w.grownBy wr.drew (some g):=ae Q.o (fF _ _);clear hH hz a1 au hC aD a5 Q;by_cases a6:C<0
    · have aY:decide (C<0)=true:=decide_eq_true a6;go_wp2_with fail
      refine wp_region_held_drew (S:=(fun w'=>g<w'.heap.size)) (by kernel_rfl) (by exact I.lt.2) (fun L=>?_);generalize wr.drew=wd at I gd L ⊢;refine aO 0 4 L ?_;refine aO 5 3 L ?_;refine lI 4 8 (fun K hK=>?_) fun K hK=>?_
      focus
       obtain ⟨E,r,u,F,D⟩:=I.at5 HX.o
       have J:=I.lt.2
       go_simp
       clear E r u F D J
       refine hK.o _ _ (by exact I.lt.2) fun L=>?_
       (try go_frame)
       refine aS 8 fun K hK=>?_
       obtain ⟨E,r,u,F,D⟩:=I.at5 HY.o
      rotate_left
      focus
       obtain ⟨E,r,u,F,D⟩:=I.at5 HY.o
       have J:=I.lt.2
       go_simp
       clear E r u F D J
       refine hK.o _ _ (by exact I.lt.2) fun L=>?_
       (try go_frame)
       refine aS 4 fun K hK=>?_
       obtain ⟨E,r,u,F,D⟩:=I.at5 HX.o
      all_goals
       have J:=I.lt.2
       go_simp
       clear E r u F D J
       refine hK.o _ _ (by exact I.lt.2) fun L=>?_
       (try go_frame)
       refine aS 9 fun K hK=>?_
       go_simp
       refine (CQ.o _).mono ?_
       rintro e w1 ⟨rfl,b1⟩
       have k1:=I.below b1
       have gw:w.grownBy w1 (some g):=ae gd (fT b1)
       go_wp2_with fail
       refine hK.o _ _ (by exact k1.lt.2) fun L=>?_
       (try go_frame)
       refine aO 10 2 L ?_
       refine dN ?_
       have ai:Eq (ah w1 base g n c (Z++(A++((s,q,d,t,nn) :: Y)))):=k1
       have Q:Eq (w.grownBy w1 (some g)):=gw
       clear I gd k1 gw L b1
       have HL:Eq ((s,q,d,t,nn).2.1<(s',U,W,R,N).2.1):=HC.o.1 a6
       go_wp2
       go_roundw
       case rel=>exact ⟨i,H,rfl,rfl,aL,by omega,by omega,ai.o,Q.o,H1.o,yC (y:=(s,q,d,t,nn)) an.o aG.o HL.o⟩
       case measure=>simp [intOf];omega
    · have aY:decide (C<0)=false:=decide_eq_false a6;have HL:Eq ((s',U,W,R,N).2.1≤(s,q,d,t,nn).2.1):=Int.not_lt.1 (fun h=>a6 (HC.o.2 h));go_wp2_with fail
      refine wp_region_held_drew (S:=(fun w'=>g<w'.heap.size)) (by kernel_rfl) (by exact I.lt.2) (fun L=>?_);generalize wr.drew=wd at I gd L ⊢;refine aO 0 4 L ?_;refine aO 5 3 L ?_;refine lI 4 8 (fun K hK=>?_) fun K hK=>?_
      focus
       obtain ⟨E,r,u,F,D⟩:=I.at5 HX.o
       have J:=I.lt.2
       go_simp
       clear E r u F D J
       refine hK.o _ _ (by exact I.lt.2) fun L=>?_
       (try go_frame)
       refine aS 8 fun K hK=>?_
       obtain ⟨E,r,u,F,D⟩:=I.at5 HY.o
      rotate_left
      focus
       obtain ⟨E,r,u,F,D⟩:=I.at5 HY.o
       have J:=I.lt.2
       go_simp
       clear E r u F D J
       refine hK.o _ _ (by exact I.lt.2) fun L=>?_
       (try go_frame)
       refine aS 4 fun K hK=>?_
       obtain ⟨E,r,u,F,D⟩:=I.at5 HX.o
      all_goals
       have J:=I.lt.2
       go_simp
       clear E r u F D J
       refine hK.o _ _ (by exact I.lt.2) fun L=>?_
       (try go_frame)
       refine aS 9 fun K hK=>?_
       go_simp
       refine (CQ.o _).mono ?_
       rintro e w1 ⟨rfl,b1⟩
       have k1:=I.below b1
       have gw:w.grownBy w1 (some g):=ae gd (fT b1)
       go_wp2_with fail
       refine hK.o _ _ (by exact k1.lt.2) fun L=>?_
       (try go_frame)
       refine aO 10 2 L ?_
       refine dN ?_
       have ai:Eq (ah w1 base g n c (Z++(A++((s,q,d,t,nn) :: Y)))):=k1
       have Q:Eq (w.grownBy w1 (some g)):=gw
       clear I gd k1 gw L b1
       go_wp2
       go_roundw
       case rel=>exact ⟨H+1,j,by go_num,rfl,by omega,by omega,aq,ai.o,Q.o,Bu (y:=(s,q,d,t,nn)) an.o aG.o HL.o b4.o,H2.o⟩
       case measure=>simp [intOf];omega
  · have aH:¬(i:Int)<(j:Int):=by omega
    have ay:i=j:=by omega
    subst ay;obtain ⟨O,ab⟩:=aF (A.take (i - a));obtain ⟨A2,T⟩:=aF (A.drop (i - a));have al:A=O++A2:=by rw [ab,T,GK]
    have ar:Eq (fX A [y]=O++y :: A2):=by
     show fX A [y]=_
     rw [al];exact rU y O A2 (by rw [ab];exact fun e he=>Int.not_lt.2 (H1.o e he)) (by rw [T];exact H2.o)
    have a9:Eq (O.length=i - a∧A2.length=m - i):=by show O.length=i - a∧A2.length=m - i;rw [ab,T,Gn,Gy];have:=a2.o;omega
    have aw:Eq (ah wr base g n c (Z++(O++(A2.take (m - i)++y :: (A2.drop (m - i)++Y))))):=by
     have:=a5.o;rw [al] at this;rw [Gr (by rw [a9.o.2];omega),Hs (by rw [a9.o.2];omega)];simpa [Eq] using this
    clear ab T al H1 H2 a5;go_wp2;go_loopw [17] (fun kv wq=>∃f:Nat,i≤f∧f≤m∧kv=iT f∧ah wq base g n c (Z++(O++(A2.take (f - i)++y :: (A2.drop (f - i)++Y))))∧w.grownBy wq (some g)) (fun kv _=>(intOf kv).toNat)
    case atStart=>exact ⟨m,aq,Gg _,rfl,aw.o,Q.o⟩
    case round =>
    obtain ⟨f,bd,bn,rfl,av,ao⟩:=hrel;have a8:Eq (ah wr base g n c (Z++(O++(A2.take (f - i)++y :: (A2.drop (f - i)++Y))))):=av;have ax:Eq (w.grownBy wr (some g)):=ao;clear av ao aw Q;by_cases hK1:i<f
    · have b2:(i:Int)<(f:Int):=by omega
      obtain ⟨z,hz⟩:∃z,A2[f - i - 1]?=some z:=⟨_,j' (by rw [a9.o.2];omega)⟩;have aB:A2.drop (f - 1 - i)=z :: A2.drop (f - i):=by
       obtain ⟨h1,h2⟩:=F'.1 hz;rw [show f - 1 - i=f - i - 1 by omega,He h1,h2,show f - i - 1+1=f - i by omega]
      have ht1:A2.take (f - i)=A2.take (f - 1 - i)++[z]:=by rw [show f - i=f - 1 - i+1 by omega,GH,show f - 1 - i=f - i - 1 by omega,hz];rfl
      have hD:Z++(O++(A2.take (f - i)++y :: (A2.drop (f - i)++Y)))=(Z++(O++A2.take (f - 1 - i)))++z :: y :: (A2.drop (f - i)++Y):=by rw [ht1];simp only [GJ,GY,GU]
      have hlen:(Z++(O++A2.take (f - 1 - i))).length=f - 1:=by have:=HA.o;have:=a9.o;have:=a2.o;simp;omega
      have ap:(Z++(O++(A2.take (f - i)++y :: (A2.drop (f - i)++Y))))[f]?=some y:=by
       rw [hD,Gm (by omega),hlen,show f - (f - 1)=1 by omega];rfl
      have a1:(Z++(O++(A2.take (f - i)++y :: (A2.drop (f - i)++Y))))[f - 1]?=some z:=by rw [hD,Gm (by omega),hlen,Hn];rfl
      have ag:(((Z++(O++(A2.take (f - i)++y :: (A2.drop (f - i)++Y)))).set f z).set (f - 1) y)=Z++(O++(A2.take (f - 1 - i)++y :: (A2.drop (f - 1 - i)++Y))):=by
       have:=uY (Z++(O++A2.take (f - 1 - i))) (A2.drop (f - i)++Y) z y;rw [hlen,show f - 1+1=f by omega] at this;rw [hD,this,aB];simp only [GJ,GY]
      obtain ⟨s,q,d,t,nn⟩:=y;obtain ⟨s',U,W,R,N⟩:=z;have HX:Eq ((Z++(O++(A2.take (f - i)++(s,q,d,t,nn) :: (A2.drop (f - i)++Y))))[f]?=some (s,q,d,t,nn)):=ap;have HY:Eq ((Z++(O++(A2.take (f - i)++(s,q,d,t,nn) :: (A2.drop (f - i)++Y))))[f - 1]?=some (s',U,W,R,N)):=a1;have b5:Eq ((((Z++(O++(A2.take (f - i)++(s,q,d,t,nn) :: (A2.drop (f - i)++Y)))).set f (s',U,W,R,N)).set (f - 1) (s,q,d,t,nn))=Z++(O++(A2.take (f - 1 - i)++(s,q,d,t,nn) :: (A2.drop (f - 1 - i)++Y)))):=ag;have HI:Eq (f<n):=by show f<n;omega
      have HJ:Eq (f - 1<n):=by show f - 1<n;omega
      have aK:Eq (f≠f - 1):=by show f≠f - 1;omega
      have ba:(f:Int)<(n:Int):=by omega
      have ec:((f:Int) - 1).toNat=f - 1:=by omega
      have pc:(0:Int)≤(f:Int) - 1:=by omega
      have bg:(1:Int)≤(f:Int):=by omega
      have bc:(f:Int) - 1<(n:Int):=by omega
      have rc:IntKind.i64.wrap ((f:Int) - 1)=(f:Int) - 1:=by rw [GN];omega
      have I:ah wr.drew base g n c (Z++(O++(A2.take (f - i)++(s,q,d,t,nn) :: (A2.drop (f - i)++Y)))):=a8.o.below (Below.refl _ _).drew;have gd:w.grownBy wr.drew (some g):=ae ax.o (fF _ _);clear aB ht1 hD hlen ap a1 ag hz a8;go_wp2_with fail
      refine wp_region_held_drew (S:=(fun w'=>g<w'.heap.size)) (by kernel_rfl) (by exact I.lt.2) (fun L=>?_);generalize wr.drew=wd at I gd L ⊢;refine aO 0 9 L ?_;refine aO 10 3 L ?_;refine lI 9 13 (fun K hK=>?_) fun K hK=>?_
      focus
       obtain ⟨E,r,u,F,D⟩:=I.at5 HY.o
       have J:=I.lt.2
       go_simp
       clear E r u F D J
       refine hK.o _ _ (by exact I.lt.2) fun L=>?_
       (try go_frame)
       refine aS 13 fun K hK=>?_
       obtain ⟨E,r,u,F,D⟩:=I.at5 HX.o
      rotate_left
      focus
       obtain ⟨E,r,u,F,D⟩:=I.at5 HX.o
       have J:=I.lt.2
       go_simp
       clear E r u F D J
       refine hK.o _ _ (by exact I.lt.2) fun L=>?_
       (try go_frame)
       refine aS 9 fun K hK=>?_
       obtain ⟨E,r,u,F,D⟩:=I.at5 HY.o
      all_goals
       have J:=I.lt.2
       go_simp
       clear E r u F D J
       refine hK.o _ _ (by exact I.lt.2) fun L=>?_
       (try go_frame)
       refine aO 14 1 L ?_
       refine aS 15 fun K hK=>?_
       obtain ⟨E,r,u,F,D⟩:=I.at5 HX.o
       have J:=I.lt.2
       have X:=I.owns.frozenAt
       have f0:=X ((f)*5)
       have f1:=X ((f)*5+1)
       have f2:=X ((f)*5+2)
       have f3:=X ((f)*5+3)
       have f4:=X ((f)*5+4)
       clear X
       go_simp
       clear E r u F D J
       clear f0 f1 f2 f3 f4
       have k1:=I.setE (i:=f) (e:=(s',U,W,R,N)) HI.o (I.ents _ (Gk HY.o))
       refine hK.o _ (setE wd g (f) (s',U,W,R,N)) (by exact k1.lt.2) (fun L=>?_)
       clear hK K
       have aj:=gu wd g (f) (s',U,W,R,N)
       generalize setE wd g (f) (s',U,W,R,N)=a7 at k1 aj L ⊢
       (try go_frame)
       refine aO 16 1 L ?_
       refine aS 17 fun K hK=>?_
       have aR:((Z++(O++(A2.take (f - i)++(s,q,d,t,nn) :: (A2.drop (f - i)++Y)))).set (f) (s',U,W,R,N))[f - 1]?=some (s',U,W,R,N):=by rw [GE aK.o];exact HY.o
       obtain ⟨E,r,u,F,D⟩:=k1.at5 aR;have J:=k1.lt.2;have X:=k1.owns.frozenAt;have f0:=X ((f - 1)*5);have f1:=X ((f - 1)*5+1);have f2:=X ((f - 1)*5+2);have f3:=X ((f - 1)*5+3);have f4:=X ((f - 1)*5+4);clear X;go_simp;clear E r u F D J;clear f0 f1 f2 f3 f4;have k2:=k1.setE (i:=f - 1) (e:=(s,q,d,t,nn)) HJ.o (I.ents _ (Gk HX.o));refine hK.o _ (setE a7 g (f - 1) (s,q,d,t,nn)) (by exact k2.lt.2) (fun L=>?_);clear hK K;have gw:wd.grownBy (setE a7 g (f - 1) (s,q,d,t,nn)) (some g):=ae aj (gu a7 g (f - 1) (s,q,d,t,nn));generalize setE a7 g (f - 1) (s,q,d,t,nn)=aC at k2 gw L ⊢;(try go_frame);refine dN ?_;have aV:Eq (ah aC base g n c (Z++(O++(A2.take (f - 1 - i)++(s,q,d,t,nn) :: (A2.drop (f - 1 - i)++Y))))):=by have:=k2;rw [b5.o] at this;exact this
       have aT:Eq (w.grownBy aC (some g)):=ae gd gw
       clear k2 gw I k1 aj gd L
       go_wp2
       go_roundw
       case rel=>exact ⟨f - 1,by omega,by omega,by first | go_num | (congr 1;omega),aV.o,aT.o⟩
       case measure=>simp [intOf];omega
    · have b2:¬(i:Int)<(f:Int):=by omega
      have HD:Eq (ah wr base g n c (Z++(fX A [y]++Y))):=by
       have:=a8.o;rw [show f - i=0 by omega] at this;rw [ar.o];simpa [Eq] using this
      clear a8;go_wp2;((try simp only [Exit.inBlock,Exit.then]);refine bodyPost_ret (results_none rfl _ _ _) rfl ?_)
      exact ⟨rfl,HD.o,ax.o⟩
end
end Go.Proofs.YtpobkmjicbobdaaGreat
