/- Walks. -/
import Derived.Test.YtpobkmjicbobdaaGreatBl14
namespace Go.Proofs.YtpobkmjicbobdaaGreat
set_option maxRecDepth 100000
set_option maxHeartbeats 40000000
open Go.RowKit
variable {A C:List an} {K M:List ac} {S:List Int} {b i n:Nat} {q:Int} {u0 u1 u2 u3 u4 u5:Value} {w w':World} {xs:List Value}
theorem yq {B:List an} (h:¬(0≤q∧q≤100000∧b9 S q=true∧M.length≤60∧aI M=true∧bm A B C=true∧dr q (dt M A B C).flatten=true)):bf q M [A,B,C] S=false:=by
 rw [D7];exact fun d=>h ((lQ q M A B C S).1 d)
theorem f5 {B:List an} (h:bm A B C=true):A.length≤8∧B.length≤8∧C.length≤8∧∀r,r ∈ A∨r ∈ B∨r ∈ C→r.1.length≤150:=by
 unfold bm tZ pu at h;simp only [Db,decide_eq_true_eq,Bool.not_eq_true'] at h;obtain ⟨⟨a1,a2⟩,⟨b1,b2,_⟩,⟨c1,c2,_⟩⟩:=h;refine ⟨by omega,by omega,by omega,?_⟩;rintro r (hr | hr | hr)
 · exact (bE (lH a2 r hr)).2.1
 · exact (bE (lH b2 r hr)).2.1
 · exact (bE (lH c2 r hr)).2.1
theorem tk {B:List an} (hM:M.length≤60) (h:bm A B C=true):∀l ∈ dt M A B C,l.length≤150:=by
 have hs:=(f5 h).2.2.2;intro l hl;unfold dt at hl;simp only [Da,Dd,DO,EC] at hl;rcases hl with rfl | ⟨r,hr,rfl⟩ | ⟨r,hr,rfl⟩ | ⟨r,hr,rfl⟩
 · omega
 · exact hs r (.inl hr)
 · exact hs r (.inr (.inl hr))
 · exact hs r (.inr (.inr hr))
theorem zA (R:Nat) (q:Int) (T Y:Option Addr) (u O Q L:Nat) (a0 a1 a2:Option Addr) (N c0 I c1 n2 c2:Nat) (M:List ac) (A B C:List an) (S:List Int) (w:World) (hM:ag w T u O M) (hS:bQ R w Y Q L S) (h0:ay R w a0 N c0 A) (h1:ay R w a1 I c1 B) (h2:ay R w a2 n2 c2 C) :
 Calls Tryz.prog 142 #[.agg #[iT q,.slice T u O,.slice a0 N c0,.slice a1 I c1,.slice a2 n2 c2,.slice Y Q L]] w fun e w'=>e=.returned (.bool (bf q M [A,B,C] S))∧Bl w w':=by
 have J:CG (M.length=u):=hM.length;have HM:=bO hM;have HS:=bO hS;have H0:=bO h0;have H1:=bO h1;have H2:=bO h2;have E:CG (¬(0≤q∧q≤100000∧b9 S q=true∧M.length≤60∧aI M=true∧bm A B C=true∧dr q (dt M A B C).flatten=true)→bf q M [A,B,C] S=false):=yq;have HY:CG (0≤q→q≤100000→b9 S q=true→M.length≤60→aI M=true→bm A B C=true→dr q (dt M A B C).flatten=true→bf q M [A,B,C] S=true):=fun e1 e2 e3 e4 e5 e6 e7=>(lQ q M A B C S).2 ⟨e1,e2,e3,e4,e5,e6,e7⟩
 clear hM hS h0 h1 h2;obtain ⟨Z,hZ⟩:∃Z,bf q M [A,B,C] S=Z:=⟨_,rfl⟩;rw [hZ] at E HY ⊢;clear hZ;obtain ⟨W,y⟩:=aH (w.alloc (.cells #[iT q,.slice T u O,.slice a0 N c0,.slice a1 I c1,.slice a2 n2 c2,.slice Y Q L] 82));have kW:Bl w W:=by rw [y];exact bZ
 obtain ⟨X,H⟩:=aH w.heap.size;have x0:W.cell? ⟨X,0,none⟩=some (iT q):=by rw [y,H];simp
 have x1:W.cell? ⟨X,1,none⟩=some (.slice T u O):=by rw [y,H];simp
 have x2:W.cell? ⟨X,2,none⟩=some (.slice a0 N c0):=by rw [y,H];simp
 have x3:W.cell? ⟨X,3,none⟩=some (.slice a1 I c1):=by rw [y,H];simp
 have x4:W.cell? ⟨X,4,none⟩=some (.slice a2 n2 c2):=by rw [y,H];simp
 have x5:W.cell? ⟨X,5,none⟩=some (.slice Y Q L):=by rw [y,H];simp
 have zX:=Cz _ _ x0;have x:CG (Bl w W):=kW;go_enter Tryz.func142,Tryz.ntmps142
 go_upto_region 1 with fail
 rw [← y,← H];clear y H kW;by_cases e1:q<0
 · have m:CG (Z=false):=E.o (fun h=>by have:=h.1;omega);go_wp2;go_ret;exact ⟨ah m.o.symm,x.o⟩
 by_cases e2:100000<q
 · have m:CG (Z=false):=E.o (fun h=>by have:=h.2.1;omega);go_wp2;go_ret;exact ⟨ah m.o.symm,x.o⟩
 have al:0≤q:=by omega
 have ae:q≤100000:=by omega
 obtain ⟨bS,g⟩:∃b,b=b9 S q:=⟨_,rfl⟩;go_wp2_with fail
 refine (xC R Y Q L S q W (HS.o.keep x.o)).mono ?_;rw [← g];rintro e w1 ⟨rfl,rfl⟩;cases bS with
 | false =>
  have m:CG (Z=false):=E.o (fun h=>by have:=h.2.2.1;rw [← g] at this;cases this);clear g;go_wp2;go_ret;exact ⟨ah m.o.symm,x.o⟩
 | true =>
 have af:CG (b9 S q=true):=g.symm;clear g;by_cases e3:(60:Int)<(u:Int)
 · have m:CG (Z=false):=E.o (fun h=>by have:=h.2.2.2.1;have:=J.o;omega);go_wp2;go_ret;exact ⟨ah m.o.symm,x.o⟩
 have aM:(u:Int)≤60:=by omega
 obtain ⟨bR,r⟩:∃b,b=aI M:=⟨_,rfl⟩;go_wp2_with fail
 refine (mf T u O M _ (HM.o.keep x.o)).mono ?_;rw [← r];rintro e w2 ⟨rfl,f⟩;have x0:=cell_later f x0;have x1:=cell_later f x1;have x2:=cell_later f x2;have x3:=cell_later f x3;have x4:=cell_later f x4;have x5:=cell_later f x5;have zX:=Cz _ _ x0;have U:CG (Bl w w2):=x.o.trans (f.mono x.o.size);clear f x;cases bR with
 | false =>
  have m:CG (Z=false):=E.o (fun h=>by have:=h.2.2.2.2.1;rw [← r] at this;cases this);clear r;go_wp2;go_ret;exact ⟨ah m.o.symm,U.o⟩
 | true =>
 have ab:CG (aI M=true):=r.symm;clear r;obtain ⟨bL,s⟩:∃b,b=bm A B C:=⟨_,rfl⟩;go_wp2_with fail
 refine (uZ R q T Y u O Q L a0 a1 a2 N c0 I c1 n2 c2 A B C w2 (H0.o.keep U.o) (H1.o.keep U.o) (H2.o.keep U.o)).mono ?_;rw [← s];rintro e w3 ⟨rfl,d⟩;have x0:=cell_later d x0;have x1:=cell_later d x1;have x2:=cell_later d x2;have x3:=cell_later d x3;have x4:=cell_later d x4;have x5:=cell_later d x5;have zX:=Cz _ _ x0;have F:CG (Bl w w3):=U.o.trans (d.mono U.o.size);clear d U;cases bL with
 | false =>
  have m:CG (Z=false):=E.o (fun h=>by have:=h.2.2.2.2.2.1;rw [← s] at this;cases this);clear s;go_wp2;go_ret;exact ⟨ah m.o.symm,F.o⟩
 | true =>
 have t:CG (bm A B C=true):=s.symm;clear s;have aj:CG (∀l ∈ dt M A B C,l.length≤150):=tk (by have:=J.o;omega) t.o;have a9:N≤8:=by have:=H0.o.length;have:=(f5 t.o).1;omega
 have aa:I≤8:=by have:=H1.o.length;have:=(f5 t.o).2.1;omega
 have ai:n2≤8:=by have:=H2.o.length;have:=(f5 t.o).2.2.1;omega
 obtain ⟨bN,D⟩:∃b,b=dr q (dt M A B C).flatten:=⟨_,rfl⟩;have HZ:CG (Z=bN):=by
  cases bN with
  | false=>exact E.o (fun h=>by have:=h.2.2.2.2.2.2;rw [← D] at this;cases this)
  | true=>exact HY.o al ae af.o (by have:=J.o;omega) ab.o t.o D.symm
 go_wp2_with fail
 refine (callsIn_wide.1 (xE R q T Y u O Q L a0 a1 a2 N c0 I c1 n2 c2 M A B C w3 (HM.o.keep F.o) (H0.o.keep F.o) (H1.o.keep F.o) (H2.o.keep F.o) a9 aa ai aj.o)).mono ?_;rw [← D];clear D;rintro e w4 ⟨rfl,a3⟩;have K4:CG (Bl w w4):=F.o.trans (a3.mono F.o.size);clear a3 F;go_wp2;go_ret;exact ⟨ah HZ.o.symm,K4.o⟩
structure dg (w:World) (b:Nat) (u0 u1 u2 u3 u4 u5:Value):Prop where
 c0:w.cell? ⟨b,0,none⟩=some u0
 c1:w.cell? ⟨b,1,none⟩=some u1
 c2:w.cell? ⟨b,2,none⟩=some u2
 c3:w.cell? ⟨b,3,none⟩=some u3
 c4:w.cell? ⟨b,4,none⟩=some u4
 c5:w.cell? ⟨b,5,none⟩=some u5
 fz:∀o,w.frozen? ⟨b,o,none⟩=false
theorem dg.lt (h:dg w b u0 u1 u2 u3 u4 u5):b<w.heap.size:=Cz w _ h.c0
theorem dg.all(h:dg w b u0 u1 u2 u3 u4 u5):w.cell? ⟨b,0,none⟩=some u0∧w.cell? ⟨b,1,none⟩=some u1∧w.cell? ⟨b,2,none⟩=some u2∧w.cell? ⟨b,3,none⟩=some u3∧w.cell? ⟨b,4,none⟩=some u4∧w.cell? ⟨b,5,none⟩=some u5∧(∀o,w.frozen? ⟨b,o,none⟩=false)∧b<w.heap.size:=⟨h.c0,h.c1,h.c2,h.c3,h.c4,h.c5,h.fz,h.lt⟩
theorem dg.new (w:World) (t:TypeId) (u0 u1 u2 u3 u4 u5:Value):dg (w.alloc (.cells #[u0,u1,u2,u3,u4,u5] t)) w.heap.size u0 u1 u2 u3 u4 u5:=⟨by simp,by simp,by simp,by simp,by simp,by simp,fun o=>by simp⟩
theorem dg.below {B:Nat} (h:dg w b u0 u1 u2 u3 u4 u5) (hb:Below B w w') (hB:b<B):dg w' b u0 u1 u2 u3 u4 u5 :=
 ⟨(hb.cell (p:=⟨b,0,none⟩) hB).trans h.c0,(hb.cell (p:=⟨b,1,none⟩) hB).trans h.c1,(hb.cell (p:=⟨b,2,none⟩) hB).trans h.c2,(hb.cell (p:=⟨b,3,none⟩) hB).trans h.c3,(hb.cell (p:=⟨b,4,none⟩) hB).trans h.c4,(hb.cell (p:=⟨b,5,none⟩) hB).trans h.c5,fun o=>(Eq (hb.block b hB)).trans (h.fz o)⟩
theorem dg.keep (h:dg w b u0 u1 u2 u3 u4 u5) (hb:Bl w w'):dg w' b u0 u1 u2 u3 u4 u5:=h.below hb h.lt
theorem dg.alloc (h:dg w b u0 u1 u2 u3 u4 u5) (o:Obj):dg (w.alloc o) b u0 u1 u2 u3 u4 u5:=h.keep bZ
theorem dg.other (h:dg w b u0 u1 u2 u3 u4 u5) {b' o:Nat} (hp:b'≠b) (x:Value):dg (w.setCell ⟨b',o,none⟩ x) b u0 u1 u2 u3 u4 u5 :=
 ⟨(aq x (fun e=>hp e.1.symm)).trans h.c0,(aq x (fun e=>hp e.1.symm)).trans h.c1,(aq x (fun e=>hp e.1.symm)).trans h.c2,(aq x (fun e=>hp e.1.symm)).trans h.c3,(aq x (fun e=>hp e.1.symm)).trans h.c4,(aq x (fun e=>hp e.1.symm)).trans h.c5,fun o=>by rw [Dj];exact h.fz o⟩
theorem dg.set0 (h:dg w b u0 u1 u2 u3 u4 u5) (x:Value):dg (w.setCell ⟨b,0,none⟩ x) b x u1 u2 u3 u4 u5 :=
 ⟨C4 _ _ _ (by rw [h.c0];rfl),(aq x (by simp)).trans h.c1,(aq x (by simp)).trans h.c2,(aq x (by simp)).trans h.c3,(aq x (by simp)).trans h.c4,(aq x (by simp)).trans h.c5,fun o=>by rw [Dj];exact h.fz o⟩
theorem dg.set1 (h:dg w b u0 u1 u2 u3 u4 u5) (x:Value):dg (w.setCell ⟨b,1,none⟩ x) b u0 x u2 u3 u4 u5 :=
 ⟨(aq x (by simp)).trans h.c0,C4 _ _ _ (by rw [h.c1];rfl),(aq x (by simp)).trans h.c2,(aq x (by simp)).trans h.c3,(aq x (by simp)).trans h.c4,(aq x (by simp)).trans h.c5,fun o=>by rw [Dj];exact h.fz o⟩
theorem dg.set2 (h:dg w b u0 u1 u2 u3 u4 u5) (x:Value):dg (w.setCell ⟨b,2,none⟩ x) b u0 u1 x u3 u4 u5 :=
 ⟨(aq x (by simp)).trans h.c0,(aq x (by simp)).trans h.c1,C4 _ _ _ (by rw [h.c2];rfl),(aq x (by simp)).trans h.c3,(aq x (by simp)).trans h.c4,(aq x (by simp)).trans h.c5,fun o=>by rw [Dj];exact h.fz o⟩
theorem dg.set3 (h:dg w b u0 u1 u2 u3 u4 u5) (x:Value):dg (w.setCell ⟨b,3,none⟩ x) b u0 u1 u2 x u4 u5 :=
 ⟨(aq x (by simp)).trans h.c0,(aq x (by simp)).trans h.c1,(aq x (by simp)).trans h.c2,C4 _ _ _ (by rw [h.c3];rfl),(aq x (by simp)).trans h.c4,(aq x (by simp)).trans h.c5,fun o=>by rw [Dj];exact h.fz o⟩
theorem dg.set4 (h:dg w b u0 u1 u2 u3 u4 u5) (x:Value):dg (w.setCell ⟨b,4,none⟩ x) b u0 u1 u2 u3 x u5 :=
 ⟨(aq x (by simp)).trans h.c0,(aq x (by simp)).trans h.c1,(aq x (by simp)).trans h.c2,(aq x (by simp)).trans h.c3,C4 _ _ _ (by rw [h.c4];rfl),(aq x (by simp)).trans h.c5,fun o=>by rw [Dj];exact h.fz o⟩
theorem dg.set5 (h:dg w b u0 u1 u2 u3 u4 u5) (x:Value):dg (w.setCell ⟨b,5,none⟩ x) b u0 u1 u2 u3 u4 x :=
 ⟨(aq x (by simp)).trans h.c0,(aq x (by simp)).trans h.c1,(aq x (by simp)).trans h.c2,(aq x (by simp)).trans h.c3,(aq x (by simp)).trans h.c4,C4 _ _ _ (by rw [h.c5];rfl),fun o=>by rw [Dj];exact h.fz o⟩
theorem qr (lo:Nat) (m:Int) (y D:Option Addr) (u t b o L x s:Nat) (M:List ac) (A B C:List an) (S:List Int) (a0 a1 a2:Option Addr) (I c0 H c1 n2 c2:Nat) (w:World) (hM:ag w y u t M) (hS:bQ lo w D x s S) (h0:ay lo w a0 I c0 A) (h1:ay lo w a1 H c1 B) (h2:ay lo w a2 n2 c2 C)
 (l0:w.cell? ⟨b,o,none⟩=some (.slice a0 I c0)) (l1:w.cell? ⟨b,o+1,none⟩=some (.slice a1 H c1)) (l2:w.cell? ⟨b,o+2,none⟩=some (.slice a2 n2 c2)) :
 Calls Tryz.prog 86 #[.agg #[iT m,.slice y u t,sO b o 3 L,.slice D x s]] w fun e w'=>e=.returned (.tuple #[.agg #[iT m,.slice y u t,.slice a0 I c0,.slice a1 H c1,.slice a2 n2 c2,.slice D x s],.bool (bf m M [A,B,C] S)])∧Bl w w':=by
 have a3:=Cz _ _ l0;simp only at a3;obtain ⟨X,U⟩:=aH w.heap.size;obtain ⟨W,T⟩:=aH (((w.alloc (.cells #[iT m,.slice y u t,sO b o 3 L,.slice D x s] 31)).alloc (.cells #[iT 0,nZ,nZ,nZ,nZ,nZ] 82)).alloc (.cells #[iT m,.slice y u t,nZ,nZ,nZ,.slice D x s] 82));have Y:Bl w W:=by rw [T];exact (bZ.alloc (by simp) _).alloc (by simp;omega) _
 have xa:(w.alloc (.cells #[iT m,.slice y u t,sO b o 3 L,.slice D x s] 31)).cell? ⟨X,2,none⟩=some (sO b o 3 L):=by rw [U];simp
 have x2:W.cell? ⟨X,2,none⟩=some (sO b o 3 L):=by
  rw [T];exact cell_later bZ (cell_later bZ xa)
 have O:dg W (X+1) (iT 0) nZ nZ nZ nZ nZ:=by
  have:=(dg.new (w.alloc (.cells #[iT m,.slice y u t,sO b o 3 L,.slice D x s] 31)) 82 (iT 0) nZ nZ nZ nZ nZ).alloc (.cells #[iT m,.slice y u t,nZ,nZ,nZ,.slice D x s] 82);rw [Dc] at this;rw [T,U];exact this
 have F:dg W (X+1+1) (iT m) (.slice y u t) nZ nZ nZ (.slice D x s):=by
  have:=dg.new ((w.alloc (.cells #[iT m,.slice y u t,sO b o 3 L,.slice D x s] 31)).alloc (.cells #[iT 0,nZ,nZ,nZ,nZ,nZ] 82)) 82 (iT m) (.slice y u t) nZ nZ nZ (.slice D x s);rw [Dc,Dc] at this;rw [T,U];exact this
 have k0:=cell_later Y l0;have k1:=cell_later Y l1;have k2:=cell_later Y l2;have a7:(Builtin.copy_ #[29,29] 3 #[.slice (some ⟨X+1+1,2,none⟩) 3 3,sO b o 3 L]).run Tryz.prog W.drew=.ok (goInt 3) (W.drew.setCells (X+1+1) 2 [.slice a0 I c0,.slice a1 H c1,.slice a2 n2 c2]):=by
  refine run_copy_cells (P:=Tryz.prog) W.drew 29 29 3 61 (X+1+1) 2 3 3 ⟨b,o,none⟩ 3 L [.slice a0 I c0,.slice a1 H c1,.slice a2 n2 c2] Tryz.underlying29 (by kernel_rfl) rfl ?_ ?_ ?_ ?_
  · intro j v J;rw [De];match j,J with
    | 0,J=>simp at J;subst J;exact k0
    | 1,J=>simp at J;subst J;exact k1
    | 2,J=>simp at J;subst J;exact k2
  · intro j J;match j,J with
    | 0,_=>exact Option.isSome_iff_exists.2 ⟨_,F.c2⟩
    | 1,_=>exact Option.isSome_iff_exists.2 ⟨_,F.c3⟩
    | 2,_=>exact Option.isSome_iff_exists.2 ⟨_,F.c4⟩
  · exact fun j _=>F.fz _
  · intro v hv;simp at hv;rcases hv with rfl | rfl | rfl <;> rfl
 have HM:=bO hM;have HS:=bO hS;have H0:=bO h0;have H1:=bO h1;have H2:=bO h2;have KW:CG (Bl w W):=Y;have HX:CG (X=w.heap.size):=U;clear hM hS h0 h1 h2 Y l0 l1 l2 k0 k1 k2 xa;go_enter Tryz.func86,Tryz.ntmps86
 go_upto_region 4 with fail
 rw [← U,← T];clear U T;have zX:X<W.heap.size:=Cz _ _ x2;have zS:=F.lt;go_region_with (fail)
 obtain ⟨N,Q⟩:=aH (W.drew.setCells (X+1+1) 2 [.slice a0 I c0,.slice a1 H c1,.slice a2 n2 c2]);have E:N=((W.drew.setCell ⟨X+1+1,2,none⟩ (.slice a0 I c0)).setCell ⟨X+1+1,3,none⟩ (.slice a1 H c1)).setCell ⟨X+1+1,4,none⟩ (.slice a2 n2 c2):=by rw [Q];rfl
 have f:dg N (X+1+1) (iT m) (.slice y u t) (.slice a0 I c0) (.slice a1 H c1) (.slice a2 n2 c2) (.slice D x s):=by
  have d:dg W.drew (X+1+1) (iT m) (.slice y u t) nZ nZ nZ (.slice D x s):=⟨F.c0,F.c1,F.c2,F.c3,F.c4,F.c5,F.fz⟩;rw [E];exact ((d.set2 _).set3 _).set4 _
 have Z:dg N (X+1) (iT 0) nZ nZ nZ nZ nZ:=by
  have d:dg W.drew (X+1) (iT 0) nZ nZ nZ nZ nZ:=⟨O.c0,O.c1,O.c2,O.c3,O.c4,O.c5,O.fz⟩;rw [E];exact ((d.other (by omega) _).other (by omega) _).other (by omega) _
 have R:CG (Bl w N):=by
  have hx:w.heap.size≤X+1+1:=by have:=HX.o;omega
  rw [E];exact ((KW.o.drew.setCell (p:=⟨X+1+1,2,none⟩) hx _).setCell (p:=⟨X+1+1,3,none⟩) hx _).setCell (p:=⟨X+1+1,4,none⟩) hx _
 rw [← Q];clear Q E a7 x2 F O zS zX KW a3;have g:CG (dg N (X+1) (iT 0) nZ nZ nZ nZ nZ):=Z;have y0:=f.c0;have y1:=f.c1;have y2:=f.c2;have y3:=f.c3;have y4:=f.c4;have y5:=f.c5;have zS:=f.lt;have ai:CG (dg N (X+1+1) (iT m) (.slice y u t) (.slice a0 I c0) (.slice a1 H c1) (.slice a2 n2 c2) (.slice D x s)):=f;clear Z f;go_upto_region 5 with fail
 go_region_with (go_at_call 142;refine (zA lo m y D u t x s a0 a1 a2 I c0 H c1 n2 c2 M A B C S _ (HM.o.keep R.o.drew) (HS.o.keep R.o.drew) (H0.o.keep R.o.drew) (H1.o.keep R.o.drew) (H2.o.keep R.o.drew)).mono ?_;rintro e w5 ⟨rfl,a6⟩;have r:Bl N w5:=((Below.refl _ N).drew).trans a6;have aD:=cell_later r y0;have ax:=cell_later r y1;have aq:=cell_later r y2;have af:=cell_later r y3;have av:=cell_later r y4;have ao:=cell_later r y5;have az:=l' zS r.size;have r0:=(g.o.keep r).c0;have r1:=(g.o.keep r).c1;have r2:=(g.o.keep r).c2;have r3:=(g.o.keep r).c3;have r4:=(g.o.keep r).c4;have r5:=(g.o.keep r).c5;have rf:=(g.o.keep r).fz;have rz:=(g.o.keep r).lt)
 all_goals
  go_wp2;refine bodyPost_ret (v:=.tuple #[.agg #[iT m,.slice y u t,.slice a0 I c0,.slice a1 H c1,.slice a2 n2 c2,.slice D x s],.bool (bf m M [A,B,C] S)]) ?_ rfl ⟨rfl,?_⟩
  · have c:=((((((g.o.keep r).set0 (iT m)).set1 (.slice y u t)).set2 (.slice a0 I c0)).set3 (.slice a1 H c1)).set4 (.slice a2 n2 c2)).set5 (.slice D x s);simp [results,Tryz.results86,go_sem,c.all]
  · have hx:w.heap.size≤X+1:=by have:=HX.o;omega
    have K5:=R.o.trans (r.mono R.o.size);exact ((qX K5 hx _ _ _ _).setCell (p:=⟨X+1,4,none⟩) hx _).setCell (p:=⟨X+1,5,none⟩) hx _
theorem tw (y:Int) (s B r:Option Addr) (t m d u o g:Nat) (w:World) (hn:¬d=3) :
 Calls Tryz.prog 86 #[.agg #[iT y,.slice s t m,.slice B d u,.slice r o g]] w fun e w'=>e=.returned (.tuple #[.agg #[iT 0,nZ,nZ,nZ,nZ,nZ],.bool false])∧Bl w w':=by
 have x:¬(d:Int)=3:=by omega
 have F:((d:Int) == 3)=false:=by simpa using x
 obtain ⟨W,f⟩:=aH ((w.alloc (.cells #[iT y,.slice s t m,.slice B d u,.slice r o g] 31)).alloc (.cells #[iT 0,nZ,nZ,nZ,nZ,nZ] 82));have E:Bl w W:=by rw [f];exact bZ.alloc (by simp) _
 have D:dg W (w.heap.size+1) (iT 0) nZ nZ nZ nZ nZ:=by
  have:=dg.new (w.alloc (.cells #[iT y,.slice s t m,.slice B d u,.slice r o g] 31)) 82 (iT 0) nZ nZ nZ nZ nZ;rw [Dc] at this;rw [f];exact this
 go_enter Tryz.func86,Tryz.ntmps86
 go_upto_region 2 with fail
 rw [← f];clear f;have H:=D.all;go_wp2;refine bodyPost_ret (v:=.tuple #[.agg #[iT 0,nZ,nZ,nZ,nZ,nZ],.bool false]) ?_ rfl ⟨rfl,?_⟩
 · have c:=(((((D.set0 (iT 0)).set1 nZ).set2 nZ).set3 nZ).set4 nZ).set5 nZ;simp [results,Tryz.results86,go_sem,c.all]
 · have hx:w.heap.size≤w.heap.size+1:=by omega
   exact ((qX E hx _ _ _ _).setCell (p:=⟨w.heap.size+1,4,none⟩) hx _).setCell (p:=⟨w.heap.size+1,5,none⟩) hx _
theorem rY {B:List an} (h:bf q M [A,B,C] S=true):fX (dt M A B C).flatten:=by
 have h1:=((lQ q M A B C S).1 h).2.2.2.2.2.2;refine ((jD q _).1 h1).1.imp ?_;intro x y ho e;have:=ho e.1;omega
theorem jz (B:List an):(B.reverse.map (·.1)).flatten.Perm (bC B):=by
 unfold bC;rw [List.flatMap_def];exact ((List.reverse_perm B).map _).flatten
theorem uK (M:List ac) (A B C:List an):(dt M A B C).flatten.Perm (M++(bC A++(bC B++bC C))):=by
 unfold dt;simp only [DW,EB];exact (((jz A).append ((jz B).append (jz C)))).append_left _
theorem parts_flat (M:List ac) (A B C:List an):(eT M [A,B,C]).flatten.Perm (M++(bC A++(bC B++bC C))):=by
 unfold eT;simp only [List.headD_cons,List.drop_succ_cons,List.drop_zero,Ep,Ev,DD,DW,EB,List.flatten_nil,Eh];exact ((jz A).append_right _).append_left _
theorem ia {V:List (List an)} (h:bf q M V S=true):∃A B C,V=[A,B,C]:=by
 have:=(aY h).2.2.2.2.2.1;match V,this with
 | [A,B,C],_=>exact ⟨A,B,C,rfl⟩
structure Ac (w:World) (am:Option Addr) (nm cm:Nat) (a0:Option Addr) (n0 c0:Nat) (a1:Option Addr) (n1 c1:Nat) (a2:Option Addr) (n2 c2:Nat) (ak:Option Addr) (nk ck:Nat) (M:List ac) (A B C:List an) (S:List Int):Prop where
 mem:ag w am nm cm M
 r0:ay 0 w a0 n0 c0 A
 r1:ay 0 w a1 n1 c1 B
 r2:ay 0 w a2 n2 c2 C
 sn:bQ 0 w ak nk ck S
theorem Ac.keep {r a0 a1 a2 o:Option Addr} {s g e c0 f c1 n2 c2 m d:Nat} {B:List an} (h:Ac w r s g a0 e c0 a1 f c1 a2 n2 c2 o m d M A B C S) (hb:Bl w w'):Ac w' r s g a0 e c0 a1 f c1 a2 n2 c2 o m d M A B C S:=⟨h.mem.keep hb,h.r0.keep hb,h.r1.keep hb,h.r2.keep hb,h.sn.keep hb⟩
theorem AJ:∀c:List ac,c≠[]→lM false c≠[]
 | [],h=>absurd rfl h
 | e :: R,_=>by
  rw [tH (e:=e) false rfl]
  unfold dJ
  split
  · simp
  · simp
theorem xN (d:List (List ac)):(d.foldr (Sq.stepD lM) (false,[])).1=false:=by
 induction d with
 | nil=>rfl
 | cons c d e =>
  rw [List.foldr_cons];show (if _ then _ else false)=false
  split
  · exact e
  · rfl
theorem xu {G:List ac} (hG:G≠[]):eG S false G≠[]:=by
 unfold eG Sq.leftD;cases hp:Sq.parts (f7 S) G with
 | nil =>
  have h:=Sq.parts_flat (f7 S) G;rw [hp] at h;exact absurd h.symm hG
 | cons c d =>
  have hc:c≠[]:=jA (f7 S) G c (by rw [hp];simp);rw [List.foldr_cons];show lM _ c++_≠[]
  rw [xN d];intro h;exact AJ c hc (List.append_eq_nil_iff.1 h).1
theorem sm (hr:aI M=true) (hM:M≠[]) (S:List Int):bG M S false≠[]:=by
 unfold bG;rw [if_pos hr];cases hp:Sq.parts eY M with
 | nil =>
  have h:=Sq.parts_flat eY M;rw [hp] at h;exact absurd h.symm hM
 | cons G d =>
  have hG:G≠[]:=jA eY M G (by rw [hp];simp);rw [ES];intro h;exact xu hG (List.append_eq_nil_iff.1 h).1
theorem um {L:List ac} (h:aI L=true):bF L=L:=by
 have hb:=bK L;exact (ja (fZ h) hb.1 hb.2.symm).symm
def dW (p:Nat→Prop) (w:World) (xs:List Value) (B:List an):Prop :=
 xs.length=B.length*2∧∀i (r:an),B[i]?=some r→(Lit.int .i64 r.2).wf=true∧∃s n c,xs[i*2]?=some (.slice s n c)∧xs[i*2+1]?=some (iT r.2)∧ag w s n c r.1∧∀x,s=some x→0<n→p x.block
theorem dW.den {p:Nat→Prop} {B:List an} (h:dW p w xs B):kP w xs B :=
 ⟨h.1,fun i r hr=>by obtain ⟨h1,s,n,c,h2,h3,h4,_⟩:=h.2 i r hr;exact ⟨h1,s,n,c,h2,h3,h4,fun x e _=>C3 _⟩⟩
theorem kP.denP {B:List an} (h:kP w xs B):dW (·<w.heap.size) w xs B :=
 ⟨h.1,fun i r hr=>by obtain ⟨h1,s,n,c,h2,h3,h4⟩:=h.2 i r hr;exact ⟨h1,s,n,c,h2,h3,h4.1,fun x e hp=>(h4.1.lies x e hp).1⟩⟩
theorem dW.imp {p d:Nat→Prop} {B:List an} (h:dW p w xs B) (hp:∀b,p b→d b):dW d w xs B :=
 ⟨h.1,fun i r hr=>by obtain ⟨h1,s,n,c,h2,h3,h4,h5⟩:=h.2 i r hr;exact ⟨h1,s,n,c,h2,h3,h4,fun x e hn=>hp _ (h5 x e hn)⟩⟩
theorem dW.same {p:Nat→Prop} {B:List an} (h:dW p w xs B) (hs:w.heap.size≤w'.heap.size) (hb:∀b,p b→b<w.heap.size→w'.heap[b]?=w.heap[b]?):dW p w' xs B :=
 ⟨h.1,fun i r hr=>by
  obtain ⟨h1,s,n,c,h2,h3,h4,h5⟩:=h.2 i r hr
  exact ⟨h1,s,n,c,h2,h3,h4.moved hs (fun x e hn o=>DJ (hb _ (h5 x e hn) (h4.lies x e hn).1)),h5⟩⟩
theorem dW.below {p:Nat→Prop} {B:List an} (h:dW p w xs B) (k:Bl w w'):dW p w' xs B:=h.same k.size (fun b _ hl=>k.block b hl)
theorem dW.low {B:List an} (h:dW (·<w.heap.size) w xs B) (k:Bl w w'):dW (·<w.heap.size) w' xs B:=h.same k.size (fun b hp _=>k.block b hp)
theorem dW.app {p:Nat→Prop} {d:List Value} {B:List an} (h:dW p w xs A) (k:dW p w d B):dW p w (xs++d) (A++B):=by
 have hl:=h.1;have e:=k.1;refine ⟨by rw [CW,CW,hl,e];omega,fun i r hr=>?_⟩;by_cases hi:i<A.length
 · rw [C7 hi] at hr;rw [C7 (by omega),C7 (by omega)];exact h.2 i r hr
 · rw [CU (by omega)] at hr;rw [CU (by omega),CU (by omega),show i*2 - xs.length=(i - A.length)*2 by omega,show i*2+1 - xs.length=(i - A.length)*2+1 by omega];exact k.2 _ r hr
def kF (M:List ac) (S:List Int):an:=(bG M S false,((cV (bG M S false):Nat):Int))
def BJ (q:Int) (i:Nat) (e:ac):ac:=(e.1,q+1+i,e.2.2)
def eZ (q:Int) (K:List ac):List ac:=K.mapIdx (BJ q)
theorem yC {e:ac} (h:K[i]?=some e):eZ q (K.take (i+1))=eZ q (K.take i)++[BJ q i e]:=by
 have hi:=(Cx.1 h).1;unfold eZ;rw [Dl,h];simp only [Option.toList_some];rw [List.mapIdx_concat,C5,Nat.min_eq_left (by omega)]
theorem fk (q:Int) (K:List ac):(eZ q K).length=K.length:=by simp [eZ]
def mK (q:Int) (K:List ac) (i:Nat):Bool:=match K[i]? with
 | none=>true
 | some e=>decide (e.2.1=0) && cT e.1 (q+1+i) e.2.2.1 e.2.2.2.1 e.2.2.2.2
def eS (q:Int) (K:List ac):Bool:=(List.range K.length).all (mK q K)
theorem wI (hl:K.length=n) (h:∀j,j<n→mK q K j=true):eS q K=true:=by
 unfold eS;rw [Dn];intro j d;exact h j (by rw [← hl];exact DG.1 d)
theorem sj (hi:i<K.length) (h:mK q K i=false):eS q K=false:=by
 unfold eS;rw [List.all_eq_false];exact ⟨i,DG.2 hi,by rw [h];simp⟩
theorem Be {e:ac} (h:K[i]?=some e) (h0:¬e.2.1=0):mK q K i=false:=by
 unfold mK;rw [h];simp [h0]
theorem BK {e:ac} (h:K[i]?=some e) (h0:e.2.1=0):mK q K i=cT e.1 (q+1+i) e.2.2.1 e.2.2.2.1 e.2.2.2.2:=by
 unfold mK;rw [h];simp [h0]
theorem wJ (h:eS q K=true) {i:Nat} {e:ac} (d:(eZ q K)[i]?=some e):cT e.1 e.2.1 e.2.2.1 e.2.2.2.1 e.2.2.2.2=true:=by
 have hi:=(Cx.1 d).1;rw [fk] at hi;unfold eS at h;rw [Dn] at h;have h1:=h i (DG.2 hi);have hk:=j' hi;unfold mK at h1;rw [hk] at h1;simp only [Db] at h1;unfold eZ at d;rw [List.getElem?_mapIdx,hk] at d;simp only [Option.map_some,Er] at d;subst d;exact h1.2
def gg (q:Int) (M K:List ac):Bool:=decide (1≤K.length) && (decide (K.length≤12) && (decide (M.length+K.length≤60) && eS q K))
theorem pF (w:World) (s:ByteArray) (Q d:Int) (t:ByteArray) (m:Int):∀j u,[Value.string s,iT Q,iT d,.string t,iT m][j]?=some u→(w.alloc (.cells #[.string s,iT Q,iT d,.string t,iT m] 50)).cell? ((⟨w.heap.size,0,none⟩:Addr).add j)=some u:=by
 intro j u e;rw [De];match j,e with
 | 0,e=>simp at e;subst e;simp
 | 1,e=>simp at e;subst e;simp
 | 2,e=>simp at e;subst e;simp
 | 3,e=>simp at e;subst e;simp
 | 4,e=>simp at e;subst e;simp
theorem bu {w w':World} {base e size n:Nat} {v:Value} {xs:List Value} (h:w.ownsRow base e size v n xs) (hb:Bl w w'):w'.ownsRow base e size v n xs:=h.kept (row:=none) ⟨hb.os,hb.tape,hb.output,hb.size,fun k hk _=>hb.block k hk⟩ (by
 cases v.ownBlock with
 | none=>exact .inl rfl
 | some x=>exact .inr (by simp))
def jp (q:Int) (K:List ac) (n:Nat) (w:World) (e:Ending) (w':World):Prop:=∃v ok,e=.returned (.tuple #[v,.bool ok])∧(eS q K=true→(∃g c',v=sL g n c'∧af w' w.heap.size g n c' (eZ q K))∧ok=(decide (1≤n) && decide (n≤12)))∧(eS q K=false→ok=false∧∃a m c' L,v=.slice a m c'∧ag w' a m c' L)∧Bl w w'
end Go.Proofs.YtpobkmjicbobdaaGreat
