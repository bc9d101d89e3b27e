/- Walks. -/
import Derived.Test.YtpobkmjicbobdaaGreatBc12
namespace Go.Proofs.YtpobkmjicbobdaaGreat
set_option maxRecDepth 100000
set_option maxHeartbeats 40000000
open Go.RowKit
variable {A C:List aj} {K M:List ae} {S:List Int} {b i n:Nat} {q:Int} {u0 u1 u2 u3 u4 u5:Value} {w w':World} {xs:List Value}
theorem AS {B:List aj} (h:¬(0≤q∧q≤100000∧cC S q=true∧M.length≤60∧aJ M=true∧bH A B C=true∧dK q (dl M A B C).flatten=true)):aY q M [A,B,C] S=false:=by
 rw [GU];exact fun h'=>h ((jY q M A B C S).1 h')
theorem gT {B:List aj} (h:bH A B C=true):A.length≤8∧B.length≤8∧C.length≤8∧∀r,r ∈ A∨r ∈ B∨r ∈ C→r.1.length≤150:=by
 unfold bH uU pI at h;simp only [FJ,decide_eq_true_eq,Hq] at h;obtain ⟨⟨a1,a2⟩,⟨b1,b2,_⟩,⟨c1,c2,_⟩⟩:=h;refine ⟨by omega,by omega,by omega,?_⟩;rintro r (hr | hr | hr)
 · exact (bF (mA a2 r hr)).2.1
 · exact (bF (mA b2 r hr)).2.1
 · exact (bF (mA c2 r hr)).2.1
theorem uX {B:List aj} (hM:M.length≤60) (h:bH A B C=true):∀l ∈ dl M A B C,l.length≤150:=by
 have hs:=(gT h).2.2.2;intro l hl;unfold dl at hl;simp only [FF,FI,Gp,Hm] at hl;rcases hl with rfl | ⟨r,hr,rfl⟩ | ⟨r,hr,rfl⟩ | ⟨r,hr,rfl⟩
 · omega
 · exact hs r (.inl hr)
 · exact hs r (.inr (.inl hr))
 · exact hs r (.inr (.inr hr))
theorem B4 (Q:Nat) (q:Int) (T O:Option Addr) (u R Y L:Nat) (a0 a1 a2:Option Addr) (J c0 N c1 n2 c2:Nat) (M:List ae) (A B C:List aj) (S:List Int) (w:World) (hM:ah w T u R M) (hS:b6 Q w O Y L S) (h0:az Q w a0 J c0 A) (h1:az Q w a1 N c1 B) (h2:az Q w a2 n2 c2 C) :
 Calls Tryz.prog 142 #[.agg #[iT q,.slice T u R,.slice a0 J c0,.slice a1 N c1,.slice a2 n2 c2,.slice O Y L]] w fun e w'=>e=.returned (.bool (aY q M [A,B,C] S))∧Bl w w':=by
 have U:Eq (M.length=u):=hM.length;have HM:=bT hM;have HS:=bT hS;have H0:=bT h0;have H1:=bT h1;have H2:=bT h2;have H:Eq (¬(0≤q∧q≤100000∧cC S q=true∧M.length≤60∧aJ M=true∧bH A B C=true∧dK q (dl M A B C).flatten=true)→aY q M [A,B,C] S=false):=AS;have HY:Eq (0≤q→q≤100000→cC S q=true→M.length≤60→aJ M=true→bH A B C=true→dK q (dl M A B C).flatten=true→aY q M [A,B,C] S=true):=fun e1 e2 e3 e4 e5 e6 e7=>(jY q M A B C S).2 ⟨e1,e2,e3,e4,e5,e6,e7⟩
 clear hM hS h0 h1 h2;obtain ⟨Z,hZ⟩:∃Z,aY q M [A,B,C] S=Z:=⟨_,rfl⟩;rw [hZ] at H HY ⊢;clear hZ;obtain ⟨W,x⟩:=aG (w.alloc (.cells #[iT q,.slice T u R,.slice a0 J c0,.slice a1 N c1,.slice a2 n2 c2,.slice O Y L] 82));have kW:Bl w W:=by rw [x];exact bZ
 obtain ⟨X,E⟩:=aG w.heap.size;have x0:W.cell? ⟨X,0,none⟩=some (iT q):=by rw [x,E];simp
 have x1:W.cell? ⟨X,1,none⟩=some (.slice T u R):=by rw [x,E];simp
 have x2:W.cell? ⟨X,2,none⟩=some (.slice a0 J c0):=by rw [x,E];simp
 have x3:W.cell? ⟨X,3,none⟩=some (.slice a1 N c1):=by rw [x,E];simp
 have x4:W.cell? ⟨X,4,none⟩=some (.slice a2 n2 c2):=by rw [x,E];simp
 have x5:W.cell? ⟨X,5,none⟩=some (.slice O Y L):=by rw [x,E];simp
 have zX:=Fu _ _ x0;have y:Eq (Bl w W):=kW;go_enter Tryz.func142,Tryz.ntmps142
 go_upto_region 1 with fail
 rw [← x,← E];clear x E kW;by_cases e1:q<0
 · have m:Eq (Z=false):=H.o (fun h=>by have:=h.1;omega);go_wp2;go_ret;exact ⟨aq m.o.symm,y.o⟩
 by_cases e2:100000<q
 · have m:Eq (Z=false):=H.o (fun h=>by have:=h.2.1;omega);go_wp2;go_ret;exact ⟨aq m.o.symm,y.o⟩
 have an:0≤q:=by omega
 have ad:q≤100000:=by omega
 obtain ⟨bS,g⟩:∃b,b=cC S q:=⟨_,rfl⟩;go_wp2_with fail
 refine (zT Q O Y L S q W (HS.o.keep y.o)).mono ?_;rw [← g];rintro e w1 ⟨rfl,rfl⟩;cases bS with
 | false =>
  have m:Eq (Z=false):=H.o (fun h=>by have:=h.2.2.1;rw [← g] at this;cases this);clear g;go_wp2;go_ret;exact ⟨aq m.o.symm,y.o⟩
 | true =>
 have ai:Eq (cC S q=true):=g.symm;clear g;by_cases e3:(60:Int)<(u:Int)
 · have m:Eq (Z=false):=H.o (fun h=>by have:=h.2.2.2.1;have:=U.o;omega);go_wp2;go_ret;exact ⟨aq m.o.symm,y.o⟩
 have aC:(u:Int)≤60:=by omega
 obtain ⟨bR,t⟩:∃b,b=aJ M:=⟨_,rfl⟩;go_wp2_with fail
 refine (ng T u R M _ (HM.o.keep y.o)).mono ?_;rw [← t];rintro e w2 ⟨rfl,f⟩;have x0:=cell_later f x0;have x1:=cell_later f x1;have x2:=cell_later f x2;have x3:=cell_later f x3;have x4:=cell_later f x4;have x5:=cell_later f x5;have zX:=Fu _ _ x0;have I:Eq (Bl w w2):=y.o.trans (f.mono y.o.size);clear f y;cases bR with
 | false =>
  have m:Eq (Z=false):=H.o (fun h=>by have:=h.2.2.2.2.1;rw [← t] at this;cases this);clear t;go_wp2;go_ret;exact ⟨aq m.o.symm,I.o⟩
 | true =>
 have af:Eq (aJ M=true):=t.symm;clear t;obtain ⟨bL,s⟩:∃b,b=bH A B C:=⟨_,rfl⟩;go_wp2_with fail
 refine (xy Q q T O u R Y L a0 a1 a2 J c0 N c1 n2 c2 A B C w2 (H0.o.keep I.o) (H1.o.keep I.o) (H2.o.keep I.o)).mono ?_;rw [← s];rintro e w3 ⟨rfl,d⟩;have x0:=cell_later d x0;have x1:=cell_later d x1;have x2:=cell_later d x2;have x3:=cell_later d x3;have x4:=cell_later d x4;have x5:=cell_later d x5;have zX:=Fu _ _ x0;have F:Eq (Bl w w3):=I.o.trans (d.mono I.o.size);clear d I;cases bL with
 | false =>
  have m:Eq (Z=false):=H.o (fun h=>by have:=h.2.2.2.2.2.1;rw [← s] at this;cases this);clear s;go_wp2;go_ret;exact ⟨aq m.o.symm,F.o⟩
 | true =>
 have r:Eq (bH A B C=true):=s.symm;clear s;have ag:Eq (∀l ∈ dl M A B C,l.length≤150):=uX (by have:=U.o;omega) r.o;have a9:J≤8:=by have:=H0.o.length;have:=(gT r.o).1;omega
 have aa:N≤8:=by have:=H1.o.length;have:=(gT r.o).2.1;omega
 have a8:n2≤8:=by have:=H2.o.length;have:=(gT r.o).2.2.1;omega
 obtain ⟨bN,D⟩:∃b,b=dK q (dl M A B C).flatten:=⟨_,rfl⟩;have HZ:Eq (Z=bN):=by
  cases bN with
  | false=>exact H.o (fun h=>by have:=h.2.2.2.2.2.2;rw [← D] at this;cases this)
  | true=>exact HY.o an ad ai.o (by have:=U.o;omega) af.o r.o D.symm
 go_wp2_with fail
 refine (callsIn_wide.1 (zV Q q T O u R Y L a0 a1 a2 J c0 N c1 n2 c2 M A B C w3 (HM.o.keep F.o) (H0.o.keep F.o) (H1.o.keep F.o) (H2.o.keep F.o) a9 aa a8 ag.o)).mono ?_;rw [← D];clear D;rintro e w4 ⟨rfl,a3⟩;have K4:Eq (Bl w w4):=F.o.trans (a3.mono F.o.size);clear a3 F;go_wp2;go_ret;exact ⟨aq HZ.o.symm,K4.o⟩
structure dE (w:World) (b:Nat) (u0 u1 u2 u3 u4 u5:Value):Prop where
 c0:w.cell? ⟨b,0,none⟩=some u0
 c1:w.cell? ⟨b,1,none⟩=some u1
 c2:w.cell? ⟨b,2,none⟩=some u2
 c3:w.cell? ⟨b,3,none⟩=some u3
 c4:w.cell? ⟨b,4,none⟩=some u4
 c5:w.cell? ⟨b,5,none⟩=some u5
 fz:∀o,w.frozen? ⟨b,o,none⟩=false
theorem dE.lt (h:dE w b u0 u1 u2 u3 u4 u5):b<w.heap.size:=Fu w _ h.c0
theorem dE.all(h:dE w b u0 u1 u2 u3 u4 u5):w.cell? ⟨b,0,none⟩=some u0∧w.cell? ⟨b,1,none⟩=some u1∧w.cell? ⟨b,2,none⟩=some u2∧w.cell? ⟨b,3,none⟩=some u3∧w.cell? ⟨b,4,none⟩=some u4∧w.cell? ⟨b,5,none⟩=some u5∧(∀o,w.frozen? ⟨b,o,none⟩=false)∧b<w.heap.size:=⟨h.c0,h.c1,h.c2,h.c3,h.c4,h.c5,h.fz,h.lt⟩
theorem dE.new (w:World) (t:TypeId) (u0 u1 u2 u3 u4 u5:Value):dE (w.alloc (.cells #[u0,u1,u2,u3,u4,u5] t)) w.heap.size u0 u1 u2 u3 u4 u5:=⟨by simp,by simp,by simp,by simp,by simp,by simp,fun o=>by simp⟩
theorem dE.below {B:Nat} (h:dE w b u0 u1 u2 u3 u4 u5) (hb:Below B w w') (hB:b<B):dE w' b u0 u1 u2 u3 u4 u5 :=
 ⟨(hb.cell (p:=⟨b,0,none⟩) hB).trans h.c0,(hb.cell (p:=⟨b,1,none⟩) hB).trans h.c1,(hb.cell (p:=⟨b,2,none⟩) hB).trans h.c2,(hb.cell (p:=⟨b,3,none⟩) hB).trans h.c3,(hb.cell (p:=⟨b,4,none⟩) hB).trans h.c4,(hb.cell (p:=⟨b,5,none⟩) hB).trans h.c5,fun o=>(Hb (hb.block b hB)).trans (h.fz o)⟩
theorem dE.keep (h:dE w b u0 u1 u2 u3 u4 u5) (hb:Bl w w'):dE w' b u0 u1 u2 u3 u4 u5:=h.below hb h.lt
theorem dE.alloc (h:dE w b u0 u1 u2 u3 u4 u5) (o:Obj):dE (w.alloc o) b u0 u1 u2 u3 u4 u5:=h.keep bZ
theorem dE.other (h:dE w b u0 u1 u2 u3 u4 u5) {b' o:Nat} (hp:b'≠b) (x:Value):dE (w.setCell ⟨b',o,none⟩ x) b u0 u1 u2 u3 u4 u5 :=
 ⟨(au x (fun e=>hp e.1.symm)).trans h.c0,(au x (fun e=>hp e.1.symm)).trans h.c1,(au x (fun e=>hp e.1.symm)).trans h.c2,(au x (fun e=>hp e.1.symm)).trans h.c3,(au x (fun e=>hp e.1.symm)).trans h.c4,(au x (fun e=>hp e.1.symm)).trans h.c5,fun o=>by rw [FS];exact h.fz o⟩
theorem dE.set0 (h:dE w b u0 u1 u2 u3 u4 u5) (x:Value):dE (w.setCell ⟨b,0,none⟩ x) b x u1 u2 u3 u4 u5 :=
 ⟨FD _ _ _ (by rw [h.c0];rfl),(au x (by simp)).trans h.c1,(au x (by simp)).trans h.c2,(au x (by simp)).trans h.c3,(au x (by simp)).trans h.c4,(au x (by simp)).trans h.c5,fun o=>by rw [FS];exact h.fz o⟩
theorem dE.set1 (h:dE w b u0 u1 u2 u3 u4 u5) (x:Value):dE (w.setCell ⟨b,1,none⟩ x) b u0 x u2 u3 u4 u5 :=
 ⟨(au x (by simp)).trans h.c0,FD _ _ _ (by rw [h.c1];rfl),(au x (by simp)).trans h.c2,(au x (by simp)).trans h.c3,(au x (by simp)).trans h.c4,(au x (by simp)).trans h.c5,fun o=>by rw [FS];exact h.fz o⟩
theorem dE.set2 (h:dE w b u0 u1 u2 u3 u4 u5) (x:Value):dE (w.setCell ⟨b,2,none⟩ x) b u0 u1 x u3 u4 u5 :=
 ⟨(au x (by simp)).trans h.c0,(au x (by simp)).trans h.c1,FD _ _ _ (by rw [h.c2];rfl),(au x (by simp)).trans h.c3,(au x (by simp)).trans h.c4,(au x (by simp)).trans h.c5,fun o=>by rw [FS];exact h.fz o⟩
theorem dE.set3 (h:dE w b u0 u1 u2 u3 u4 u5) (x:Value):dE (w.setCell ⟨b,3,none⟩ x) b u0 u1 u2 x u4 u5 :=
 ⟨(au x (by simp)).trans h.c0,(au x (by simp)).trans h.c1,(au x (by simp)).trans h.c2,FD _ _ _ (by rw [h.c3];rfl),(au x (by simp)).trans h.c4,(au x (by simp)).trans h.c5,fun o=>by rw [FS];exact h.fz o⟩
theorem dE.set4 (h:dE w b u0 u1 u2 u3 u4 u5) (x:Value):dE (w.setCell ⟨b,4,none⟩ x) b u0 u1 u2 u3 x u5 :=
 ⟨(au x (by simp)).trans h.c0,(au x (by simp)).trans h.c1,(au x (by simp)).trans h.c2,(au x (by simp)).trans h.c3,FD _ _ _ (by rw [h.c4];rfl),(au x (by simp)).trans h.c5,fun o=>by rw [FS];exact h.fz o⟩
theorem dE.set5 (h:dE w b u0 u1 u2 u3 u4 u5) (x:Value):dE (w.setCell ⟨b,5,none⟩ x) b u0 u1 u2 u3 u4 x :=
 ⟨(au x (by simp)).trans h.c0,(au x (by simp)).trans h.c1,(au x (by simp)).trans h.c2,(au x (by simp)).trans h.c3,(au x (by simp)).trans h.c4,FD _ _ _ (by rw [h.c5];rfl),fun o=>by rw [FS];exact h.fz o⟩
theorem nd (Y:Nat) (m:Int) (x s:Option Addr) (u t b o L D r:Nat) (M:List ae) (A B C:List aj) (S:List Int) (a0 a1 a2:Option Addr) (H c0 I c1 n2 c2:Nat) (w:World) (hM:ah w x u t M) (hS:b6 Y w s D r S) (h0:az Y w a0 H c0 A) (h1:az Y w a1 I c1 B) (h2:az Y w a2 n2 c2 C)
 (l0:w.cell? ⟨b,o,none⟩=some (.slice a0 H c0)) (l1:w.cell? ⟨b,o+1,none⟩=some (.slice a1 I c1)) (l2:w.cell? ⟨b,o+2,none⟩=some (.slice a2 n2 c2)) :
 Calls Tryz.prog 86 #[.agg #[iT m,.slice x u t,sO b o 3 L,.slice s D r]] w fun e w'=>e=.returned (.tuple #[.agg #[iT m,.slice x u t,.slice a0 H c0,.slice a1 I c1,.slice a2 n2 c2,.slice s D r],.bool (aY m M [A,B,C] S)])∧Bl w w':=by
 have a4:=Fu _ _ l0;simp only at a4;obtain ⟨X,U⟩:=aG w.heap.size;obtain ⟨W,T⟩:=aG (((w.alloc (.cells #[iT m,.slice x u t,sO b o 3 L,.slice s D r] 31)).alloc (.cells #[iT 0,nZ,nZ,nZ,nZ,nZ] 82)).alloc (.cells #[iT m,.slice x u t,nZ,nZ,nZ,.slice s D r] 82));have Z:Bl w W:=by rw [T];exact (bZ.alloc (by simp) _).alloc (by simp;omega) _
 have xa:(w.alloc (.cells #[iT m,.slice x u t,sO b o 3 L,.slice s D r] 31)).cell? ⟨X,2,none⟩=some (sO b o 3 L):=by rw [U];simp
 have x2:W.cell? ⟨X,2,none⟩=some (sO b o 3 L):=by
  rw [T];exact cell_later bZ (cell_later bZ xa)
 have O:dE W (X+1) (iT 0) nZ nZ nZ nZ nZ:=by
  have:=(dE.new (w.alloc (.cells #[iT m,.slice x u t,sO b o 3 L,.slice s D r] 31)) 82 (iT 0) nZ nZ nZ nZ nZ).alloc (.cells #[iT m,.slice x u t,nZ,nZ,nZ,.slice s D r] 82);rw [FP] at this;rw [T,U];exact this
 have F:dE W (X+1+1) (iT m) (.slice x u t) nZ nZ nZ (.slice s D r):=by
  have:=dE.new ((w.alloc (.cells #[iT m,.slice x u t,sO b o 3 L,.slice s D r] 31)).alloc (.cells #[iT 0,nZ,nZ,nZ,nZ,nZ] 82)) 82 (iT m) (.slice x u t) nZ nZ nZ (.slice s D r);rw [FP,FP] at this;rw [T,U];exact this
 have k0:=cell_later Z l0;have k1:=cell_later Z l1;have k2:=cell_later Z l2;have a6:(Builtin.copy_ #[29,29] 3 #[.slice (some ⟨X+1+1,2,none⟩) 3 3,sO b o 3 L]).run Tryz.prog W.drew=.ok (goInt 3) (W.drew.setCells (X+1+1) 2 [.slice a0 H c0,.slice a1 I c1,.slice a2 n2 c2]):=by
  refine run_copy_cells (P:=Tryz.prog) W.drew 29 29 3 61 (X+1+1) 2 3 3 ⟨b,o,none⟩ 3 L [.slice a0 H c0,.slice a1 I c1,.slice a2 n2 c2] Tryz.underlying29 (by kernel_rfl) rfl ?_ ?_ ?_ ?_
  · intro j v J;rw [FO];match j,J with
    | 0,J=>simp at J;subst J;exact k0
    | 1,J=>simp at J;subst J;exact k1
    | 2,J=>simp at J;subst J;exact k2
  · intro j J;match j,J with
    | 0,_=>exact Hf.2 ⟨_,F.c2⟩
    | 1,_=>exact Hf.2 ⟨_,F.c3⟩
    | 2,_=>exact Hf.2 ⟨_,F.c4⟩
  · exact fun j _=>F.fz _
  · intro v hv;simp at hv;rcases hv with rfl | rfl | rfl <;> rfl
 have HM:=bT hM;have HS:=bT hS;have H0:=bT h0;have H1:=bT h1;have H2:=bT h2;have KW:Eq (Bl w W):=Z;have HX:Eq (X=w.heap.size):=U;clear hM hS h0 h1 h2 Z l0 l1 l2 k0 k1 k2 xa;go_enter Tryz.func86,Tryz.ntmps86
 go_upto_region 4 with fail
 rw [← U,← T];clear U T;have zX:X<W.heap.size:=Fu _ _ x2;have zS:=F.lt;go_region_with (fail)
 obtain ⟨N,Q⟩:=aG (W.drew.setCells (X+1+1) 2 [.slice a0 H c0,.slice a1 I c1,.slice a2 n2 c2]);have E:N=((W.drew.setCell ⟨X+1+1,2,none⟩ (.slice a0 H c0)).setCell ⟨X+1+1,3,none⟩ (.slice a1 I c1)).setCell ⟨X+1+1,4,none⟩ (.slice a2 n2 c2):=by rw [Q];rfl
 have g:dE N (X+1+1) (iT m) (.slice x u t) (.slice a0 H c0) (.slice a1 I c1) (.slice a2 n2 c2) (.slice s D r):=by
  have d:dE W.drew (X+1+1) (iT m) (.slice x u t) nZ nZ nZ (.slice s D r):=⟨F.c0,F.c1,F.c2,F.c3,F.c4,F.c5,F.fz⟩;rw [E];exact ((d.set2 _).set3 _).set4 _
 have a3:dE N (X+1) (iT 0) nZ nZ nZ nZ nZ:=by
  have d:dE W.drew (X+1) (iT 0) nZ nZ nZ nZ nZ:=⟨O.c0,O.c1,O.c2,O.c3,O.c4,O.c5,O.fz⟩;rw [E];exact ((d.other (by omega) _).other (by omega) _).other (by omega) _
 have R:Eq (Bl w N):=by
  have hx:w.heap.size≤X+1+1:=by have:=HX.o;omega
  rw [E];exact ((KW.o.drew.setCell (p:=⟨X+1+1,2,none⟩) hx _).setCell (p:=⟨X+1+1,3,none⟩) hx _).setCell (p:=⟨X+1+1,4,none⟩) hx _
 rw [← Q];clear Q E a6 x2 F O zS zX KW a4;have f:Eq (dE N (X+1) (iT 0) nZ nZ nZ nZ nZ):=a3;have y0:=g.c0;have y1:=g.c1;have y2:=g.c2;have y3:=g.c3;have y4:=g.c4;have y5:=g.c5;have zS:=g.lt;have ar:Eq (dE N (X+1+1) (iT m) (.slice x u t) (.slice a0 H c0) (.slice a1 I c1) (.slice a2 n2 c2) (.slice s D r)):=g;clear a3 g;go_upto_region 5 with fail
 go_region_with (go_at_call 142;refine (B4 Y m x s u t D r a0 a1 a2 H c0 I c1 n2 c2 M A B C S _ (HM.o.keep R.o.drew) (HS.o.keep R.o.drew) (H0.o.keep R.o.drew) (H1.o.keep R.o.drew) (H2.o.keep R.o.drew)).mono ?_;rintro e w5 ⟨rfl,a5⟩;have y:Bl N w5:=((Below.refl _ N).drew).trans a5;have an:=cell_later y y0;have aC:=cell_later y y1;have ao:=cell_later y y2;have af:=cell_later y y3;have al:=cell_later y y4;have ax:=cell_later y y5;have ap:=u' zS y.size;have r0:=(f.o.keep y).c0;have r1:=(f.o.keep y).c1;have r2:=(f.o.keep y).c2;have r3:=(f.o.keep y).c3;have r4:=(f.o.keep y).c4;have r5:=(f.o.keep y).c5;have rf:=(f.o.keep y).fz;have rz:=(f.o.keep y).lt)
 all_goals
  go_wp2;refine bodyPost_ret (v:=.tuple #[.agg #[iT m,.slice x u t,.slice a0 H c0,.slice a1 I c1,.slice a2 n2 c2,.slice s D r],.bool (aY m M [A,B,C] S)]) ?_ rfl ⟨rfl,?_⟩
  · have c:=((((((f.o.keep y).set0 (iT m)).set1 (.slice x u t)).set2 (.slice a0 H c0)).set3 (.slice a1 I c1)).set4 (.slice a2 n2 c2)).set5 (.slice s D r);simp [results,Tryz.results86,go_sem,c.all]
  · have hx:w.heap.size≤X+1:=by have:=HX.o;omega
    have K5:=R.o.trans (y.mono R.o.size);exact ((tk K5 hx _ _ _ _).setCell (p:=⟨X+1,4,none⟩) hx _).setCell (p:=⟨X+1,5,none⟩) hx _
theorem oq (s:Int) (m u g:Option Addr) (B x d o y t:Nat) (w:World) (hn:¬d=3) :
 Calls Tryz.prog 86 #[.agg #[iT s,.slice m B x,.slice u d o,.slice g y t]] w fun e w'=>e=.returned (.tuple #[.agg #[iT 0,nZ,nZ,nZ,nZ,nZ],.bool false])∧Bl w w':=by
 have r:¬(d:Int)=3:=by omega
 have F:((d:Int) == 3)=false:=by simpa using r
 obtain ⟨W,f⟩:=aG ((w.alloc (.cells #[iT s,.slice m B x,.slice u d o,.slice g y t] 31)).alloc (.cells #[iT 0,nZ,nZ,nZ,nZ,nZ] 82));have E:Bl w W:=by rw [f];exact bZ.alloc (by simp) _
 have D:dE W (w.heap.size+1) (iT 0) nZ nZ nZ nZ nZ:=by
  have:=dE.new (w.alloc (.cells #[iT s,.slice m B x,.slice u d o,.slice g y t] 31)) 82 (iT 0) nZ nZ nZ nZ nZ;rw [FP] at this;rw [f];exact this
 go_enter Tryz.func86,Tryz.ntmps86
 go_upto_region 2 with fail
 rw [← f];clear f;have H:=D.all;go_wp2;refine bodyPost_ret (v:=.tuple #[.agg #[iT 0,nZ,nZ,nZ,nZ,nZ],.bool false]) ?_ rfl ⟨rfl,?_⟩
 · have c:=(((((D.set0 (iT 0)).set1 nZ).set2 nZ).set3 nZ).set4 nZ).set5 nZ;simp [results,Tryz.results86,go_sem,c.all]
 · have hx:w.heap.size≤w.heap.size+1:=by omega
   exact ((tk E hx _ _ _ _).setCell (p:=⟨w.heap.size+1,4,none⟩) hx _).setCell (p:=⟨w.heap.size+1,5,none⟩) hx _
def fW (q:Int) (M:List ae) (V:List (List aj)) (S:List Int):List ae:=if aY q M V S then bD (eP M V).flatten else []
theorem jE {B:List aj} (h:aY q M [A,B,C] S=true):fS (dl M A B C).flatten:=by
 have h1:=((jY q M A B C S).1 h).2.2.2.2.2.2;refine ((kK q _).1 h1).1.imp ?_;intro x y ho e;have:=ho e.1;omega
theorem ku (B:List aj):(B.reverse.map (·.1)).flatten.Perm (bi B):=by
 unfold bi;rw [List.flatMap_def];exact ((List.reverse_perm B).map _).flatten
theorem ic (M:List ae) (A B C:List aj):(dl M A B C).flatten.Perm (M++(bi A++(bi B++bi C))):=by
 unfold dl;simp only [GA,GT];exact (((ku A).append ((ku B).append (ku C)))).append_left _
theorem parts_flat (M:List ae) (A B C:List aj):(eP M [A,B,C]).flatten.Perm (M++(bi A++(bi B++bi C))):=by
 unfold eP;simp only [List.headD_cons,List.drop_succ_cons,List.drop_zero,Gx,GO,Gd,GA,GT,List.flatten_nil,GR];exact ((ku A).append_right _).append_left _
theorem zp {B:List aj} (h:aY q M [A,B,C] S=true):bD (dl M A B C).flatten=bD (eP M [A,B,C]).flatten :=
 nW (jE h) ((ic M A B C).trans (parts_flat M A B C).symm)
theorem vh (B:List aj):(bi B).length=lV B:=by
 unfold bi lV;rw [List.length_flatMap]
theorem qo {B:List aj} (h:E8 B):∀e ∈ bi B,EE e:=by
 unfold bi;intro e d;obtain ⟨p,hp,d⟩:=He.1 d;exact h p hp e d
theorem tZ (M:List ae) (A B C:List aj):(M++(bi A++(bi B++bi C))).length≤M.length+(De [A,B,C]+[A,B,C].length):=by
 simp only [Fy,vh,De,Gx,GO,List.sum_cons,List.sum_nil];omega
theorem xZ {B:List aj} (hM:∀e ∈ M,EE e) (hV:∀Z ∈ [A,B,C],E8 Z):∀e ∈ M++(bi A++(bi B++bi C)),EE e:=by
 intro e d;rcases FI.1 d with h | h
 · exact hM e h
 rcases FI.1 h with h | h
 · exact qo (hV A (by simp)) e h
 rcases FI.1 h with h | h
 · exact qo (hV B (by simp)) e h
 · exact qo (hV C (by simp)) e h
theorem eS {V:List (List aj)} (h:aY q M V S=true):∃A B C,V=[A,B,C]:=by
 have:=(aZ h).2.2.2.2.2.1;match V,this with
 | [A,B,C],_=>exact ⟨A,B,C,rfl⟩
structure C8 (w:World) (am:Option Addr) (nm cm:Nat) (a0:Option Addr) (n0 c0:Nat) (a1:Option Addr) (n1 c1:Nat) (a2:Option Addr) (n2 c2:Nat) (ak:Option Addr) (nk ck:Nat) (M:List ae) (A B C:List aj) (S:List Int):Prop where
 mem:ah w am nm cm M
 r0:az 0 w a0 n0 c0 A
 r1:az 0 w a1 n1 c1 B
 r2:az 0 w a2 n2 c2 C
 sn:b6 0 w ak nk ck S
theorem C8.keep {e a0 a1 a2 d:Option Addr} {r g f c0 s c1 n2 c2 o m:Nat} {B:List aj} (h:C8 w e r g a0 f c0 a1 s c1 a2 n2 c2 d o m M A B C S) (hb:Bl w w'):C8 w' e r g a0 f c0 a1 s c1 a2 n2 c2 d o m M A B C S:=⟨h.mem.keep hb,h.r0.keep hb,h.r1.keep hb,h.r2.keep hb,h.sn.keep hb⟩
structure E0 (M:List ae) (A B C:List aj) (S:List Int):Prop where
 bm:M.length≤1048576
 bk:S.length≤1048576
 em:xV M
 b0:tV A
 b1:tV B
 b2:tV C
 e0:o8 A
 e1:o8 B
 e2:o8 C
theorem DI:∀c:List ae,c≠[]→mF false c≠[]
 | [],h=>absurd rfl h
 | e :: R,_=>by
  rw [vp (e:=e) false rfl]
  unfold d4
  split
  · simp
  · simp
theorem Ai (d:List (List ae)):(d.foldr (Sq.stepD mF) (false,[])).1=false:=by
 induction d with
 | nil=>rfl
 | cons c d e =>
  rw [List.foldr_cons];show (if _ then _ else false)=false
  split
  · exact e
  · rfl
theorem zM {G:List ae} (hG:G≠[]):eZ S false G≠[]:=by
 unfold eZ Sq.leftD;cases hp:Sq.parts (gV S) G with
 | nil =>
  have h:=Sq.parts_flat (gV S) G;rw [hp] at h;exact absurd h.symm hG
 | cons c d =>
  have hc:c≠[]:=kF (gV S) G c (by rw [hp];simp);rw [List.foldr_cons];show mF _ c++_≠[]
  rw [Ai d];intro h;exact DI c hc (List.append_eq_nil_iff.1 h).1
theorem uj (hr:aJ M=true) (hM:M≠[]) (S:List Int):bU M S false≠[]:=by
 unfold bU;rw [if_pos hr];cases hp:Sq.parts fp M with
 | nil =>
  have h:=Sq.parts_flat fp M;rw [hp] at h;exact absurd h.symm hM
 | cons G d =>
  have hG:G≠[]:=kF fp M G (by rw [hp];simp);rw [Hr];intro h;exact zM hG (List.append_eq_nil_iff.1 h).1
theorem v6 {L:List ae} (h:aJ L=true):bD L=L:=by
 have hb:=bO L;exact (jG (gS h) hb.1 hb.2.symm).symm
def eC (p:Nat→Prop) (w:World) (xs:List Value) (B:List aj):Prop :=
 xs.length=B.length*2∧∀i (r:aj),B[i]?=some r→(Lit.int .i64 r.2).wf=true∧∃s n c,xs[i*2]?=some (.slice s n c)∧xs[i*2+1]?=some (iT r.2)∧ah w s n c r.1∧∀x,s=some x→0<n→p x.block
theorem eC.den {p:Nat→Prop} {B:List aj} (h:eC p w xs B):lT w xs B :=
 ⟨h.1,fun i r hr=>by obtain ⟨h1,s,n,c,h2,h3,h4,_⟩:=h.2 i r hr;exact ⟨h1,s,n,c,h2,h3,h4,fun x e _=>FB _⟩⟩
theorem lT.denP {B:List aj} (h:lT w xs B):eC (·<w.heap.size) w xs B :=
 ⟨h.1,fun i r hr=>by obtain ⟨h1,s,n,c,h2,h3,h4⟩:=h.2 i r hr;exact ⟨h1,s,n,c,h2,h3,h4.1,fun x e hp=>(h4.1.lies x e hp).1⟩⟩
theorem eC.imp {p d:Nat→Prop} {B:List aj} (h:eC p w xs B) (hp:∀b,p b→d b):eC d w xs B :=
 ⟨h.1,fun i r hr=>by obtain ⟨h1,s,n,c,h2,h3,h4,h5⟩:=h.2 i r hr;exact ⟨h1,s,n,c,h2,h3,h4,fun x e hn=>hp _ (h5 x e hn)⟩⟩
theorem eC.same {p:Nat→Prop} {B:List aj} (h:eC p w xs B) (hs:w.heap.size≤w'.heap.size) (hb:∀b,p b→b<w.heap.size→w'.heap[b]?=w.heap[b]?):eC p w' xs B :=
 ⟨h.1,fun i r hr=>by
  obtain ⟨h1,s,n,c,h2,h3,h4,h5⟩:=h.2 i r hr
  exact ⟨h1,s,n,c,h2,h3,h4.moved hs (fun x e hn o=>Gc (hb _ (h5 x e hn) (h4.lies x e hn).1)),h5⟩⟩
theorem eC.below {p:Nat→Prop} {B:List aj} (h:eC p w xs B) (k:Bl w w'):eC p w' xs B:=h.same k.size (fun b _ hl=>k.block b hl)
theorem eC.low {B:List aj} (h:eC (·<w.heap.size) w xs B) (k:Bl w w'):eC (·<w.heap.size) w' xs B:=h.same k.size (fun b hp _=>k.block b hp)
theorem eC.app {p:Nat→Prop} {d:List Value} {B:List aj} (h:eC p w xs A) (k:eC p w d B):eC p w (xs++d) (A++B):=by
 have hl:=h.1;have e:=k.1;refine ⟨by rw [Fy,Fy,hl,e];omega,fun i r hr=>?_⟩;by_cases hi:i<A.length
 · rw [FE hi] at hr;rw [FE (by omega),FE (by omega)];exact h.2 i r hr
 · rw [Fz (by omega)] at hr;rw [Fz (by omega),Fz (by omega),show i*2 - xs.length=(i - A.length)*2 by omega,show i*2+1 - xs.length=(i - A.length)*2+1 by omega];exact k.2 _ r hr
def lK (M:List ae) (S:List Int):aj:=(bU M S false,((du (bU M S false):Nat):Int))
def EL (q:Int) (i:Nat) (e:ae):ae:=(e.1,q+1+i,e.2.2)
def fs (q:Int) (K:List ae):List ae:=K.mapIdx (EL q)
theorem A5 {e:ae} (h:K[i]?=some e):fs q (K.take (i+1))=fs q (K.take i)++[EL q i e]:=by
 have hi:=(E'.1 h).1;unfold fs;rw [FU,h];simp only [Option.toList_some];rw [List.mapIdx_concat,FC,Nat.min_eq_left (by omega)]
theorem fJ (q:Int) (K:List ae):(fs q K).length=K.length:=by simp [fs]
def oD (q:Int) (K:List ae) (i:Nat):Bool:=match K[i]? with
 | none=>true
 | some e=>decide (e.2.1=0) && dm e.1 (q+1+i) e.2.2.1 e.2.2.2.1 e.2.2.2.2
def fk (q:Int) (K:List ae):Bool:=(List.range K.length).all (oD q K)
theorem yX (hl:K.length=n) (h:∀j,j<n→oD q K j=true):fk q K=true:=by
 unfold fk;rw [FZ];intro j d;exact h j (by rw [← hl];exact Gh.1 d)
theorem ui (hi:i<K.length) (h:oD q K i=false):fk q K=false:=by
 unfold fk;rw [List.all_eq_false];exact ⟨i,Gh.2 hi,by rw [h];simp⟩
theorem Eh {e:ae} (h:K[i]?=some e) (h0:¬e.2.1=0):oD q K i=false:=by
 unfold oD;rw [h];simp [h0]
theorem EM {e:ae} (h:K[i]?=some e) (h0:e.2.1=0):oD q K i=dm e.1 (q+1+i) e.2.2.1 e.2.2.2.1 e.2.2.2.2:=by
 unfold oD;rw [h];simp [h0]
theorem yY (h:fk q K=true) {i:Nat} {e:ae} (d:(fs q K)[i]?=some e):dm e.1 e.2.1 e.2.2.1 e.2.2.2.1 e.2.2.2.2=true:=by
 have hi:=(E'.1 d).1;rw [fJ] at hi;unfold fk at h;rw [FZ] at h;have h1:=h i (Gh.2 hi);have hk:=j' hi;unfold oD at h1;rw [hk] at h1;simp only [FJ] at h1;unfold fs at d;rw [List.getElem?_mapIdx,hk] at d;simp only [Option.map_some,G2] at d;subst d;exact h1.2
def gX (q:Int) (M K:List ae):Bool:=decide (1≤K.length) && (decide (K.length≤12) && (decide (M.length+K.length≤60) && fk q K))
theorem ri (w:World) (s:ByteArray) (Q d:Int) (t:ByteArray) (m:Int):∀j u,[Value.string s,iT Q,iT d,.string t,iT m][j]?=some u→(w.alloc (.cells #[.string s,iT Q,iT d,.string t,iT m] 50)).cell? ((⟨w.heap.size,0,none⟩:Addr).add j)=some u:=by
 intro j u e;rw [FO];match j,e with
 | 0,e=>simp at e;subst e;simp
 | 1,e=>simp at e;subst e;simp
 | 2,e=>simp at e;subst e;simp
 | 3,e=>simp at e;subst e;simp
 | 4,e=>simp at e;subst e;simp
theorem bK {w w':World} {base e size n:Nat} {v:Value} {xs:List Value} (h:w.ownsRow base e size v n xs) (hb:Bl w w'):w'.ownsRow base e size v n xs:=h.kept (row:=none) ⟨hb.os,hb.tape,hb.output,hb.size,fun k hk _=>hb.block k hk⟩ (by
 cases v.ownBlock with
 | none=>exact .inl rfl
 | some x=>exact .inr (by simp))
def jW (q:Int) (K:List ae) (n:Nat) (w:World) (e:Ending) (w':World):Prop:=∃v ok,e=.returned (.tuple #[v,.bool ok])∧(fk q K=true→(∃g c',v=sL g n c'∧ag w' w.heap.size g n c' (fs q K))∧ok=(decide (1≤n) && decide (n≤12)))∧(fk q K=false→ok=false∧∃a m c' L,v=.slice a m c'∧ah w' a m c' L)∧Bl w w'
end Go.Proofs.YtpobkmjicbobdaaGreat
