/- Walks. -/
import Derived.Test.YtpobkmjicbobdaaGreatBc24
namespace Go.Proofs.YtpobkmjicbobdaaGreat
set_option maxRecDepth 100000
set_option maxHeartbeats 40000000
open Go.RowKit
variable {D L:List ae} {X cd gd lo n nb:Nat} {q:Int} {u2 u3:Value} {w wr:World}
def E7 (lo:Nat) (q:Int) (a1:Option Addr) (nm c1:Nat) (av:Option Addr) (nv cv:Nat) (ak:Option Addr) (ns cs:Nat) (M K:List ae) (w:World) (e:Ending) (w':World):Prop :=
 (gX q M K=true→∃a n c,e=.returned (.tuple #[.agg #[iT (q+K.length),.slice a n c,.slice av nv cv,.slice ak ns cs],.bool true])∧fm w.heap.size w' a n c ((fs q K).foldl eE M)∧Bl w w'∧cT w' lo a n c ((fs q K).foldl eE M))∧(gX q M K=false→e=.returned (.tuple #[.agg #[iT q,.slice a1 nm c1,.slice av nv cv,.slice ak ns cs],.bool false])∧Bl w w')
theorem vW {K:List ae} {w':World} {e:Ending} (h:jW q K n w e w'):((fk q K=true∧1≤n∧n≤12∧∃g c,e=.returned (.tuple #[sL g n c,.bool true])∧ag w' w.heap.size g n c (fs q K))∨((fk q K=false∨n=0∨12<n)∧∃a m c L,e=.returned (.tuple #[.slice a m c,.bool false])∧ah w' a m c L))∧Bl w w':=by
 obtain ⟨v,d,b,h1,h2,h3⟩:=h;refine ⟨?_,h3⟩;cases hs:fk q K with
 | true =>
  obtain ⟨⟨g,c,rfl,h4⟩,rfl⟩:=h1 hs;by_cases hn:1≤n∧n≤12
  · exact .inl ⟨rfl,hn.1,hn.2,g,c,by rw [b];simp [hn.1,hn.2],h4⟩
  · refine .inr ⟨.inr (by omega),some ⟨g,0,none⟩,n,c,_,?_,h4.entsAt⟩;rw [b,show (decide (1≤n) && decide (n≤12))=false by simp;omega]
 | false =>
  obtain ⟨rfl,a,m,c,L,rfl,hL⟩:=h2 hs;exact .inr ⟨.inl rfl,a,m,c,L,b,hL⟩
theorem Aj (M:List ae) {D:List ae} {i:Nat} {e:ae} (h:D[i]?=some e):(D.take (i+1)).foldl eE M=eE ((D.take i).foldl eE M) e:=by
 rw [FU,h];simp
structure AI (lo:Nat) (w wr:World) (X gd nb cd:Nat) (D:List ae) (q:Int) (a:Option Addr) (n c:Nat) (L:List ae) (u2 u3:Value):Prop where
 low:Bl w wr
 bx:aE wr X (iT q) (.slice a n c) u2 u3
 br:aE wr (X+1) (iT 0) nZ nZ nZ
 mem:cT wr lo a n c L
 dn:ag wr 0 gd nb cd D
 ne:(∀x,a=some x→x.block≠X∧x.block≠X+1)∧gd≠X∧gd≠X+1
 hx:w.heap.size≤X
 hlo:lo≤w.heap.size
theorem AI.below {b:World} {a:Option Addr} {c:Nat} (h:AI lo w wr X gd nb cd D q a n c L u2 u3) (hb:Bl wr b):AI lo w b X gd nb cd D q a n c L u2 u3 :=
 ⟨h.low.trans (hb.mono h.low.size),h.bx.keep hb,h.br.keep hb,h.mem.below hb,h.dn.below hb,h.ne,h.hx,h.hlo⟩
theorem AI.held {a:Option Addr} {c:Nat} {i:Nat} {s t:ByteArray} {b d m:Int} (h:AI lo w wr X gd nb cd D q a n c L u2 u3) (hg:D[i]?=some (s,b,d,t,m)):wr.cell? ⟨gd,i*5,none⟩=some (.string s)∧wr.cell? ⟨gd,i*5+1,none⟩=some (iT b)∧wr.cell? ⟨gd,i*5+2,none⟩=some (iT d)∧wr.cell? ⟨gd,i*5+3,none⟩=some (.string t)∧wr.cell? ⟨gd,i*5+4,none⟩=some (iT m)∧gd<wr.heap.size∧X<wr.heap.size:=by
 obtain ⟨c0,c1,c2,c3,c4⟩:=h.dn.at5 hg;exact ⟨c0,c1,c2,c3,c4,h.dn.lt.2,h.bx.lt⟩
theorem AI.put {a:Option Addr} {c:Nat} {base g2 n2 c2:Nat} {b:List ae} (h:AI lo w wr X gd nb cd D q a n c L u2 u3) (hO:ag wr base g2 n2 c2 b) (hb:X+1<base):AI lo w (wr.setCell ⟨X,1,none⟩ (sL g2 n2 c2)) X gd nb cd D q (pT g2) n2 c2 b u2 u3:=by
 have hl:=hO.lt.1;exact ⟨h.low.setCell (p:=⟨X,1,none⟩) h.hx _,h.bx.set1 _,h.br.other (by omega) _,(cT.set (p:=⟨X,1,none⟩) (.some (hO.mono (by have:=h.hx;have:=h.hlo;omega))) (fun x e=>by cases e;show X≠g2;omega) _),h.dn.setCell (p:=⟨X,1,none⟩) (fun e=>h.ne.2.1 e.symm) _,⟨fun x e=>by cases e;exact ⟨by show g2≠_;omega,by show g2≠_;omega⟩,h.ne.2⟩,h.hx,h.hlo⟩
theorem vZ {aK:Nat} (lo:Nat) (q:Int) (a1:Option Addr) (b c1:Nat) (r:Option Addr) (u f:Nat) (g:Option Addr) (y cs:Nat) (M:List ae) (V:List (List aj)) (S:List Int) (ab:Option Addr) (nb cb:Nat) (K:List ae) (w:World) (hT:cj aK w a1 b c1 r u f g y cs M V S) (b1:lo≤w.heap.size) (hO:cT w lo a1 b c1 M) (hK:ah w ab nb cb K) (aY:nb≤1048576) (bb:b≤60) (aI:0≤q) (aJ:q≤100000) :
 Calls Tryz.prog 98 #[.agg #[iT q,.slice a1 b c1,.slice r u f,.slice g y cs],.slice ab nb cb] w (E7 lo q a1 b c1 r u f g y cs M K w):=by
 obtain ⟨X,hX⟩:=aG w.heap.size;obtain ⟨W,hW⟩:=aG ((w.alloc (.cells #[iT q,.slice a1 b c1,.slice r u f,.slice g y cs] 31)).alloc (.cells #[iT 0,nZ,nZ,nZ] 31));have kW:Bl w W:=by rw [hW];exact bZ.alloc (by simp) _
 have bx:aE W X (iT q) (.slice a1 b c1) (.slice r u f) (.slice g y cs):=by rw [hW,hX];exact (aE.new _ _ _ _ _ _).alloc _
 have br:aE W (X+1) (iT 0) nZ nZ nZ:=by
  have:=aE.new (w.alloc (.cells #[iT q,.slice a1 b c1,.slice r u f,.slice g y cs] 31)) 31 (iT 0) nZ nZ nZ;rw [FP] at this;rw [hW,hX];exact this
 have HX:Eq (X=w.heap.size):=hX;have aX:Eq (W.heap.size=X+1+1):=by show _=_;rw [hW,hX];simp
 have K0:Eq (Bl w W):=kW;have HT:=bT hT;have C:Eq (K.length=nb):=hK.length;have am:Eq (M.length=b):=hO.len;have Z:=bT hO;have CT:Eq (Calls Tryz.prog 158 #[.slice ab nb cb,iT q] W (jW q K nb W)):=za ab nb cb K q W (hK.keep kW) aY aI aJ;clear kW hT hK hO;have e1:IntKind.i64.wrap ((b:Int)+(nb:Int))=(b:Int)+(nb:Int):=by rw [FQ];unfold wrap64;omega
 have e2:IntKind.i64.wrap (q+(nb:Int))=q+(nb:Int):=by rw [FQ];unfold wrap64;omega
 go_enter Tryz.func98,Tryz.ntmps98
 go_upto_region 1 with fail
 rw [← hX,← hW];clear hX hW;have x0:=bx.all;go_wp2_with fail
 clear x0;refine CT.o.mono ?_;rintro e w1 E;obtain ⟨E,H⟩:=vW E;have K1:Eq (Bl w w1):=K0.o.trans (H.mono K0.o.size);have al:Eq (Bl W w1):=H;have B:=bx.keep H;have A:=br.keep H;clear H bx br CT;rcases E with ⟨a6,bf,b9,gd,cd,rfl,hD⟩ | ⟨aD,ad,md,cd,_,rfl,_⟩
 rotate_left
 · have U:Eq (gX q M K=false):=by
    show _=_
    have:=C.o;unfold gX;rcases aD with h | h | h
    · rw [h];simp
    · simp [show ¬1≤K.length by omega]
    · simp [show ¬K.length≤12 by omega]
   have HR:Eq (aE w1 (X+1) (iT 0) nZ nZ nZ):=A;have x0:=B.all;have r0:=A.all;clear B A;go_wp2;refine bodyPost_ret (v:=.tuple #[.agg #[iT q,.slice a1 b c1,.slice r u f,.slice g y cs],.bool false]) ?_ rfl (show E7 lo q a1 b c1 r u f g y cs M K w _ _ from ⟨(fun h=>by rw [U.o] at h;cases h),fun _=>⟨rfl,?_⟩⟩)
   · have e:=((((HR.o.set0 (iT q)).set1 (.slice a1 b c1)).set2 (.slice r u f)).set3 (.slice g y cs));simp [results,Tryz.results98,go_sem,e.all]
   · have hx:w.heap.size≤X+1:=by have:=HX.o;omega
     exact (tk K1.o hx _ _ _ _)
 have HD:Eq (ag w1 W.heap.size gd nb cd (fs q K)):=hD;have ax:Eq (fk q K=true):=a6;clear hD a6;by_cases bi:60<b+nb
 · have au:(b:Int)+(nb:Int) > 60:=by omega
   have aa:(60:Int)<(b:Int)+(nb:Int):=by omega
   have U:Eq (gX q M K=false):=by show _=_;have:=C.o;have:=am.o;unfold gX;simp [show ¬M.length+K.length≤60 by omega]
   have HR:Eq (aE w1 (X+1) (iT 0) nZ nZ nZ):=A;have x0:=B.all;have r0:=A.all;clear B A;go_wp2;refine bodyPost_ret (v:=.tuple #[.agg #[iT q,.slice a1 b c1,.slice r u f,.slice g y cs],.bool false]) ?_ rfl (show E7 lo q a1 b c1 r u f g y cs M K w _ _ from ⟨(fun h=>by rw [U.o] at h;cases h),fun _=>⟨rfl,?_⟩⟩)
   · have e:=((((HR.o.set0 (iT q)).set1 (.slice a1 b c1)).set2 (.slice r u f)).set3 (.slice g y cs));simp [results,Tryz.results98,go_sem,e.all]
   · have hx:w.heap.size≤X+1:=by have:=HX.o;omega
     exact (tk K1.o hx _ _ _ _)
 have au:¬(b:Int)+(nb:Int) > 60:=by omega
 have aa:¬(60:Int)<(b:Int)+(nb:Int):=by omega
 have a9:Eq (gX q M K=true):=by
  show _=_
  have h1:=C.o;have h2:=am.o;have h3:=ax.o;unfold gX;rw [h3];simp;omega
 have ST:Eq (AI lo w w1 X gd nb cd (fs q K) (q) a1 (b) c1 (M) (.slice r u f) (.slice g y cs)):=by
  have hd:=HD.o.lt.1;have hx:=HX.o;have hs:=aX.o;exact ⟨K1.o,B,A,(Z.o.below K0.o).below al.o,HD.o.mono (FB _),⟨fun x e=>by have hl:=(Z.o.lt x e).2;exact ⟨by omega,by omega⟩,by omega,by omega⟩,by omega,b1⟩
 have x0:=B.all;clear B A;go_wp2_with fail
 clear x0;go_loopw [8] (fun iv wr=>∃(i:Nat) (a:Option Addr) (c:Nat),i≤nb∧iv=iT i∧(0<i→∀x,a=some x→w.heap.size≤x.block)∧AI lo w wr X gd nb cd (fs q K) (q) a (b+i) c (((fs q K).take i).foldl eE M) (.slice r u f) (.slice g y cs)) (fun iv _=>nb - (intOf iv).toNat)
 case atStart=>exact ⟨0,a1,c1,FB _,rfl,fun h=>absurd h (H7 0),ST.o⟩
 case round =>
  clear ST HD K1 al Z ax;obtain ⟨i,a,c,bc,rfl,aW,E⟩:=hrel;have aR:=bT aW;have N:Eq (AI lo w wr X gd nb cd (fs q K) (q) a (b+i) c (((fs q K).take i).foldl eE M) (.slice r u f) (.slice g y cs)):=E;clear E;by_cases aO:i<nb
  · have ap:(i:Int)<(nb:Int):=by omega
    obtain ⟨⟨s,q0,d,t,m⟩,hg⟩:∃e,(fs q K)[i]?=some e:=⟨_,j' (by rw [fJ,C.o];exact aO)⟩;have HG:Eq ((fs q K)[i]?=some (s,q0,d,t,m)):=hg;have aL:Eq (dR (s,q0,d,t,m)):=N.o.dn.entsAt.ents _ (Fw hg);obtain ⟨LL,a0⟩:=aG (((fs q K).take i).foldl eE M);have aZ:Eq (LL=((fs q K).take i).foldl eE M):=a0;have J:AI lo w wr.drew X gd nb cd (fs q K) (q) a (b+i) c (LL) (.slice r u f) (.slice g y cs):=by rw [a0];exact N.o.below (Below.refl _ wr).drew
    clear hg a0 N;go_upto_region 7 with fail
    refine wp_region_held_drew (S:=(fun w'=>w'.cell? ⟨gd,i*5,none⟩=some (.string s)∧w'.cell? ⟨gd,i*5+1,none⟩=some (iT q0)∧w'.cell? ⟨gd,i*5+2,none⟩=some (iT d)∧w'.cell? ⟨gd,i*5+3,none⟩=some (.string t)∧w'.cell? ⟨gd,i*5+4,none⟩=some (iT m)∧gd<w'.heap.size∧X<w'.heap.size)) (by kernel_rfl) (J.held HG.o) (fun O=>?_);generalize wr.drew=wd at J O ⊢;refine aP 0 1 O ?_;refine aP 2 4 O ?_;refine aQ 1 fun K hK=>?_
    have q1:=J.bx.c1;have qz:=J.bx.lt;go_simp;clear q1 qz;refine hK.o _ _ (J.held HG.o) (fun O=>?_);clear hK K;(try go_frame);refine aQ 6 fun K hK=>?_
    go_simp;refine (A7 a (b+i) c LL s t q0 d m _ J.mem (by omega) aL.o).mono ?_;rintro e w2 ⟨g2,c2,rfl,Q,aw⟩;have k2:=J.below aw;go_wp2_with fail
    refine hK.o _ _ (k2.held HG.o) (fun O=>?_);clear hK K;(try go_frame);refine aP 7 1 O ?_;refine aQ 8 fun K hK=>?_
    have q1:=k2.bx.c1;have qf:=k2.bx.fz;have qz:=k2.bx.lt;go_simp;have b2:Eq (w.heap.size≤g2):=by have h1:=Q.lt.1;have h2:=J.bx.lt;have h3:=HX.o;show _≤_;omega
    have ks:=k2.put (g2:=g2) (n2:=b+i+1) (c2:=c2) Q J.br.lt;clear q1 qf qz;refine hK.o _ _ (ks.held HG.o) (fun O=>?_);clear hK K;(try go_frame);refine dN ?_;generalize w2.setCell ⟨X,1,none⟩ (sL g2 (b+i+1) c2)=w9 at ks ⊢;have KS:Eq (AI lo w w9 X gd nb cd (fs q K) (q) (pT g2) (b+i+1) c2 (eE LL (s,q0,d,t,m)) (.slice r u f) (.slice g y cs)):=ks;clear ks k2 J Q aw O;go_wp2;go_roundw
    case rel =>
     refine ⟨i+1,some ⟨g2,0,none⟩,c2,by omega,by go_num,fun _ x e=>by cases e;exact b2.o,?_⟩;have h:=KS.o;rw [aZ.o,← Aj M HG.o] at h;exact h
    case measure=>simp [intOf];omega
  · have ap:¬(i:Int)<(nb:Int):=by omega
    obtain rfl:i=nb:=by omega
    have I:(fs q K).take i=fs q K:=FH (by rw [fJ,C.o];omega);have HF:Eq (cT wr lo a (b+i) c ((fs q K).foldl eE M)):=by have h:=N.o.mem;rw [I] at h;exact h
    have T:=N.o.bx;have aq:=N.o.br;have HB:Eq (Bl w wr):=N.o.low;have Y:Eq (∀x,a=some x→x.block≠X∧x.block≠X+1):=N.o.ne.1;clear N I;have x0:=T.all;obtain ⟨w3,F⟩:=aG (wr.setCell ⟨X,0,none⟩ (iT (q+(i:Int))));have aS:=HX.o;have an:aE w3 X (iT (q+(i:Int))) (.slice a (b+i) c) (.slice r u f) (.slice g y cs):=by rw [F];exact T.set0 _
    have R:aE w3 (X+1) (iT 0) nZ nZ nZ:=by rw [F];exact aq.other (by omega) _
    have ai:Eq (cT w3 lo a (b+i) c ((fs q K).foldl eE M)):=by rw [F];exact HF.o.set (p:=⟨X,0,none⟩) (fun x e h=>(Y.o x e).1 h.symm) _
    have aU:Eq (Bl w w3):=by rw [F];exact HB.o.setCell (p:=⟨X,0,none⟩) (by show _≤X;omega) _
    clear aS;go_upto_region 9 with fail
    rw [← F];clear F x0 T aq HF HB;have x0:=an.all;have r0:=R.all;have HR:Eq (aE w3 (X+1) (iT 0) nZ nZ nZ):=R;clear an R;go_wp2;have aN:=C.o;have hx:w.heap.size≤X+1:=by have:=HX.o;omega
    refine bodyPost_ret (v:=.tuple #[.agg #[iT (q+(i:Int)),.slice a (b+i) c,.slice r u f,.slice g y cs],.bool true]) ?_ rfl (show E7 lo q a1 b c1 r u f g y cs M K w _ _ from ⟨fun _=>⟨_,_,_,by rw [aN],?_,(tk aU.o hx _ _ _ _),?_⟩,fun h=>by rw [a9.o] at h;cases h⟩)
    · have e:=((((HR.o.set0 (iT (q+(i:Int)))).set1 (.slice a (b+i) c)).set2 (.slice r u f)).set3 (.slice g y cs));simp [results,Tryz.results98,go_sem,e.all]
    · have hn:∀o x,a=some x→(⟨X+1,o,none⟩:Addr).block≠x.block:=fun _ x e h=>(Y.o x e).2 h.symm
      have ar:0<i:=by omega
      exact ⟨(cT.inl ((((ai.o.set (hn 0) _).set (hn 1) _).set (hn 2) _).set (hn 3) _)).1,fun x e _=>aR.o ar x e⟩
    · have hn:∀o x,a=some x→(⟨X+1,o,none⟩:Addr).block≠x.block:=fun _ x e h=>(Y.o x e).2 h.symm
      exact (((ai.o.set (hn 0) _).set (hn 1) _).set (hn 2) _).set (hn 3) _
theorem cu (R P:Nat) (a:Option Addr) (len r:Nat) (n:Int) (w:World) (h:bj w R a len r P) (I:P<100000) (hn:n≤1000000) :
 Calls Tryz.prog 75 #[.pointer (pT R),iT n] w fun e w'=>∃q:Int,e=.returned (iT q)∧D9 n q∧bj w' R a len r (P+1)∧w.grownBy w' (some R):=by
 have c0:=h.c0;have c1:=h.c1;have f1:=h.f1;have few:=h.few;have H:=bT h;clear h;by_cases h1:n<1
 · go_enter Tryz.func75,Tryz.ntmps75
   go_wp2;go_ret;exact ⟨0,rfl,⟨by omega,fun h=>by omega⟩,H.o.next,jp w R _⟩
 by_cases h2:len=0
 · subst h2;go_enter Tryz.func75,Tryz.ntmps75
   go_wp2;go_ret;exact ⟨0,rfl,⟨by omega,fun h=>by omega⟩,H.o.next,jp w R _⟩
 obtain ⟨b,d,rfl,f,N,hbytes⟩:∃b d,a=some ⟨b,d,none⟩∧b≠R∧b<w.heap.size∧∀i,i<len→∃z:Nat,z≤255∧w.cell? ⟨b,d+i,none⟩=some (.int .u8 z):=by
  rcases H.o.bytes with h0 | h0
  · exact absurd h0 h2
  · exact h0
 have A:Eq (∀i,i<len→∃z:Nat,z≤255∧w.cell? ⟨b,d+i,none⟩=some (.int .u8 z)):=hbytes;clear hbytes;have J:((len:Int) == 0)=false:=by simpa using h2
 by_cases h3:P<len
 · obtain ⟨z,hz,g⟩:=A.o P h3;have s:(w.setCell ⟨R,1,none⟩ (iT ((P:Int)+1))).cell? ⟨b,d+P,none⟩=some (.int .u8 z):=by rw [Ft _ _ _ _ (fun e=>f (congrArg Addr.block e).symm)];exact g
   go_enter Tryz.func75,Tryz.ntmps75
   go_wp2;go_ret;exact ⟨_,rfl,⟨Int.emod_nonneg _ (by omega),fun _=>Int.emod_lt_of_pos _ (by omega)⟩,H.o.next,jp w R _⟩
 · have x:P % len<len:=Nat.mod_lt _ (by omega);have u:(P*7+3) % len<len:=Nat.mod_lt _ (by omega);obtain ⟨z,hz,g⟩:=A.o (P % len) x;obtain ⟨y,hy,t⟩:=A.o ((P*7+3) % len) u;have s:(w.setCell ⟨R,1,none⟩ (iT ((P:Int)+1))).cell? ⟨b,d+P % len,none⟩=some (.int .u8 z):=by rw [Ft _ _ _ _ (fun e=>f (congrArg Addr.block e).symm)];exact g
   have B:(w.setCell ⟨R,1,none⟩ (iT ((P:Int)+1))).cell? ⟨b,d+(P*7+3) % len,none⟩=some (.int .u8 y):=by rw [Ft _ _ _ _ (fun e=>f (congrArg Addr.block e).symm)];exact t
   have m:(0:Int)<(len:Int):=by omega
   have K:(0:Int)≤(P:Int) % (len:Int):=Int.emod_nonneg _ (by omega);have E:(P:Int) % (len:Int)<(len:Int):=Int.emod_lt_of_pos _ m;have F:(0:Int)≤((P:Int)*7+3) % (len:Int):=Int.emod_nonneg _ (by omega);have C:((P:Int)*7+3) % (len:Int)<(len:Int):=Int.emod_lt_of_pos _ m;go_enter Tryz.func75,Tryz.ntmps75
   go_wp2_with fail
   go_quiet (fail)
   go_wp2;go_ret;exact ⟨_,rfl,Bz z y P len n hz hy I (by omega),bj.below H.o.next (below_drewN (Below.refl _ _) _),af (jp w R _) (aT (below_drewN (Below.refl _ _) _))⟩
theorem dV (Q:Int→Prop) (R P:Nat) (a:Option Addr) (len f:Nat) (b d m c:Nat) (w:World) (h:bj w R a len f P) (C:P<100000) (A:1≤m) (y:m≤100) (r:b≠R) (t:b<w.heap.size)
 (hc:∀i,i<m→∃z:Int,w.cell? ⟨b,d+i,none⟩=some (iT z)∧Q z) :
 Calls Tryz.prog 106 #[.pointer (pT R),sO b d m c] w fun e w'=>∃z:Int,e=.returned (iT z)∧Q z∧bj w' R a len f (P+1)∧w.grownBy w' (some R):=by
 have E:=bT hc;clear hc;go_enter Tryz.func106,Tryz.ntmps106
 go_wp2_with fail
 refine (cu R P a len f _ _ h C (by omega)).mono ?_;rintro e B ⟨q,rfl,hq,s,g⟩;obtain ⟨k,rfl⟩:=Gq hq.1;have hk:k<m:=by have:=hq.2 (by omega);omega
 obtain ⟨z,hz,hQ⟩:=E.o k hk;have u:B.cell? ⟨b,d+k,none⟩=some (iT z):=(an g (x:=⟨b,d+k,none⟩) t r).trans hz;clear hz hq;go_wp2;go_ret;exact ⟨z,rfl,hQ,s,g⟩
theorem tr (Q:ByteArray→Prop) (R P:Nat) (a:Option Addr) (len f:Nat) (b d m c:Nat) (w:World) (h:bj w R a len f P) (C:P<100000) (A:1≤m) (y:m≤100) (r:b≠R) (t:b<w.heap.size)
 (hc:∀i,i<m→∃z:ByteArray,w.cell? ⟨b,d+i,none⟩=some (.string z)∧Q z) :
 Calls Tryz.prog 164 #[.pointer (pT R),sO b d m c] w fun e w'=>∃z:ByteArray,e=.returned (.string z)∧Q z∧bj w' R a len f (P+1)∧w.grownBy w' (some R):=by
 have E:=bT hc;clear hc;go_enter Tryz.func164,Tryz.ntmps164
 go_wp2_with fail
 refine (cu R P a len f _ _ h C (by omega)).mono ?_;rintro e B ⟨q,rfl,hq,s,g⟩;obtain ⟨k,rfl⟩:=Gq hq.1;have hk:k<m:=by have:=hq.2 (by omega);omega
 obtain ⟨z,hz,hQ⟩:=E.o k hk;have u:B.cell? ⟨b,d+k,none⟩=some (.string z):=(an g (x:=⟨b,d+k,none⟩) t r).trans hz;clear hz hq;go_wp2;go_ret;exact ⟨z,rfl,hQ,s,g⟩
theorem lZ (w:World) (t:TypeId) (l:List ByteArray) (Q:ByteArray→Prop) (hQ:∀s ∈ l,Q s):∀i,i<l.length→∃z:ByteArray,(w.alloc (.cells (l.map Value.string).toArray t)).cell? ⟨w.heap.size,0+i,none⟩=some (.string z)∧Q z:=by
 intro i hi;refine ⟨l[i],?_,hQ _ (F8 hi)⟩;rw [FG,World.cell?_alloc_new];simp [hi]
theorem dH (w:World) (t:TypeId) (l:List Int) (Q:Int→Prop) (hQ:∀s ∈ l,Q s):∀i,i<l.length→∃z:Int,(w.alloc (.cells (l.map iT).toArray t)).cell? ⟨w.heap.size,0+i,none⟩=some (iT z)∧Q z:=by
 intro i hi;refine ⟨l[i],?_,hQ _ (F8 hi)⟩;rw [FG,World.cell?_alloc_new];simp [hi]
theorem Bs (w:World) (a:Option Addr) (len e:Nat) (t:TypeId) (few:len≤2000) (hb:len=0∨∃b d,a=some ⟨b,d,none⟩∧b<w.heap.size∧∀i,i<len→∃z:Nat,z≤255∧w.cell? ⟨b,d+i,none⟩=some (.int .u8 z)) :
 bj (w.alloc (.cells #[.slice a len e,iT 0] t)) w.heap.size a len e 0:=by
 refine ⟨by simp,by simp,by simp,few,fun o=>by simp,?_⟩;rcases hb with h0 | ⟨b,d,ha,g,hc⟩
 · exact Or.inl h0
 · refine Or.inr ⟨b,d,ha,by omega,by simp;omega,fun i hi=>?_⟩;obtain ⟨z,hz,f⟩:=hc i hi;exact ⟨z,hz,cell_later bZ f⟩
theorem xh (a:Option Addr) (len f:Nat) (w:World) (hl:len≤f) (g:f≤maxLen) (hb:len=0∨∃b d,a=some ⟨b,d,none⟩∧b<w.heap.size∧∀i,i<len→∃z:Nat,z≤255∧w.cell? ⟨b,d+i,none⟩=some (.int .u8 z)) :
 Calls Tryz.prog 73 #[.slice a len f] w fun e w'=>∃m,e=.returned (.pointer (some ⟨w.heap.size,0,none⟩))∧bj w' w.heap.size a m f 0∧Bl w w'∧w'.heap.size=w.heap.size+1:=by
 unfold maxLen at g;have t:=bT hb;clear hb;by_cases h2:2000<len
 · obtain ⟨b,d,rfl,r,hby⟩:∃b d,a=some ⟨b,d,none⟩∧b<w.heap.size∧∀i,i<len→∃z:Nat,z≤255∧w.cell? ⟨b,d+i,none⟩=some (.int .u8 z):=by
    rcases t.o with h0 | h0
    · omega
    · exact h0
   have s:Eq (∀i,i<len→∃z:Nat,z≤255∧w.cell? ⟨b,d+i,none⟩=some (.int .u8 z)):=hby
   clear hby
   have u:(2000:Int)≤(f:Int):=by omega
   go_enter Tryz.func73,Tryz.ntmps73
   go_wp2;go_ret;exact ⟨2000,rfl,Bs w _ 2000 f _ (by omega) (Or.inr ⟨b,d,rfl,r,fun i hi=>s.o i (by omega)⟩),bZ,by simp⟩
 · go_enter Tryz.func73,Tryz.ntmps73
   go_wp2;go_ret;exact ⟨len,rfl,Bs w _ len f _ (by omega) t.o,bZ,by simp⟩
theorem bj.far {R:Nat} {a:Option Addr} {len e P:Nat} (h:bj w R a len e P) {X:Nat} (o:w.heap.size≤X):∀b d,a=some ⟨b,d,none⟩→0<len→b≠X:=by
 intro b d ha hl;rcases h.bytes with h0 | ⟨b',g,f,_,m,_⟩
 · omega
 · rw [f] at ha;cases ha;omega
theorem aF (w:World) (R o:Nat) (v:Value):w.grownBy (w.setCell ⟨R,o,none⟩ v) (some R) :=
 ⟨rfl,rfl,rfl,by simp [World.setCell],fun k _ hk=>Below.heap_setCell _ _ _ _ (fun e=>hk (by rw [e]))⟩
theorem aI {a b c:World} {R:Option Nat} (h:a.grownBy b R) (d:a.heap.size≤X) (k:b.grownBy c (some X)):a.grownBy c R :=
 ⟨k.os.trans h.os,k.tape.trans h.tape,k.output.trans h.output,FK h.size k.size,fun i hi hn=>(k.block i (u' hi h.size) (fun e=>by cases e;omega)).trans (h.block i hi hn)⟩
def mH (s:ByteArray):Prop:=s.size≤100∧¬s.data.toList=[109,47,109]∧¬s.data.toList=[110,111,110,101]
def jC (k t:ByteArray) (q d n:Int):Prop:=mH k∧mH t∧(Lit.int .i64 q).wf=true∧(Lit.int .i64 d).wf=true∧(Lit.int .i64 n).wf=true
def E5 (R:Nat) (a:Option Addr) (len cap P:Nat) (w:World) (e:Ending) (w':World):Prop :=
 ∃k t q d n P',e=.returned (.agg #[.string k,iT q,iT d,.string t,iT n])∧jC k t q d n∧bj w' R a len cap P'∧P'≤P+5∧w.grownBy w' (some R)
theorem sa (R P:Nat) (a:Option Addr) (len b:Nat) (w:World) (h:bj w R a len b P) (m:P<100000) :
 Calls Tryz.prog 105 #[.pointer (pT R)] w fun e w'=>∃z:ByteArray,e=.returned (.string z)∧mH z∧bj w' R a len b (P+1)∧w.grownBy w' (some R):=by
 go_enter Tryz.func105,Tryz.ntmps105
 go_wp2_with fail
 have d:Bl w (w.alloc (.cells (([⟨#[97]⟩,⟨#[98]⟩,⟨#[97,98]⟩,⟨#[98,47,97,47,49]⟩,⟨#[98,47,97,98,47,49]⟩,⟨#[99]⟩]:List ByteArray).map Value.string).toArray 9)):=bZ;refine (tr mH R P a len b w.heap.size 0 6 6 _ (h.below d) m (by omega) (by omega) (by have:=h.lt;omega) (by simp) (lZ w 9 [⟨#[97]⟩,⟨#[98]⟩,⟨#[97,98]⟩,⟨#[98,47,97,47,49]⟩,⟨#[98,47,97,98,47,49]⟩,⟨#[99]⟩] mH ?_)).mono ?_
 · intro s hs;simp only [FF,F4,or_false] at hs;rcases hs with rfl | rfl | rfl | rfl | rfl | rfl <;> (unfold mH;decide)
 rintro e o ⟨z,rfl,hz,g,f⟩;go_wp2;go_ret;exact ⟨z,rfl,hz,g,af (aT d) f⟩
def Kd (d:Int):Prop:=d=1∨d=2∨d=3
def Wf (n:Int):Prop:=(Lit.int .i64 n).wf=true
theorem iA (R P:Nat) (a:Option Addr) (len y:Nat) (q:Int) (w:World) (h:bj w R a len y P) (hP:P<99000) (hq:(Lit.int .i64 q).wf=true) :
 Calls Tryz.prog 137 #[.pointer (pT R),iT q] w fun e w'=>E5 R a len y P w e w':=by
 have aX:=h.lt;obtain ⟨X,hX⟩:=aG w.heap.size;have m:Eq (∀b aj,a=some ⟨b,aj,none⟩→0<len→b≠X):=h.far (by omega);have g:X≠R:=by omega
 have HQ:=bT hq;have az:=bT h;clear h hq;go_enter Tryz.func137,Tryz.ntmps137
 go_wp2_with fail
 obtain ⟨W0,a6⟩:∃W,W=w.alloc (.cells #[.string ⟨#[]⟩,iT 0,iT 0,.string ⟨#[]⟩,iT 0] 50):=⟨_,rfl⟩;have k0:Bl w W0:=by rw [a6];exact bZ
 have B0:cq W0 X (.string ⟨#[]⟩) (iT 0) (iT 0) (.string ⟨#[]⟩) (iT 0):=by rw [a6,hX];exact cq.new _ _ _ _ _ _ _
 have aN:X<W0.heap.size:=B0.lt;rw [← a6,← hX];have am:Eq (w.grownBy W0 (some R)):=aT k0;have ab:Eq (w.heap.size≤X):=by show w.heap.size≤X;omega
 refine (sa R P a len y _ (az.o.below k0) (by omega)).mono ?_;rintro e w1 ⟨I,rfl,ao,ai,ag⟩;have B1:=B0.grown ag g;have au:Eq (w.grownBy w1 (some R)):=af am.o ag;have ac:Eq (mH I):=ao;clear a6 hX k0 B0 ag am az ao aN;go_wp2_with fail
 have ka:Bl w1 (w1.alloc (.cells (([1,2,3,3,3,1]:List Int).map iT).toArray 3)):=bZ;refine (dV Kd R (P+1) a len y w1.heap.size 0 6 6 _ (ai.below ka) (by omega) (by omega) (by omega) (by have:=ai.lt;omega) (by simp) (dH w1 3 [1,2,3,3,3,1] Kd ?_)).mono ?_
 · intro s hs;simp only [FF,F4,or_false] at hs;rcases hs with rfl | rfl | rfl | rfl | rfl | rfl <;> (unfold Kd;decide)
 rintro e w2 ⟨d,rfl,hd,a8,ad⟩;have B2:=(B1.below ka).grown ad g;have ak:Eq (w.grownBy w2 (some R)):=af (af au.o (aT ka)) ad;clear B1 ka ad au ai;go_upto_region 2 with fail
 obtain ⟨Y,hY⟩:=aG w2.heap.size;obtain ⟨W2,a3⟩:∃W,W=w2.alloc (.cells #[.string I,iT q,iT d,.string ⟨#[]⟩,iT 0] 50):=⟨_,rfl⟩;have kb:Bl w2 W2:=by rw [a3];exact bZ
 have BY:cq W2 Y (.string I) (iT q) (iT d) (.string ⟨#[]⟩) (iT 0):=by rw [a3,hY];exact cq.new _ _ _ _ _ _ _
 have BX:=B2.below kb;have F:Y≠R:=by have:=a8.lt;omega
 have aa:Y≠X:=by have:=B2.lt;omega
 have ah:Eq (∀b aj,a=some ⟨b,aj,none⟩→0<len→b≠Y):=a8.far (by omega);have a1:Eq (bj W2 R a len y (P+1+1)):=a8.below kb;have O:Eq (w.grownBy W2 (some R)):=af ak.o (aT kb);have ae:w.heap.size≤Y:=by have:=ak.o.size;omega
 clear kb B2 ak a8;rw [← a3,← hY];clear a3 hY;rcases hd with rfl | rfl | rfl
 · have N:=BY.c2;have T:=BY.lt;go_wp2_with fail
   have A:Bl W2 (W2.alloc (.cells ((([0,1,5,-3,100,-7]:List Int).map iT).toArray) 3)):=bZ;refine (dV Wf R (P+1+1) a len y W2.heap.size 0 6 6 _ (a1.o.below A) (by omega) (by omega) (by omega) (by have:=a1.o.lt;omega) (by simp) (dH W2 3 [0,1,5,-3,100,-7] Wf ?_)).mono ?_
   · intro s hs;simp only [FF,F4,or_false] at hs;rcases hs with rfl | rfl | rfl | rfl | rfl | rfl <;> (unfold Wf;decide)
   rintro e w3 ⟨n,rfl,hn,U,B⟩;have Q:=(BX.below A).grown B g;have x:=(BY.below A).grown B F;have K:Eq (w.grownBy w3 (some R)):=af (af O.o (aT A)) B;clear BX BY A B O N T;obtain ⟨C,r⟩:∃W,W=w3.setCell ⟨Y,4,none⟩ (iT n):=⟨_,rfl⟩;have E:cq C Y (.string I) (iT q) (iT 1) (.string ⟨#[]⟩) (iT n):=by rw [r];exact x.set4 _
   have Z:cq C X (.string ⟨#[]⟩) (iT 0) (iT 0) (.string ⟨#[]⟩) (iT 0):=by rw [r];exact Q.other aa.symm _ _
   have a4:bj C R a len y (P+1+1+1):=by rw [r];exact U.other F ah.o _ _
   have a5:Eq (w.grownBy C (some R)):=by show w.grownBy C (some R);rw [r];exact aI K.o ae (aF _ _ _ _)
   have y4:=x.c4;have f4:=x.fr 4;have lY:=x.lt;go_upto_region 4 with fail
   rw [← r];clear r Q x U K y4 f4 lY;have N:=E.c2;have T:=E.lt;go_wp2_with fail
   have a0:Bl C (C.alloc (.cells ((([⟨#[]⟩,⟨#[120]⟩,⟨#[121,121]⟩,⟨#[122,122,122]⟩]:List ByteArray).map Value.string).toArray) 9)):=bZ;refine (tr mH R (P+1+1+1) a len y C.heap.size 0 4 4 _ (a4.below a0) (by omega) (by omega) (by omega) (by have:=a4.lt;omega) (by simp) (lZ C 9 [⟨#[]⟩,⟨#[120]⟩,⟨#[121,121]⟩,⟨#[122,122,122]⟩] mH ?_)).mono ?_
   · intro s hs;simp only [FF,F4,or_false] at hs;rcases hs with rfl | rfl | rfl | rfl <;> (unfold mH;decide)
   rintro e w5 ⟨t,rfl,ht,aw,a7⟩;have an:=(Z.below a0).grown a7 g;have J:=(E.below a0).grown a7 F;have ax:Eq (w.grownBy w5 (some R)):=af (af a5.o (aT a0)) a7;clear Z E a0 a7 a5 N T;obtain ⟨W5,H⟩:∃W,W=w5.setCell ⟨Y,3,none⟩ (.string t):=⟨_,rfl⟩;have u:cq W5 Y (.string I) (iT q) (iT 1) (.string t) (iT n):=by rw [H];exact J.set3 _
   have f:cq W5 X (.string ⟨#[]⟩) (iT 0) (iT 0) (.string ⟨#[]⟩) (iT 0):=by rw [H];exact an.other aa.symm _ _
   have aJ:bj W5 R a len y (P+1+1+1+1):=by rw [H];exact aw.other F ah.o _ _
   have aK:Eq (w.grownBy W5 (some R)):=by show w.grownBy W5 (some R);rw [H];exact aI ax.o ae (aF _ _ _ _)
   have y3:=J.c3;have f3:=J.fr 3;have lY:=J.lt;go_upto_region 6 with fail
   rw [← H];clear H an J aw ax y3 f3 lY;have y0:=u.all;have x0:=f.c0;have x1:=f.c1;have x2:=f.c2;have x3:=f.c3;have x4:=f.c4;have f0:=f.fr 0;have f1:=f.fr 1;have f2:=f.fr 2;have f3:=f.fr 3;have f4:=f.fr 4;have lX:=f.lt;have lY:=u.lt;clear u;go_wp2;refine bodyPost_ret (v:=.agg #[.string I,iT q,iT 1,.string t,iT n]) (by simp [results,Tryz.results137,go_sem,x0,x1,x2,x3,x4]) rfl ⟨I,t,q,1,n,P+1+1+1+1,rfl,⟨ac.o,ht,HQ.o,by decide,hn⟩,?_,by omega,?_⟩
   · exact ((((aJ.other g m.o _ _).other g m.o _ _).other g m.o _ _).other g m.o _ _).other g m.o _ _
   · exact aI aK.o ab.o (af (af (af (af (aF _ _ _ _) (aF _ _ _ _)) (aF _ _ _ _)) (aF _ _ _ _)) (aF _ _ _ _))
 · have u:=BY;have f:=BX;have ay:=a1.o;clear BY BX;have y0:=u.all;have x0:=f.c0;have x1:=f.c1;have x2:=f.c2;have x3:=f.c3;have x4:=f.c4;have f0:=f.fr 0;have f1:=f.fr 1;have f2:=f.fr 2;have f3:=f.fr 3;have f4:=f.fr 4;have lX:=f.lt;have lY:=u.lt;clear u;go_wp2;refine bodyPost_ret (v:=.agg #[.string I,iT q,iT 2,.string ⟨#[]⟩,iT 0]) (by simp [results,Tryz.results137,go_sem,x0,x1,x2,x3,x4]) rfl ⟨I,⟨#[]⟩,q,2,0,P+1+1,rfl,⟨ac.o,(by unfold mH;decide),HQ.o,by decide,(by decide)⟩,?_,by omega,?_⟩
   · exact ((((ay.other g m.o _ _).other g m.o _ _).other g m.o _ _).other g m.o _ _).other g m.o _ _
   · exact aI O.o ab.o (af (af (af (af (aF _ _ _ _) (aF _ _ _ _)) (aF _ _ _ _)) (aF _ _ _ _)) (aF _ _ _ _))
 · have N:=BY.c2;have T:=BY.lt;go_wp2_with fail
   have A:Bl W2 (W2.alloc (.cells ((([0,1,5,-3,100,-7]:List Int).map iT).toArray) 3)):=bZ;refine (dV Wf R (P+1+1) a len y W2.heap.size 0 6 6 _ (a1.o.below A) (by omega) (by omega) (by omega) (by have:=a1.o.lt;omega) (by simp) (dH W2 3 [0,1,5,-3,100,-7] Wf ?_)).mono ?_
   · intro s hs;simp only [FF,F4,or_false] at hs;rcases hs with rfl | rfl | rfl | rfl | rfl | rfl <;> (unfold Wf;decide)
   rintro e w3 ⟨n,rfl,hn,U,B⟩;have Q:=(BX.below A).grown B g;have x:=(BY.below A).grown B F;have K:Eq (w.grownBy w3 (some R)):=af (af O.o (aT A)) B;clear BX BY A B O N T;obtain ⟨C,r⟩:∃W,W=w3.setCell ⟨Y,4,none⟩ (iT n):=⟨_,rfl⟩;have E:cq C Y (.string I) (iT q) (iT 3) (.string ⟨#[]⟩) (iT n):=by rw [r];exact x.set4 _
   have Z:cq C X (.string ⟨#[]⟩) (iT 0) (iT 0) (.string ⟨#[]⟩) (iT 0):=by rw [r];exact Q.other aa.symm _ _
   have a4:bj C R a len y (P+1+1+1):=by rw [r];exact U.other F ah.o _ _
   have a5:Eq (w.grownBy C (some R)):=by show w.grownBy C (some R);rw [r];exact aI K.o ae (aF _ _ _ _)
   have y4:=x.c4;have f4:=x.fr 4;have lY:=x.lt;go_upto_region 4 with fail
   rw [← r];clear r Q x U K y4 f4 lY;have u:=E;have f:=Z;clear E Z;have y0:=u.all;have x0:=f.c0;have x1:=f.c1;have x2:=f.c2;have x3:=f.c3;have x4:=f.c4;have f0:=f.fr 0;have f1:=f.fr 1;have f2:=f.fr 2;have f3:=f.fr 3;have f4:=f.fr 4;have lX:=f.lt;have lY:=u.lt;clear u;go_wp2;refine bodyPost_ret (v:=.agg #[.string I,iT q,iT 3,.string ⟨#[]⟩,iT n]) (by simp [results,Tryz.results137,go_sem,x0,x1,x2,x3,x4]) rfl ⟨I,⟨#[]⟩,q,3,n,P+1+1+1,rfl,⟨ac.o,(by unfold mH;decide),HQ.o,by decide,hn⟩,?_,by omega,?_⟩
   · exact ((((a4.other g m.o _ _).other g m.o _ _).other g m.o _ _).other g m.o _ _).other g m.o _ _
   · exact aI a5.o ab.o (af (af (af (af (aF _ _ _ _) (aF _ _ _ _)) (aF _ _ _ _)) (aF _ _ _ _)) (aF _ _ _ _))
theorem zG (o s m:Nat) (h:0<m) (hm:m % 2=1):(o+s)+(s+s)*(m / 2)=o+s*m:=by
 obtain ⟨k,rfl⟩:∃k,m=2*k+1:=⟨m / 2,by omega⟩;have:(2*k+1) / 2=k:=by omega
 rw [this];have:s*(2*k+1)=(s+s)*k+s:=by rw [Nat.mul_add,Nat.mul_one,Nat.add_mul];have:=Nat.mul_comm s (2*k);rw [this,Nat.mul_assoc,Nat.two_mul,Nat.mul_comm k s]
 omega
theorem zH (o s m:Nat) (hm:m % 2=0):o+(s+s)*(m / 2)=o+s*m:=by
 obtain ⟨k,rfl⟩:∃k,m=2*k:=⟨m / 2,by omega⟩;have:2*k / 2=k:=by omega
 rw [this];have:s*(2*k)=(s+s)*k:=by rw [Nat.add_mul];have:=Nat.mul_comm s (2*k);rw [this,Nat.mul_assoc,Nat.two_mul,Nat.mul_comm k s]
 omega
theorem ps (a b:ByteArray):(a++b).size=a.size+b.size:=by simp
theorem uV (s:ByteArray) (m:Nat) (w:World) (hs:s.size=1) (hm:m≤100) (h3:m≠3∧m≠4) :
 Calls Tryz.prog 207 #[.string s,iT m] w fun e w'=>∃z:ByteArray,e=.returned (.string z)∧mH z∧w'=w:=by
 go_enter Tryz.func207,Tryz.ntmps207
 go_wp2;go_loop [0,1,5] (fun A x y=>∃(z o:ByteArray) (j:Nat),A=.string z∧x=iT j∧y=.string o∧o.size+z.size*j=m∧j≤m) (fun _ i _=>(intOf i).toNat)
 case atStart=>exact ⟨s,⟨#[]⟩,m,rfl,rfl,rfl,by rw [hs];show 0+1*m=m;omega,Fv _⟩
 case round =>
  obtain ⟨z,o,j,rfl,rfl,rfl,b,u⟩:=hrel;have d:Eq (o.size+z.size*j=m):=b;clear b;by_cases C:j=0
  · subst C;go_wp2;go_ret;refine ⟨o,rfl,?_,rfl⟩;have:=d.o;refine ⟨by omega,fun e=>?_,fun e=>?_⟩ <;>
    (have r:=congrArg List.length e
     have hl:o.data.toList.length=o.size:=rfl;rw [hl] at r;simp at r;omega)
  · have B:(0:Int)<(j:Int):=by omega
    have t:(j:Int)≤100:=by omega
    have g:z.size≤z.size*j:=Nat.le_mul_of_pos_right _ (by omega);have f:=d.o;have E:¬9223372036854775807<o.size+z.size:=by omega
    have F:¬9223372036854775807<z.size+z.size:=by omega
    clear g f;by_cases h2:j % 2=1
    · have h3:(j:Int) % 2=1:=by omega
      go_wp2;go_round
      case rel=>exact ⟨z++z,o++z,j / 2,rfl,by go_num,rfl,by rw [ps,ps,zG _ _ _ (by omega) h2];exact d.o,by omega⟩
      case measure=>simp [intOf];omega
    · have h3:(j:Int) % 2=0:=by omega
      go_wp2;go_round
      case rel=>exact ⟨z++z,o,j / 2,rfl,by go_num,rfl,by rw [ps,zH _ _ _ (by omega)];exact d.o,by omega⟩
      case measure=>simp [intOf];omega
end Go.Proofs.YtpobkmjicbobdaaGreat
