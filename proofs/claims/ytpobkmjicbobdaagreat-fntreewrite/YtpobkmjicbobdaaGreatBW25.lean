/- Walks. -/
import Derived.Test.YtpobkmjicbobdaaGreatBW24
namespace Go.Proofs.YtpobkmjicbobdaaGreat
set_option maxRecDepth 100000
set_option maxHeartbeats 40000000
open Go.RowKit
variable {D K L:List ac} {X cd gd lo n nb:Nat} {e:Ending} {q:Int} {u2 u3:Value} {w w' wr:World}
def El (lo:Nat) (q:Int) (M:List ac) (V:List (List af)) (S:List Int) (ok:Bool) (w:World) (e:Ending) (w':World):Prop :=
 ∃am nm cm av nv cv ak ns cs,e=.returned (.tuple #[.agg #[iT q,.slice am nm cm,.slice av nv cv,.slice ak ns cs],.bool ok])∧aZ lo w' am nm cm av nv cv ak ns cs M V S∧Bl w w'
def WrD (lo:Nat) (q:Int) (M K:List ac) (V:List (List af)) (S:List Int) (w:World) (e:Ending) (w':World):Prop :=
 (bX q M K=true→El lo (q+K.length) ((dh q K).foldl eI M) V S true w e w')∧(bX q M K=false→El lo q M V S false w e w')
def FV (lo:Nat) (q:Int) (a1:Option Addr) (nm c1:Nat) (av:Option Addr) (nv cv:Nat) (ak:Option Addr) (ns cs:Nat) (M K:List ac) (w:World) (e:Ending) (w':World):Prop :=
 (bX q M K=true→∃a n c,e=.returned (.tuple #[.agg #[iT (q+K.length),.slice a n c,.slice av nv cv,.slice ak ns cs],.bool true])∧fu w.heap.size w' a n c ((dh q K).foldl eI M)∧Bl w w'∧cE w' lo a n c ((dh q K).foldl eI M))∧(bX q M K=false→e=.returned (.tuple #[.agg #[iT q,.slice a1 nm c1,.slice av nv cv,.slice ak ns cs],.bool false])∧Bl w w')
theorem FV.toD {a1 t s:Option Addr} {m c1 g r o cs:Nat} {M:List ac} {V:List (List af)} {S:List Int} (h:FV lo q a1 m c1 t g r s o cs M K w e w') (f:aZ lo w a1 m c1 t g r s o cs M V S) (b:lo≤w.heap.size):WrD lo q M K V S w e w':=by
 refine ⟨fun hy=>?_,fun hn=>?_⟩
 · obtain ⟨a,n,c,d,h1,h2,_⟩:=h.1 hy;exact ⟨_,_,_,_,_,_,_,_,_,d,⟨h1.mono b,(f.keep h2).levels,(f.keep h2).snaps⟩,h2⟩
 · obtain ⟨d,h2⟩:=h.2 hn;exact ⟨_,_,_,_,_,_,_,_,_,d,f.keep h2,h2⟩
theorem xM (h:ld q K n w e w'):((dx q K=true∧1≤n∧n≤12∧∃g c,e=.returned (.tuple #[sL g n c,.bool true])∧ag w' w.heap.size g n c (dh q K))∨((dx q K=false∨n=0∨12<n)∧∃a m c L,e=.returned (.tuple #[.slice a m c,.bool false])∧ah w' a m c L))∧Bl w w':=by
 obtain ⟨v,d,b,h1,h2,h3⟩:=h;refine ⟨?_,h3⟩;cases hs:dx q K with
 | true =>
  obtain ⟨⟨g,c,rfl,h4⟩,rfl⟩:=h1 hs;by_cases hn:1≤n∧n≤12
  · exact .inl ⟨rfl,hn.1,hn.2,g,c,by rw [b];simp [hn.1,hn.2],h4⟩
  · refine .inr ⟨.inr (by omega),some ⟨g,0,none⟩,n,c,_,?_,h4.entsAt⟩;rw [b,show (decide (1≤n) && decide (n≤12))=false by simp;omega]
 | false =>
  obtain ⟨rfl,a,m,c,L,rfl,hL⟩:=h2 hs;exact .inr ⟨.inl rfl,a,m,c,L,b,hL⟩
theorem Bh (M:List ac) {D:List ac} {i:Nat} {e:ac} (h:D[i]?=some e):(D.take (i+1)).foldl eI M=eI ((D.take i).foldl eI M) e:=by
 rw [Hc,h];simp
structure BP (lo:Nat) (w wr:World) (X gd nb cd:Nat) (D:List ac) (q:Int) (a:Option Addr) (n c:Nat) (L:List ac) (u2 u3:Value):Prop where
 low:Bl w wr
 bx:ay wr X (iT q) (.slice a n c) u2 u3
 br:ay wr (X+1) (iT 0) nZ nZ nZ
 mem:cE wr lo a n c L
 dn:ag wr 0 gd nb cd D
 ne:(∀x,a=some x→x.block≠X∧x.block≠X+1)∧gd≠X∧gd≠X+1
 hx:w.heap.size≤X
 hlo:lo≤w.heap.size
theorem BP.below {b:World} {a:Option Addr} {c:Nat} (h:BP lo w wr X gd nb cd D q a n c L u2 u3) (hb:Bl wr b):BP lo w b X gd nb cd D q a n c L u2 u3 :=
 ⟨h.low.trans (hb.mono h.low.size),h.bx.keep hb,h.br.keep hb,h.mem.below hb,h.dn.below hb,h.ne,h.hx,h.hlo⟩
theorem BP.held {a:Option Addr} {c:Nat} {i:Nat} {s t:ByteArray} {b d m:Int} (h:BP lo w wr X gd nb cd D q a n c L u2 u3) (hg:D[i]?=some (s,b,d,t,m)):wr.cell? ⟨gd,i*5,none⟩=some (.string s)∧wr.cell? ⟨gd,i*5+1,none⟩=some (iT b)∧wr.cell? ⟨gd,i*5+2,none⟩=some (iT d)∧wr.cell? ⟨gd,i*5+3,none⟩=some (.string t)∧wr.cell? ⟨gd,i*5+4,none⟩=some (iT m)∧gd<wr.heap.size∧X<wr.heap.size:=by
 obtain ⟨c0,c1,f,c3,c4⟩:=h.dn.at5 hg;exact ⟨c0,c1,f,c3,c4,h.dn.lt.2,h.bx.lt⟩
theorem BP.put {a:Option Addr} {c:Nat} {base g2 n2 c2:Nat} {b:List ac} (h:BP lo w wr X gd nb cd D q a n c L u2 u3) (hO:ag wr base g2 n2 c2 b) (hb:X+1<base):BP lo w (wr.setCell ⟨X,1,none⟩ (sL g2 n2 c2)) X gd nb cd D q (pT g2) n2 c2 b u2 u3:=by
 have hl:=hO.lt.1;exact ⟨h.low.setCell (p:=⟨X,1,none⟩) h.hx _,h.bx.set1 _,h.br.other (by omega) _,(cE.set (p:=⟨X,1,none⟩) (.some (hO.mono (by have:=h.hx;have:=h.hlo;omega))) (fun x e=>by cases e;show X≠g2;omega) _),h.dn.setCell (p:=⟨X,1,none⟩) (fun e=>h.ne.2.1 e.symm) _,⟨fun x e=>by cases e;exact ⟨by show g2≠_;omega,by show g2≠_;omega⟩,h.ne.2⟩,h.hx,h.hlo⟩
theorem qj {aN:Nat} (lo:Nat) (q:Int) (a1:Option Addr) (b c1:Nat) (r:Option Addr) (g y:Nat) (u:Option Addr) (f cs:Nat) (M:List ac) (V:List (List af)) (S:List Int) (ab:Option Addr) (nb cb:Nat) (K:List ac) (w:World) (hT:aZ aN w a1 b c1 r g y u f cs M V S) (aK:lo≤w.heap.size) (hO:cE w lo a1 b c1 M) (hK:ah w ab nb cb K) (aT:nb≤1048576) (bh:b≤60) (aQ:0≤q) (b1:q≤100000) :
 Calls Tryz.prog 98 #[.agg #[iT q,.slice a1 b c1,.slice r g y,.slice u f cs],.slice ab nb cb] w (FV lo q a1 b c1 r g y u f cs M K w):=by
 obtain ⟨X,hX⟩:=aG w.heap.size;obtain ⟨W,hW⟩:=aG ((w.alloc (.cells #[iT q,.slice a1 b c1,.slice r g y,.slice u f cs] 31)).alloc (.cells #[iT 0,nZ,nZ,nZ] 31));have kW:Bl w W:=by rw [hW];exact bZ.alloc (by simp) _
 have bx:ay W X (iT q) (.slice a1 b c1) (.slice r g y) (.slice u f cs):=by rw [hW,hX];exact (ay.new _ _ _ _ _ _).alloc _
 have br:ay W (X+1) (iT 0) nZ nZ nZ:=by
  have:=ay.new (w.alloc (.cells #[iT q,.slice a1 b c1,.slice r g y,.slice u f cs] 31)) 31 (iT 0) nZ nZ nZ;rw [GY] at this;rw [hW,hX];exact this
 have HX:Eq (X=w.heap.size):=hX;have aY:Eq (W.heap.size=X+1+1):=by show _=_;rw [hW,hX];simp
 have K0:Eq (Bl w W):=kW;have HT:=az hT;have F:Eq (K.length=nb):=hK.length;have al:Eq (M.length=b):=hO.len;have Q:=az hO;have CT:Eq (Calls Tryz.prog 158 #[.slice ab nb cb,iT q] W (ld q K nb W)):=Ao ab nb cb K q W (hK.keep kW) aT aQ b1;clear kW hT hK hO;have e1:IntKind.i64.wrap ((b:Int)+(nb:Int))=(b:Int)+(nb:Int):=by rw [G4];unfold wrap64;omega
 have e2:IntKind.i64.wrap (q+(nb:Int))=q+(nb:Int):=by rw [G4];unfold wrap64;omega
 go_enter Tryz.func98,Tryz.ntmps98
 go_upto_region 1 with fail
 rw [← hX,← hW];clear hX hW;have x0:=bx.all;go_wp2_with fail
 clear x0;refine CT.o.mono ?_;rintro e w1 C;obtain ⟨C,H⟩:=xM C;have K1:Eq (Bl w w1):=K0.o.trans (H.mono K0.o.size);have ao:Eq (Bl W w1):=H;have B:=bx.keep H;have A:=br.keep H;clear H bx br CT;rcases C with ⟨ae,be,b8,gd,cd,rfl,hD⟩ | ⟨aO,ad,md,cd,_,rfl,_⟩
 rotate_left
 · have T:Eq (bX q M K=false):=by
    show _=_
    have:=F.o;unfold bX;rcases aO with h | h | h
    · rw [h];simp
    · simp [show ¬1≤K.length by omega]
    · simp [show ¬K.length≤12 by omega]
   have HR:Eq (ay w1 (X+1) (iT 0) nZ nZ nZ):=A;have x0:=B.all;have r0:=A.all;clear B A;go_wp2;refine bodyPost_ret (v:=.tuple #[.agg #[iT q,.slice a1 b c1,.slice r g y,.slice u f cs],.bool false]) ?_ rfl (show FV lo q a1 b c1 r g y u f cs M K w _ _ from ⟨(fun h=>by rw [T.o] at h;cases h),fun _=>⟨rfl,?_⟩⟩)
   · have e:=((((HR.o.set0 (iT q)).set1 (.slice a1 b c1)).set2 (.slice r g y)).set3 (.slice u f cs));simp [results,Tryz.results98,go_sem,e.all]
   · have hx:w.heap.size≤X+1:=by have:=HX.o;omega
     exact (jY K1.o hx _ _ _ _)
 have HD:Eq (ag w1 W.heap.size gd nb cd (dh q K)):=hD;have am:Eq (dx q K=true):=ae;clear hD ae;by_cases bi:60<b+nb
 · have ai:(b:Int)+(nb:Int) > 60:=by omega
   have ap:(60:Int)<(b:Int)+(nb:Int):=by omega
   have T:Eq (bX q M K=false):=by show _=_;have:=F.o;have:=al.o;unfold bX;simp [show ¬M.length+K.length≤60 by omega]
   have HR:Eq (ay w1 (X+1) (iT 0) nZ nZ nZ):=A;have x0:=B.all;have r0:=A.all;clear B A;go_wp2;refine bodyPost_ret (v:=.tuple #[.agg #[iT q,.slice a1 b c1,.slice r g y,.slice u f cs],.bool false]) ?_ rfl (show FV lo q a1 b c1 r g y u f cs M K w _ _ from ⟨(fun h=>by rw [T.o] at h;cases h),fun _=>⟨rfl,?_⟩⟩)
   · have e:=((((HR.o.set0 (iT q)).set1 (.slice a1 b c1)).set2 (.slice r g y)).set3 (.slice u f cs));simp [results,Tryz.results98,go_sem,e.all]
   · have hx:w.heap.size≤X+1:=by have:=HX.o;omega
     exact (jY K1.o hx _ _ _ _)
 have ai:¬(b:Int)+(nb:Int) > 60:=by omega
 have ap:¬(60:Int)<(b:Int)+(nb:Int):=by omega
 have ar:Eq (bX q M K=true):=by
  show _=_
  have h1:=F.o;have h2:=al.o;have h3:=am.o;unfold bX;rw [h3];simp;omega
 have ST:Eq (BP lo w w1 X gd nb cd (dh q K) (q) a1 (b) c1 (M) (.slice r g y) (.slice u f cs)):=by
  have hd:=HD.o.lt.1;have hx:=HX.o;have hs:=aY.o;exact ⟨K1.o,B,A,(Q.o.below K0.o).below ao.o,HD.o.mono (GQ _),⟨fun x e=>by have hl:=(Q.o.lt x e).2;exact ⟨by omega,by omega⟩,by omega,by omega⟩,by omega,aK⟩
 have x0:=B.all;clear B A;go_wp2_with fail
 clear x0;go_loopw [8] (fun iv wr=>∃(i:Nat) (a:Option Addr) (c:Nat),i≤nb∧iv=iT i∧(0<i→∀x,a=some x→w.heap.size≤x.block)∧BP lo w wr X gd nb cd (dh q K) (q) a (b+i) c (((dh q K).take i).foldl eI M) (.slice r g y) (.slice u f cs)) (fun iv _=>nb - (intOf iv).toNat)
 case atStart=>exact ⟨0,a1,c1,GQ _,rfl,fun h=>absurd h (Jq 0),ST.o⟩
 case round =>
  clear ST HD K1 ao Q am;obtain ⟨i,a,c,bk,rfl,b0,C⟩:=hrel;have aS:=az b0;have N:Eq (BP lo w wr X gd nb cd (dh q K) (q) a (b+i) c (((dh q K).take i).foldl eI M) (.slice r g y) (.slice u f cs)):=C;clear C;by_cases aP:i<nb
  · have aA:(i:Int)<(nb:Int):=by omega
    obtain ⟨⟨s,q0,d,t,m⟩,hg⟩:∃e,(dh q K)[i]?=some e:=⟨_,j' (by rw [fk,F.o];exact aP)⟩;have HG:Eq ((dh q K)[i]?=some (s,q0,d,t,m)):=hg;have b4:Eq (d9 (s,q0,d,t,m)):=N.o.dn.entsAt.ents _ (GP hg);obtain ⟨LL,a0⟩:=aG (((dh q K).take i).foldl eI M);have b3:Eq (LL=((dh q K).take i).foldl eI M):=a0;have J:BP lo w wr.drew X gd nb cd (dh q K) (q) a (b+i) c (LL) (.slice r g y) (.slice u f cs):=by rw [a0];exact N.o.below (Below.refl _ wr).drew
    clear hg a0 N;go_upto_region 7 with fail
    refine wp_region_held_drew (S:=(fun w'=>w'.cell? ⟨gd,i*5,none⟩=some (.string s)∧w'.cell? ⟨gd,i*5+1,none⟩=some (iT q0)∧w'.cell? ⟨gd,i*5+2,none⟩=some (iT d)∧w'.cell? ⟨gd,i*5+3,none⟩=some (.string t)∧w'.cell? ⟨gd,i*5+4,none⟩=some (iT m)∧gd<w'.heap.size∧X<w'.heap.size)) (by kernel_rfl) (J.held HG.o) (fun O=>?_);generalize wr.drew=wd at J O ⊢;refine aR 0 1 O ?_;refine aR 2 4 O ?_;refine aV 1 fun K hK=>?_
    have q1:=J.bx.c1;have qz:=J.bx.lt;go_simp;clear q1 qz;refine hK.o _ _ (J.held HG.o) (fun O=>?_);clear hK K;(try go_frame);refine aV 6 fun K hK=>?_
    go_simp;refine (Cm a (b+i) c LL s t q0 d m _ J.mem (by omega) b4.o).mono ?_;rintro e w2 ⟨g2,c2,rfl,R,aj⟩;have k2:=J.below aj;go_wp2_with fail
    refine hK.o _ _ (k2.held HG.o) (fun O=>?_);clear hK K;(try go_frame);refine aR 7 1 O ?_;refine aV 8 fun K hK=>?_
    have q1:=k2.bx.c1;have qf:=k2.bx.fz;have qz:=k2.bx.lt;go_simp;have aX:Eq (w.heap.size≤g2):=by have h1:=R.lt.1;have h2:=J.bx.lt;have h3:=HX.o;show _≤_;omega
    have ks:=k2.put (g2:=g2) (n2:=b+i+1) (c2:=c2) R J.br.lt;clear q1 qf qz;refine hK.o _ _ (ks.held HG.o) (fun O=>?_);clear hK K;(try go_frame);refine dN ?_;generalize w2.setCell ⟨X,1,none⟩ (sL g2 (b+i+1) c2)=w9 at ks ⊢;have KS:Eq (BP lo w w9 X gd nb cd (dh q K) (q) (pT g2) (b+i+1) c2 (eI LL (s,q0,d,t,m)) (.slice r g y) (.slice u f cs)):=ks;clear ks k2 J R aj O;go_wp2;go_roundw
    case rel =>
     refine ⟨i+1,some ⟨g2,0,none⟩,c2,by omega,by go_num,fun _ x e=>by cases e;exact aX.o,?_⟩;have h:=KS.o;rw [b3.o,← Bh M HG.o] at h;exact h
    case measure=>simp [intOf];omega
  · have aA:¬(i:Int)<(nb:Int):=by omega
    obtain rfl:i=nb:=by omega
    have I:(dh q K).take i=dh q K:=GV (by rw [fk,F.o];omega);have HF:Eq (cE wr lo a (b+i) c ((dh q K).foldl eI M)):=by have h:=N.o.mem;rw [I] at h;exact h
    have Y:=N.o.bx;have a9:=N.o.br;have HB:Eq (Bl w wr):=N.o.low;have Z:Eq (∀x,a=some x→x.block≠X∧x.block≠X+1):=N.o.ne.1;clear N I;have x0:=Y.all;obtain ⟨w3,E⟩:=aG (wr.setCell ⟨X,0,none⟩ (iT (q+(i:Int))));have aL:=HX.o;have aw:ay w3 X (iT (q+(i:Int))) (.slice a (b+i) c) (.slice r g y) (.slice u f cs):=by rw [E];exact Y.set0 _
    have U:ay w3 (X+1) (iT 0) nZ nZ nZ:=by rw [E];exact a9.other (by omega) _
    have ax:Eq (cE w3 lo a (b+i) c ((dh q K).foldl eI M)):=by rw [E];exact HF.o.set (p:=⟨X,0,none⟩) (fun x e h=>(Z.o x e).1 h.symm) _
    have aW:Eq (Bl w w3):=by rw [E];exact HB.o.setCell (p:=⟨X,0,none⟩) (by show _≤X;omega) _
    clear aL;go_upto_region 9 with fail
    rw [← E];clear E x0 Y a9 HF HB;have x0:=aw.all;have r0:=U.all;have HR:Eq (ay w3 (X+1) (iT 0) nZ nZ nZ):=U;clear aw U;go_wp2;have b2:=F.o;have hx:w.heap.size≤X+1:=by have:=HX.o;omega
    refine bodyPost_ret (v:=.tuple #[.agg #[iT (q+(i:Int)),.slice a (b+i) c,.slice r g y,.slice u f cs],.bool true]) ?_ rfl (show FV lo q a1 b c1 r g y u f cs M K w _ _ from ⟨fun _=>⟨_,_,_,by rw [b2],?_,(jY aW.o hx _ _ _ _),?_⟩,fun h=>by rw [ar.o] at h;cases h⟩)
    · have e:=((((HR.o.set0 (iT (q+(i:Int)))).set1 (.slice a (b+i) c)).set2 (.slice r g y)).set3 (.slice u f cs));simp [results,Tryz.results98,go_sem,e.all]
    · have hn:∀o x,a=some x→(⟨X+1,o,none⟩:Addr).block≠x.block:=fun _ x e h=>(Z.o x e).2 h.symm
      have a8:0<i:=by omega
      exact ⟨(cE.inl ((((ax.o.set (hn 0) _).set (hn 1) _).set (hn 2) _).set (hn 3) _)).1,fun x e _=>aS.o a8 x e⟩
    · have hn:∀o x,a=some x→(⟨X+1,o,none⟩:Addr).block≠x.block:=fun _ x e h=>(Z.o x e).2 h.symm
      exact (((ax.o.set (hn 0) _).set (hn 1) _).set (hn 2) _).set (hn 3) _
theorem dy (R P:Nat) (a:Option Addr) (len m:Nat) (n:Int) (w:World) (h:bh w R a len m P) (O:P<100000) (hn:n≤1000000) :
 Calls Tryz.prog 75 #[.pointer (pT R),iT n] w fun e w'=>∃q:Int,e=.returned (iT q)∧Fo n q∧bh w' R a len m (P+1)∧w.grownBy w' (some R):=by
 have c0:=h.c0;have c1:=h.c1;have f1:=h.f1;have few:=h.few;have H:=az h;by_cases h1:n<1
 · go_enter Tryz.func75,Tryz.ntmps75
   go_wp2;go_ret;exact ⟨0,rfl,⟨by omega,fun h=>by omega⟩,H.o.next,jJ w R _⟩
 by_cases h2:len=0
 · subst h2;go_enter Tryz.func75,Tryz.ntmps75
   go_wp2;go_ret;exact ⟨0,rfl,⟨by omega,fun h=>by omega⟩,H.o.next,jJ w R _⟩
 obtain ⟨b,d,rfl,f,I,hbytes⟩:∃b d,a=some ⟨b,d,none⟩∧b≠R∧b<w.heap.size∧∀i,i<len→∃z:Nat,z≤255∧w.cell? ⟨b,d+i,none⟩=some (.int .u8 z):=by
  rcases H.o.bytes with h0 | h0
  · exact absurd h0 h2
  · exact h0
 have t:=az hbytes;have E:((len:Int) == 0)=false:=by simpa using h2
 by_cases h3:P<len
 · obtain ⟨z,hz,g⟩:=t.o P h3;have r:(w.setCell ⟨R,1,none⟩ (iT ((P:Int)+1))).cell? ⟨b,d+P,none⟩=some (.int .u8 z):=by rw [GM _ _ _ _ (fun e=>f (congrArg Addr.block e).symm)];exact g
   go_enter Tryz.func75,Tryz.ntmps75
   go_wp2;go_ret;exact ⟨_,rfl,⟨Int.emod_nonneg _ (by omega),fun _=>Int.emod_lt_of_pos _ (by omega)⟩,H.o.next,jJ w R _⟩
 · have x:P % len<len:=Nat.mod_lt _ (by omega);have A:(P*7+3) % len<len:=Nat.mod_lt _ (by omega);obtain ⟨z,hz,g⟩:=t.o (P % len) x;obtain ⟨y,hy,u⟩:=t.o ((P*7+3) % len) A;have r:(w.setCell ⟨R,1,none⟩ (iT ((P:Int)+1))).cell? ⟨b,d+P % len,none⟩=some (.int .u8 z):=by rw [GM _ _ _ _ (fun e=>f (congrArg Addr.block e).symm)];exact g
   have B:(w.setCell ⟨R,1,none⟩ (iT ((P:Int)+1))).cell? ⟨b,d+(P*7+3) % len,none⟩=some (.int .u8 y):=by rw [GM _ _ _ _ (fun e=>f (congrArg Addr.block e).symm)];exact u
   have s:(0:Int)<(len:Int):=by omega
   have J:(0:Int)≤(P:Int) % (len:Int):=Int.emod_nonneg _ (by omega);have C:(P:Int) % (len:Int)<(len:Int):=Int.emod_lt_of_pos _ s;have N:(0:Int)≤((P:Int)*7+3) % (len:Int):=Int.emod_nonneg _ (by omega);have F:((P:Int)*7+3) % (len:Int)<(len:Int):=Int.emod_lt_of_pos _ s;go_enter Tryz.func75,Tryz.ntmps75
   go_wp2_with fail
   go_quiet (fail)
   go_wp2;go_ret;exact ⟨_,rfl,C8 z y P len n hz hy O (by omega),bh.below H.o.next (below_drewN (Below.refl _ _) _),ae (jJ w R _) (aJ (below_drewN (Below.refl _ _) _))⟩
theorem fo (Q:Int→Prop) (R P:Nat) (a:Option Addr) (len d:Nat) (b f m c:Nat) (w:World) (h:bh w R a len d P) (C:P<100000) (y:1≤m) (A:m≤100) (s:b≠R) (r:b<w.heap.size)
 (hc:∀i,i<m→∃z:Int,w.cell? ⟨b,f+i,none⟩=some (iT z)∧Q z) :
 Calls Tryz.prog 106 #[.pointer (pT R),sO b f m c] w fun e w'=>∃z:Int,e=.returned (iT z)∧Q z∧bh w' R a len d (P+1)∧w.grownBy w' (some R):=by
 have B:=az hc;go_enter Tryz.func106,Tryz.ntmps106
 go_wp2_with fail
 refine (dy R P a len d _ _ h C (by omega)).mono ?_;rintro e E ⟨q,rfl,hq,t,g⟩;obtain ⟨k,rfl⟩:=Il hq.1;have hk:k<m:=by have:=hq.2 (by omega);omega
 obtain ⟨z,hz,hQ⟩:=B.o k hk;have u:=(au g (x:=⟨b,f+k,none⟩) r s).trans hz;go_wp2;go_ret;exact ⟨z,rfl,hQ,t,g⟩
theorem uu (Q:ByteArray→Prop) (R P:Nat) (a:Option Addr) (len d:Nat) (b f m c:Nat) (w:World) (h:bh w R a len d P) (C:P<100000) (y:1≤m) (A:m≤100) (s:b≠R) (r:b<w.heap.size)
 (hc:∀i,i<m→∃z:ByteArray,w.cell? ⟨b,f+i,none⟩=some (.string z)∧Q z) :
 Calls Tryz.prog 164 #[.pointer (pT R),sO b f m c] w fun e w'=>∃z:ByteArray,e=.returned (.string z)∧Q z∧bh w' R a len d (P+1)∧w.grownBy w' (some R):=by
 have B:=az hc;go_enter Tryz.func164,Tryz.ntmps164
 go_wp2_with fail
 refine (dy R P a len d _ _ h C (by omega)).mono ?_;rintro e E ⟨q,rfl,hq,t,g⟩;obtain ⟨k,rfl⟩:=Il hq.1;have hk:k<m:=by have:=hq.2 (by omega);omega
 obtain ⟨z,hz,hQ⟩:=B.o k hk;have u:=(au g (x:=⟨b,f+k,none⟩) r s).trans hz;go_wp2;go_ret;exact ⟨z,rfl,hQ,t,g⟩
theorem mM (w:World) (t:TypeId) (l:List ByteArray) (Q:ByteArray→Prop) (hQ:∀s ∈ l,Q s):∀i,i<l.length→∃z:ByteArray,(w.alloc (.cells (l.map Value.string).toArray t)).cell? ⟨w.heap.size,0+i,none⟩=some (.string z)∧Q z:=by
 intro i hi;refine ⟨l[i],?_,hQ _ (Hj hi)⟩;rw [GT,World.cell?_alloc_new];simp [hi]
theorem eV (w:World) (t:TypeId) (l:List Int) (Q:Int→Prop) (hQ:∀s ∈ l,Q s):∀i,i<l.length→∃z:Int,(w.alloc (.cells (l.map iT).toArray t)).cell? ⟨w.heap.size,0+i,none⟩=some (iT z)∧Q z:=by
 intro i hi;refine ⟨l[i],?_,hQ _ (Hj hi)⟩;rw [GT,World.cell?_alloc_new];simp [hi]
theorem C3 (w:World) (a:Option Addr) (len f:Nat) (t:TypeId) (few:len≤2000) (hb:len=0∨∃b d,a=some ⟨b,d,none⟩∧b<w.heap.size∧∀i,i<len→∃z:Nat,z≤255∧w.cell? ⟨b,d+i,none⟩=some (.int .u8 z)) :
 bh (w.alloc (.cells #[.slice a len f,iT 0] t)) w.heap.size a len f 0:=by
 refine ⟨by simp,by simp,by simp,few,fun o=>by simp,?_⟩;rcases hb with h0 | ⟨b,d,ha,m,hc⟩
 · exact Or.inl h0
 · refine Or.inr ⟨b,d,ha,by omega,by simp;omega,fun i hi=>?_⟩;obtain ⟨z,hz,g⟩:=hc i hi;exact ⟨z,hz,cell_later bZ g⟩
theorem yD (a:Option Addr) (len f:Nat) (w:World) (hl:len≤f) (g:f≤maxLen) (hb:len=0∨∃b d,a=some ⟨b,d,none⟩∧b<w.heap.size∧∀i,i<len→∃z:Nat,z≤255∧w.cell? ⟨b,d+i,none⟩=some (.int .u8 z)) :
 Calls Tryz.prog 73 #[.slice a len f] w fun e w'=>∃m,e=.returned (.pointer (some ⟨w.heap.size,0,none⟩))∧bh w' w.heap.size a m f 0∧Bl w w'∧w'.heap.size=w.heap.size+1:=by
 unfold maxLen at g;have t:=az hb;by_cases h2:2000<len
 · obtain ⟨b,d,rfl,s,hby⟩:∃b d,a=some ⟨b,d,none⟩∧b<w.heap.size∧∀i,i<len→∃z:Nat,z≤255∧w.cell? ⟨b,d+i,none⟩=some (.int .u8 z):=by
    rcases t.o with h0 | h0
    · omega
    · exact h0
   have r:=az hby
   have u:(2000:Int)≤(f:Int):=by omega
   go_enter Tryz.func73,Tryz.ntmps73
   go_wp2;go_ret;exact ⟨2000,rfl,C3 w _ 2000 f _ (by omega) (Or.inr ⟨b,d,rfl,s,fun i hi=>r.o i (by omega)⟩),bZ,by simp⟩
 · go_enter Tryz.func73,Tryz.ntmps73
   go_wp2;go_ret;exact ⟨len,rfl,C3 w _ len f _ (by omega) t.o,bZ,by simp⟩
theorem bh.far {R:Nat} {a:Option Addr} {len f P:Nat} (h:bh w R a len f P) {X:Nat} (r:w.heap.size≤X):∀b d,a=some ⟨b,d,none⟩→0<len→b≠X:=by
 intro b d ha hl;rcases h.bytes with h0 | ⟨b',m,g,_,o,_⟩
 · omega
 · rw [g] at ha;cases ha;omega
theorem aC (w:World) (R o:Nat) (v:Value):w.grownBy (w.setCell ⟨R,o,none⟩ v) (some R) :=
 ⟨rfl,rfl,rfl,by simp [World.setCell],fun k _ hk=>Below.heap_setCell _ _ _ _ (fun e=>hk (by rw [e]))⟩
theorem aH {a b c:World} {R:Option Nat} (h:a.grownBy b R) (d:a.heap.size≤X) (k:b.grownBy c (some X)):a.grownBy c R :=
 ⟨k.os.trans h.os,k.tape.trans h.tape,k.output.trans h.output,GU h.size k.size,fun i hi hn=>(k.block i (E' hi h.size) (fun e=>by cases e;omega)).trans (h.block i hi hn)⟩
def n8 (s:ByteArray):Prop:=s.size≤100∧¬s.data.toList=[109,47,109]∧¬s.data.toList=[110,111,110,101]
def jX (k t:ByteArray) (q d n:Int):Prop:=n8 k∧n8 t∧(Lit.int .i64 q).wf=true∧(Lit.int .i64 d).wf=true∧(Lit.int .i64 n).wf=true
def Gi (R:Nat) (a:Option Addr) (len cap P:Nat) (w:World) (e:Ending) (w':World):Prop :=
 ∃k t q d n P',e=.returned (.agg #[.string k,iT q,iT d,.string t,iT n])∧jX k t q d n∧bh w' R a len cap P'∧P'≤P+5∧w.grownBy w' (some R)
theorem AQ (R P:Nat) (a:Option Addr) (len b:Nat) (w:World) (h:bh w R a len b P) (m:P<100000) :
 Calls Tryz.prog 105 #[.pointer (pT R)] w fun e w'=>∃z:ByteArray,e=.returned (.string z)∧n8 z∧bh w' R a len b (P+1)∧w.grownBy w' (some R):=by
 go_enter Tryz.func105,Tryz.ntmps105
 go_wp2_with fail
 have d:Bl w (w.alloc (.cells (([⟨#[97]⟩,⟨#[98]⟩,⟨#[97,98]⟩,⟨#[98,47,97,47,49]⟩,⟨#[98,47,97,98,47,49]⟩,⟨#[99]⟩]:List ByteArray).map Value.string).toArray 9)):=bZ;refine (uu n8 R P a len b w.heap.size 0 6 6 _ (h.below d) m (by omega) (by omega) (by have:=h.lt;omega) (by simp) (mM w 9 [⟨#[97]⟩,⟨#[98]⟩,⟨#[97,98]⟩,⟨#[98,47,97,47,49]⟩,⟨#[98,47,97,98,47,49]⟩,⟨#[99]⟩] n8 ?_)).mono ?_
 · intro s hs;simp only [GZ,Hs,or_false] at hs;rcases hs with rfl | rfl | rfl | rfl | rfl | rfl <;> (unfold n8;decide)
 rintro e o ⟨z,rfl,hz,g,f⟩;go_wp2;go_ret;exact ⟨z,rfl,hz,g,ae (aJ d) f⟩
def Kd (d:Int):Prop:=d=1∨d=2∨d=3
def Wf (n:Int):Prop:=(Lit.int .i64 n).wf=true
theorem iN (R P:Nat) (a:Option Addr) (len A:Nat) (q:Int) (w:World) (h:bh w R a len A P) (hP:P<99000) (hq:(Lit.int .i64 q).wf=true) :
 Calls Tryz.prog 137 #[.pointer (pT R),iT q] w fun e w'=>Gi R a len A P w e w':=by
 have aZ:=h.lt;obtain ⟨X,hX⟩:=aG w.heap.size;have m:Eq (∀b aj,a=some ⟨b,aj,none⟩→0<len→b≠X):=h.far (by omega);have g:X≠R:=by omega
 have HQ:=az hq;have ap:=az h;clear h hq;go_enter Tryz.func137,Tryz.ntmps137
 go_wp2_with fail
 obtain ⟨W0,a6⟩:∃W,W=w.alloc (.cells #[.string ⟨#[]⟩,iT 0,iT 0,.string ⟨#[]⟩,iT 0] 50):=⟨_,rfl⟩;have k0:Bl w W0:=by rw [a6];exact bZ
 have B0:cw W0 X (.string ⟨#[]⟩) (iT 0) (iT 0) (.string ⟨#[]⟩) (iT 0):=by rw [a6,hX];exact cw.new _ _ _ _ _ _ _
 have aT:X<W0.heap.size:=B0.lt;rw [← a6,← hX];have ar:Eq (w.grownBy W0 (some R)):=aJ k0;have ab:Eq (w.heap.size≤X):=by show w.heap.size≤X;omega
 refine (AQ R P a len A _ (ap.o.below k0) (by omega)).mono ?_;rintro e w1 ⟨I,rfl,ay,al,ah⟩;have B1:=B0.grown ah g;have aE:Eq (w.grownBy w1 (some R)):=ae ar.o ah;have af:Eq (n8 I):=ay;clear a6 hX k0 B0 ah ar ap ay aT;go_wp2_with fail
 have ka:Bl w1 (w1.alloc (.cells (([1,2,3,3,3,1]:List Int).map iT).toArray 3)):=bZ;refine (fo Kd R (P+1) a len A w1.heap.size 0 6 6 _ (al.below ka) (by omega) (by omega) (by omega) (by have:=al.lt;omega) (by simp) (eV w1 3 [1,2,3,3,3,1] Kd ?_)).mono ?_
 · intro s hs;simp only [GZ,Hs,or_false] at hs;rcases hs with rfl | rfl | rfl | rfl | rfl | rfl <;> (unfold Kd;decide)
 rintro e w2 ⟨d,rfl,hd,a9,ai⟩;have B2:=(B1.below ka).grown ai g;have ac:Eq (w.grownBy w2 (some R)):=ae (ae aE.o (aJ ka)) ai;clear B1 ka ai aE al;go_upto_region 2 with fail
 obtain ⟨Y,hY⟩:=aG w2.heap.size;obtain ⟨W2,a4⟩:∃W,W=w2.alloc (.cells #[.string I,iT q,iT d,.string ⟨#[]⟩,iT 0] 50):=⟨_,rfl⟩;have kb:Bl w2 W2:=by rw [a4];exact bZ
 have BY:cw W2 Y (.string I) (iT q) (iT d) (.string ⟨#[]⟩) (iT 0):=by rw [a4,hY];exact cw.new _ _ _ _ _ _ _
 have BX:=B2.below kb;have F:Y≠R:=by have:=a9.lt;omega
 have ag:Y≠X:=by have:=B2.lt;omega
 have ad:Eq (∀b aj,a=some ⟨b,aj,none⟩→0<len→b≠Y):=a9.far (by omega);have Z:Eq (bh W2 R a len A (P+1+1)):=a9.below kb;have a1:Eq (w.grownBy W2 (some R)):=ae ac.o (aJ kb);have ak:w.heap.size≤Y:=by have:=ac.o.size;omega
 clear kb B2 ac a9;rw [← a4,← hY];clear a4 hY;rcases hd with rfl | rfl | rfl
 · have T:=BY.c2;have a0:=BY.lt;go_wp2_with fail
   have u:Bl W2 (W2.alloc (.cells ((([0,1,5,-3,100,-7]:List Int).map iT).toArray) 3)):=bZ;refine (fo Wf R (P+1+1) a len A W2.heap.size 0 6 6 _ (Z.o.below u) (by omega) (by omega) (by omega) (by have:=Z.o.lt;omega) (by simp) (eV W2 3 [0,1,5,-3,100,-7] Wf ?_)).mono ?_
   · intro s hs;simp only [GZ,Hs,or_false] at hs;rcases hs with rfl | rfl | rfl | rfl | rfl | rfl <;> (unfold Wf;decide)
   rintro e w3 ⟨n,rfl,hn,N,B⟩;have O:=(BX.below u).grown B g;have y:=(BY.below u).grown B F;have a2:Eq (w.grownBy w3 (some R)):=ae (ae a1.o (aJ u)) B;clear BX BY u B a1 T a0;obtain ⟨E,r⟩:∃W,W=w3.setCell ⟨Y,4,none⟩ (iT n):=⟨_,rfl⟩;have C:cw E Y (.string I) (iT q) (iT 1) (.string ⟨#[]⟩) (iT n):=by rw [r];exact y.set4 _
   have U:cw E X (.string ⟨#[]⟩) (iT 0) (iT 0) (.string ⟨#[]⟩) (iT 0):=by rw [r];exact O.other ag.symm _ _
   have a7:bh E R a len A (P+1+1+1):=by rw [r];exact N.other F ad.o _ _
   have a5:Eq (w.grownBy E (some R)):=by show w.grownBy E (some R);rw [r];exact aH a2.o ak (aC _ _ _ _)
   have y4:=y.c4;have f4:=y.fr 4;have lY:=y.lt;go_upto_region 4 with fail
   rw [← r];clear r O y N a2 y4 f4 lY;have T:=C.c2;have a0:=C.lt;go_wp2_with fail
   have Q:Bl E (E.alloc (.cells ((([⟨#[]⟩,⟨#[120]⟩,⟨#[121,121]⟩,⟨#[122,122,122]⟩]:List ByteArray).map Value.string).toArray) 9)):=bZ;refine (uu n8 R (P+1+1+1) a len A E.heap.size 0 4 4 _ (a7.below Q) (by omega) (by omega) (by omega) (by have:=a7.lt;omega) (by simp) (mM E 9 [⟨#[]⟩,⟨#[120]⟩,⟨#[121,121]⟩,⟨#[122,122,122]⟩] n8 ?_)).mono ?_
   · intro s hs;simp only [GZ,Hs,or_false] at hs;rcases hs with rfl | rfl | rfl | rfl <;> (unfold n8;decide)
   rintro e w5 ⟨t,rfl,ht,av,a8⟩;have aD:=(U.below Q).grown a8 g;have J:=(C.below Q).grown a8 F;have an:Eq (w.grownBy w5 (some R)):=ae (ae a5.o (aJ Q)) a8;clear U C Q a8 a5 T a0;obtain ⟨W5,H⟩:∃W,W=w5.setCell ⟨Y,3,none⟩ (.string t):=⟨_,rfl⟩;have x:cw W5 Y (.string I) (iT q) (iT 1) (.string t) (iT n):=by rw [H];exact J.set3 _
   have f:cw W5 X (.string ⟨#[]⟩) (iT 0) (iT 0) (.string ⟨#[]⟩) (iT 0):=by rw [H];exact aD.other ag.symm _ _
   have aO:bh W5 R a len A (P+1+1+1+1):=by rw [H];exact av.other F ad.o _ _
   have aM:Eq (w.grownBy W5 (some R)):=by show w.grownBy W5 (some R);rw [H];exact aH an.o ak (aC _ _ _ _)
   have y3:=J.c3;have f3:=J.fr 3;have lY:=J.lt;go_upto_region 6 with fail
   rw [← H];clear H aD J av an y3 f3 lY;have y0:=x.all;have x0:=f.c0;have x1:=f.c1;have x2:=f.c2;have x3:=f.c3;have x4:=f.c4;have f0:=f.fr 0;have f1:=f.fr 1;have f2:=f.fr 2;have f3:=f.fr 3;have f4:=f.fr 4;have lX:=f.lt;have lY:=x.lt;clear x;go_wp2;refine bodyPost_ret (v:=.agg #[.string I,iT q,iT 1,.string t,iT n]) (by simp [results,Tryz.results137,go_sem,x0,x1,x2,x3,x4]) rfl ⟨I,t,q,1,n,P+1+1+1+1,rfl,⟨af.o,ht,HQ.o,by decide,hn⟩,?_,by omega,?_⟩
   · exact ((((aO.other g m.o _ _).other g m.o _ _).other g m.o _ _).other g m.o _ _).other g m.o _ _
   · exact aH aM.o ab.o (ae (ae (ae (ae (aC _ _ _ _) (aC _ _ _ _)) (aC _ _ _ _)) (aC _ _ _ _)) (aC _ _ _ _))
 · have x:=BY;have f:=BX;have aA:=Z.o;clear BY BX;have y0:=x.all;have x0:=f.c0;have x1:=f.c1;have x2:=f.c2;have x3:=f.c3;have x4:=f.c4;have f0:=f.fr 0;have f1:=f.fr 1;have f2:=f.fr 2;have f3:=f.fr 3;have f4:=f.fr 4;have lX:=f.lt;have lY:=x.lt;clear x;go_wp2;refine bodyPost_ret (v:=.agg #[.string I,iT q,iT 2,.string ⟨#[]⟩,iT 0]) (by simp [results,Tryz.results137,go_sem,x0,x1,x2,x3,x4]) rfl ⟨I,⟨#[]⟩,q,2,0,P+1+1,rfl,⟨af.o,(by unfold n8;decide),HQ.o,by decide,(by decide)⟩,?_,by omega,?_⟩
   · exact ((((aA.other g m.o _ _).other g m.o _ _).other g m.o _ _).other g m.o _ _).other g m.o _ _
   · exact aH a1.o ab.o (ae (ae (ae (ae (aC _ _ _ _) (aC _ _ _ _)) (aC _ _ _ _)) (aC _ _ _ _)) (aC _ _ _ _))
 · have T:=BY.c2;have a0:=BY.lt;go_wp2_with fail
   have u:Bl W2 (W2.alloc (.cells ((([0,1,5,-3,100,-7]:List Int).map iT).toArray) 3)):=bZ;refine (fo Wf R (P+1+1) a len A W2.heap.size 0 6 6 _ (Z.o.below u) (by omega) (by omega) (by omega) (by have:=Z.o.lt;omega) (by simp) (eV W2 3 [0,1,5,-3,100,-7] Wf ?_)).mono ?_
   · intro s hs;simp only [GZ,Hs,or_false] at hs;rcases hs with rfl | rfl | rfl | rfl | rfl | rfl <;> (unfold Wf;decide)
   rintro e w3 ⟨n,rfl,hn,N,B⟩;have O:=(BX.below u).grown B g;have y:=(BY.below u).grown B F;have a2:Eq (w.grownBy w3 (some R)):=ae (ae a1.o (aJ u)) B;clear BX BY u B a1 T a0;obtain ⟨E,r⟩:∃W,W=w3.setCell ⟨Y,4,none⟩ (iT n):=⟨_,rfl⟩;have C:cw E Y (.string I) (iT q) (iT 3) (.string ⟨#[]⟩) (iT n):=by rw [r];exact y.set4 _
   have U:cw E X (.string ⟨#[]⟩) (iT 0) (iT 0) (.string ⟨#[]⟩) (iT 0):=by rw [r];exact O.other ag.symm _ _
   have a7:bh E R a len A (P+1+1+1):=by rw [r];exact N.other F ad.o _ _
   have a5:Eq (w.grownBy E (some R)):=by show w.grownBy E (some R);rw [r];exact aH a2.o ak (aC _ _ _ _)
   have y4:=y.c4;have f4:=y.fr 4;have lY:=y.lt;go_upto_region 4 with fail
   rw [← r];clear r O y N a2 y4 f4 lY;have x:=C;have f:=U;clear C U;have y0:=x.all;have x0:=f.c0;have x1:=f.c1;have x2:=f.c2;have x3:=f.c3;have x4:=f.c4;have f0:=f.fr 0;have f1:=f.fr 1;have f2:=f.fr 2;have f3:=f.fr 3;have f4:=f.fr 4;have lX:=f.lt;have lY:=x.lt;clear x;go_wp2;refine bodyPost_ret (v:=.agg #[.string I,iT q,iT 3,.string ⟨#[]⟩,iT n]) (by simp [results,Tryz.results137,go_sem,x0,x1,x2,x3,x4]) rfl ⟨I,⟨#[]⟩,q,3,n,P+1+1+1,rfl,⟨af.o,(by unfold n8;decide),HQ.o,by decide,hn⟩,?_,by omega,?_⟩
   · exact ((((a7.other g m.o _ _).other g m.o _ _).other g m.o _ _).other g m.o _ _).other g m.o _ _
   · exact aH a5.o ab.o (ae (ae (ae (ae (aC _ _ _ _) (aC _ _ _ _)) (aC _ _ _ _)) (aC _ _ _ _)) (aC _ _ _ _))
theorem AI (o s m:Nat) (h:0<m) (hm:m % 2=1):(o+s)+(s+s)*(m / 2)=o+s*m:=by
 obtain ⟨k,rfl⟩:∃k,m=2*k+1:=⟨m / 2,by omega⟩;have:(2*k+1) / 2=k:=by omega
 rw [this];have:s*(2*k+1)=(s+s)*k+s:=by rw [Nat.mul_add,Nat.mul_one,Nat.add_mul];have:=Nat.mul_comm s (2*k);rw [this,Nat.mul_assoc,Nat.two_mul,Nat.mul_comm k s]
 omega
theorem AJ (o s m:Nat) (hm:m % 2=0):o+(s+s)*(m / 2)=o+s*m:=by
 obtain ⟨k,rfl⟩:∃k,m=2*k:=⟨m / 2,by omega⟩;have:2*k / 2=k:=by omega
 rw [this];have:s*(2*k)=(s+s)*k:=by rw [Nat.add_mul];have:=Nat.mul_comm s (2*k);rw [this,Nat.mul_assoc,Nat.two_mul,Nat.mul_comm k s]
 omega
theorem qs (a b:ByteArray):(a++b).size=a.size+b.size:=by simp
theorem v6 (s:ByteArray) (m:Nat) (w:World) (hs:s.size=1) (hm:m≤100) (h3:m≠3∧m≠4) :
 Calls Tryz.prog 207 #[.string s,iT m] w fun e w'=>∃z:ByteArray,e=.returned (.string z)∧n8 z∧w'=w:=by
 go_enter Tryz.func207,Tryz.ntmps207
 go_wp2;go_loop [0,1,5] (fun r B x=>∃(z o:ByteArray) (j:Nat),r=.string z∧B=iT j∧x=.string o∧o.size+z.size*j=m∧j≤m) (fun _ i _=>(intOf i).toNat)
 case atStart=>exact ⟨s,⟨#[]⟩,m,rfl,rfl,rfl,by rw [hs];show 0+1*m=m;omega,GL _⟩
 case round =>
  obtain ⟨z,o,j,rfl,rfl,rfl,b,u⟩:=hrel;have d:=az b;by_cases A:j=0
  · subst A;go_wp2;go_ret;refine ⟨o,rfl,?_,rfl⟩;have:=d.o;refine ⟨by omega,fun e=>?_,fun e=>?_⟩ <;>
    (have f:=congrArg List.length e
     have hl:o.data.toList.length=o.size:=rfl;rw [hl] at f;simp at f;omega)
  · have y:(0:Int)<(j:Int):=by omega
    have g:(j:Int)≤100:=by omega
    have C:z.size≤z.size*j:=Nat.le_mul_of_pos_right _ (by omega);have t:=d.o;have E:¬9223372036854775807<o.size+z.size:=by omega
    have F:¬9223372036854775807<z.size+z.size:=by omega
    by_cases h2:j % 2=1
    · have h3:(j:Int) % 2=1:=by omega
      go_wp2;go_round
      case rel=>exact ⟨z++z,o++z,j / 2,rfl,by go_num,rfl,by rw [qs,qs,AI _ _ _ (by omega) h2];exact d.o,by omega⟩
      case measure=>simp [intOf];omega
    · have h3:(j:Int) % 2=0:=by omega
      go_wp2;go_round
      case rel=>exact ⟨z++z,o,j / 2,rfl,by go_num,rfl,by rw [qs,AJ _ _ _ (by omega)];exact d.o,by omega⟩
      case measure=>simp [intOf];omega
end Go.Proofs.YtpobkmjicbobdaaGreat
