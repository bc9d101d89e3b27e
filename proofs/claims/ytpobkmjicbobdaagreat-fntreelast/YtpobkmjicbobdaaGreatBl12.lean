/- Walks. -/
import Derived.Test.YtpobkmjicbobdaaGreatBl11
import Derived.Laws.AppendOwnNone
import Derived.Lib.AppendZerosOnto
import Derived.Lib.AppendZeros
import Derived.Shelf.LaysM
import Derived.Shelf.Strconv.Clone
namespace Go.Proofs.YtpobkmjicbobdaaGreat
set_option maxRecDepth 100000
set_option maxHeartbeats 40000000
open Go.RowKit Go.Shelf
variable {G T T' X b base base' c c' c1 c3 d e g g' g1 g3 lo m' n n' nm ns nv o size size' sz:Nat} {L M:List ac} {S:List Int} {V:List (List an)} {u0 u1 u2 u3 v:Value} {w w':World} {xs xs':List Value}
theorem bH (w:World) (x y:Value) (t:TypeId):∀j u,[x,y][j]?=some u→(w.alloc (.cells #[x,y] t)).cell? ((⟨w.heap.size,0,none⟩:Addr).add j)=some u:=by
 intro j u f;rw [De,C6];match j,f with
 | 0,f=>simp at f;subst f;simp
 | 1,f=>simp at f;subst f;simp
theorem dV (w:World) (x:Value) (t:TypeId):∀j u,[x][j]?=some u→(w.alloc (.cells #[x] t)).cell? ((⟨w.heap.size,0,none⟩:Addr).add j)=some u:=by
 intro j u f;rw [De,C6];match j,f with
 | 0,f=>simp at f;subst f;simp
theorem eC (h:w.ownsRow base T size v n xs) (hb:base'≤base):w.ownsRow base' T size v n xs:=by
 refine ⟨h.1,?_⟩;rcases h.2 with h2 | ⟨g,f,m,hv,hg,r⟩
 · exact Or.inl h2
 · exact Or.inr ⟨g,f,m,hv,C8 hb hg,r⟩
theorem aO {m r:Nat} (h:w.ownsRow base e size (sL g m r) n xs):∃sz,au w g e sz:=by
 rcases h.2 with ⟨f,_⟩ | ⟨g',t,s,f,_,hg,_,_,hs,_⟩
 · simp at f
 · simp only [Value.slice.injEq,Er,Addr.mk.injEq,and_true] at f;obtain ⟨rfl,_⟩:=f;exact ⟨_,s,hg,rfl⟩
def bh (base:Nat) (w:World) (g n c:Nat) (B:List an):Prop :=
 B.length=n∧(∀p ∈ B,(Lit.int .i64 p.2).wf=true)∧∃xs,w.ownsRow base 63 2 (sL g n c) n xs∧∀(i:Nat) (p:an),B[i]?=some p→∃e d,xs[i*2]?=some (sL e p.1.length d)∧xs[i*2+1]?=some (iT p.2)∧af w base e p.1.length d p.1
theorem bh.below {B:List an} (h:bh base w g n c B) (hb:Bl w w'):bh base w' g n c B:=by
 obtain ⟨h1,h2,xs,h3,h4⟩:=h;exact ⟨h1,h2,xs,h3.kept (row:=none) ⟨hb.os,hb.tape,hb.output,hb.size,fun k hk _=>hb.block k hk⟩ (.inr (by simp [Value.ownBlock])),fun i p hp=>by obtain ⟨e,d,a1,a2,a3⟩:=h4 i p hp;exact ⟨e,d,a1,a2,a3.below hb⟩⟩
theorem bh.mono {B:List an} (h:bh base w g n c B) (hb:base'≤base):bh base' w g n c B:=by
 obtain ⟨h1,h2,xs,h3,h4⟩:=h;exact ⟨h1,h2,xs,eC h3 hb,fun i p hp=>by obtain ⟨e,d,a1,a2,a3⟩:=h4 i p hp;exact ⟨e,d,a1,a2,a3.mono hb⟩⟩
theorem bh.lt {B:List an} (h:bh base w g n c B):base≤g∧g<w.heap.size:=by
 obtain ⟨_,_,xs,h3,_⟩:=h;exact h3.lt g rfl
theorem bh.grown {B:List an} (h:bh base w g n c B) (hG:au w G T sz) (r:T≠63) (s:T≠50) (hg:w.grownBy w' (some G)):bh base w' g n c B:=by
 obtain ⟨h1,h2,xs,h3,h4⟩:=h;obtain ⟨u,k3⟩:=aO h3;refine ⟨h1,h2,xs,h3.kept hg (.inr ?_),fun i p hp=>?_⟩
 · intro e;have m:g=G:=by simpa [Value.ownBlock] using e
   subst m;exact r (hG.kind k3)
 · obtain ⟨e,d,a1,a2,a3⟩:=h4 i p hp;obtain ⟨x,t⟩:=aO a3.owns;refine ⟨e,d,a1,a2,a3.grown hg (fun m=>?_)⟩;have f:e=G:=CZ m;subst f;exact s (hG.kind t)
theorem gk {B:List an} {m:Int} (h1:B.length=n) (h2:∀p ∈ B,(Lit.int .i64 p.2).wf=true) (h3:w.ownsRow base 63 2 (sL g n c) n xs)
 (h4:∀(i:Nat) (p:an),B[i]?=some p→∃e d,xs[i*2]?=some (sL e p.1.length d)∧xs[i*2+1]?=some (iT p.2)∧af w base e p.1.length d p.1)
 (hL:af w base e L.length d L) (hm:(Lit.int .i64 m).wf=true) (hg:w.grownBy w' (some g)) (ho:w'.ownsRow base 63 2 (sL g' (n+1) c') (n+1) (xs++[sL e L.length d,iT m])):bh base w' g' (n+1) c' (B++[(L,m)]):=by
 obtain ⟨D,k3⟩:=aO h3;have f:∀{e d:Nat} {L:List ac},af w base e L.length d L→af w' base e L.length d L:=fun {e d L} hO=>by
  obtain ⟨E,A⟩:=aO hO.owns;refine hO.grown hg (fun x=>?_);have r:e=g:=CZ x;subst r;exact absurd (k3.kind A) (by decide)
 have u:=h3.1;refine ⟨by rw [CW,h1];rfl,fun p hp=>?_,_,ho,fun i p hp=>?_⟩
 · rcases Dd.1 hp with h | h
   · exact h2 p h
   · rw [Df] at h;subst h;exact hm
 · by_cases hi:i<B.length
   · rw [C7 hi] at hp;obtain ⟨C,y,a1,a2,a3⟩:=h4 i p hp;exact ⟨C,y,by rw [C7 (by omega)];exact a1,by rw [C7 (by omega)];exact a2,f a3⟩
   · have t:=(Cx.1 hp).1;rw [CW] at t;have s:i=B.length:=by have:[(L,m)].length=1:=rfl;omega
     subst s;rw [CU (Cy _),Eg] at hp;cases hp;refine ⟨e,d,?_,?_,f hL⟩
     · rw [CU (by omega),show B.length*2 - xs.length=0 by omega];rfl
     · rw [CU (by omega),show B.length*2+1 - xs.length=1 by omega];rfl
theorem bh.runsIn {B:List an} (h:bh base w g n c B):ay base w (pT g) n c B:=by
 obtain ⟨h1,h2,xs,h3,h4⟩:=h;have f:=cQ h3;refine ⟨h1,f.1,f.2,(fun e=>by cases e),?_,?_⟩
 · rintro x e _;cases e;exact ⟨(h3.lt g rfl).2,rfl,(h3.lt g rfl).1⟩
 · rintro x e i hi;cases e;obtain ⟨r,m,a1,a2,a3⟩:=h4 i _ (j' hi);refine ⟨h2 _ (Dq hi),_,_,_,?_,?_,a3.entsAt,fun x e _=>by cases e;exact a3.lt.1⟩
   · simp only [C6];exact (h3.cellAt _ (by omega)).trans a1
   · simp only [C6];exact (h3.cellAt _ (by omega)).trans a2
def tY (xs:List Value):Prop:=∀(i j gi ni di gj nj dj:Nat),i<j→xs[i]?=some (sL gi ni di)→xs[j]?=some (sL gj nj dj)→gi≠gj
theorem vm (h:tY xs) (hl:∀(i f s r:Nat),xs[i]?=some (sL f s r)→f≠g):tY (xs++[sL g n d]):=by
 intro i j f s r y B A t hi m;have u:=(Cx.1 m).1;rw [CW] at u;have h1:([sL g n d]:List Value).length=1:=rfl;rw [C7 (by omega)] at hi;by_cases hx:j<xs.length
 · rw [C7 hx] at m;exact h i j f s r y B A t hi m
 · have x:j=xs.length:=by omega
   subst x;rw [CU (Cy _),Eg] at m;cases m;exact hl i f s r hi
def dQ (base:Nat) (w:World) (G n c:Nat) (V:List (List an)):Prop :=
 V.length=n∧∃xs,w.ownsRow base 61 1 (sL G n c) n xs∧(∀(i:Nat) (B:List an),V[i]?=some B→∃g d,xs[i]?=some (sL g B.length d)∧bh base w g B.length d B)∧tY xs
theorem dQ.below (h:dQ base w g n c V) (hb:Bl w w'):dQ base w' g n c V:=by
 obtain ⟨h1,xs,h3,h4,h5⟩:=h;exact ⟨h1,xs,h3.kept (row:=none) ⟨hb.os,hb.tape,hb.output,hb.size,fun k hk _=>hb.block k hk⟩ (.inr (by simp [Value.ownBlock])),(fun i p hp=>by obtain ⟨e,d,a1,a3⟩:=h4 i p hp;exact ⟨e,d,a1,a3.below hb⟩),h5⟩
theorem uM {B:List an} (h1:V.length=n) (h3:w.ownsRow base 61 1 (sL g n c) n xs)
 (h4:∀(i:Nat) (B:List an),V[i]?=some B→∃g d,xs[i]?=some (sL g B.length d)∧bh base w g B.length d B)
 (hL:bh base w e B.length d B) (hg:w.grownBy w' (some g)) (ho:w'.ownsRow base 61 1 (sL g' (n+1) c') (n+1) (xs++[sL e B.length d])) (hd:tY xs) (hl:∀(i r x t:Nat),xs[i]?=some (sL r x t)→r≠e):dQ base w' g' (n+1) c' (V++[B]):=by
 obtain ⟨A,k3⟩:=aO h3;have s:=h3.1;refine ⟨by rw [CW,h1];rfl,_,ho,fun i p hp=>?_,vm hd hl⟩;by_cases hi:i<V.length
 · rw [C7 hi] at hp;obtain ⟨y,u,a1,a3⟩:=h4 i p hp;exact ⟨y,u,by rw [C7 (by omega)];exact a1,a3.grown k3 (by decide) (by decide) hg⟩
 · have m:=(Cx.1 hp).1;rw [CW] at m;have f:i=V.length:=by have:[B].length=1:=rfl;omega
   subst f;rw [CU (Cy _),Eg] at hp;cases hp;exact ⟨e,d,by rw [CU (by omega),show V.length - xs.length=0 by omega];rfl,hL.grown k3 (by decide) (by decide) hg⟩
theorem dQ.grown (h:dQ base w g n c V) (hG:au w G T sz) (t0:T≠61) (f:T≠63) (r:T≠50) (hg:w.grownBy w' (some G)):dQ base w' g n c V:=by
 obtain ⟨h1,xs,h3,h4,h5⟩:=h;obtain ⟨s,k3⟩:=aO h3;refine ⟨h1,xs,h3.kept hg (.inr ?_),(fun i p hp=>by obtain ⟨e,d,a1,a3⟩:=h4 i p hp;exact ⟨e,d,a1,a3.grown hG f r hg⟩),h5⟩;intro e;have m:g=G:=by simpa [Value.ownBlock] using e
 subst m;exact t0 (hG.kind k3)
theorem dQ.mono (h:dQ base w g n c V) (hb:base'≤base):dQ base' w g n c V:=by
 obtain ⟨h1,xs,h3,h4,h5⟩:=h;exact ⟨h1,xs,eC h3 hb,(fun i p hp=>by obtain ⟨e,d,a1,a3⟩:=h4 i p hp;exact ⟨e,d,a1,a3.mono hb⟩),h5⟩
theorem dQ.levelsIn (h:dQ base w g n c V):cG base w (pT g) n c V:=by
 obtain ⟨h1,xs,h3,h4,_⟩:=h;have f:=cQ h3;refine ⟨h1,f.1,f.2,(fun e=>by cases e),?_,?_⟩
 · rintro x e _;cases e;exact ⟨(h3.lt g rfl).2,rfl,(h3.lt g rfl).1⟩
 · rintro x e i hi;cases e;obtain ⟨r,m,a1,a3⟩:=h4 i _ (j' hi);refine ⟨_,_,_,?_,a3.runsIn⟩;simp only [C6];exact (h3.cellAt _ (by omega)).trans a1
theorem nS (lo:Nat) (a:Option Addr) (nv cv:Nat) (V:List (List an)) (w:World) (hV:cG lo w a nv cv V) (cp:nv≤100) (hS:∀B ∈ V,B.length≤100∧∀r ∈ B,1≤r.1.length∧r.1.length≤10000) :
 Calls Tryz.prog 120 #[.slice a nv cv] w fun e w'=>∃G c,e=.returned (sL G nv c)∧dQ w.heap.size w' G nv c V∧Bl w w':=by
 have bC:CG (V.length=nv):=hV.length;have HV:=bO hV;have HS:=bO hS;clear hV hS;obtain ⟨i0,hi,bT,bp,br⟩:=info_parts Tryz.infoEnt;obtain ⟨j0,hj,bK,bP,bE⟩:=info_parts Tryz.infoRun;obtain ⟨l0,hl,bt,bm,Q⟩:=info_parts Tryz.infoRunL;have b0:CG (dQ w.heap.size (w.alloc (.cells #[] 61)) w.heap.size 0 0 (V.take 0)):=by
  have:=Do (base:=w.heap.size) (e:=61) (size:=1) w #[] 0 (Cy _) (by simp) (by simp);exact ⟨by simp,_,this,(fun i B hB=>by simp at hB),fun i j gi ni di gj nj dj _ hi _=>by simp at hi⟩
 have aW:Bl w (w.alloc (.cells #[] 61)):=bZ;go_enter Tryz.func120,Tryz.ntmps120
 go_wp2;go_loopw [3,4] (fun o iv wr=>∃(i G c:Nat),i≤nv∧iv=iT i∧o=sL G i c∧dQ w.heap.size wr G i c (V.take i)∧Bl w wr) (fun _ iv _=>nv - (intOf iv).toNat)
 case atStart=>exact ⟨0,_,0,C3 _,rfl,rfl,b0.o,aW⟩
 case round =>
  clear b0 aW;obtain ⟨i,G,c0,cn,rfl,rfl,b6,a0⟩:=hrel;have a2:CG (dQ w.heap.size wr G i c0 (V.take i)):=b6;have E:CG (Bl w wr):=a0;clear b6;by_cases bL:i<nv
  · have b5:(i:Int)<(nv:Int):=by omega
    obtain ⟨b,ab,rfl,b8⟩:=HV.o.form (by omega);obtain ⟨B,aB,nB,cB,hB,gB,ap⟩:=HV.o.level (Below.refl _ w) i bL;have bF:CG (V[i]?=some B):=hB;have ba:CG (B.length≤100∧∀r ∈ B,1≤r.1.length∧r.1.length≤10000):=HS.o B (CV hB);have ac:CG (B.length=nB):=ap.length;have aX:CG (ay lo w aB nB cB B):=ap;have bn:CG (w.cell? ⟨b,ab+i,none⟩=some (.slice aB nB cB)):=gB;have cd:nB≤100:=by have:=ba.o.1;have:=ac.o;omega
    clear hB gB ap a0;go_upto_region 6 with fail
    obtain ⟨t,A⟩:=aH wr.heap.size;obtain ⟨wq,Y⟩:=aH (wr.alloc (.cells #[] 63));have kq:Bl wr wq:=by rw [Y];exact bZ
    have aS:CG (bh t wq t 0 0 (B.take 0)):=by
     have:=Do (base:=wr.heap.size) (e:=63) (size:=2) wr #[] 0 (Cy _) (by simp) (by simp);rw [Y,A];exact ⟨by simp,fun p hp=>by simp at hp,_,this,fun i B hB=>by simp at hB⟩
    have ae:CG (Below t wr wq):=by rw [A];exact kq
    have u:CG (w.heap.size≤t∧t=wr.heap.size):=⟨by rw [A];exact E.o.size,A⟩;rw [← Y,← A];clear Y A kq;obtain ⟨Wq,aK⟩:=aH wr;rw [← aK] at a2 E ae u;clear aK;go_wp2;go_loopw [5,6] (fun o kv wr=>∃(j g c:Nat),j≤nB∧kv=iT j∧o=sL g j c∧bh t wr g j c (B.take j)∧Below t Wq wr) (fun _ kv _=>nB - (intOf kv).toNat)
    case atStart=>exact ⟨0,_,0,C3 _,rfl,rfl,aS.o,ae.o⟩
    case round =>
     clear aS ae;obtain ⟨j,g,c,ca,rfl,rfl,ar,N⟩:=hrel;have am:CG (bh t wr g j c (B.take j)):=ar;have b3:CG (Below t Wq wr):=N;have aj:CG (t≤g):=ar.lt.1;have y:Bl w wr:=E.o.trans (N.mono u.o.1);have U:CG (t≤wr.heap.size):=by have h1:=u.o.2;have h2:=N.size;show t≤_;omega
     have tl:=cell_later y bn.o;have zb:=l' b8 y.size;clear ar N;by_cases bq:j<nB
     · have aO:(j:Int)<(nB:Int):=by omega
       obtain ⟨rb,ro,rfl,aq⟩:=aX.o.form (by omega);obtain ⟨L,mm,s,m,d,au,aI,r0,r1,R⟩:=aX.o.run y j bq;have bQ:CG (B[j]?=some (L,mm)):=au;have bs:CG ((Lit.int .i64 mm).wf=true):=aI;have hsz:=ba.o.2 _ (CV au);simp only at hsz;have H:CG (L.length=m):=R.1.length;have hm:1≤m∧m≤10000:=by have:=H.o;omega
       obtain ⟨sb,so,rfl,bA⟩:=R.1.form (by omega);have aY:CG (ag wr (some ⟨sb,so,none⟩) m d L):=R.1;have zr:=l' aq y.size;have k0:Bl wr wr.drew:=(Below.refl _ wr).drew;have O:CG (∀w',Bl wr w'→(fun w'=>w'.cell? ⟨b,ab+i,none⟩=some (sO rb ro nB cB)∧w'.cell? ⟨rb,ro+j*2,none⟩=some (sO sb so m d)∧w'.cell? ⟨rb,ro+j*2+1,none⟩=some (iT mm)∧b<w'.heap.size∧rb<w'.heap.size) w'):=fun w' I=>⟨cell_later I tl,cell_later I r0,cell_later I r1,l' zb I.size,l' zr I.size⟩
       have aJ:CG (∀(wb w':World),wb.grownBy w' (some g)→Bl wr wb→(fun w'=>w'.cell? ⟨b,ab+i,none⟩=some (sO rb ro nB cB)∧w'.cell? ⟨rb,ro+j*2,none⟩=some (sO sb so m d)∧w'.cell? ⟨rb,ro+j*2+1,none⟩=some (iT mm)∧b<w'.heap.size∧rb<w'.heap.size) w'):=fun wb w' hg I=>by
        have cj:=aj.o;have cb:=u.o;have a0:=E.o.size;have av:∀{x:Nat},x<w.heap.size→some x≠some g:=fun {x} hx e=>by have:=CZ e;omega
        exact ⟨hg.cell (cell_later I tl) (av b8),hg.cell (cell_later I r0) (av aq),hg.cell (cell_later I r1) (av aq),l' zb (C8 I.size hg.size),l' zr (C8 I.size hg.size)⟩
       clear au aI R hsz bA;go_wp2_with fail
       clear tl r0 r1 zr zb;refine ez O k0 fun F=>?_
       generalize wr.drew=wd at k0 F ⊢;refine aP 0 1 F ?_;refine aP 2 8 F ?_;refine aP 11 8 F ?_;refine aR 1 fun K hK=>?_
       go_simp;have aZ:Bl wd (wd.alloc (.cells #[] 50)):=bZ;have oa:=bI wd wr.heap.size k0.size;have J:=k0.trans (aZ.mono k0.size);have al:wr.heap.size≤wd.heap.size:=k0.size;generalize wd.heap.size=ga at oa al ⊢;generalize wd.alloc (.cells #[] 50)=wa at oa J ⊢;clear aZ;refine hK.o _ _ (O.o _ J) fun F=>?_
       (try go_frame);refine aR 10 fun K hK=>?_
       refine aw rfl (.tmp 25) (.tmp 33) 28 rfl wr.heap.size 50 i0 _ 5 56 Tryz.underlying28 hi bT bp br rfl (Dz 4) _ _ _ rfl oa.owns ⟨sb,so,none⟩ m d (aC L) rfl (by rw [aU,H.o]) (iK (aY.o.keep J)) (aL _) ?_ ?_ ?_ ?_
       · unfold maxLen;omega
       · omega
       · exact J.size
       intro v1 w1 ad b4 aG;obtain ⟨e1,d1,rfl⟩:=aF ad aG;have a4:wa.grownBy w1 (some ga):=b4;have k1:Bl wr w1:=J.grown a4 J.size (fun k e=>by cases e;exact al);have o1:af w1 wr.heap.size e1 m d1 L:=⟨by have h1:=ad;rw [C6] at h1;simpa [aC] using h1,H.o,aY.o.ents⟩;rw [C6];clear ad b4 aG a4 oa al J;refine hK.o _ _ (O.o _ k1) fun F=>?_
       (try go_frame);refine aP 19 1 F ?_;refine aR 20 fun K hK=>?_
       go_simp;have ai:Bl w1 (w1.alloc (.cells #[sL e1 m d1,iT mm] 63)):=bZ;have kb:=k1.trans (ai.mono k1.size);have ob:=o1.below ai;have nw:=bH w1 (sL e1 m d1) (iT mm) 63;generalize w1.heap.size=gb at nw ⊢;generalize w1.alloc (.cells #[sL e1 m d1,iT mm] 63)=wb at kb ob nw ⊢;clear ai;refine hK.o _ _ (O.o _ kb) fun F=>?_
       (try go_frame);refine aR 21 fun K hK=>?_
       obtain ⟨b2,b1,ch,a8,Q⟩:=am.o.below kb;refine aw rfl (.tmp 24) (.tmp 44) 61 rfl t 63 j0 _ 2 32 Tryz.underlying61 hj bK bP bE rfl (Dz 1) _ _ _ rfl a8 ⟨gb,0,none⟩ 1 1 [sL e1 m d1,iT mm] rfl rfl nw (by simp [Value.oneCell']) ?_ ?_ ?_ ?_
       · unfold maxLen;omega
       · omega
       · have h1:=kb.size;have h2:=U.o;omega
       intro v2 w2 ao C aT;obtain ⟨g2,c2,rfl⟩:=aF ao aT;have C:wb.grownBy w2 (some g):=C;have b9:=gk (L:=L) b2 b1 a8 Q (by rw [H.o];exact ob.mono U.o) bs.o C (by rw [H.o];exact ao);have k2:=(b3.o.trans (kb.mono U.o)).grown C (C8 U.o kb.size) (fun k e=>by cases e;exact aj.o);refine hK.o _ _ (aJ.o _ w2 C kb) fun F=>?_
       (try go_frame);refine aP 22 1 F ?_;refine dN ?_;have bJ:CG (bh t w2 g2 (j+1) c2 (B.take (j+1))):=by rw [Dl,bQ.o];exact b9
       have bR:CG (Below t Wq w2):=k2;clear F b9 k2 ao C aT b2 b1 a8 Q kb ob nw k1 o1 k0;go_wp2;go_roundw
       case rel=>exact ⟨j+1,g2,c2,by omega,by go_num,rfl,bJ.o,bR.o⟩
       case measure=>simp [intOf];omega
     · have aO:¬(j:Int)<(nB:Int):=by omega
       obtain rfl:j=nB:=by omega
       have kx:Bl Wq wr:=by have h1:=b3.o;rw [u.o.2] at h1;exact h1
       obtain ⟨q1,xs,p2,p3,p4⟩:=a2.o;have aE:CG (∀(W gi ni di:Nat),xs[W]?=some (sL gi ni di)→gi≠g):=fun W gi ni di hx=>by
        have ck:=(Cx.1 hx).1;have c9:=p2.1;obtain ⟨B',bN⟩:∃B',(V.take i)[W]?=some B':=⟨_,j' (by rw [q1];omega)⟩;obtain ⟨g',d',a1,a3⟩:=p3 W B' bN;rw [hx] at a1;cases a1;have h1:=a3.lt.2;have h2:=aj.o;have h3:=u.o.2;omega
       have bS:CG (bh w.heap.size wr g j c B):=by
        have h1:=am.o.mono u.o.1;rw [C9 (by rw [ac.o];omega)] at h1;exact h1
       have aM:CG (Bl w wr):=y;have wi:IntKind.i64.wrap ((i:Int)+1)=((i+1:Nat):Int):=by rw [Dg];unfold wrap64;omega
       clear a2 am;have bB:CG (tY xs):=p4;have J:Bl wr (wr.alloc (.cells #[sL g j c] 61)):=bZ;have f:=kx.trans (J.mono kx.size);have q2:=p2.kept (row:=none) ⟨f.os,f.tape,f.output,f.size,fun k hk _=>f.block k hk⟩ (.inr (by simp [Value.ownBlock]));have q3:∀(W:Nat) (B:List an),(V.take i)[W]?=some B→∃e d,xs[W]?=some (sL e B.length d)∧bh w.heap.size (wr.alloc (.cells #[sL g j c] 61)) e B.length d B:=fun W B hB=>by obtain ⟨g',d',a1,a3⟩:=p3 W B hB;exact ⟨g',d',a1,a3.below f⟩
       clear p2 p3 p4 kx f;have HQ:CG (_∧_):=⟨q2,q3⟩;have cg:=y.size;clear y;go_wp2_with (at_builtin;refine wpList_append_own _ rfl _ _ 29 rfl w.heap.size 61 l0 _ 1 24 Tryz.underlying29 hl bt bm Q rfl (by decide) _ _ _ rfl HQ.o.1 ⟨wr.heap.size,0,none⟩ 1 1 [sL g j c] rfl rfl (dV _ _ _) (by simp [Value.oneCell']) (by unfold maxLen;omega) (by omega) (by simp;omega) ?_;intro v2 w2 D Z ak;obtain ⟨g2,c2,rfl⟩:=aF D ak)
       go_roundw
       case rel =>
        have aV:(wr.alloc (.cells #[sL g j c] 61)).grownBy w2 (some G):=Z;have aN:=ac.o;have a9:=uM (B:=B) q1 HQ.o.1 HQ.o.2 (by rw [aN];exact bS.o.below J) aV (by rw [aN];exact D) bB.o aE.o;refine ⟨i+1,g2,c2,by omega,by go_num,rfl,by rw [Dl,bF.o];exact a9,?_⟩;exact (aM.o.alloc aM.o.size _).grown aV (by simp;omega) (fun k e=>by cases e;exact (HQ.o.1.lt G rfl).1)
       case measure=>simp [intOf];omega
  · have b5:¬(i:Int)<(nv:Int):=by omega
    obtain rfl:i=nv:=by omega
    have bU:CG (dQ w.heap.size wr G i c0 V):=by
     have:=a2.o;rw [C9 (by rw [bC.o];omega)] at this;exact this
    clear a0;go_wp2;go_ret;exact ⟨G,c0,rfl,bU.o,E.o⟩
structure az (w:World) (b:Nat) (u0 u1 u2 u3:Value):Prop where
 c0:w.cell? ⟨b,0,none⟩=some u0
 c1:w.cell? ⟨b,1,none⟩=some u1
 c2:w.cell? ⟨b,2,none⟩=some u2
 c3:w.cell? ⟨b,3,none⟩=some u3
 fz:∀o,w.frozen? ⟨b,o,none⟩=false
theorem az.lt (h:az w b u0 u1 u2 u3):b<w.heap.size:=Cz w _ h.c0
theorem az.all(h:az w b u0 u1 u2 u3):w.cell? ⟨b,0,none⟩=some u0∧w.cell? ⟨b,1,none⟩=some u1∧w.cell? ⟨b,2,none⟩=some u2∧w.cell? ⟨b,3,none⟩=some u3∧(∀o,w.frozen? ⟨b,o,none⟩=false)∧b<w.heap.size:=⟨h.c0,h.c1,h.c2,h.c3,h.fz,h.lt⟩
theorem az.new (w:World) (t:TypeId) (u0 u1 u2 u3:Value):az (w.alloc (.cells #[u0,u1,u2,u3] t)) w.heap.size u0 u1 u2 u3:=⟨by simp,by simp,by simp,by simp,fun o=>by simp⟩
theorem az.below {B:Nat} (h:az w b u0 u1 u2 u3) (hb:Below B w w') (hB:b<B):az w' b u0 u1 u2 u3 :=
 ⟨(hb.cell (p:=⟨b,0,none⟩) hB).trans h.c0,(hb.cell (p:=⟨b,1,none⟩) hB).trans h.c1,(hb.cell (p:=⟨b,2,none⟩) hB).trans h.c2,(hb.cell (p:=⟨b,3,none⟩) hB).trans h.c3,fun o=>(hb.frozen (p:=⟨b,o,none⟩) hB).trans (h.fz o)⟩
theorem az.keep (h:az w b u0 u1 u2 u3) (hb:Bl w w'):az w' b u0 u1 u2 u3:=h.below hb h.lt
theorem az.alloc (h:az w b u0 u1 u2 u3) (o:Obj):az (w.alloc o) b u0 u1 u2 u3:=h.keep bZ
theorem aq {b' f:Nat} (x:Value) (h:¬(b=b'∧o=f)):(w.setCell ⟨b',f,none⟩ x).cell? ⟨b,o,none⟩=w.cell? ⟨b,o,none⟩ :=
 u' _ _ _ _ (fun e=>h (by cases e;exact ⟨rfl,rfl⟩))
theorem az.other (h:az w b u0 u1 u2 u3) {b' o:Nat} (hp:b'≠b) (x:Value):az (w.setCell ⟨b',o,none⟩ x) b u0 u1 u2 u3 :=
 ⟨(aq x (fun e=>hp e.1.symm)).trans h.c0,(aq x (fun e=>hp e.1.symm)).trans h.c1,(aq x (fun e=>hp e.1.symm)).trans h.c2,(aq x (fun e=>hp e.1.symm)).trans h.c3,fun o=>by rw [Dj];exact h.fz o⟩
theorem az.set0 (h:az w b u0 u1 u2 u3) (x:Value):az (w.setCell ⟨b,0,none⟩ x) b x u1 u2 u3 :=
 ⟨C4 _ _ _ (by rw [h.c0];rfl),(aq x (by simp)).trans h.c1,(aq x (by simp)).trans h.c2,(aq x (by simp)).trans h.c3,fun o=>by rw [Dj];exact h.fz o⟩
theorem az.set1 (h:az w b u0 u1 u2 u3) (x:Value):az (w.setCell ⟨b,1,none⟩ x) b u0 x u2 u3 :=
 ⟨(aq x (by simp)).trans h.c0,C4 _ _ _ (by rw [h.c1];rfl),(aq x (by simp)).trans h.c2,(aq x (by simp)).trans h.c3,fun o=>by rw [Dj];exact h.fz o⟩
theorem az.set2 (h:az w b u0 u1 u2 u3) (x:Value):az (w.setCell ⟨b,2,none⟩ x) b u0 u1 x u3 :=
 ⟨(aq x (by simp)).trans h.c0,(aq x (by simp)).trans h.c1,C4 _ _ _ (by rw [h.c2];rfl),(aq x (by simp)).trans h.c3,fun o=>by rw [Dj];exact h.fz o⟩
theorem az.set3 (h:az w b u0 u1 u2 u3) (x:Value):az (w.setCell ⟨b,3,none⟩ x) b u0 u1 u2 x :=
 ⟨(aq x (by simp)).trans h.c0,(aq x (by simp)).trans h.c1,(aq x (by simp)).trans h.c2,C4 _ _ _ (by rw [h.c3];rfl),fun o=>by rw [Dj];exact h.fz o⟩
theorem dx {m:Nat} (h:w.ownsRow base T size (sL g m c) n xs) (hb:Bl w w'):w'.ownsRow base T size (sL g m c) n xs:=h.kept (row:=none) ⟨hb.os,hb.tape,hb.output,hb.size,fun k hk _=>hb.block k hk⟩ (.inr (by simp [Value.ownBlock]))
theorem co {m:Nat} (h:w.ownsRow base T size (sL g m c) n xs) (f:w.ownsRow base' T' size' (sL g' m' c') n' xs') (r:T≠T') (hg:w.grownBy w' (some g')):w'.ownsRow base T size (sL g m c) n xs:=by
 refine h.kept hg (.inr fun e=>?_);have s:g=g':=by simpa [Value.ownBlock] using e
 subst s;obtain ⟨_,k1⟩:=aO h;obtain ⟨_,k2⟩:=aO f;exact r (k1.kind k2)
theorem dy (h:af w base g n c L) (f:w.ownsRow base' T' size' (sL g' m' c') n' xs') (m:50≠T') (hg:w.grownBy w' (some g')):af w' base g n c L:=⟨co h.owns f m hg,h.len,h.ents⟩
theorem gq (h:dQ base w g n c V) (m:w.ownsRow base' T' size' (sL g' m' c') n' xs') (t0:T'≠61) (r:T'≠63) (f:T'≠50) (hg:w.grownBy w' (some g')):dQ base w' g n c V:=by
 obtain ⟨_,k⟩:=aO m;exact h.grown k t0 r f hg
theorem xB (h:bQ lo w (some ⟨b,o,none⟩) n c S):∀j u,(S.map iT)[j]?=some u→w.cell? ((⟨b,o,none⟩:Addr).add j)=some u:=by
 intro j u m;rw [De];rw [EK] at m;cases hx:S[j]? with
 | none=>rw [hx] at m;cases m
 | some z =>
  rw [hx] at m;cases m;have r:j<n:=by rw [← h.length];exact (Cx.1 hx).1
  obtain ⟨t,f,_,s⟩:=h.num (Below.refl _ w) j r;rw [hx] at f;cases f;exact s
structure cE (base:Nat) (w:World) (g1 nm c1 G nv c g3 ns c3:Nat) (M:List ac) (V:List (List an)) (S:List Int):Prop where
 mem:af w base g1 nm c1 M
 levs:dQ base w G nv c V
 slen:S.length=ns
 swf:∀z ∈ S,(Lit.int .i64 z).wf=true
 sn:w.ownsRow base 3 1 (sL g3 ns c3) ns (S.map iT)
theorem cE.below (h:cE base w g1 nm c1 G nv c g3 ns c3 M V S) (hb:Bl w w'):cE base w' g1 nm c1 G nv c g3 ns c3 M V S:=⟨h.mem.below hb,h.levs.below hb,h.slen,h.swf,dx h.sn hb⟩
theorem cE.mono (h:cE base w g1 nm c1 G nv c g3 ns c3 M V S) (hb:base'≤base):cE base' w g1 nm c1 G nv c g3 ns c3 M V S:=⟨h.mem.mono hb,h.levs.mono hb,h.slen,h.swf,eC h.sn hb⟩
theorem bh.low {B:List an} (h:bh base w g n c B) (m:X<base) (hg:w.grownBy w' (some X)):bh base w' g n c B:=by
 obtain ⟨h1,h2,xs,h3,h4⟩:=h;refine ⟨h1,h2,xs,h3.kept hg (.inr fun e=>?_),fun i p hp=>?_⟩
 · have f:g=X:=by simpa [Value.ownBlock] using e
   have:=(h3.lt g rfl).1;omega
 · obtain ⟨e,d,a1,a2,a3⟩:=h4 i p hp;exact ⟨e,d,a1,a2,a3.grown hg (fun f=>by have h5:e=X:=CZ f;have:=a3.lt.1;omega)⟩
theorem cE.low (h:cE base w g1 nm c1 G nv c g3 ns c3 M V S) (f:X<base) (hg:w.grownBy w' (some X)):cE base w' g1 nm c1 G nv c g3 ns c3 M V S:=by
 have hk:∀{T size n m g c:Nat} {xs:List Value},w.ownsRow base T size (sL g m c) n xs→w'.ownsRow base T size (sL g m c) n xs:=fun {T size n m g c xs} h3=>h3.kept hg (.inr fun e=>by
  have r:g=X:=by simpa [Value.ownBlock] using e
  have:=(h3.lt g rfl).1;omega)
 obtain ⟨h1,xs,h3,h4,h5⟩:=h.levs;exact ⟨⟨hk h.mem.owns,h.mem.len,h.mem.ents⟩,⟨h1,xs,hk h3,(fun i p hp=>by obtain ⟨e,d,a1,a3⟩:=h4 i p hp;exact ⟨e,d,a1,a3.low f hg⟩),h5⟩,h.slen,h.swf,hk h.sn⟩
theorem cq (w:World) (g o:Nat) (u:Value):w.grownBy (w.setCell ⟨g,o,none⟩ u) (some g):=⟨rfl,rfl,rfl,by simp [World.setCell],fun k _ hk=>Below.heap_setCell _ _ _ _ (fun e=>hk (by rw [e]))⟩
theorem cE.four (h:cE base w g1 nm c1 G nv c g3 ns c3 M V S) (f:X<base) (u0 u1 u2 u3:Value):cE base ((((w.setCell ⟨X,0,none⟩ u0).setCell ⟨X,1,none⟩ u1).setCell ⟨X,2,none⟩ u2).setCell ⟨X,3,none⟩ u3) g1 nm c1 G nv c g3 ns c3 M V S :=
 (((h.low f (cq _ _ _ _)).low f (cq _ _ _ _)).low f (cq _ _ _ _)).low f (cq _ _ _ _)
theorem cE.treeIn (h:cE base w g1 nm c1 G nv c g3 ns c3 M V S):b6 base w (pT g1) nm c1 (pT G) nv c (pT g3) ns c3 M V S:=by
 have f:=cQ h.sn;have hl:=h.slen;refine ⟨⟨h.mem.entsAt,fun x e _=>by cases e;exact h.mem.lt.1⟩,h.levs.levelsIn,⟨h.slen,f.1,f.2,h.swf,(fun e=>by cases e),?_,?_⟩⟩
 · rintro x e _;cases e;exact ⟨(h.sn.lt g3 rfl).2,rfl,(h.sn.lt g3 rfl).1⟩
 · rintro x e i hi;cases e;simp only [C6];have h1:=h.sn.cellAt i (by omega);rw [EK,j' hi] at h1;exact h1
def mQ (w:World) (v:Value) (n:Nat) (xs:List Value):Prop :=
 xs.length=n*2∧(∀u ∈ xs,u.oneCell'=true)∧((v=nZ∧n=0)∨∃b o c,v=sO b o n c∧∀j u,xs[j]?=some u→w.cell? ⟨b,o+j,none⟩=some u)
theorem mQ.keep (h:mQ w v n xs) (hb:Bl w w'):mQ w' v n xs:=by
 obtain ⟨h1,h2,h3⟩:=h;refine ⟨h1,h2,?_⟩;rcases h3 with h | ⟨b,o,c,hv,hc⟩
 · exact .inl h
 · exact .inr ⟨b,o,c,hv,fun j u f=>cell_later hb (hc j u f)⟩
def kP (w:World) (xs:List Value) (B:List an):Prop :=
 xs.length=B.length*2∧∀i (p:an),B[i]?=some p→(Lit.int .i64 p.2).wf=true∧∃s n c,xs[i*2]?=some (.slice s n c)∧xs[i*2+1]?=some (iT p.2)∧eW 0 w s n c p.1
theorem kP.keep {B:List an} (h:kP w xs B) (hb:Bl w w'):kP w' xs B :=
 ⟨h.1,fun i p hp=>by obtain ⟨h1,s,n,c,h2,h3,h4⟩:=h.2 i p hp;exact ⟨h1,s,n,c,h2,h3,h4.same (gJ.of_below hb)⟩⟩
theorem kP.one {B:List an} (h:kP w xs B):∀u ∈ xs,u.oneCell'=true:=by
 intro u m;obtain ⟨j,f,rfl⟩:=Du m;have hB:j / 2<B.length:=by have:=h.1;omega
 obtain ⟨_,s,n,c,h2,h3,_⟩:=h.2 (j / 2) _ (j' hB);rcases Nat.mod_two_eq_zero_or_one j with hm | hm
 · rw [show j / 2*2=j by omega,j' f] at h2;rw [CZ h2];rfl
 · rw [show j / 2*2+1=j by omega,j' f] at h3;rw [CZ h3];rfl
theorem kP.app {f:List Value} {A B:List an} (h:kP w xs A) (k:kP w f B):kP w (xs++f) (A++B):=by
 have hl:=h.1;have m:=k.1;refine ⟨by rw [CW,CW,hl,m];omega,fun i p hp=>?_⟩;by_cases hi:i<A.length
 · rw [C7 hi] at hp;rw [C7 (by omega),C7 (by omega)];exact h.2 i p hp
 · rw [CU (by omega)] at hp;rw [CU (by omega),CU (by omega),show i*2 - xs.length=(i - A.length)*2 by omega,show i*2+1 - xs.length=(i - A.length)*2+1 by omega];exact k.2 _ p hp
theorem iL {B:List an} (h:w.ownsRow base 63 2 v n xs) (d:kP w xs B):∃a c,v=.slice a n c∧ay 0 w a n c B:=by
 have hn:B.length=n:=by have h1:=h.1;have h2:=d.1;omega
 rcases h.2 with ⟨hv,h0⟩ | ⟨g,m,r,hv,_⟩
 · subst hv h0;obtain rfl:=DQ.1 hn;exact ⟨none,0,rfl,ut 0 w⟩
 · subst hv;have f:=cQ h;refine ⟨_,m,rfl,hn,f.1,f.2,(fun e=>by cases e),?_,?_⟩
   · rintro x e _;cases e;exact ⟨(h.lt g rfl).2,rfl,C3 _⟩
   · rintro x e i hi;cases e;obtain ⟨h1,s,n',c,h2,h3,h4⟩:=d.2 i _ (j' hi);refine ⟨h1,s,n',c,?_,?_,h4⟩
     · simp only [C6];exact (h.cellAt _ (by omega)).trans h2
     · simp only [C6];exact (h.cellAt _ (by omega)).trans h3
theorem ay.raw {B:List an} (h:ay lo w (some ⟨b,o,none⟩) n c B):∃xs,kP w xs B∧mQ w (sO b o n c) n xs:=by
 have hl:=h.length;refine ⟨(List.range (n*2)).map (fun j=>(w.cell? ⟨b,o+j,none⟩).getD (iT 0)),?_⟩;have hat:∀i (hi:i<B.length),(Lit.int .i64 B[i].2).wf=true∧∃s n' c',w.cell? ⟨b,o+i*2,none⟩=some (.slice s n' c')∧w.cell? ⟨b,o+(i*2+1),none⟩=some (iT B[i].2)∧eW lo w s n' c' B[i].1:=fun i hi=>by
  have:=h.runs _ rfl i hi;simpa [Eo] using this
 have hd:kP w ((List.range (n*2)).map (fun j=>(w.cell? ⟨b,o+j,none⟩).getD (iT 0))) B:=by
  refine ⟨by simp [hl],fun i p hp=>?_⟩;have hi:=(Cx.1 hp).1;have m:=(Cx.1 hp).2;obtain ⟨h1,s,n',c',h2,h3,h4⟩:=hat i hi;rw [m] at h1 h3 h4;refine ⟨h1,s,n',c',?_,?_,h4.mono (C3 _)⟩
  · rw [EK,List.getElem?_range (by omega)];simp [h2]
  · rw [EK,List.getElem?_range (by omega)];simp [h3]
 refine ⟨hd,by simp,hd.one,.inr ⟨b,o,c,rfl,fun j u f=>?_⟩⟩;have r:j<n*2:=by have:=(Cx.1 f).1;simpa using this
 rw [EK,List.getElem?_range r] at f;simp only [Option.map_some] at f;have hi:j / 2<B.length:=by omega
 obtain ⟨h1,s,n',c',h2,h3,h4⟩:=hat (j / 2) hi;rcases Nat.mod_two_eq_zero_or_one j with hm | hm
 · rw [show j / 2*2=j by omega] at h2;rw [h2] at f ⊢;simpa using f
 · rw [show j / 2*2+1=j by omega] at h3;rw [h3] at f ⊢;simpa using f
def Tryz.laysM316_ren : Go.Shelf.Ren := ⟨fun | 316 => 216 | n => n, fun | 9 => 9 | 3 => 3 | 4 => 4 | 37 => 38 | 0 => 0 | 127 => 247 | 5 => 5 | n => n, fun | n => n⟩
theorem Tryz.laysM316 : Go.Proofs.LaysM.n316 Tryz.prog Tryz.laysM316_ren := {
  mixed := by kernel_rfl
  f316 := Tryz.func216.trans (congrArg some (by kernel_rfl))
  t0 := Tryz.underlying0
  a0 := Tryz.isAgg0
  z0 := Tryz.sizeOf0
  v0 := Tryz.zeroValue0
  t3 := Tryz.underlying3
  a3 := Tryz.isAgg3
  z3 := Tryz.sizeOf3
  v3 := Tryz.zeroValue3
  t4 := Tryz.underlying4
  a4 := Tryz.isAgg4
  z4 := Tryz.sizeOf4
  v4 := Tryz.zeroValue4
  t9 := Tryz.underlying9
  a9 := Tryz.isAgg9
  z9 := Tryz.sizeOf9
  v9 := Tryz.zeroValue9
  t37 := Tryz.underlying38
  a37 := Tryz.isAgg38
  z37 := Tryz.sizeOf38
  v37 := Tryz.zeroValue38
  t127 := Tryz.underlying247
  a127 := Tryz.isAgg247
  z127 := Tryz.sizeOf247
  v127 := Tryz.zeroValue247
  t5 := Tryz.underlying5
  a5 := Tryz.isAgg5
  z5 := Tryz.sizeOf5
  v5 := Tryz.zeroValue5
  i0 := by kernel_rfl
  i3 := by kernel_rfl
  i4 := by kernel_rfl
  i5 := by kernel_rfl
  i9 := by kernel_rfl
  i37 := by kernel_rfl
  i127 := by kernel_rfl }
open Go.RowKit in
/-- internal/stringslite.Clone (what strings.Clone calls): "Clone returns a fresh copy of s.": THE SAME BYTES. Of what was there nothing has turned (a new row is laid, and frozen, where s is not empty). (LAID: no walk: one application.) -/
theorem Tryz.stringslite_Clone (s : ByteArray) (w : World) (f : s.size ≤ 281474976710656) :
    Calls Tryz.prog 216 #[.string s] w fun e w' => e = .returned (.string s) ∧ Below w.heap.size w w' := Any.stringslite_Clone Tryz.laysM316 s w f
end Go.Proofs.YtpobkmjicbobdaaGreat
