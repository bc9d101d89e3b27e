/- Walks. -/
import Derived.Test.YtpobkmjicbobdaaGreatBW09
import Derived.Laws.AppendOwnNone
import Derived.Lib.AppendZerosOnto
import Derived.Lib.AppendZeros
import Derived.Lib.SlBytesRow
namespace Go.Proofs.YtpobkmjicbobdaaGreat
set_option maxRecDepth 100000
set_option maxHeartbeats 40000000
open Go.RowKit
variable {G T T' X b base base' c c' c1 c3 d e g g' g1 g3 hi hi' j lo lo' m' n n' nm ns nv o size size' sz:Nat} {L M:List ac} {S:List Int} {V:List (List af)} {bs gs:Nat→Nat} {u0 u1 u2 u3 v:Value} {w w' w'' w1:World} {xs xs':List Value}
theorem bW (w:World) (x y:Value) (t:TypeId):∀j u,[x,y][j]?=some u→(w.alloc (.cells #[x,y] t)).cell? ((⟨w.heap.size,0,none⟩:Addr).add j)=some u:=by
 intro j u f;rw [G6,GT];match j,f with
 | 0,f=>simp at f;subst f;simp
 | 1,f=>simp at f;subst f;simp
theorem dU (w:World) (x:Value) (t:TypeId):∀j u,[x][j]?=some u→(w.alloc (.cells #[x] t)).cell? ((⟨w.heap.size,0,none⟩:Addr).add j)=some u:=by
 intro j u f;rw [G6,GT];match j,f with
 | 0,f=>simp at f;subst f;simp
theorem eN (h:w.ownsRow base T size v n xs) (hb:base'≤base):w.ownsRow base' T size v n xs:=by
 refine ⟨h.1,?_⟩;rcases h.2 with h2 | ⟨g,m,f,hv,hg,r⟩
 · exact Or.inl h2
 · exact Or.inr ⟨g,m,f,hv,GU hb hg,r⟩
theorem aQ {m r:Nat} (h:w.ownsRow base e size (sL g m r) n xs):∃sz,aq w g e sz:=by
 rcases h.2 with ⟨h',_⟩ | ⟨g',s,f,h',_,hg,_,_,hs,_⟩
 · simp at h'
 · simp only [Jn,Ix,Addr.mk.injEq,and_true] at h';obtain ⟨rfl,_⟩:=h';exact ⟨_,f,hg,rfl⟩
def bo (base:Nat) (w:World) (g n c:Nat) (B:List af):Prop :=
 B.length=n∧(∀p ∈ B,(Lit.int .i64 p.2).wf=true)∧∃xs,w.ownsRow base 63 2 (sL g n c) n xs∧∀(i:Nat) (p:af),B[i]?=some p→∃e d,xs[i*2]?=some (sL e p.1.length d)∧xs[i*2+1]?=some (iT p.2)∧ag w base e p.1.length d p.1
theorem bo.below {B:List af} (h:bo base w g n c B) (hb:Bl w w'):bo base w' g n c B:=by
 obtain ⟨h1,h2,xs,h3,h4⟩:=h;exact ⟨h1,h2,xs,h3.kept (row:=none) ⟨hb.os,hb.tape,hb.output,hb.size,fun k hk _=>hb.block k hk⟩ (.inr (by simp [Value.ownBlock])),fun i p hp=>by obtain ⟨e,d,a1,a2,a3⟩:=h4 i p hp;exact ⟨e,d,a1,a2,a3.below hb⟩⟩
theorem bo.mono {B:List af} (h:bo base w g n c B) (hb:base'≤base):bo base' w g n c B:=by
 obtain ⟨h1,h2,xs,h3,h4⟩:=h;exact ⟨h1,h2,xs,eN h3 hb,fun i p hp=>by obtain ⟨e,d,a1,a2,a3⟩:=h4 i p hp;exact ⟨e,d,a1,a2,a3.mono hb⟩⟩
theorem bo.lt {B:List af} (h:bo base w g n c B):base≤g∧g<w.heap.size:=by
 obtain ⟨_,_,xs,h3,_⟩:=h;exact h3.lt g rfl
theorem bo.grown {B:List af} (h:bo base w g n c B) (hG:aq w G T sz) (s:T≠63) (r:T≠50) (hg:w.grownBy w' (some G)):bo base w' g n c B:=by
 obtain ⟨h1,h2,xs,h3,h4⟩:=h;obtain ⟨x,k3⟩:=aQ h3;refine ⟨h1,h2,xs,h3.kept hg (.inr ?_),fun i p hp=>?_⟩
 · intro e;have m:g=G:=by simpa [Value.ownBlock] using e
   subst m;exact s (hG.kind k3)
 · obtain ⟨e,d,a1,a2,a3⟩:=h4 i p hp;obtain ⟨u,t⟩:=aQ a3.owns;refine ⟨e,d,a1,a2,a3.grown hg (fun m=>?_)⟩;have f:=GN m;subst f;exact r (hG.kind t)
theorem ir {B:List af} {m:Int} (h1:B.length=n) (h2:∀p ∈ B,(Lit.int .i64 p.2).wf=true) (h3:w.ownsRow base 63 2 (sL g n c) n xs)
 (h4:∀(i:Nat) (p:af),B[i]?=some p→∃e d,xs[i*2]?=some (sL e p.1.length d)∧xs[i*2+1]?=some (iT p.2)∧ag w base e p.1.length d p.1)
 (hL:ag w base e L.length d L) (hm:(Lit.int .i64 m).wf=true) (hg:w.grownBy w' (some g)) (ho:w'.ownsRow base 63 2 (sL g' (n+1) c') (n+1) (xs++[sL e L.length d,iT m])):bo base w' g' (n+1) c' (B++[(L,m)]):=by
 obtain ⟨C,k3⟩:=aQ h3;have f:∀{e d:Nat} {L:List ac},ag w base e L.length d L→ag w' base e L.length d L:=fun {e d L} hO=>by
  obtain ⟨A,x⟩:=aQ hO.owns;refine hO.grown hg (fun y=>?_);have r:=GN y;subst r;exact absurd (k3.kind x) (by decide)
 have t:=h3.1;refine ⟨by rw [GO,h1];rfl,fun p hp=>?_,_,ho,fun i p hp=>?_⟩
 · rcases GX.1 hp with h | h
   · exact h2 p h
   · rw [G5] at h;subst h;exact hm
 · by_cases hi:i<B.length
   · rw [GW hi] at hp;obtain ⟨e0,u,a1,a2,a3⟩:=h4 i p hp;exact ⟨e0,u,by rw [GW (by omega)];exact a1,by rw [GW (by omega)];exact a2,f a3⟩
   · have hi':=(F'.1 hp).1;rw [GO] at hi';have s:i=B.length:=by have:[(L,m)].length=1:=rfl;omega
     subst s;rw [GR (GL _),IW] at hp;cases hp;refine ⟨e,d,?_,?_,f hL⟩
     · rw [GR (by omega),show B.length*2 - xs.length=0 by omega];rfl
     · rw [GR (by omega),show B.length*2+1 - xs.length=1 by omega];rfl
theorem bo.runsIn {B:List af} (h:bo base w g n c B):aw base w (pT g) n c B:=by
 obtain ⟨h1,h2,xs,h3,h4⟩:=h;have f:=cC h3;refine ⟨h1,f.1,f.2,(fun e=>by cases e),?_,?_⟩
 · rintro x e _;cases e;exact ⟨(h3.lt g rfl).2,rfl,(h3.lt g rfl).1⟩
 · rintro x e i hi;cases e;obtain ⟨e0,m,a1,a2,a3⟩:=h4 i _ (j' hi);refine ⟨h2 _ (Hj hi),_,_,_,?_,?_,a3.entsAt,fun x e _=>by cases e;exact a3.lt.1⟩
   · simp only [GT];exact (h3.cellAt _ (by omega)).trans a1
   · simp only [GT];exact (h3.cellAt _ (by omega)).trans a2
def xE (xs:List Value):Prop:=∀(i j gi ni di gj nj dj:Nat),i<j→xs[i]?=some (sL gi ni di)→xs[j]?=some (sL gj nj dj)→gi≠gj
theorem zd (h:xE xs) (hl:∀(i m s r:Nat),xs[i]?=some (sL m s r)→m≠g):xE (xs++[sL g n d]):=by
 intro i j m s r y A B x hi f;have t:=(F'.1 f).1;rw [GO] at t;have h1:([sL g n d]:List Value).length=1:=rfl;rw [GW (by omega)] at hi;by_cases hx:j<xs.length
 · rw [GW hx] at f;exact h i j m s r y A B x hi f
 · have u:j=xs.length:=by omega
   subst u;rw [GR (GL _),IW] at f;cases f;exact hl i m s r hi
def eu (base:Nat) (w:World) (G n c:Nat) (V:List (List af)):Prop :=
 V.length=n∧∃xs,w.ownsRow base 61 1 (sL G n c) n xs∧(∀(i:Nat) (B:List af),V[i]?=some B→∃g d,xs[i]?=some (sL g B.length d)∧bo base w g B.length d B)∧xE xs
theorem eu.below (h:eu base w g n c V) (hb:Bl w w'):eu base w' g n c V:=by
 obtain ⟨h1,xs,h3,h4,h5⟩:=h;exact ⟨h1,xs,h3.kept (row:=none) ⟨hb.os,hb.tape,hb.output,hb.size,fun k hk _=>hb.block k hk⟩ (.inr (by simp [Value.ownBlock])),(fun i p hp=>by obtain ⟨e,d,a1,a3⟩:=h4 i p hp;exact ⟨e,d,a1,a3.below hb⟩),h5⟩
theorem yA {B:List af} (h1:V.length=n) (h3:w.ownsRow base 61 1 (sL g n c) n xs)
 (h4:∀(i:Nat) (B:List af),V[i]?=some B→∃g d,xs[i]?=some (sL g B.length d)∧bo base w g B.length d B)
 (hL:bo base w e B.length d B) (hg:w.grownBy w' (some g)) (ho:w'.ownsRow base 61 1 (sL g' (n+1) c') (n+1) (xs++[sL e B.length d])) (hd:xE xs) (hl:∀(i m u r:Nat),xs[i]?=some (sL m u r)→m≠e):eu base w' g' (n+1) c' (V++[B]):=by
 obtain ⟨x,k3⟩:=aQ h3;have s:=h3.1;refine ⟨by rw [GO,h1];rfl,_,ho,fun i p hp=>?_,zd hd hl⟩;by_cases hi:i<V.length
 · rw [GW hi] at hp;obtain ⟨e0,t,a1,a3⟩:=h4 i p hp;exact ⟨e0,t,by rw [GW (by omega)];exact a1,a3.grown k3 (by decide) (by decide) hg⟩
 · have hi':=(F'.1 hp).1;rw [GO] at hi';have f:i=V.length:=by have:[B].length=1:=rfl;omega
   subst f;rw [GR (GL _),IW] at hp;cases hp;exact ⟨e,d,by rw [GR (by omega),show V.length - xs.length=0 by omega];rfl,hL.grown k3 (by decide) (by decide) hg⟩
theorem eu.grown (h:eu base w g n c V) (hG:aq w G T sz) (t0:T≠61) (m:T≠63) (f:T≠50) (hg:w.grownBy w' (some G)):eu base w' g n c V:=by
 obtain ⟨h1,xs,h3,h4,h5⟩:=h;obtain ⟨s,k3⟩:=aQ h3;refine ⟨h1,xs,h3.kept hg (.inr ?_),(fun i p hp=>by obtain ⟨e,d,a1,a3⟩:=h4 i p hp;exact ⟨e,d,a1,a3.grown hG m f hg⟩),h5⟩;intro e;have r:g=G:=by simpa [Value.ownBlock] using e
 subst r;exact t0 (hG.kind k3)
theorem eu.mono (h:eu base w g n c V) (hb:base'≤base):eu base' w g n c V:=by
 obtain ⟨h1,xs,h3,h4,h5⟩:=h;exact ⟨h1,xs,eN h3 hb,(fun i p hp=>by obtain ⟨e,d,a1,a3⟩:=h4 i p hp;exact ⟨e,d,a1,a3.mono hb⟩),h5⟩
theorem eu.levelsIn (h:eu base w g n c V):cF base w (pT g) n c V:=by
 obtain ⟨h1,xs,h3,h4,_⟩:=h;have f:=cC h3;refine ⟨h1,f.1,f.2,(fun e=>by cases e),?_,?_⟩
 · rintro x e _;cases e;exact ⟨(h3.lt g rfl).2,rfl,(h3.lt g rfl).1⟩
 · rintro x e i hi;cases e;obtain ⟨e0,m,a1,a3⟩:=h4 i _ (j' hi);refine ⟨_,_,_,?_,a3.runsIn⟩;simp only [GT];exact (h3.cellAt _ (by omega)).trans a1
theorem qr (lo:Nat) (a:Option Addr) (nv cv:Nat) (V:List (List af)) (w:World) (hV:cF lo w a nv cv V) (c9:nv≤100) (hS:∀B ∈ V,B.length≤100∧∀r ∈ B,1≤r.1.length∧r.1.length≤10000) :
 Calls Tryz.prog 120 #[.slice a nv cv] w fun e w'=>∃G c,e=.returned (sL G nv c)∧eu w.heap.size w' G nv c V∧Bl w w':=by
 have bR:Eq (V.length=nv):=hV.length;have HV:=az hV;have HS:=az hS;clear hV hS;obtain ⟨i0,hi,bz,bQ,bK⟩:=info_parts Tryz.infoEnt;obtain ⟨j0,hj,bN,bn,bB⟩:=info_parts Tryz.infoRun;obtain ⟨l0,hl,bv,bS,N⟩:=info_parts Tryz.infoRunL;have aM:Eq (eu w.heap.size (w.alloc (.cells #[] 61)) w.heap.size 0 0 (V.take 0)):=by
  have:=Hi (base:=w.heap.size) (e:=61) (size:=1) w #[] 0 (GL _) (by simp) (by simp);exact ⟨by simp,_,this,(fun i B hB=>by simp at hB),fun i j gi ni di gj nj dj _ hi _=>by simp at hi⟩
 have b2:Bl w (w.alloc (.cells #[] 61)):=bZ;go_enter Tryz.func120,Tryz.ntmps120
 go_wp2;go_loopw [3,4] (fun o iv wr=>∃(i G c:Nat),i≤nv∧iv=iT i∧o=sL G i c∧eu w.heap.size wr G i c (V.take i)∧Bl w wr) (fun _ iv _=>nv - (intOf iv).toNat)
 case atStart=>exact ⟨0,_,0,GQ _,rfl,rfl,aM.o,b2⟩
 case round =>
  clear aM b2;obtain ⟨i,G,c0,cm,rfl,rfl,b0,Q⟩:=hrel;have Z:Eq (eu w.heap.size wr G i c0 (V.take i)):=b0;have H:Eq (Bl w wr):=Q;clear b0;by_cases bx:i<nv
  · have b5:(i:Int)<(nv:Int):=by omega
    obtain ⟨b,ai,rfl,aJ⟩:=HV.o.form (by omega);obtain ⟨B,aB,nB,cB,hB,gB,aq⟩:=HV.o.level (Below.refl _ w) i bx;have bL:Eq (V[i]?=some B):=hB;have aY:Eq (B.length≤100∧∀r ∈ B,1≤r.1.length∧r.1.length≤10000):=HS.o B (GP hB);have an:Eq (B.length=nB):=aq.length;have aI:Eq (aw lo w aB nB cB B):=aq;have bA:Eq (w.cell? ⟨b,ai+i,none⟩=some (.slice aB nB cB)):=gB;have co:nB≤100:=by have:=aY.o.1;have:=an.o;omega
    clear hB gB aq Q;go_upto_region 6 with fail
    obtain ⟨t,A⟩:=aG wr.heap.size;obtain ⟨wq,W⟩:=aG (wr.alloc (.cells #[] 63));have kq:Bl wr wq:=by rw [W];exact bZ
    have b3:Eq (bo t wq t 0 0 (B.take 0)):=by
     have:=Hi (base:=wr.heap.size) (e:=63) (size:=2) wr #[] 0 (GL _) (by simp) (by simp);rw [W,A];exact ⟨by simp,fun p hp=>by simp at hp,_,this,fun i B hB=>by simp at hB⟩
    have ab:Eq (Below t wr wq):=by rw [A];exact kq
    have f:Eq (w.heap.size≤t∧t=wr.heap.size):=⟨by rw [A];exact H.o.size,A⟩;rw [← W,← A];clear W A kq;obtain ⟨Wq,aW⟩:=aG wr;rw [← aW] at Z H ab f;clear aW;go_wp2;go_loopw [5,6] (fun o kv wr=>∃(j g c:Nat),j≤nB∧kv=iT j∧o=sL g j c∧bo t wr g j c (B.take j)∧Below t Wq wr) (fun _ kv _=>nB - (intOf kv).toNat)
    case atStart=>exact ⟨0,_,0,GQ _,rfl,rfl,b3.o,ab.o⟩
    case round =>
     clear b3 ab;obtain ⟨j,g,c,cb,rfl,rfl,al,O⟩:=hrel;have ap:Eq (bo t wr g j c (B.take j)):=al;have aS:Eq (Below t Wq wr):=O;have ae:Eq (t≤g):=al.lt.1;have u:Bl w wr:=H.o.trans (O.mono f.o.1);have U:Eq (t≤wr.heap.size):=by have h1:=f.o.2;have h2:=O.size;show t≤_;omega
     have tl:=cell_later u bA.o;have zb:=E' aJ u.size;clear al O;by_cases bj:j<nB
     · have aZ:(j:Int)<(nB:Int):=by omega
       obtain ⟨rb,ro,rfl,av⟩:=aI.o.form (by omega);obtain ⟨L,mm,s,m,d,a9,aK,r0,r1,a0⟩:=aI.o.run u j bj;have bF:Eq (B[j]?=some (L,mm)):=a9;have bp:Eq ((Lit.int .i64 mm).wf=true):=aK;have hsz:=aY.o.2 _ (GP a9);simp only at hsz;have F:Eq (L.length=m):=a0.1.length;have hm:1≤m∧m≤10000:=by have:=F.o;omega
       obtain ⟨sb,so,rfl,bI⟩:=a0.1.form (by omega);have b4:Eq (ah wr (some ⟨sb,so,none⟩) m d L):=a0.1;have zr:=E' av u.size;have k0:Bl wr wr.drew:=(Below.refl _ wr).drew;have R:Eq (∀w',Bl wr w'→(fun w'=>w'.cell? ⟨b,ai+i,none⟩=some (sO rb ro nB cB)∧w'.cell? ⟨rb,ro+j*2,none⟩=some (sO sb so m d)∧w'.cell? ⟨rb,ro+j*2+1,none⟩=some (iT mm)∧b<w'.heap.size∧rb<w'.heap.size) w'):=fun w' E=>⟨cell_later E tl,cell_later E r0,cell_later E r1,E' zb E.size,E' zr E.size⟩
       have aH:Eq (∀(wb w':World),wb.grownBy w' (some g)→Bl wr wb→(fun w'=>w'.cell? ⟨b,ai+i,none⟩=some (sO rb ro nB cB)∧w'.cell? ⟨rb,ro+j*2,none⟩=some (sO sb so m d)∧w'.cell? ⟨rb,ro+j*2+1,none⟩=some (iT mm)∧b<w'.heap.size∧rb<w'.heap.size) w'):=fun wb w' hg E=>by
        have cd:=ae.o;have ch:=f.o;have Q:=H.o.size;have a8:∀{x:Nat},x<w.heap.size→some x≠some g:=fun {x} hx e=>by have:=GN e;omega
        exact ⟨hg.cell (cell_later E tl) (a8 aJ),hg.cell (cell_later E r0) (a8 av),hg.cell (cell_later E r1) (a8 av),E' zb (GU E.size hg.size),E' zr (GU E.size hg.size)⟩
       clear a9 aK a0 hsz bI;go_wp2_with fail
       clear tl r0 r1 zr zb;refine eJ R k0 fun I=>?_
       generalize wr.drew=wd at k0 I ⊢;refine aR 0 1 I ?_;refine aR 2 8 I ?_;refine aR 11 8 I ?_;refine aV 1 fun K hK=>?_
       go_simp;have aP:Bl wd (wd.alloc (.cells #[] 50)):=bZ;have oa:=cK wd wr.heap.size k0.size;have J:=k0.trans (aP.mono k0.size);have ao:wr.heap.size≤wd.heap.size:=k0.size;generalize wd.heap.size=ga at oa ao ⊢;generalize wd.alloc (.cells #[] 50)=wa at oa J ⊢;clear aP;refine hK.o _ _ (R.o _ J) fun I=>?_
       (try go_frame);refine aV 10 fun K hK=>?_
       refine aE rfl (.tmp 25) (.tmp 33) 28 rfl wr.heap.size 50 i0 _ 5 56 Tryz.underlying28 hi bz bQ bK rfl (Hx 4) _ _ _ rfl oa.owns ⟨sb,so,none⟩ m d (aF L) rfl (by rw [aX,F.o]) (jK (b4.o.keep J)) (bf _) ?_ ?_ ?_ ?_
       · unfold maxLen;omega
       · omega
       · exact J.size
       intro v1 w1 am aQ aC;obtain ⟨e1,d1,rfl⟩:=aO am aC;have a4:wa.grownBy w1 (some ga):=aQ;have k1:Bl wr w1:=J.grown a4 J.size (fun k e=>by cases e;exact ao);have o1:ag w1 wr.heap.size e1 m d1 L:=⟨by have h1:=am;rw [GT] at h1;simpa [aF] using h1,F.o,b4.o.ents⟩;rw [GT];clear am aQ aC a4 oa ao J;refine hK.o _ _ (R.o _ k1) fun I=>?_
       (try go_frame);refine aR 19 1 I ?_;refine aV 20 fun K hK=>?_
       go_simp;have aj:Bl w1 (w1.alloc (.cells #[sL e1 m d1,iT mm] 63)):=bZ;have kb:=k1.trans (aj.mono k1.size);have ob:=o1.below aj;have nw:=bW w1 (sL e1 m d1) (iT mm) 63;generalize w1.heap.size=gb at nw ⊢;generalize w1.alloc (.cells #[sL e1 m d1,iT mm] 63)=wb at kb ob nw ⊢;clear aj;refine hK.o _ _ (R.o _ kb) fun I=>?_
       (try go_frame);refine aV 21 fun K hK=>?_
       obtain ⟨hl2,aD,ci,ak,N⟩:=ap.o.below kb;refine aE rfl (.tmp 24) (.tmp 44) 61 rfl t 63 j0 _ 2 32 Tryz.underlying61 hj bN bn bB rfl (Hx 1) _ _ _ rfl ak ⟨gb,0,none⟩ 1 1 [sL e1 m d1,iT mm] rfl rfl nw (by simp [Value.oneCell']) ?_ ?_ ?_ ?_
       · unfold maxLen;omega
       · omega
       · have h1:=kb.size;have h2:=U.o;omega
       intro v2 w2 ar C b7;obtain ⟨g2,c2,rfl⟩:=aO ar b7;have C:wb.grownBy w2 (some g):=C;have aT:=ir (L:=L) hl2 aD ak N (by rw [F.o];exact ob.mono U.o) bp.o C (by rw [F.o];exact ar);have k2:=(aS.o.trans (kb.mono U.o)).grown C (GU U.o kb.size) (fun k e=>by cases e;exact ae.o);refine hK.o _ _ (aH.o _ w2 C kb) fun I=>?_
       (try go_frame);refine aR 22 1 I ?_;refine dN ?_;have bH:Eq (bo t w2 g2 (j+1) c2 (B.take (j+1))):=by rw [Hc,bF.o];exact aT
       have bJ:Eq (Below t Wq w2):=k2;clear I aT k2 ar C b7 hl2 aD ak N kb ob nw k1 o1 k0;go_wp2;go_roundw
       case rel=>exact ⟨j+1,g2,c2,by omega,by go_num,rfl,bH.o,bJ.o⟩
       case measure=>simp [intOf];omega
     · have aZ:¬(j:Int)<(nB:Int):=by omega
       obtain rfl:j=nB:=by omega
       have kx:Bl Wq wr:=by have h1:=aS.o;rw [f.o.2] at h1;exact h1
       obtain ⟨q1,xs,p2,p3,p4⟩:=Z.o;have aL:Eq (∀(i' gi ni di:Nat),xs[i']?=some (sL gi ni di)→gi≠g):=fun i' gi ni di hx=>by
        have hi':=(F'.1 hx).1;have cf:=p2.1;obtain ⟨B',bT⟩:∃B',(V.take i)[i']?=some B':=⟨_,j' (by rw [q1];omega)⟩;obtain ⟨g',d',a1,a3⟩:=p3 i' B' bT;rw [hx] at a1;cases a1;have h1:=a3.lt.2;have h2:=ae.o;have h3:=f.o.2;omega
       have bl:Eq (bo w.heap.size wr g j c B):=by
        have h1:=ap.o.mono f.o.1;rw [GV (by rw [an.o];omega)] at h1;exact h1
       have b8:Eq (Bl w wr):=u;have wi:IntKind.i64.wrap ((i:Int)+1)=((i+1:Nat):Int):=by rw [G4];unfold wrap64;omega
       clear Z ap;have bq:Eq (xE xs):=p4;have J:Bl wr (wr.alloc (.cells #[sL g j c] 61)):=bZ;have y:=kx.trans (J.mono kx.size);have q2:=p2.kept (row:=none) ⟨y.os,y.tape,y.output,y.size,fun k hk _=>y.block k hk⟩ (.inr (by simp [Value.ownBlock]));have q3:∀(i':Nat) (B:List af),(V.take i)[i']?=some B→∃e d,xs[i']?=some (sL e B.length d)∧bo w.heap.size (wr.alloc (.cells #[sL g j c] 61)) e B.length d B:=fun i' B hB=>by obtain ⟨g',d',a1,a3⟩:=p3 i' B hB;exact ⟨g',d',a1,a3.below y⟩
       clear p2 p3 p4 kx y;have HQ:Eq (_∧_):=⟨q2,q3⟩;have ca:=u.size;clear u;go_wp2_with (at_builtin;refine wpList_append_own _ rfl _ _ 29 rfl w.heap.size 61 l0 _ 1 24 Tryz.underlying29 hl bv bS N rfl (by decide) _ _ _ rfl HQ.o.1 ⟨wr.heap.size,0,none⟩ 1 1 [sL g j c] rfl rfl (dU _ _ _) (by simp [Value.oneCell']) (by unfold maxLen;omega) (by omega) (by simp;omega) ?_;intro v2 w2 D Y ac;obtain ⟨g2,c2,rfl⟩:=aO D ac)
       go_roundw
       case rel =>
        have b6:(wr.alloc (.cells #[sL g j c] 61)).grownBy w2 (some G):=Y;have aU:=an.o;have ad:=yA (B:=B) q1 HQ.o.1 HQ.o.2 (by rw [aU];exact bl.o.below J) b6 (by rw [aU];exact D) bq.o aL.o;refine ⟨i+1,g2,c2,by omega,by go_num,rfl,by rw [Hc,bL.o];exact ad,?_⟩;exact (b8.o.alloc b8.o.size _).grown b6 (by simp;omega) (fun k e=>by cases e;exact (HQ.o.1.lt G rfl).1)
       case measure=>simp [intOf];omega
  · have b5:¬(i:Int)<(nv:Int):=by omega
    obtain rfl:i=nv:=by omega
    have bU:Eq (eu w.heap.size wr G i c0 V):=by
     have:=Z.o;rw [GV (by rw [bR.o];omega)] at this;exact this
    clear Q;go_wp2;go_ret;exact ⟨G,c0,rfl,bU.o,H.o⟩
structure ay (w:World) (b:Nat) (u0 u1 u2 u3:Value):Prop where
 c0:w.cell? ⟨b,0,none⟩=some u0
 c1:w.cell? ⟨b,1,none⟩=some u1
 c2:w.cell? ⟨b,2,none⟩=some u2
 c3:w.cell? ⟨b,3,none⟩=some u3
 fz:∀o,w.frozen? ⟨b,o,none⟩=false
theorem ay.lt (h:ay w b u0 u1 u2 u3):b<w.heap.size:=GK w _ h.c0
theorem ay.all(h:ay w b u0 u1 u2 u3):w.cell? ⟨b,0,none⟩=some u0∧w.cell? ⟨b,1,none⟩=some u1∧w.cell? ⟨b,2,none⟩=some u2∧w.cell? ⟨b,3,none⟩=some u3∧(∀o,w.frozen? ⟨b,o,none⟩=false)∧b<w.heap.size:=⟨h.c0,h.c1,h.c2,h.c3,h.fz,h.lt⟩
theorem ay.new (w:World) (t:TypeId) (u0 u1 u2 u3:Value):ay (w.alloc (.cells #[u0,u1,u2,u3] t)) w.heap.size u0 u1 u2 u3:=⟨by simp,by simp,by simp,by simp,fun o=>by simp⟩
theorem ay.below {B:Nat} (h:ay w b u0 u1 u2 u3) (hb:Below B w w') (hB:b<B):ay w' b u0 u1 u2 u3 :=
 ⟨(hb.cell (p:=⟨b,0,none⟩) hB).trans h.c0,(hb.cell (p:=⟨b,1,none⟩) hB).trans h.c1,(hb.cell (p:=⟨b,2,none⟩) hB).trans h.c2,(hb.cell (p:=⟨b,3,none⟩) hB).trans h.c3,fun o=>(hb.frozen (p:=⟨b,o,none⟩) hB).trans (h.fz o)⟩
theorem ay.keep (h:ay w b u0 u1 u2 u3) (hb:Bl w w'):ay w' b u0 u1 u2 u3:=h.below hb h.lt
theorem ay.alloc (h:ay w b u0 u1 u2 u3) (o:Obj):ay (w.alloc o) b u0 u1 u2 u3:=h.keep bZ
theorem an {b' f:Nat} (x:Value) (h:¬(b=b'∧o=f)):(w.setCell ⟨b',f,none⟩ x).cell? ⟨b,o,none⟩=w.cell? ⟨b,o,none⟩ :=
 GM _ _ _ _ (fun e=>h (by cases e;exact ⟨rfl,rfl⟩))
theorem ay.other (h:ay w b u0 u1 u2 u3) {b' o:Nat} (hp:b'≠b) (x:Value):ay (w.setCell ⟨b',o,none⟩ x) b u0 u1 u2 u3 :=
 ⟨(an x (fun e=>hp e.1.symm)).trans h.c0,(an x (fun e=>hp e.1.symm)).trans h.c1,(an x (fun e=>hp e.1.symm)).trans h.c2,(an x (fun e=>hp e.1.symm)).trans h.c3,fun o=>by rw [G8];exact h.fz o⟩
theorem ay.set0 (h:ay w b u0 u1 u2 u3) (x:Value):ay (w.setCell ⟨b,0,none⟩ x) b x u1 u2 u3 :=
 ⟨G3 _ _ _ (by rw [h.c0];rfl),(an x (by simp)).trans h.c1,(an x (by simp)).trans h.c2,(an x (by simp)).trans h.c3,fun o=>by rw [G8];exact h.fz o⟩
theorem ay.set1 (h:ay w b u0 u1 u2 u3) (x:Value):ay (w.setCell ⟨b,1,none⟩ x) b u0 x u2 u3 :=
 ⟨(an x (by simp)).trans h.c0,G3 _ _ _ (by rw [h.c1];rfl),(an x (by simp)).trans h.c2,(an x (by simp)).trans h.c3,fun o=>by rw [G8];exact h.fz o⟩
theorem ay.set2 (h:ay w b u0 u1 u2 u3) (x:Value):ay (w.setCell ⟨b,2,none⟩ x) b u0 u1 x u3 :=
 ⟨(an x (by simp)).trans h.c0,(an x (by simp)).trans h.c1,G3 _ _ _ (by rw [h.c2];rfl),(an x (by simp)).trans h.c3,fun o=>by rw [G8];exact h.fz o⟩
theorem ay.set3 (h:ay w b u0 u1 u2 u3) (x:Value):ay (w.setCell ⟨b,3,none⟩ x) b u0 u1 u2 x :=
 ⟨(an x (by simp)).trans h.c0,(an x (by simp)).trans h.c1,(an x (by simp)).trans h.c2,G3 _ _ _ (by rw [h.c3];rfl),fun o=>by rw [G8];exact h.fz o⟩
theorem b9 {m:Nat} (h:w.ownsRow base T size (sL g m c) n xs) (hb:Bl w w'):w'.ownsRow base T size (sL g m c) n xs:=h.kept (row:=none) ⟨hb.os,hb.tape,hb.output,hb.size,fun k hk _=>hb.block k hk⟩ (.inr (by simp [Value.ownBlock]))
theorem cV {m:Nat} (h:w.ownsRow base T size (sL g m c) n xs) (h':w.ownsRow base' T' size' (sL g' m' c') n' xs') (r:T≠T') (hg:w.grownBy w' (some g')):w'.ownsRow base T size (sL g m c) n xs:=by
 refine h.kept hg (.inr fun e=>?_);have s:g=g':=by simpa [Value.ownBlock] using e
 subst s;obtain ⟨_,k1⟩:=aQ h;obtain ⟨_,f⟩:=aQ h';exact r (k1.kind f)
theorem dV (h:ag w base g n c L) (h':w.ownsRow base' T' size' (sL g' m' c') n' xs') (f:50≠T') (hg:w.grownBy w' (some g')):ag w' base g n c L:=⟨cV h.owns h' f hg,h.len,h.ents⟩
theorem iw (h:eu base w g n c V) (h':w.ownsRow base' T' size' (sL g' m' c') n' xs') (t0:T'≠61) (m:T'≠63) (f:T'≠50) (hg:w.grownBy w' (some g')):eu base w' g n c V:=by
 obtain ⟨_,k⟩:=aQ h';exact h.grown k t0 m f hg
theorem AU (h:bJ lo w (some ⟨b,o,none⟩) n c S):∀j u,(S.map iT)[j]?=some u→w.cell? ((⟨b,o,none⟩:Addr).add j)=some u:=by
 intro j u f;rw [G6];rw [Iy] at f;cases hx:S[j]? with
 | none=>rw [hx] at f;cases f
 | some z =>
  rw [hx] at f;cases f;have r:j<n:=by rw [← h.length];exact (F'.1 hx).1
  obtain ⟨t,m,_,s⟩:=h.num (Below.refl _ w) j r;rw [hx] at m;cases m;exact s
structure cQ (base:Nat) (w:World) (g1 nm c1 G nv c g3 ns c3:Nat) (M:List ac) (V:List (List af)) (S:List Int):Prop where
 mem:ag w base g1 nm c1 M
 levs:eu base w G nv c V
 slen:S.length=ns
 swf:∀z ∈ S,(Lit.int .i64 z).wf=true
 sn:w.ownsRow base 3 1 (sL g3 ns c3) ns (S.map iT)
theorem cQ.below (h:cQ base w g1 nm c1 G nv c g3 ns c3 M V S) (hb:Bl w w'):cQ base w' g1 nm c1 G nv c g3 ns c3 M V S:=⟨h.mem.below hb,h.levs.below hb,h.slen,h.swf,b9 h.sn hb⟩
theorem cQ.mono (h:cQ base w g1 nm c1 G nv c g3 ns c3 M V S) (hb:base'≤base):cQ base' w g1 nm c1 G nv c g3 ns c3 M V S:=⟨h.mem.mono hb,h.levs.mono hb,h.slen,h.swf,eN h.sn hb⟩
theorem bo.low {B:List af} (h:bo base w g n c B) (m:X<base) (hg:w.grownBy w' (some X)):bo base w' g n c B:=by
 obtain ⟨h1,h2,xs,h3,h4⟩:=h;refine ⟨h1,h2,xs,h3.kept hg (.inr fun e=>?_),fun i p hp=>?_⟩
 · have f:g=X:=by simpa [Value.ownBlock] using e
   have:=(h3.lt g rfl).1;omega
 · obtain ⟨e,d,a1,a2,a3⟩:=h4 i p hp;exact ⟨e,d,a1,a2,a3.grown hg (fun f=>by have h5:=GN f;have:=a3.lt.1;omega)⟩
theorem cQ.low (h:cQ base w g1 nm c1 G nv c g3 ns c3 M V S) (f:X<base) (hg:w.grownBy w' (some X)):cQ base w' g1 nm c1 G nv c g3 ns c3 M V S:=by
 have hk:∀{T size n m g c:Nat} {xs:List Value},w.ownsRow base T size (sL g m c) n xs→w'.ownsRow base T size (sL g m c) n xs:=fun {T size n m g c xs} h3=>h3.kept hg (.inr fun e=>by
  have r:g=X:=by simpa [Value.ownBlock] using e
  have:=(h3.lt g rfl).1;omega)
 obtain ⟨h1,xs,h3,h4,h5⟩:=h.levs;exact ⟨⟨hk h.mem.owns,h.mem.len,h.mem.ents⟩,⟨h1,xs,hk h3,(fun i p hp=>by obtain ⟨e,d,a1,a3⟩:=h4 i p hp;exact ⟨e,d,a1,a3.low f hg⟩),h5⟩,h.slen,h.swf,hk h.sn⟩
theorem dg (w:World) (g o:Nat) (u:Value):w.grownBy (w.setCell ⟨g,o,none⟩ u) (some g):=⟨rfl,rfl,rfl,by simp [World.setCell],fun k _ hk=>Below.heap_setCell _ _ _ _ (fun e=>hk (by rw [e]))⟩
theorem cQ.four (h:cQ base w g1 nm c1 G nv c g3 ns c3 M V S) (f:X<base) (u0 u1 u2 u3:Value):cQ base ((((w.setCell ⟨X,0,none⟩ u0).setCell ⟨X,1,none⟩ u1).setCell ⟨X,2,none⟩ u2).setCell ⟨X,3,none⟩ u3) g1 nm c1 G nv c g3 ns c3 M V S :=
 (((h.low f (dg _ _ _ _)).low f (dg _ _ _ _)).low f (dg _ _ _ _)).low f (dg _ _ _ _)
theorem cQ.treeIn (h:cQ base w g1 nm c1 G nv c g3 ns c3 M V S):aZ base w (pT g1) nm c1 (pT G) nv c (pT g3) ns c3 M V S:=by
 have f:=cC h.sn;have hl:=h.slen;refine ⟨⟨h.mem.entsAt,fun x e _=>by cases e;exact h.mem.lt.1⟩,h.levs.levelsIn,⟨h.slen,f.1,f.2,h.swf,(fun e=>by cases e),?_,?_⟩⟩
 · rintro x e _;cases e;exact ⟨(h.sn.lt g3 rfl).2,rfl,(h.sn.lt g3 rfl).1⟩
 · rintro x e i hi;cases e;simp only [GT];have h1:=h.sn.cellAt i (by omega);rw [Iy,j' hi] at h1;exact h1
def pE (w:World) (v:Value) (n:Nat) (xs:List Value):Prop :=
 xs.length=n*2∧(∀u ∈ xs,u.oneCell'=true)∧((v=nZ∧n=0)∨∃b o c,v=sO b o n c∧∀j u,xs[j]?=some u→w.cell? ⟨b,o+j,none⟩=some u)
theorem pE.keep (h:pE w v n xs) (hb:Bl w w'):pE w' v n xs:=by
 obtain ⟨h1,h2,h3⟩:=h;refine ⟨h1,h2,?_⟩;rcases h3 with h | ⟨b,o,c,hv,hc⟩
 · exact .inl h
 · exact .inr ⟨b,o,c,hv,fun j u f=>cell_later hb (hc j u f)⟩
def mI (w:World) (xs:List Value) (B:List af):Prop :=
 xs.length=B.length*2∧∀i (p:af),B[i]?=some p→(Lit.int .i64 p.2).wf=true∧∃s n c,xs[i*2]?=some (.slice s n c)∧xs[i*2+1]?=some (iT p.2)∧fu 0 w s n c p.1
theorem mI.keep {B:List af} (h:mI w xs B) (hb:Bl w w'):mI w' xs B :=
 ⟨h.1,fun i p hp=>by obtain ⟨h1,s,n,c,h2,h3,h4⟩:=h.2 i p hp;exact ⟨h1,s,n,c,h2,h3,h4.same (eF.of_below hb)⟩⟩
theorem mI.one {B:List af} (h:mI w xs B):∀u ∈ xs,u.oneCell'=true:=by
 intro u m;obtain ⟨j,f,rfl⟩:=Hm m;have hB:j / 2<B.length:=by have:=h.1;omega
 obtain ⟨_,s,n,c,h2,h3,_⟩:=h.2 (j / 2) _ (j' hB);rcases Nat.mod_two_eq_zero_or_one j with hm | hm
 · rw [show j / 2*2=j by omega,j' f] at h2;rw [GN h2];rfl
 · rw [show j / 2*2+1=j by omega,j' f] at h3;rw [GN h3];rfl
theorem mI.app {f:List Value} {A B:List af} (h:mI w xs A) (k:mI w f B):mI w (xs++f) (A++B):=by
 have hl:=h.1;have kl:=k.1;refine ⟨by rw [GO,GO,hl,kl];omega,fun i p hp=>?_⟩;by_cases hi:i<A.length
 · rw [GW hi] at hp;rw [GW (by omega),GW (by omega)];exact h.2 i p hp
 · rw [GR (by omega)] at hp;rw [GR (by omega),GR (by omega),show i*2 - xs.length=(i - A.length)*2 by omega,show i*2+1 - xs.length=(i - A.length)*2+1 by omega];exact k.2 _ p hp
theorem jM {B:List af} (h:w.ownsRow base 63 2 v n xs) (d:mI w xs B):∃a c,v=.slice a n c∧aw 0 w a n c B:=by
 have hn:B.length=n:=by have h1:=h.1;have h2:=d.1;omega
 rcases h.2 with ⟨hv,h0⟩ | ⟨g,m,r,hv,_⟩
 · subst hv h0;obtain rfl:=Hy.1 hn;exact ⟨none,0,rfl,xY 0 w⟩
 · subst hv;have f:=cC h;refine ⟨_,m,rfl,hn,f.1,f.2,(fun e=>by cases e),?_,?_⟩
   · rintro x e _;cases e;exact ⟨(h.lt g rfl).2,rfl,GQ _⟩
   · rintro x e i hi;cases e;obtain ⟨h1,s,n',c,h2,h3,h4⟩:=d.2 i _ (j' hi);refine ⟨h1,s,n',c,?_,?_,h4⟩
     · simp only [GT];exact (h.cellAt _ (by omega)).trans h2
     · simp only [GT];exact (h.cellAt _ (by omega)).trans h3
theorem aw.raw {B:List af} (h:aw lo w (some ⟨b,o,none⟩) n c B):∃xs,mI w xs B∧pE w (sO b o n c) n xs:=by
 have hl:=h.length;refine ⟨(List.range (n*2)).map (fun j=>(w.cell? ⟨b,o+j,none⟩).getD (iT 0)),?_⟩;have hat:∀i (hi:i<B.length),(Lit.int .i64 B[i].2).wf=true∧∃s n' c',w.cell? ⟨b,o+i*2,none⟩=some (.slice s n' c')∧w.cell? ⟨b,o+(i*2+1),none⟩=some (iT B[i].2)∧fu lo w s n' c' B[i].1:=fun i hi=>by
  have:=h.runs _ rfl i hi;simpa [IV] using this
 have hd:mI w ((List.range (n*2)).map (fun j=>(w.cell? ⟨b,o+j,none⟩).getD (iT 0))) B:=by
  refine ⟨by simp [hl],fun i p hp=>?_⟩;have hi:=(F'.1 hp).1;have m:=(F'.1 hp).2;obtain ⟨h1,s,n',c',h2,h3,h4⟩:=hat i hi;rw [m] at h1 h3 h4;refine ⟨h1,s,n',c',?_,?_,h4.mono (GQ _)⟩
  · rw [Iy,List.getElem?_range (by omega)];simp [h2]
  · rw [Iy,List.getElem?_range (by omega)];simp [h3]
 refine ⟨hd,by simp,hd.one,.inr ⟨b,o,c,rfl,fun j u f=>?_⟩⟩;have r:j<n*2:=by have:=(F'.1 f).1;simpa using this
 rw [Iy,List.getElem?_range r] at f;simp only [Option.map_some] at f;have hi:j / 2<B.length:=by omega
 obtain ⟨h1,s,n',c',h2,h3,h4⟩:=hat (j / 2) hi;rcases Nat.mod_two_eq_zero_or_one j with hm | hm
 · rw [show j / 2*2=j by omega] at h2;rw [h2] at f ⊢;simpa using f
 · rw [show j / 2*2+1=j by omega] at h3;rw [h3] at f ⊢;simpa using f
structure dw (lo hi:Nat) (w w':World):Prop where
 os:w'.os=w.os
 tape:w'.tape=w.tape
 output:w'.output=w.output
 size:w.heap.size≤w'.heap.size
 block:∀k,k<w.heap.size→(k<lo∨hi≤k)→w'.heap[k]?=w.heap[k]?
theorem dw.refl (lo hi:Nat) (w:World):dw lo hi w w:=⟨rfl,rfl,rfl,GL _,fun _ _ _=>rfl⟩
theorem dw.grown (h:dw lo hi w w') (hg:w'.grownBy w'' (some g)) (h1:lo≤g) (h2:g<hi):dw lo hi w w'' :=
 ⟨hg.os.trans h.os,hg.tape.trans h.tape,hg.output.trans h.output,GU h.size hg.size,fun k hk ho=>(hg.block k (E' hk h.size) (fun e=>by have:=GN e;omega)).trans (h.block k hk ho)⟩
theorem dw.own (h:dw lo hi w w') (hO:ag w base g n c L) (hg:g<lo∨hi≤g):ag w' base g n c L:=by
 refine ⟨⟨hO.owns.1,?_⟩,hO.len,hO.ents⟩;have r:=hO.lt.2;rcases hO.owns.2 with hn | ⟨g1,t,f,e1,s,m,rest⟩
 · exact .inl hn
 · cases e1;exact .inr ⟨g,c,f,rfl,s,(h.block g r hg).trans m,rest⟩
theorem dw.below {B:Nat} (h:dw lo hi w w') (hB:B≤lo) (hw:B≤w.heap.size):Below B w w':=⟨h.os,h.tape,h.output,h.size,fun k hk=>h.block k (by omega) (.inl (by omega))⟩
theorem dw.trans (h:dw lo hi w w') (k:dw lo hi w' w''):dw lo hi w w'' :=
 ⟨k.os.trans h.os,k.tape.trans h.tape,k.output.trans h.output,GU h.size k.size,fun q hq ho=>(k.block q (E' hq h.size) ho).trans (h.block q hq ho)⟩
theorem dw.mono (h:dw lo hi w w') (h1:lo'≤lo) (h2:hi≤hi'):dw lo' hi' w w' :=
 ⟨h.os,h.tape,h.output,h.size,fun q hq ho=>h.block q hq (by omega)⟩
theorem dw.of_below (h:Bl w w'):dw lo hi w w':=⟨h.os,h.tape,h.output,h.size,fun q hq _=>h.block q hq⟩
theorem dw.row {m:Nat} (h:dw lo hi w w') (hO:w.ownsRow base T size (sL g m c) n xs) (hg:g<lo∨hi≤g):w'.ownsRow base T size (sL g m c) n xs:=by
 refine ⟨hO.1,?_⟩;have s:=(hO.lt g rfl).2;rcases hO.2 with hn | ⟨g1,u,f,e1,t,r,rest⟩
 · exact .inl hn
 · cases e1;exact .inr ⟨g,c,f,rfl,t,(h.block g s hg).trans r,rest⟩
section
attribute [local go_sem] Ic
structure er (lo hi:Nat) (w:World) (g n:Nat) (B:List af) (es:Nat→Nat):Prop where
 len:B.length=n
 row:∃xs,w.ownsRow lo 63 2 (sL g n n) n xs∧∀(i:Nat) (p:af),B[i]?=some p→xs[i*2]?=some (sL (es i) p.1.length p.1.length)∧xs[i*2+1]?=some (iT p.2)
 ents:∀(i:Nat) (p:af),B[i]?=some p→ag w lo (es i) p.1.length p.1.length p.1
 up:∀i j,i<j→j<n→es i<es j
 top:g<hi∧∀i,i<n→es i<hi
 wfs:∀p ∈ B,(Lit.int .i64 p.2).wf=true
theorem er.keepO {B:List af} {es:Nat→Nat} (h:er lo hi w g n B es) (k:dw lo' hi' w w') (hd:hi≤lo'∨hi'≤lo):er lo hi w' g n B es:=by
 obtain ⟨xs,h1,h2⟩:=h.row;have hg:=(h1.lt g rfl).1;refine ⟨h.len,⟨xs,k.row h1 (by have:=h.top.1;omega),h2⟩,fun i p hp=>?_,h.up,h.top,h.wfs⟩;have hO:=h.ents i p hp;have hi':=(F'.1 hp).1;exact k.own hO (by have h3:=hO.lt.1;have h4:=h.top.2 i (by rw [← h.len];exact hi');omega)
theorem er.below {B:List af} {es:Nat→Nat} (h:er lo hi w g n B es) (hb:Bl w w'):er lo hi w' g n B es:=by
 obtain ⟨xs,h1,h2⟩:=h.row;exact ⟨h.len,⟨xs,h1.kept (row:=none) ⟨hb.os,hb.tape,hb.output,hb.size,fun k hk _=>hb.block k hk⟩ (.inr (by simp [Value.ownBlock])),h2⟩,fun i p hp=>(h.ents i p hp).below hb,h.up,h.top,h.wfs⟩
theorem er.ne {B:List af} {f:Nat→Nat} (h:er lo hi w g n B f) {i:Nat} {p:af} (hp:B[i]?=some p):g≠f i:=by
 intro e;obtain ⟨xs,h1,_⟩:=h.row;have b1:=eR h1;have b2:=eR (h.ents i p hp).owns;rw [← e] at b2;exact absurd (b1.kind b2) (by decide)
theorem er.cell {B:List af} {f:Nat→Nat} (h:er lo hi w g n B f) {i:Nat} {p:af} (hp:B[i]?=some p):w.cell? ⟨g,i*2,none⟩=some (sL (f i) p.1.length p.1.length)∧w.cell? ⟨g,i*2+1,none⟩=some (iT p.2)∧w.frozen? ⟨g,i*2+1,none⟩=false∧g<w.heap.size:=by
 obtain ⟨xs,h1,h2⟩:=h.row;have hi':=(F'.1 hp).1;rw [h.len] at hi';exact ⟨(h1.cellAt _ (by omega)).trans (h2 i p hp).1,(h1.cellAt _ (by omega)).trans (h2 i p hp).2,h1.frozenAt _,(h1.lt g rfl).2⟩
theorem er.put {B:List af} {r:Nat→Nat} {p:af} (h:er lo hi w g n B r) (hp:B[j]?=some p) {L:List ac} (hL:L.length=p.1.length) (hO:ag w1 lo (r j) p.1.length p.1.length L) (hg:w.grownBy w1 (some (r j))) (v:Int) (hv:(Lit.int .i64 v).wf=true) :
 er lo hi (w1.setCell ⟨g,j*2+1,none⟩ (iT v)) g n (B.set j (L,v)) r:=by
 have m:=h.ne hp;have f:j<B.length:=(F'.1 hp).1;obtain ⟨xs,h1,h2⟩:=h.row;have s:=h1.1;have t:=h.len;have u:=h1.kept hg (.inr (by simpa [Value.ownBlock] using m));have r2:=(u.stored (j*2+1) (iT v)).1;refine ⟨by rw [Jg];exact h.len,⟨_,r2,fun i q hq=>?_⟩,fun i q hq=>?_,h.up,h.top,fun q hq=>?_⟩
 · by_cases e:j=i
   · subst e;rw [Hp f] at hq;cases hq;rw [G9 (by omega),Hp (by omega)];simp only [hL];exact ⟨(h2 j p hp).1,trivial⟩
   · rw [G9 e] at hq;rw [G9 (by omega),G9 (by omega)];exact h2 i q hq
 · by_cases e:j=i
   · subst e;rw [Hp f] at hq;cases hq;simp only [hL];exact hO.setCell (p:=⟨g,j*2+1,none⟩) m _
   · rw [G9 e] at hq;have hi':=(F'.1 hq).1;refine (((h.ents i q hq).grown hg (fun x=>?_))).setCell (p:=⟨g,j*2+1,none⟩) (h.ne hq) _;have e2:=GN x;rcases Nat.lt_or_gt_of_ne e with h3 | h3
     · have:=h.up j i h3 (by omega);omega
     · have:=h.up i j h3 (by omega);omega
 · rcases I8 hq with h3 | h3
   · exact h.wfs q h3
   · subst h3;exact hv
end
section
attribute [local go_sem] Ic
structure gu (lo hi:Nat) (w:World) (G n:Nat) (V:List (List af)) (gs bs:Nat→Nat) (es:Nat→Nat→Nat):Prop where
 len:V.length=n
 row:∃xs,w.ownsRow lo 61 1 (sL G n n) n xs∧∀(i:Nat) (B:List af),V[i]?=some B→xs[i]?=some (sL (gs i) B.length B.length)
 levs:∀(i:Nat) (B:List af),V[i]?=some B→er (bs i) (bs (i+1)) w (gs i) B.length B (es i)
 bot:lo≤bs 0∧G<bs 0
 up:∀i j,i≤j→j≤n→bs i≤bs j
 top:bs n≤hi
theorem gu.below {es:Nat→Nat→Nat} (h:gu lo hi w G n V gs bs es) (hb:Bl w w'):gu lo hi w' G n V gs bs es:=by
 obtain ⟨xs,h1,h2⟩:=h.row;exact ⟨h.len,⟨xs,h1.kept (row:=none) ⟨hb.os,hb.tape,hb.output,hb.size,fun k hk _=>hb.block k hk⟩ (.inr (by simp [Value.ownBlock])),h2⟩,fun i B hB=>(h.levs i B hB).below hb,h.bot,h.up,h.top⟩
theorem gu.keepO {es:Nat→Nat→Nat} (h:gu lo hi w G n V gs bs es) (k:dw lo' hi' w w') (hG:G<lo'∨hi'≤G) (hd:bs n≤lo'∨hi'≤bs 0):gu lo hi w' G n V gs bs es:=by
 obtain ⟨xs,h1,h2⟩:=h.row;refine ⟨h.len,⟨xs,k.row h1 hG,h2⟩,fun i B hB=>(h.levs i B hB).keepO k ?_,h.bot,h.up,h.top⟩;have hi':=(F'.1 hB).1;rw [h.len] at hi';have u1:=h.up 0 i (by omega) (by omega);have u2:=h.up (i+1) n (by omega) (by omega);omega
theorem gu.cell {f:Nat→Nat→Nat} (h:gu lo hi w G n V gs bs f) {i:Nat} {B:List af} (hB:V[i]?=some B):w.cell? ⟨G,i,none⟩=some (sL (gs i) B.length B.length)∧G<w.heap.size:=by
 obtain ⟨xs,h1,h2⟩:=h.row;have hi':=(F'.1 hB).1;rw [h.len] at hi';exact ⟨(h1.cellAt _ (by omega)).trans (h2 i B hB),(h1.lt G rfl).2⟩
theorem gu.put {es:Nat→Nat→Nat} {B f:List af} (h:gu lo hi w G n V gs bs es) (hB:V[j]?=some B) (hl:f.length=B.length) (hR:er (bs j) (bs (j+1)) w1 (gs j) B.length f (es j)) (hk:dw (bs j) (bs (j+1)) w w1):gu lo hi w1 G n (V.set j f) gs bs es:=by
 have m:=(F'.1 hB).1;have r:=h.len;have u0:=h.up 0 j (by omega) (by omega);have hb:=h.bot.2;obtain ⟨xs,h1,h2⟩:=h.row;refine ⟨by rw [Jg];exact h.len,⟨xs,hk.row h1 (by omega),fun i C hC=>?_⟩,fun i C hC=>?_,h.bot,h.up,h.top⟩
 · by_cases e:j=i
   · subst e;rw [Hp m] at hC;cases hC;rw [hl];exact h2 j B hB
   · rw [G9 e] at hC;exact h2 i C hC
 · by_cases e:j=i
   · subst e;rw [Hp m] at hC;cases hC;rw [hl];exact hR
   · rw [G9 e] at hC;have hi':=(F'.1 hC).1;refine (h.levs i C hC).keepO hk ?_;rcases Nat.lt_or_gt_of_ne e with h3 | h3
     · have:=h.up (j+1) i (by omega) (by omega);omega
     · have:=h.up (i+1) j (by omega) (by omega);omega
def nS (lo:Nat) (w:World) (g n:Nat) (S:List Int):Prop:=S.length=n∧w.ownsRow lo 3 1 (sL g n n) n (S.map iT)
end
end Go.Proofs.YtpobkmjicbobdaaGreat
