/- Walks. -/
import Derived.Test.YtpobkmjicbobdaaGreatBW34
import Derived.Lib.ItoaLen
namespace Go.Proofs.YtpobkmjicbobdaaGreat
set_option maxRecDepth 100000
set_option maxHeartbeats 40000000
open Go.RowKit
variable {K L M:List ac} {S:List Int} {q:Int}
theorem jL {k t:ByteArray} {d n:Int} (h:dM k q d t n=true):k.size≤281474976710656∧t.size≤281474976710656:=by
 simp [dM,gZ] at h;omega
theorem vK (h:aI L=true) (i k:Nat):∀e ∈ (L.drop i).take k,e.1.size≤281474976710656∧e.2.2.2.1.size≤281474976710656:=by
 intro e b;obtain ⟨p,hp,rfl⟩:=Hm (H8 (Hq b));exact jL (eo h (j' hp))
theorem pd (h:aI L=true):∀e ∈ L,e.1.size≤281474976710656∧e.2.2.2.1.size≤281474976710656:=fun e d=>by
 obtain ⟨j,b,rfl⟩:=Hm d
 exact jL (eo h (j' b))
def F9 (q:Int) (a0:Option Addr) (n0 c0:Nat) (a1:Option Addr) (n1 c1:Nat) (a2:Option Addr) (n2 c2:Nat) (ak:Option Addr) (nk ck:Nat) (M K:List ac) (w:World) (e:Ending) (w':World):Prop :=
 (bX q M K=true→∃g n,e=.returned (.tuple #[.agg #[iT (q+K.length),sL g n n,.slice a0 n0 c0,.slice a1 n1 c1,.slice a2 n2 c2,.slice ak nk ck],.bool true])∧ag w' w.heap.size g n n (aS (M++dh q K))∧Bl w w')∧(bX q M K=false→FS w e w')
theorem xN {n:Nat} {w w':World} {e:Ending} (h:mG q K n w e w') (hl:K.length=n):∃a5 d c5 f b,e=.returned (.tuple #[.slice a5 d c5,.bool b])∧cE w' w.heap.size a5 d c5 f∧d≤n∧e9 f∧(b=true→d=n∧f=dh q K∧dx q K=true∧0<n)∧(b=false→dx q K=false∨n=0)∧Bl w w':=by
 obtain ⟨v,b,g,h1,h2,h3⟩:=h;cases hs:dx q K with
 | true =>
  obtain ⟨⟨a,c,rfl,h4⟩,rfl⟩:=h1 hs;refine ⟨a,n,c,_,_,g,h4,GL _,fun x hx=>?_,fun h=>⟨rfl,rfl,rfl,of_decide_eq_true h⟩,fun h=>.inr ?_,h3⟩
  · obtain ⟨j,m,rfl⟩:=Hm hx;exact jL (s6 hs (j' m))
  · have:=of_decide_eq_false h;omega
 | false =>
  obtain ⟨rfl,rfl⟩:=h2 hs;exact ⟨none,0,0,[],false,g,cE.none _ _,GQ _,(fun x hx=>by cases hx),(fun h=>by cases h),fun _=>.inl rfl,h3⟩
theorem AX (q:Int) (t:Option Addr) (b E:Nat) (a0:Option Addr) (f c0:Nat) (a1:Option Addr) (n c1:Nat) (a2:Option Addr) (n2 c2:Nat) (s:Option Addr) (r m:Nat) (M:List ac) (A B C:List af) (S:List Int) (ab:Option Addr) (d cb:Nat) (K:List ac) (w:World) (a3:pD w t b E a0 f c0 a1 n c1 a2 n2 c2 s r m M A B C S) (hK:ah w ab d cb K) (aZ:d≤1048576) (bf:b≤1048576) (hM:e9 M) (aV:0≤q) (b4:q≤100000) :
 Calls Tryz.prog 97 #[.agg #[iT q,.slice t b E,.slice a0 f c0,.slice a1 n c1,.slice a2 n2 c2,.slice s r m],.slice ab d cb] w (F9 q a0 f c0 a1 n c1 a2 n2 c2 s r m M K w):=by
 obtain ⟨X,hX⟩:=aG w.heap.size;obtain ⟨W,hW⟩:=aG ((w.alloc (.cells #[iT q,.slice t b E,.slice a0 f c0,.slice a1 n c1,.slice a2 n2 c2,.slice s r m] 82)).alloc (.cells #[iT 0,nZ,nZ,nZ,nZ,nZ] 82));have kW:Bl w W:=by rw [hW];exact bZ.alloc (by simp) _
 have bx:cu W X (iT q) (.slice t b E) (.slice a0 f c0) (.slice a1 n c1) (.slice a2 n2 c2) (.slice s r m):=by rw [hW,hX];exact (cu.new _ _ _ _ _ _ _ _).alloc _
 have br:cu W (X+1) (iT 0) nZ nZ nZ nZ nZ:=by
  have:=cu.new (w.alloc (.cells #[iT q,.slice t b E,.slice a0 f c0,.slice a1 n c1,.slice a2 n2 c2,.slice s r m] 82)) 82 (iT 0) nZ nZ nZ nZ nZ;rw [GY] at this;rw [hW,hX];exact this
 have HX:Eq (X=w.heap.size):=hX;have a9:Eq (W.heap.size=X+1+1):=by show _=_;rw [hW,hX];simp
 have K0:Eq (Bl w W):=kW;have b3:=az a3;have F:Eq (K.length=d):=hK.length;have a7:Eq (M.length=b):=a3.mem.length;have aO:=az hM;have CT:Eq (Calls Tryz.prog 157 #[.slice ab d cb,iT q] W (mG q K d W)):=AY ab d cb K q W (hK.keep kW) aZ aV b4;have HR:Eq (cu W (X+1) (iT 0) nZ nZ nZ nZ nZ):=br;clear kW a3 hK hM br;have e1:IntKind.i64.wrap ((b:Int)+(d:Int))=(b:Int)+(d:Int):=by rw [G4];unfold wrap64;omega
 go_enter Tryz.func97,Tryz.ntmps97
 go_upto_region 1 with fail
 rw [← hX,← hW];clear hX hW;have x0:=bx.all;have r0:=HR.o.all;by_cases bi:12<d
 · have au:(d:Int) > 12:=by omega
   have aq:(12:Int)<(d:Int):=by omega
   have Z:Eq (bX q M K=false):=by show _=_;have:=F.o;unfold bX;rw [this];simp [show ¬d≤12 by omega]
   go_wp2;refine bodyPost_ret (v:=.tuple #[.agg #[iT q,.slice t b E,.slice a0 f c0,.slice a1 n c1,.slice a2 n2 c2,.slice s r m],.bool false]) ?_ rfl (show F9 q a0 f c0 a1 n c1 a2 n2 c2 s r m M K w _ _ from ⟨(fun h=>by rw [Z.o] at h;cases h),fun _=>⟨_,_,_,_,_,_,_,_,_,_,_,_,_,_,_,_,rfl,?_⟩⟩)
   · have e:=((((((HR.o.set0 (iT q)).set1 (.slice t b E)).set2 (.slice a0 f c0)).set3 (.slice a1 n c1)).set4 (.slice a2 n2 c2)).set5 (.slice s r m));simp [results,Tryz.results97,go_sem,e.all]
   · have hx:w.heap.size≤X+1:=by have:=HX.o;omega
     exact (((jY K0.o hx _ _ _ _).setCell (p:=⟨X+1,4,none⟩) hx _).setCell (p:=⟨X+1,5,none⟩) hx _)
 have au:¬(d:Int) > 12:=by omega
 have aq:¬(12:Int)<(d:Int):=by omega
 by_cases bg:60<b+d
 · have ay:(b:Int)+(d:Int) > 60:=by omega
   have aC:(60:Int)<(b:Int)+(d:Int):=by omega
   have Z:Eq (bX q M K=false):=by show _=_;have:=F.o;have:=a7.o;unfold bX;simp [show ¬M.length+K.length≤60 by omega]
   go_wp2;refine bodyPost_ret (v:=.tuple #[.agg #[iT q,.slice t b E,.slice a0 f c0,.slice a1 n c1,.slice a2 n2 c2,.slice s r m],.bool false]) ?_ rfl (show F9 q a0 f c0 a1 n c1 a2 n2 c2 s r m M K w _ _ from ⟨(fun h=>by rw [Z.o] at h;cases h),fun _=>⟨_,_,_,_,_,_,_,_,_,_,_,_,_,_,_,_,rfl,?_⟩⟩)
   · have e:=((((((HR.o.set0 (iT q)).set1 (.slice t b E)).set2 (.slice a0 f c0)).set3 (.slice a1 n c1)).set4 (.slice a2 n2 c2)).set5 (.slice s r m));simp [results,Tryz.results97,go_sem,e.all]
   · have hx:w.heap.size≤X+1:=by have:=HX.o;omega
     exact (((jY K0.o hx _ _ _ _).setCell (p:=⟨X+1,4,none⟩) hx _).setCell (p:=⟨X+1,5,none⟩) hx _)
 have ay:¬(b:Int)+(d:Int) > 60:=by omega
 have aC:¬(60:Int)<(b:Int)+(d:Int):=by omega
 clear r0;go_wp2_with fail
 clear x0;refine CT.o.mono ?_;rintro e w1 aw;obtain ⟨a5,n5,c5,L5,ok,rfl,aB,bh,av,ap,Q,O⟩:=xN aw F.o;have K1:Eq (Bl W w1):=O;have U:Eq (cE w1 W.heap.size a5 n5 c5 L5):=aB;have aX:Eq (e9 L5):=av;have aU:Eq (ok=true→n5=d∧L5=dh q K∧dx q K=true∧0<d):=ap;have aQ:Eq (ok=false→dx q K=false∨d=0):=Q;have a8:=bx.keep O;have ao:Eq (cu w1 (X+1) (iT 0) nZ nZ nZ nZ nZ):=HR.o.keep O;clear aw aB av ap Q O bx HR CT;have e2:IntKind.i64.wrap (q+(n5:Int))=q+(n5:Int):=by rw [G4];unfold wrap64;omega
 have x0:=a8.all;obtain ⟨w2,y⟩:=aG (w1.setCell ⟨X,0,none⟩ (iT (q+(n5:Int))));go_upto_region 5 with fail
 rw [← y];have hx:=HX.o;have hs:=a9.o;have ad:cu w2 X (iT (q+(n5:Int))) (.slice t b E) (.slice a0 f c0) (.slice a1 n c1) (.slice a2 n2 c2) (.slice s r m):=by rw [y];exact a8.set0 _
 have ax:Eq (cu w2 (X+1) (iT 0) nZ nZ nZ nZ nZ):=by rw [y];exact ao.o.other (by omega) _
 have R:dw w.heap.size W.heap.size w1 w2:=by rw [y];exact (xX _ X 0 _).mono (by omega) (by omega)
 have K2:Eq (Bl w w2):=by rw [y];exact (K0.o.trans (K1.o.mono K0.o.size)).setCell (p:=⟨X,0,none⟩) (by show _≤X;omega) _
 have a4:Eq (cE w2 W.heap.size a5 n5 c5 L5):=⟨U.o.nil,fun x e=>by
  obtain ⟨g,rfl,h2⟩:=U.o.own x e;exact ⟨g,rfl,R.own h2 (.inr h2.lt.1)⟩⟩
 have aP:Eq (W.heap.size≤w2.heap.size):=GU K1.o.size R.size;clear y x0 a8 ao R U K1 hx hs;obtain ⟨W3,I⟩:=aG (w2.alloc (.cells #[.slice t b E,.slice a5 n5 c5] 28));have k3:Bl w2 W3:=by rw [I];exact bZ
 have hP:cZ W3 (some ⟨w2.heap.size,0,none⟩) 2 2 [M,L5]:=by
  have hc:∀j u,[Value.slice t b E,Value.slice a5 n5 c5][j]?=some u→W3.cell? ⟨w2.heap.size,j,none⟩=some u:=by
   intro j u Y;rw [I];match j,Y with
   | 0,Y=>simp at Y;subst Y;simp
   | 1,Y=>simp at Y;subst Y;simp
  refine ⟨rfl,GL _,by unfold maxLen;omega,(fun e=>by cases e),(fun x e _=>by cases e;exact ⟨GK _ _ (hc 0 _ rfl),rfl⟩),?_⟩;rintro x e i hi;cases e;match i,hi with
  | 0,_=>exact ⟨t,b,E,by simpa using hc 0 _ rfl,((b3.o.keep K2.o).keep k3).mem⟩
  | 1,_=>exact ⟨a5,n5,c5,by simpa using hc 1 _ rfl,(a4.o.below k3).entsAt⟩
 have H:[M,L5].flatten=M++L5:=by simp
 have T:(M++L5).length=b+n5:=by rw [GO,a7.o,a4.o.len]
 have CM:Eq (Calls Tryz.prog 93 #[sL (w2.heap.size) 2 2] W3 fun e w'=>∃g,e=.returned (sL g (b+n5) (b+n5))∧ag w' W3.heap.size g (b+n5) (b+n5) (aS (M++L5))∧Bl W3 w'):=by
  have h:=callsIn_wide.1 (tI _ _ _ [M,L5] W3 hP (by omega) (by rw [H,T];omega) (by
   intro e he;rw [H] at he;rcases GX.1 he with h | h
   · exact aO.o e h
   · exact aX.o e h))
  refine h.mono ?_;rintro e w' ⟨⟨g,h1,h2⟩,h3⟩;rw [H,T] at h1 h2;exact ⟨g,h1,h2,h3⟩
 have K3:Eq (Bl w2 W3):=k3;clear k3 hP H T;have x0:=ad.all;go_wp2_with fail
 rw [← I];clear I x0;refine CM.o.mono ?_;rintro e w4 ⟨g,rfl,aA,aF⟩;have N:Bl w2 w4:=K3.o.trans (aF.mono K3.o.size);have K4:Eq (Bl w w4):=K2.o.trans (N.mono K2.o.size);have a6:Eq (ag w4 W.heap.size g (b+n5) (b+n5) (aS (M++L5))):=aA.mono (GU aP.o K3.o.size);have aa:=ad.keep N;have ar:Eq (cu w4 (X+1) (iT 0) nZ nZ nZ nZ nZ):=ax.o.keep N;clear aA aF N ad ax CM a4 K3;obtain ⟨w5,D⟩:=aG (w4.setCell ⟨X,1,none⟩ (sL g (b+n5) (b+n5)));have hx:=HX.o;have hs:=a9.o;have b2:cu w5 X (iT (q+(n5:Int))) (sL g (b+n5) (b+n5)) (.slice a0 f c0) (.slice a1 n c1) (.slice a2 n2 c2) (.slice s r m):=by rw [D];exact aa.set1 _
 have an:Eq (cu w5 (X+1) (iT 0) nZ nZ nZ nZ nZ):=by rw [D];exact ar.o.other (by omega) _
 have K5:Eq (Bl w w5):=by rw [D];exact K4.o.setCell (p:=⟨X,1,none⟩) (by show _≤X;omega) _
 have aR:Eq (ag w5 W.heap.size g (b+n5) (b+n5) (aS (M++L5))):=by
  have k:dw w.heap.size W.heap.size w4 w5:=by rw [D];exact (xX _ X 1 _).mono (by omega) (by omega)
  exact k.own a6.o (.inr a6.o.lt.1)
 clear hx hs;have x0:=aa.all;go_upto_region 6 with fail
 rw [← D];clear D x0 aa a6 K4 ar;have x0:=b2.all;have r0:=an.o.all;go_wp2;have hx:w.heap.size≤X+1:=by have:=HX.o;omega
 have hs:=a9.o;have be:=HX.o;refine bodyPost_ret (v:=.tuple #[.agg #[iT (q+(n5:Int)),sL g (b+n5) (b+n5),.slice a0 f c0,.slice a1 n c1,.slice a2 n2 c2,.slice s r m],.bool ok]) ?_ rfl (show F9 q a0 f c0 a1 n c1 a2 n2 c2 s r m M K w _ _ from ?_)
 · have e:=((((((an.o.set0 (iT (q+(n5:Int)))).set1 (sL g (b+n5) (b+n5))).set2 (.slice a0 f c0)).set3 (.slice a1 n c1)).set4 (.slice a2 n2 c2)).set5 (.slice s r m));simp [results,Tryz.results97,go_sem,e.all]
 · cases ok with
   | true =>
    obtain ⟨rfl,rfl,aW,b7⟩:=aU.o rfl;have J:=F.o;have aY:=a7.o;refine ⟨fun _=>?_,fun h=>absurd h ?_⟩
    · rw [J];refine ⟨_,_,rfl,?_,(((jY K5.o hx _ _ _ _).setCell (p:=⟨X+1,4,none⟩) hx _).setCell (p:=⟨X+1,5,none⟩) hx _)⟩;have k6:∀(w':World) (o:Nat) (u:Value),ag w' W.heap.size g (b+n5) (b+n5) (aS (M++dh q K))→ag (w'.setCell ⟨X+1,o,none⟩ u) W.heap.size g (b+n5) (b+n5) (aS (M++dh q K)):=fun w' o u h=>((xX w' (X+1) o u).mono (lo':=w.heap.size) (hi':=W.heap.size) (by omega) (by omega)).own h (.inr h.lt.1)
      exact (k6 _ _ _ (k6 _ _ _ (k6 _ _ _ (k6 _ _ _ (k6 _ _ _ (k6 _ _ _ aR.o)))))).mono (by omega)
    · unfold bX;rw [J,aY,aW];simp;omega
   | false =>
    have aT:=aQ.o rfl;have J:=F.o;refine ⟨fun h=>absurd h ?_,fun _=>⟨_,_,_,_,_,_,_,_,_,_,_,_,_,_,_,_,rfl,(((jY K5.o hx _ _ _ _).setCell (p:=⟨X+1,4,none⟩) hx _).setCell (p:=⟨X+1,5,none⟩) hx _)⟩⟩;unfold bX;rw [J];rcases aT with h | h
    · rw [h];simp
    · simp [h]
theorem qm (lo:Nat) (q:Int) (u:Option Addr) (d x:Nat) (D:Option Addr) (y:Nat) (m:Option Addr) (b cs:Nat) (M:List ac) (V:List (List af)) (S:List Int) (ab:Option Addr) (nb cb:Nat) (q2:Int) (M2:List ac) (V2:List (List af)) (S2:List Int) (ok:Bool) (w:World) (Q:aZ lo w u d x D 3 y m b cs M V S) (f:aP q M V S=true)
 (hC:∀(base T c1 G c Y c3:Nat) (w':World),cQ base w' T d c1 G 3 c Y b c3 M V S→base≤w'.heap.size→Bl w w'→Calls Tryz.prog 98 #[.agg #[iT q,sL T d c1,sL G 3 c,sL Y b c3],.slice ab nb cb] w' (El base q2 M2 V2 S2 ok w')) :
 Calls Tryz.prog 32 #[.agg #[iT q,.slice u d x,.slice D 3 y,.slice m b cs],.slice ab nb cb] w (Em q2 M2 V2 S2 ok w):=by
 have hsl:=Q.snaps.length;have hns:b≤4:=by
  have h1:=(aL f).2.2.2.2.2.2.1;unfold cG at h1;rw [G2] at h1;have h2:=of_decide_eq_true h1.1;omega
 have aN:d≤60:=by have h1:=(aL f).2.2.1;have h2:=Q.mem.1.length;omega
 obtain ⟨A,B,C,I⟩:=dX f;have aJ:3≤100:=by have h1:=Q.levels.length;rw [I] at h1;have h2:([A,B,C]:List (List af)).length=3:=rfl;omega
 have a8:∀B ∈ V,B.length≤100∧∀r ∈ B,1≤r.1.length∧r.1.length≤10000:=by
  have h8:fa V q=true:=(aL f).2.2.2.2.2.2.2.1;rw [I] at h8 ⊢;unfold fa at h8;simp only [G2] at h8;intro Z a6;simp only [GZ,Hs,or_false] at a6;rcases a6 with rfl | rfl | rfl
  · exact cT h8.1 (by omega)
  · exact cT h8.2.1 (by omega)
  · exact cT h8.2.2 (by omega)
 have CO:Eq (∀w',Bl w w'→Calls Tryz.prog 27 #[.agg #[iT q,.slice u d x,.slice D 3 y,.slice m b cs]] w' fun e g=>e=.returned (.bool true)∧Bl w' g):=fun w' k=>by
  have:=iq lo q _ _ _ _ _ _ _ _ _ M V S w' (Q.keep k);rw [f] at this;exact this
 have CC:Eq (∀w',Bl w w'→Calls Tryz.prog 57 #[.agg #[iT q,.slice u d x,.slice D 3 y,.slice m b cs]] w' fun e g=>∃T c1 G c Y c3,e=.returned (.agg #[iT q,sL T d c1,sL G 3 c,sL Y b c3])∧cQ w'.heap.size g T d c1 G 3 c Y b c3 M V S∧Bl w' g):=fun w' k=>io lo q u D m d x 3 y b cs M V S w' (Q.keep k) (by omega) (by omega) (by omega) a8
 obtain ⟨X,hX⟩:=aG w.heap.size;obtain ⟨W,hW⟩:=aG ((w.alloc (.cells #[iT q,.slice u d x,.slice D 3 y,.slice m b cs] 31)).alloc (.cells #[iT 0,nZ,nZ,nZ] 31));have kW:Bl w W:=by rw [hW];exact bZ.alloc (by simp) _
 have bx:ay W X (iT q) (.slice u d x) (.slice D 3 y) (.slice m b cs):=by rw [hW,hX];exact (ay.new _ _ _ _ _ _).alloc _
 have br:ay W (X+1) (iT 0) nZ nZ nZ:=by
  have:=ay.new (w.alloc (.cells #[iT q,.slice u d x,.slice D 3 y,.slice m b cs] 31)) 31 (iT 0) nZ nZ nZ;rw [GY] at this;rw [hW,hX];exact this
 have HX:Eq (X=w.heap.size):=hX;have K0:Eq (Bl w W):=kW;have aM:Eq (bJ lo w m b cs S):=Q.snaps;have aO:Eq (S.length=b):=hsl;have aQ:Eq (∀z ∈ S,(Lit.int .i64 z).wf=true):=Q.snaps.wfs;clear kW a8 f I;go_enter Tryz.func32,Tryz.ntmps32
 go_wp2_with fail
 rw [← hX,← hW];clear hX hW;refine (CO.o _ K0.o).mono ?_;rintro e w1 ⟨rfl,t⟩;have K1:Eq (Bl w w1):=K0.o.trans (t.mono K0.o.size);have a2:=bx.keep t;have E:=br.keep t;have x0:=a2.all;clear t bx br;go_wp2_with fail
 clear x0;refine (CC.o _ K1.o).mono ?_;rintro e w2 ⟨T,c1,G,c,Y,c3,rfl,a3,s⟩;have aw:Eq (X+1<w1.heap.size):=E.lt;have K2:Eq (Bl w w2):=K1.o.trans (s.mono K1.o.size);have CT:=hC w1.heap.size T c1 G c Y c3 w2 a3 s.size K2.o;have a5:=E.keep s;clear s a3 a2 E hC CC CO;go_wp2_with fail
 refine CT.mono ?_;rintro e w3 ⟨dm,dn,J,dv,N,R,dk,F,H,rfl,a7,U⟩;have K3:Eq (Bl w w3):=K2.o.trans (U.mono K2.o.size);have ao:Eq (aZ w1.heap.size w3 dm dn J dv N R dk F H M2 V2 S2):=a7;have O:=a5.keep U;have ah:Eq (ay w3 (X+1) (iT 0) nZ nZ nZ):=O;have r0:=O.all;clear U a7 a5 O CT;go_wp2;refine bodyPost_ret (v:=.tuple #[.agg #[iT q2,.slice dm dn J,.slice dv N R,.slice dk F H],.bool ok]) ?_ rfl ⟨_,_,_,_,_,_,_,_,_,rfl,?_,?_⟩
 · have e:=(((ah.o.set0 (iT q2)).set1 (.slice dm dn J)).set2 (.slice dv N R)).set3 (.slice dk F H);simp [results,Tryz.results32,go_sem,e.all]
 · have n:=aw.o;exact ((ao.o.same ((((eF.of_set _ _ n).trans (eF.of_set _ _ n)).trans (eF.of_set _ _ n)).trans (eF.of_set _ _ n)))).lowR (GQ _)
 · have hx:w.heap.size≤X+1:=by have:=HX.o;omega
   exact jY K3.o hx _ _ _ _
theorem vw (lo:Nat) (q:Int) (d x u:Option Addr) (f s t r n cs:Nat) (M:List ac) (V:List (List af)) (S:List Int) (O:Option Addr) (I Q:Nat) (w:World) (F:aZ lo w d f s x t r u n cs M V S) (m:aP q M V S=false) :
 Calls Tryz.prog 32 #[.agg #[iT q,.slice d f s,.slice x t r,.slice u n cs],.slice O I Q] w (Ab w):=by
 obtain ⟨X,y⟩:=aG w.heap.size;obtain ⟨W,A⟩:=aG ((w.alloc (.cells #[iT q,.slice d f s,.slice x t r,.slice u n cs] 31)).alloc (.cells #[iT 0,nZ,nZ,nZ] 31));have D:Bl w W:=by rw [A];exact bZ.alloc (by simp) _
 have E:ay W (X+1) (iT 0) nZ nZ nZ:=by
  have:=ay.new (w.alloc (.cells #[iT q,.slice d f s,.slice x t r,.slice u n cs] 31)) 31 (iT 0) nZ nZ nZ;rw [GY] at this;rw [A,y];exact this
 have R:Eq (X=w.heap.size):=y;have B:Eq (Bl w W):=D;have N:Eq (∀w',Bl w w'→Calls Tryz.prog 27 #[.agg #[iT q,.slice d f s,.slice x t r,.slice u n cs]] w' fun e C=>e=.returned (.bool false)∧Bl w' C):=fun w' k=>by
  have:=iq lo q _ _ _ _ _ _ _ _ _ M V S w' (F.keep k);rw [m] at this;exact this
 clear F D m;go_enter Tryz.func32,Tryz.ntmps32
 go_wp2_with fail
 rw [← y,← A];clear y A;refine (N.o _ B.o).mono ?_;rintro e H ⟨rfl,b⟩;have J:Eq (Bl w H):=B.o.trans (b.mono B.o.size);have g:=E.keep b;have T:=g.all;clear b E;go_wp2;refine bodyPost_ret (v:=.tuple #[.agg #[iT 0,nZ,nZ,nZ],.bool false]) ?_ rfl ⟨rfl,?_⟩
 · have e:=(((g.set0 (iT 0)).set1 nZ).set2 nZ).set3 nZ;simp [results,Tryz.results32,go_sem,e.all]
 · have hx:w.heap.size≤X+1:=by have:=R.o;omega
   exact jY J.o hx _ _ _ _
theorem vE (h:aI M=true):aS M=M :=
 (iK (fW h) (bu M).1 (bu M).2.symm).symm
theorem oR (h:aI M=true) (D:List ac):D.foldl eI M=aS (M++D):=by
 have e:=vE h;unfold aS at e ⊢;rw [I6,e]
theorem xQ (h:e9 M):e9 (aS M):=fun e b=>h e ((bu M).2.mem_iff.1 b)
theorem An (h:e9 K):e9 (dh q K):=fun e b=>by
 unfold dh at b
 obtain ⟨i,hi,rfl⟩:=List.mem_mapIdx.1 b
 have h2:=h _ (Hj hi)
 exact ⟨h2.1,h2.2⟩
def Gl (q:Int) (M K:List ac) (A B C:List af) (S:List Int) (w:World) (e:Ending) (w':World):Prop :=
 (bX q M K=true→Gh (q+K.length) (aS (M++dh q K)) A B C S w e w')∧(bX q M K=false→FS w e w')
theorem B3 (a3:Nat) (q:Int) (J:Option Addr) (D N:Nat) (a0:Option Addr) (f c0:Nat) (a1:Option Addr) (x c1:Nat) (a2:Option Addr) (n2 c2:Nat) (s:Option Addr) (r t:Nat) (M:List ac) (A B C:List af) (S:List Int) (ab:Option Addr) (U cb:Nat) (K:List ac) (w:World) (H:pD w J D N a0 f c0 a1 x c1 a2 n2 c2 s r t M A B C S) (a7:w.cell? ⟨a3,0,none⟩=some (.slice ab U cb)) (hK:ah w ab U cb K) (aE:U≤1048576) (aA:D≤1048576) (hM:e9 M) (aC:0≤q) (aB:q≤100000) :
 Calls Tryz.prog 96 #[.agg #[iT q,.slice J D N,.slice a0 f c0,.slice a1 x c1,.slice a2 n2 c2,.slice s r t],.pointer (pT a3)] w (Gl q M K A B C S w):=by
 obtain ⟨X,hX⟩:=aG w.heap.size;obtain ⟨W,hW⟩:=aG ((w.alloc (.cells #[iT q,.slice J D N,.slice a0 f c0,.slice a1 x c1,.slice a2 n2 c2,.slice s r t] 82)).alloc (.cells #[iT 0,nZ,nZ,nZ,nZ,nZ] 82));have kW:Bl w W:=by rw [hW];exact bZ.alloc (by simp) _
 have Y:cu W (X+1) (iT 0) nZ nZ nZ nZ nZ:=by
  have:=cu.new (w.alloc (.cells #[iT q,.slice J D N,.slice a0 f c0,.slice a1 x c1,.slice a2 n2 c2,.slice s r t] 82)) 82 (iT 0) nZ nZ nZ nZ nZ;rw [GY] at this;rw [hW,hX];exact this
 have HX:Eq (X=w.heap.size):=hX;have K0:Eq (Bl w W):=kW;have m:=az H;have ax:Eq (X+1<W.heap.size):=Y.lt;have CD:Eq (Calls Tryz.prog 97 #[.agg #[iT q,.slice J D N,.slice a0 f c0,.slice a1 x c1,.slice a2 n2 c2,.slice s r t],.slice ab U cb] W (F9 q a0 f c0 a1 x c1 a2 n2 c2 s r t M K W)):=AX q J D N a0 f c0 a1 x c1 a2 n2 c2 s r t M A B C S ab U cb K W (H.keep kW) (hK.keep kW) aE aA hM aC aB;have ao:=GK _ _ a7;simp only at ao;clear kW H hK hM;go_enter Tryz.func96,Tryz.ntmps96
 go_wp2_with fail
 rw [← hX,← hW];clear hX hW a7 ao;refine CD.o.mono ?_;rintro e w1 y;cases hwo:bX q M K with
 | true =>
  obtain ⟨g,n,rfl,R,d⟩:=y.1 hwo;have F:Eq (bX q M K=true):=hwo;have ay:Eq (ag w1 W.heap.size g n n (aS (M++dh q K))):=R;have E:Eq (Bl w w1):=K0.o.trans (d.mono K0.o.size);have b:=Y.keep d;have I:Eq (cu w1 (X+1) (iT 0) nZ nZ nZ nZ nZ):=b;clear d Y R hwo y CD;have y0:=b.all;clear b;go_wp2;have hx:w.heap.size≤X+1:=by have:=HX.o;omega
  refine bodyPost_ret (v:=.tuple #[.agg #[iT (q+K.length),sL g n n,.slice a0 f c0,.slice a1 x c1,.slice a2 n2 c2,.slice s r t],.bool true]) ?_ rfl (show Gl q M K A B C S w _ _ from ⟨fun _=>⟨_,_,_,_,_,_,_,_,_,_,_,_,_,_,_,rfl,⟨?_,(m.o.keep (((jY E.o hx _ _ _ _).setCell (p:=⟨X+1,4,none⟩) hx _).setCell (p:=⟨X+1,5,none⟩) hx _)).r0,(m.o.keep (((jY E.o hx _ _ _ _).setCell (p:=⟨X+1,4,none⟩) hx _).setCell (p:=⟨X+1,5,none⟩) hx _)).r1,(m.o.keep (((jY E.o hx _ _ _ _).setCell (p:=⟨X+1,4,none⟩) hx _).setCell (p:=⟨X+1,5,none⟩) hx _)).r2,(m.o.keep (((jY E.o hx _ _ _ _).setCell (p:=⟨X+1,4,none⟩) hx _).setCell (p:=⟨X+1,5,none⟩) hx _)).sn⟩,(((jY E.o hx _ _ _ _).setCell (p:=⟨X+1,4,none⟩) hx _).setCell (p:=⟨X+1,5,none⟩) hx _)⟩,fun h=>by rw [F.o] at h;cases h⟩)
  · have e:=((((((I.o.set0 (iT (q+K.length))).set1 (sL g n n)).set2 (.slice a0 f c0)).set3 (.slice a1 x c1)).set4 (.slice a2 n2 c2)).set5 (.slice s r t));simp [results,Tryz.results96,go_sem,e.all]
  · have aH:=ax.o;have O:∀(w':World) (o:Nat) (u:Value),ag w' W.heap.size g n n (aS (M++dh q K))→ag (w'.setCell ⟨X+1,o,none⟩ u) W.heap.size g n n (aS (M++dh q K)):=fun w' o u h=>h.setCell (p:=⟨X+1,o,none⟩) (by have:=h.lt.1;show X+1≠g;omega) u
    exact (O _ _ _ (O _ _ _ (O _ _ _ (O _ _ _ (O _ _ _ (O _ _ _ ay.o)))))).entsAt
 | false =>
  obtain ⟨q2,aa,ae,T,aj,an,a9,a5,al,Q,a22,ai,a6,Z,ad,a4,rfl,d⟩:=y.2 hwo;have F:Eq (bX q M K=false):=hwo;have E:Eq (Bl w w1):=K0.o.trans (d.mono K0.o.size);have b:=Y.keep d;have I:Eq (cu w1 (X+1) (iT 0) nZ nZ nZ nZ nZ):=b;clear d Y hwo y CD;have y0:=b.all;clear b;go_wp2;have hx:w.heap.size≤X+1:=by have:=HX.o;omega
  refine bodyPost_ret (v:=.tuple #[.agg #[iT q2,.slice aa ae T,.slice aj an a9,.slice a5 al Q,.slice a22 ai a6,.slice Z ad a4],.bool false]) ?_ rfl (show Gl q M K A B C S w _ _ from ⟨(fun h=>by rw [F.o] at h;cases h),fun _=>⟨_,_,_,_,_,_,_,_,_,_,_,_,_,_,_,_,rfl,(((jY E.o hx _ _ _ _).setCell (p:=⟨X+1,4,none⟩) hx _).setCell (p:=⟨X+1,5,none⟩) hx _)⟩⟩);have e:=((((((I.o.set0 (iT q2)).set1 (.slice aa ae T)).set2 (.slice aj an a9)).set3 (.slice a5 al Q)).set4 (.slice a22 ai a6)).set5 (.slice Z ad a4));simp [results,Tryz.results96,go_sem,e.all]
theorem l7 (q:Int) (f:Option Addr) (g r:Nat) (y:Option Addr) (t m:Nat) (x:Option Addr) (u s:Nat) (E:Option Addr) (C F:Nat) (q2:Int) (Q:List ac) (J:List (List af)) (N:List Int) (O:Bool) (w:World)
 (hC:∀w',Bl w w'→w'.cell? ⟨w.heap.size+1,0,none⟩=some (.slice E C F)→Calls Tryz.prog 61 #[.agg #[iT q,.slice f g r,.slice y t m,.slice x u s],.func (.func 96) #[] #[.pointer (some ⟨w.heap.size+1,0,none⟩)]] w' (pF q2 Q J N O w')) :
 Calls Tryz.prog 31 #[.agg #[iT q,.slice f g r,.slice y t m,.slice x u s],.slice E C F] w (pF q2 Q J N O w):=by
 obtain ⟨X,B⟩:=aG w.heap.size;obtain ⟨W,D⟩:=aG (((w.alloc (.cells #[iT q,.slice f g r,.slice y t m,.slice x u s] 31)).alloc (.cells #[.slice E C F] 28)).alloc (.cells #[iT 0,nZ,nZ,nZ] 31));have R:Bl w W:=by rw [D];exact ((bZ.alloc (by simp;try omega) _).alloc (by simp;try omega) _)
 have U:ay W (X+1+1) (iT 0) nZ nZ nZ:=by
  have:=ay.new ((w.alloc (.cells #[iT q,.slice f g r,.slice y t m,.slice x u s] 31)).alloc (.cells #[.slice E C F] 28)) 31 (iT 0) nZ nZ nZ;simp only [GY] at this;rw [D,B];exact this
 have HX:Eq (X=w.heap.size):=B;have T:Eq (Bl w W):=R;have CT:Eq (Calls Tryz.prog 61 #[.agg #[iT q,.slice f g r,.slice y t m,.slice x u s],.func (.func 96) #[] #[.pointer (some ⟨X+1,0,none⟩)]] W (pF q2 Q J N O W)):=by
  try rw [B]
  exact hC W R (by rw [D];have h1:=dU (w.alloc (.cells #[iT q,.slice f g r,.slice y t m,.slice x u s] 31)) (.slice E C F) 28 0 _ rfl;rw [G6,GY] at h1;exact cell_later bZ h1)
 have Y:Eq (X+1+1<W.heap.size):=U.lt;clear R hC;go_enter Tryz.func31,Tryz.ntmps31
 go_wp2_with fail
 rw [← B,← D];clear B D;refine CT.o.mono ?_;rintro e I ⟨a1,A,a2,n2,a3,n,gs,bs,es,rfl,H,d⟩;have K1:Eq (Bl w I):=T.o.trans (d.mono T.o.size);have Z:Eq (o4 W.heap.size I.heap.size I a1 A a2 n2 a3 n Q J N gs bs es):=H;have b:=U.keep d;have a0:Eq (ay I (X+1+1) (iT 0) nZ nZ nZ):=b;have r0:=b.all;clear d U H CT b;go_wp2;refine bodyPost_ret (v:=.tuple #[.agg #[iT q2,.slice a1 A A,.slice a2 n2 n2,.slice a3 n n],.bool O]) ?_ rfl ⟨a1,A,a2,n2,a3,n,gs,bs,es,rfl,?_,?_⟩
 · have e:=(((a0.o.set0 (iT q2)).set1 (.slice a1 A A)).set2 (.slice a2 n2 n2)).set3 (.slice a3 n n);simp [results,Tryz.results31,go_sem,e.all]
 · exact AC Z.o Y.o T.o.size (by simp [World.setCell]) _ _ _ _
 · have hx:w.heap.size≤X+1+1:=by have:=HX.o;omega
   exact jY K1.o hx _ _ _ _
theorem oy (h:aI L=true):e9 L:=fun e d=>by
 obtain ⟨j,b,rfl⟩:=Hm d
 exact jL (eo h (j' b))
theorem xh {Z:List af} (h:eY Z=false):∀r ∈ Z,cU r.1 r.2=true:=fun r hr=>by simpa using dz h r hr
theorem qE {A B C:List af} (h:aP q M [A,B,C] S=true):xC M A B C S:=by
 obtain ⟨_,_,h3,h4,_,h6,⟨ha,hb,hc⟩,_⟩:=dJ.1 h;rw [cP] at ha hb hc;have hS:=(fI.1 h6).1;have hr:∀{Z:List af} {n:Int},(Z.length:Int)≤n→n≤8→eY Z=false→lg Z∧iR Z:=fun {Z n} hl hn hz =>
  ⟨⟨by omega,fun p hp=>by have:=(bE (xh hz p hp)).2.1;omega⟩,fun p hp=>oy (bE (xh hz p hp)).2.2.1⟩
 have d:=hr ha.1 (by omega) ha.2.1;have b:=hr hb.1 (by omega) hb.2.1;have e:=hr hc.1 (by omega) hc.2.1;exact ⟨by omega,by omega,oy h4,d.1,b.1,e.1,d.2,b.2,e.2⟩
theorem iZ {V:List (List af)} (h:aP q M V S=true):0≤q∧q≤100000∧M.length≤60∧aI M=true∧S.length≤4∧V.length=3:=by
 obtain ⟨A,B,C,rfl⟩:=dX h;obtain ⟨h1,h2,h3,h4,_,h6,_⟩:=dJ.1 h;exact ⟨h1,h2,h3,h4,(fI.1 h6).1,rfl⟩
def Fr (q:Int) (M K:List ac):Int:=if bX q M K=true then q+K.length else q
def Fs (q:Int) (M K:List ac):List ac:=if bX q M K=true then aS (M++dh q K) else M
theorem xP (q:Int) (r:Option Addr) (m u:Nat) (H:Option Addr) (F t:Nat) (y:Option Addr) (n cs:Nat) (M:List ac) (V:List (List af)) (S:List Int) (E:Option Addr) (f o:Nat) (K:List ac) (w:World) (x:aZ 0 w r m u H F t y n cs M V S) (hE:ah w E f o K) (D:f≤1048576) (d:aP q M V S=true) :
 Calls Tryz.prog 32 #[.agg #[iT q,.slice r m u,.slice H F t,.slice y n cs],.slice E f o] w (Em (Fr q M K) (Fs q M K) V S (bX q M K) w):=by
 have hp:=iZ d;obtain ⟨A,B,C,rfl⟩:=dX d;have s:=x.levels.length.symm;subst s;have J:=x.mem.1.length;refine qm 0 q r m u _ t y n cs M [A,B,C] S _ f o _ _ _ S (bX q M K) w x d (fun base I c1 G c' Q c3 N b g hk=>?_);refine (qj base q (pT I) m c1 _ 3 c' _ n c3 M [A,B,C] S _ f o K N b.treeIn g (.some b.mem) (hE.keep hk) D (by omega) hp.1 hp.2.1).mono (fun e O h3=>?_);have h3:=h3.toD b.treeIn g;unfold Fr Fs;cases hf:bX q M K with
 | true =>
  simp only [if_true];have h4:=h3.1 hf;rw [oR hp.2.2.2.1] at h4;exact h4
 | false =>
  simp only [I',if_false];exact h3.2 hf
theorem yO (q:Int) (m:Option Addr) (n s:Nat) (U:Option Addr) (R x:Nat) (t:Option Addr) (o cs:Nat) (M:List ac) (V:List (List af)) (S:List Int) (F:Option Addr) (y I:Nat) (K:List ac) (w:World) (Y:aZ 0 w m n s U R x t o cs M V S) (hE:ah w F y I K) (W:y≤1048576) (O:e9 K) (d:aP q M V S=true) :
 Calls Tryz.prog 31 #[.agg #[iT q,.slice m n s,.slice U R x,.slice t o cs],.slice F y I] w (pF (Fr q M K) (Fs q M K) V S (bX q M K) w):=by
 have hp:=iZ d;obtain ⟨A,B,C,rfl⟩:=dX d;have b:=qE d;have a4:=Y.mem.1.length;refine l7 q m n s U R x t o cs F y I _ _ _ S (bX q M K) w (fun X Z T=>?_);obtain ⟨b',D,A',B',C',a0,H,c0,a1,N,c1,a2,n2,J,rfl,rfl,Q,E,u⟩:=(Y.keep Z).share d;cases Q;have g:∀f,Bl X f→Calls Tryz.prog 96 #[.agg #[iT q,.slice m n s,.slice a0 H c0,.slice a1 N c1,.slice a2 n2 J,.slice t o cs],.pointer (some ⟨w.heap.size+1,0,none⟩)] f (Gl q M K A B C S f):=fun f k3 =>
  B3 _ q m n s a0 H c0 a1 N c1 a2 n2 J t o cs M A B C S F y I K f (E.keep k3) (cell_later k3 T) ((hE.keep Z).keep k3) W (by omega) b.em hp.1 hp.2.1
 unfold Fr Fs;cases hf:bX q M K with
 | true =>
  simp only [if_true];have hlen:K.length≤12∧M.length+K.length≤60:=by
   unfold bX at hf;simp only [G2,decide_eq_true_eq] at hf;omega
  have r:xC (aS (M++dh q K)) A B C S:=⟨by rw [i8,GO,fk];omega,b.bk,xQ (fun e he=>by
   rcases GX.1 he with h | h
   · exact b.em e h
   · exact An O e h),b.b0,b.b1,b.b2,b.e0,b.e1,b.e2⟩
  exact pZ (w.heap.size+1) q m n s b' D x t o cs a0 H c0 a1 N c1 a2 n2 J _ _ A B C S X u (fun f k3=>(g f k3).mono (fun e w4 h4=>h4.1 hf)) r
 | false =>
  simp only [I',if_false];exact p6 (w.heap.size+1) q m n s b' D x t o cs a0 H c0 a1 N c1 a2 n2 J M A B C S X E u (fun f k3=>(g f k3).mono (fun e w4 h4=>h4.2 hf)) b
theorem wI (q:Int) (e:Option Addr) (g t:Nat) (r:Option Addr) (f n:Nat) (o:Option Addr) (m cs:Nat) (M:List ac) (V:List (List af)) (S:List Int) (u:Option Addr) (s d:Nat) (w:World) (y:aZ 0 w e g t r f n o m cs M V S) (b:aP q M V S=false) :
 Calls Tryz.prog 31 #[.agg #[iT q,.slice e g t,.slice r f n,.slice o m cs],.slice u s d] w (pF 0 [] [] [] false w) :=
 l7 q _ _ _ _ _ _ _ _ _ u s d 0 [] [] [] false w (fun A x _=>(B9 0 q _ _ _ _ _ _ _ _ _ _ M V S A (y.keep x) b).mono (fun _ _ h=>A8 h))
end Go.Proofs.YtpobkmjicbobdaaGreat
namespace Go.Proofs.YtpobkmjicbobdaaGreat
open Go.RowKit
set_option maxRecDepth 100000
theorem wZ {s b:ByteArray} (h:¬s=b):¬s.toList=b.toList:=fun e=>h (by
 rw [Hk,Hk] at e
 obtain ⟨⟨x⟩⟩:=s
 obtain ⟨⟨y⟩⟩:=b
 simpa using e)
theorem uw (s t:ByteArray) (q d n:Int) (w:World):(binOp .neq 50 (.agg #[.string s,iT q,iT d,.string t,iT n]) (.agg #[.string s,iT q,iT d,.string t,iT n])).run Tryz.prog w=.ok (.bool false) w:=by
 have hs:=run_equalIn_struct (P:=Tryz.prog) w 9999 50 #[.string s,iT q,iT d,.string t,iT n] #[.string s,iT q,iT d,.string t,iT n] (by kernel_rfl) (by kernel_rfl);simp [binOp,Op.equal,Op.maxDepth,hs,go_sem,Tryz.underlying50]
theorem ux (s t:ByteArray) (q d n:Int) (b g:ByteArray) (m f n':Int) (w:World) (h:¬((s,q,d,t,n):ac)=(b,m,f,g,n')):(binOp .neq 50 (.agg #[.string s,iT q,iT d,.string t,iT n]) (.agg #[.string b,iT m,iT f,.string g,iT n'])).run Tryz.prog w=.ok (.bool true) w:=by
 have hs:=run_equalIn_struct (P:=Tryz.prog) w 9999 50 #[.string s,iT q,iT d,.string t,iT n] #[.string b,iT m,iT f,.string g,iT n'] (by kernel_rfl) (by kernel_rfl);by_cases h1:s=b
 · subst h1;by_cases h2:q=m
   · subst h2;by_cases h3:d=f
     · subst h3;by_cases h4:t=g
       · subst h4;have h5:¬n=n':=fun e=>h (by rw [e])
         simp [binOp,Op.equal,Op.maxDepth,hs,go_sem,Tryz.underlying50,h5]
       · have o:=wZ h4;simp [binOp,Op.equal,Op.maxDepth,hs,go_sem,Tryz.underlying50,o]
     · simp [binOp,Op.equal,Op.maxDepth,hs,go_sem,Tryz.underlying50,h3]
   · simp [binOp,Op.equal,Op.maxDepth,hs,go_sem,Tryz.underlying50,h2]
 · have h4:=wZ h1;simp [binOp,Op.equal,Op.maxDepth,hs,go_sem,Tryz.underlying50,h4]
theorem uQ {d b:List ac} {k:Nat} {l:ac} (h1:d[k]?=some l) (h2:b[k]?=some l) (h:d.take k=b.take k):d.take (k+1)=b.take (k+1):=by
 rw [Hc,Hc,h1,h2,h]
end Go.Proofs.YtpobkmjicbobdaaGreat
namespace Go.Proofs.YtpobkmjicbobdaaGreat
open Go.RowKit
set_option maxRecDepth 100000
end Go.Proofs.YtpobkmjicbobdaaGreat
namespace Go.Proofs.YtpobkmjicbobdaaGreat
set_option maxRecDepth 100000
set_option maxHeartbeats 40000000
open Go.RowKit
theorem tU (a1 a2:Option Addr) (f c1 n2 c2:Nat) (H F:List ac) (w:World) (h1:ah w a1 f c1 H) (h2:ah w a2 n2 c2 F) :
 Calls Tryz.prog 79 #[.slice a1 f c1,.slice a2 n2 c2] w fun e w'=>e=.returned (.bool (decide (H=F)))∧Bl w w':=by
 have b:=az h1.length;have m:=az h2.length;have Y:=h1.room;have I:=h1.big;have X:=h2.room;have E:=h2.big;unfold maxLen at I E;have R:=az h1;have W:=az h2;by_cases hn:f=n2
 · subst hn;go_enter Tryz.func79,Tryz.ntmps79
   go_wp2;go_loopw [13] (fun i wr=>∃k:Nat,k≤f∧i=iT k∧Bl w wr∧H.take k=F.take k) (fun i _=>f - (intOf i).toNat)
   case atStart=>exact ⟨0,GQ _,rfl,Below.refl _ _,rfl⟩
   case round =>
    obtain ⟨k,hk,rfl,hb,A⟩:=hrel;have u:=az A;by_cases g:k<f
    · obtain ⟨x1,o1,rfl,D⟩:=R.o.form (by omega);obtain ⟨x2,o2,rfl,x⟩:=W.o.form (by omega);obtain ⟨s,q,d,t,n,hg,_,g0,g1,g2,g3,g4⟩:=R.o.ent hb D k g;obtain ⟨N,Q,U,O,J,B,_,p0,p1,p2,p3,p4⟩:=W.o.ent hb x k g;have C:=az hg;have r:=az B;have T:(k:Int)<(f:Int):=by omega
      by_cases hl:(s,q,d,t,n)=(N,Q,U,O,J)
      · cases hl;have y:=uw s t q d n;go_wp2_with fail
        go_quiet (fail)
        go_wp2;go_roundw
        case rel=>exact ⟨k+1,by omega,by go_num,below_drewN hb _,uQ C.o r.o u.o⟩
        case measure=>simp [intOf];omega
      · have y:=fun w=>ux s t q d n N O Q U J w hl
        have Z:=az hl;go_wp2_with fail
        go_quiet (fail)
        go_wp2;go_ret;refine ⟨aj (decide_eq_false ?_).symm,below_drewN hb _⟩;intro e;rw [e,r.o] at C;exact Z.o (by simpa [Eq] using C.symm)
    · go_wp2;go_ret;refine ⟨aj (decide_eq_true ?_).symm,hb⟩;have:=u.o;rw [GV (by rw [b.o];omega),GV (by rw [m.o];omega)] at this;exact this
 · go_enter Tryz.func79,Tryz.ntmps79
   go_wp2;go_ret;refine ⟨aj (decide_eq_false ?_).symm,Below.refl _ _⟩;intro e;rw [e,m.o] at b;exact hn b.o.symm
def km (i1:Int) (L1:List ac) (i2:Int) (L2:List ac):Bool:=decide (i1=i2) && decide (L1=L2)
theorem pq (i1 i2:Int) (a1 a2:Option Addr) (b c1 n2 c2:Nat) (f d:List ac) (w:World) (h1:ah w a1 b c1 f) (h2:ah w a2 n2 c2 d) :
 Calls Tryz.prog 140 #[.agg #[.slice a1 b c1,iT i1],.agg #[.slice a2 n2 c2,iT i2]] w fun e w'=>e=.returned (.bool (km i1 f i2 d))∧Bl w w':=by
 have hB:Bl w ((w.alloc (.cells #[.slice a1 b c1,iT i1] 63)).alloc (.cells #[.slice a2 n2 c2,iT i2] 63)):=bZ.alloc (by simp) _;by_cases hi:i1=i2
 · subst hi;go_enter Tryz.func140,Tryz.ntmps140
   go_wp2_with (go_at_call 79;refine (tU _ _ _ _ _ _ f d _ (h1.keep hB) (h2.keep hB)).mono ?_;rintro e m ⟨rfl,g⟩)
   go_ret;exact ⟨aj (by simp [km]),hB.trans (g.mono (by simp;omega))⟩
 · have hd:(i1 == i2)=false:=by simpa using hi
   go_enter Tryz.func140,Tryz.ntmps140
   go_wp2;go_ret;exact ⟨aj (by simp [km,hi]),hB⟩
end Go.Proofs.YtpobkmjicbobdaaGreat
