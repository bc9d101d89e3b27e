/- Walks. -/
import Derived.Test.YtpobkmjicbobdaaGreatBl18
import Derived.Test.YtpobkmjicbobdaaGreatBl19
import Derived.Laws.OwnMore
namespace Go.Proofs.YtpobkmjicbobdaaGreat
set_option maxRecDepth 100000
set_option maxHeartbeats 40000000
open Go.RowKit
variable {A B C:List an} {G T X Y b base c c1 c3 c4 g g1 g3 i k n n1 n2 n4 nm ns nv sz:Nat} {L M:List ac} {P:List (List ac)} {S:List Int} {V:List (List an)} {q x z:Int} {u0 u1 u2 u3:Value} {w w' wr:World}
theorem Ao (N:Nat) (q d:Int) (Q av u:Option Addr) (nm U nv cv ns cs:Nat) (S:List Int) (w:World) (hS:bQ N w u ns cs S) (hn:ns≤1048576) :
 Calls Tryz.prog 102 #[.agg #[iT q,.slice Q nm U,.slice av nv cv,.slice u ns cs],iT d] w fun e w'=>e=.returned (.bool (decide (d ∈ S)))∧Bl w w':=by
 obtain ⟨X,K⟩:=aH w.heap.size;obtain ⟨W,y⟩:=aH (w.alloc (.cells #[iT q,.slice Q nm U,.slice av nv cv,.slice u ns cs] 31));have D:Bl w W:=by rw [y];exact bZ
 have x3:W.cell? ⟨X,3,none⟩=some (.slice u ns cs):=by rw [y,K];simp
 have HS:CG (bQ N W u ns cs S):=hS.keep D;have HL:CG (S.length=ns):=hS.length;have R:CG (Bl w W):=D;have xz:=Cz _ _ x3;simp only at xz;obtain ⟨Z,I⟩:=aH (decide (d ∈ S));have O:CG (Z=decide (d ∈ S)):=I;rw [← I];clear hS D I;go_enter Tryz.func102,Tryz.ntmps102
 go_upto_region 1 with fail
 rw [← K,← y];clear K y;go_wp2;go_loopw [5] (fun E wr=>∃(k:Nat),k≤ns∧E=iT k∧(∀j,j<k→¬S[j]?=some d)∧W=wr) (fun E _=>ns - (intOf E).toNat)
 case atStart=>exact ⟨0,C3 _,rfl,fun j r=>absurd r (DP _),rfl⟩
 case round =>
  obtain ⟨k,hk,rfl,s,rfl⟩:=hrel;have t:CG (∀j,j<k→¬S[j]?=some d):=s;clear s;by_cases F:k<ns
  · have f:(k:Int)<(ns:Int):=by omega
    obtain ⟨b,a4,rfl,a8⟩:=HS.o.form (by omega);obtain ⟨z,hz,_,g0⟩:=HS.o.num (Below.refl _ W) k F;have m:CG (S[k]?=some z):=hz;clear hz;by_cases hq:z=d
    · subst hq;have J:CG (Z=true):=by show _=_;rw [O.o];exact decide_eq_true (CV m.o)
      go_wp2;go_ret;exact ⟨by have e:=J.o;first | (rw [e];rfl) | (subst e;rfl) | simp [e],R.o⟩
    · have a6:(z == d)=false:=by simpa using hq
      go_wp2;go_roundw
      case rel =>
       refine ⟨k+1,by omega,by go_num,fun j r=>?_,by first | rfl | trivial⟩;by_cases e:j=k
       · subst e;rw [m.o];intro h;exact hq (CZ h)
       · exact t.o j (by omega)
      case measure=>simp [intOf];omega
  · have f:¬(k:Int)<(ns:Int):=by omega
    have J:CG (Z=false):=by
     show _=_
     rw [O.o];refine decide_eq_false (fun hm=>?_);obtain ⟨j,r⟩:=DF hm;have H:=(Cx.1 r).1;rw [HL.o] at H;exact t.o j (by omega) r
    go_wp2;go_ret;exact ⟨by have e:=J.o;first | (rw [e];rfl) | (subst e;rfl) | simp [e],R.o⟩
theorem az.grownB (h:az w b u0 u1 u2 u3) (hg:w.grownBy w' (some g)) (d:b≠g):az w' b u0 u1 u2 u3 :=
 have hn:some b≠some g:=fun e=>d (CZ e)
 ⟨hg.cell h.c0 hn,hg.cell h.c1 hn,hg.cell h.c2 hn,hg.cell h.c3 hn,fun o=>(bn hg (x:=⟨b,o,none⟩) h.lt hn).trans (h.fz o)⟩
theorem cE.kind (h:cE base w g1 nm c1 G nv c g3 ns c3 M V S) (hB:au w Y T sz) (t0:T≠61) (m:T≠63) (f:T≠50) (t3:T≠3) (hg:w.grownBy w' (some Y)):cE base w' g1 nm c1 G nv c g3 ns c3 M V S:=by
 obtain ⟨_,k1⟩:=aO h.mem.owns;obtain ⟨_,k3⟩:=aO h.sn;refine ⟨h.mem.grown hg (fun e=>?_),h.levs.grown hB t0 m f hg,h.slen,h.swf,h.sn.kept hg (.inr fun e=>?_)⟩
 · have d:g1=Y:=CZ e;subst d;exact f (hB.kind k1)
 · have d:g3=Y:=by simpa [Value.ownBlock] using e
   subst d;exact t3 (hB.kind k3)
def tW (q:Int) (nm nv n:Nat) (M:List ac) (V:List (List an)) (S:List Int) (ok:Bool) (w:World) (e:Ending) (w':World):Prop :=
 ∃g1 c1 G c g3 c3,e=.returned (.tuple #[.agg #[iT q,sL g1 nm c1,sL G nv c,sL g3 n c3],.bool ok])∧cE w.heap.size w' g1 nm c1 G nv c g3 n c3 M V S∧Bl w w'
theorem cE.push {d:Nat} (h:cE base w g1 nm c1 G nv c g3 ns c3 M V S) (hg:w.grownBy w' (some g3)) (ho:w'.ownsRow base 3 1 (sL d (ns+1) c4) (ns+1) (S.map iT++[iT q])) (hq:(Lit.int .i64 q).wf=true):cE base w' g1 nm c1 G nv c d (ns+1) c4 M V (S++[q]) :=
 ⟨dy h.mem h.sn (by decide) hg,gq h.levs h.sn (by decide) (by decide) (by decide) hg,by rw [CW,h.slen];rfl,fun z hz=>by
  rcases Dd.1 hz with h1 | h1
  · exact h.swf z h1
  · rw [Df] at h1;subst h1;exact hq,by rw [EJ];exact ho⟩
theorem xT (S:List Int) (x:Int):(S.filter (fun y=>decide (¬y=x))).length<S.length ↔ x ∈ S:=by
 induction S with
 | nil=>simp
 | cons a S e =>
  have d:=ER (fun y=>decide (¬y=x)) S;by_cases ha:a=x
  · subst ha;simp;simpa using Nat.lt_succ_of_le d
  · have hb:(a :: S).filter (fun y=>decide (¬y=x))=a :: S.filter (fun y=>decide (¬y=x)):=by simp [ha]
    rw [hb];simp only [DC,Da];constructor
    · intro h;exact .inr (e.1 (by omega))
    · rintro (h | h)
      · exact absurd h.symm ha
      · have:=e.2 h;omega
def fS (S:List Int) (x:Int):List Int:=S.filter (fun y=>decide (¬y=x))
theorem drop_take {a:Int} (h:S[k]?=some a):fS (S.take (k+1)) x=if a=x then fS (S.take k) x else fS (S.take k) x++[a]:=by
 unfold fS;rw [Dl,h,Ea];by_cases ha:a=x <;> simp [ha]
theorem zN (S:List Int) (x:Int):(fS S x).length≤S.length:=ER _ _
theorem AH (S:List Int) (x:Int):decide ((fS S x).length<S.length)=decide (x ∈ S):=by
 rw [decide_eq_decide];exact xT S x
theorem zM (h:z ∈ fS S x):z ∈ S:=(EH.1 h).1
structure fa (w wr:World) (base X Y:Nat) (u0 u1 u2 u3:Value) (q:Int) (g1 nm c1 G nv c g n4 c4:Nat) (M:List ac) (V:List (List an)) (S:List Int):Prop where
 low:Bl w wr
 bx:az wr X u0 u1 u2 u3
 br:az wr (X+1) (iT 0) nZ nZ nZ
 hy:az wr Y (iT q) (sL g1 nm c1) (sL G nv c) (sL g n4 c4)
 cp:cE base wr g1 nm c1 G nv c g n4 c4 M V S
 ky:au wr Y 31 4
 lows:X+1<base∧X+1<Y∧w.heap.size≤base∧w.heap.size≤X
theorem fa.below {d:World} (h:fa w wr base X Y u0 u1 u2 u3 q g1 nm c1 G nv c g n4 c4 M V S) (hb:Bl wr d):fa w d base X Y u0 u1 u2 u3 q g1 nm c1 G nv c g n4 c4 M V S :=
 ⟨h.low.trans (hb.mono h.low.size),h.bx.keep hb,h.br.keep hb,h.hy.keep hb,h.cp.below hb,h.ky.below hb,h.lows⟩
theorem fa.ne (h:fa w wr base X Y u0 u1 u2 u3 q g1 nm c1 G nv c g n4 c4 M V S):X≠g∧X+1≠g∧Y≠g:=by
 have h1:=(h.cp.sn.lt g rfl).1;have h2:=h.lows;refine ⟨by omega,by omega,fun e=>?_⟩;obtain ⟨_,k3⟩:=aO h.cp.sn;subst e;exact absurd (h.ky.kind k3) (by decide)
theorem fa.push {d:World} {o c':Nat} (h:fa w wr base X Y u0 u1 u2 u3 q g1 nm c1 G nv c g n4 c4 M V S) (hg:wr.grownBy d (some g)) (ho:d.ownsRow base 3 1 (sL o (n4+1) c') (n4+1) (S.map iT++[iT z])) (hz:(Lit.int .i64 z).wf=true):fa w (d.setCell ⟨Y,3,none⟩ (sL o (n4+1) c')) base X Y u0 u1 u2 u3 q g1 nm c1 G nv c o (n4+1) c' M V (S++[z]):=by
 obtain ⟨u,t,s⟩:=h.ne;have hl:=h.lows;have f:au d Y 31 4:=by
  obtain ⟨r,h1,h2⟩:=h.ky;exact ⟨r,(hg.block Y (DM.1 h1).1 (fun e=>s (CZ e))).trans h1,h2⟩
 have m:d.grownBy (d.setCell ⟨Y,3,none⟩ (sL o (n4+1) c')) (some Y):=cq _ _ _ _;refine ⟨?_,?_,?_,?_,?_,?_,h.lows⟩
 · exact (h.low.grown hg h.low.size (fun k e=>by cases e;have:=(h.cp.sn.lt g rfl).1;omega)).setCell (p:=⟨Y,3,none⟩) (by show _≤Y;omega) _
 · exact (h.bx.grownB hg u).other (by omega) _
 · exact (h.br.grownB hg t).other (by omega) _
 · exact (h.hy.grownB hg s).set3 _
 · exact (h.cp.push hg ho hz).kind f (by decide) (by decide) (by decide) (by decide) m
 · exact f.setCell _
theorem bh.grownR (h:bh base w g n c B) (hG:au w G 63 sz) (o:g≠G) (hg:w.grownBy w' (some G)):bh base w' g n c B:=by
 obtain ⟨h1,h2,xs,h3,h4⟩:=h;refine ⟨h1,h2,xs,h3.kept hg (.inr ?_),fun i p hp=>?_⟩
 · intro e;have m:g=G:=by simpa [Value.ownBlock] using e
   exact o m
 · obtain ⟨e,d,a1,a2,a3⟩:=h4 i p hp;obtain ⟨s,r⟩:=aO a3.owns;refine ⟨e,d,a1,a2,a3.grown hg (fun m=>?_)⟩;have f:e=G:=CZ m;subst f;exact absurd (hG.kind r) (by decide)
theorem cE.split (h:cE base w g1 nm c1 G nv c g3 ns c3 M [A,B,C] S):∃e m f o gC r,w.ownsRow base 61 1 (sL G 3 c) 3 [sL e A.length m,sL f B.length o,sL gC C.length r]∧bh base w e A.length m A∧bh base w f B.length o B∧bh base w gC C.length r C∧e≠f∧e≠gC:=by
 obtain ⟨h1,xs,h3,h4,h5⟩:=h.levs;have hn:nv=3:=h1.symm;subst hn;obtain ⟨e,m,a1,a2⟩:=h4 0 A rfl;obtain ⟨f,o,b1,b2⟩:=h4 1 B rfl;obtain ⟨gC,r,d,c2⟩:=h4 2 C rfl;have hx:xs=[sL e A.length m,sL f B.length o,sL gC C.length r]:=by
  have hl:=h3.1;match xs,hl,a1,b1,d with
  | [x,y,z],_,a1,b1,d=>simp at a1 b1 d;rw [a1,b1,d]
 rw [hx] at h3 h5;exact ⟨e,m,f,o,gC,r,h3,a2,b2,c2,h5 0 1 _ _ _ _ _ _ (by omega) rfl rfl,h5 0 2 _ _ _ _ _ _ (by omega) rfl rfl⟩
theorem wX (L:List ac) (e:ac):bF (L++[e])=em (bF L) e:=by simp [bF]
theorem qB (_h:P[i]?=some L) (k:Nat) {e:ac} (d:L[k]?=some e):(P.take i).flatten++L.take (k+1)=((P.take i).flatten++L.take k)++[e]:=by
 rw [Dl,d];simp
theorem qC (h:P[i]?=some L):(P.take (i+1)).flatten=(P.take i).flatten++L.take L.length:=by
 rw [Dl,h];simp
theorem ze (h:P[i]?=some L):((P.take i).flatten++L.take k).length≤P.flatten.length:=by
 have h1:P.flatten=(P.take (i+1)).flatten++(P.drop (i+1)).flatten:=by rw [← EB,Ds]
 rw [h1,qC h,CW,CW,CW,C5,C5];omega
theorem pN (a:Option Addr) (n c:Nat) (P:List (List ac)) (w:World) (hP:cY w a n c P) (r:P.flatten.length≤1048576) :
 Calls Tryz.prog 109 #[.slice a n c] w fun e w'=>∃g d,e=.returned (sL g P.flatten.length d)∧af w' w.heap.size g P.flatten.length d (bF P.flatten)∧Bl w w':=by
 have HP:=bO hP;have a1:CG (P.length=n):=hP.length;have aa:=bO r;have hroom:=hP.room;have hbig:=hP.big;unfold maxLen at hbig;clear hP r;obtain ⟨N,hN⟩:∃N,P.flatten.length=N:=⟨_,rfl⟩;have HN:CG (P.flatten.length=N):=hN;rw [hN];clear hN;go_enter Tryz.func109,Tryz.ntmps109
 go_wp2;go_loopw [3,4] (fun ov iv wr=>∃(i g d m:Nat) (F:List ac),i≤n∧iv=iT i∧F=(P.take i).flatten∧F.length=m∧ov=sL g m d∧af wr w.heap.size g m d (bF F)∧Bl w wr) (fun _ iv _=>n - (intOf iv).toNat)
 case atStart=>exact ⟨0,w.heap.size,0,0,[],C3 _,rfl,by simp,rfl,rfl,bI w _ (Cy _),bZ⟩
 case round =>
  obtain ⟨i,g,d,m,F,hi,rfl,hF,R,rfl,hO,hb⟩:=hrel;have u:CG (F=(P.take i).flatten):=hF;have y:CG (F.length=m):=R;have t:CG (af wr w.heap.size g m d (bF F)):=hO;have f:CG (Bl w wr):=hb;clear hF R hO hb;by_cases K:i<n
  · have Q:(i:Int)<(n:Int):=by omega
    obtain ⟨b,ax,rfl,ak⟩:=HP.o.form (by omega);obtain ⟨L,hL⟩:∃L,P[i]?=some L:=⟨_,j' (by rw [a1.o];exact K)⟩;have J:CG (P[i]?=some L):=hL;clear hL;go_wp2;go_loopw [3,5] (fun ov kv wq=>∃(k g d m:Nat) (G:List ac),k≤L.length∧kv=iT k∧G=F++L.take k∧G.length=m∧ov=sL g m d∧af wq w.heap.size g m d (bF G)∧Bl w wq) (fun _ kv _=>L.length - (intOf kv).toNat)
    case atStart=>exact ⟨0,g,d,m,F,C3 _,rfl,by simp,y.o,rfl,t.o,f.o⟩
    case round =>
     clear t f y;obtain ⟨k,g,d,m,G,hk,rfl,hG,I,rfl,hO,hb⟩:=hrel;obtain ⟨L',s,len,av,O,c0,hE⟩:=HP.o.list hb i K;rw [J.o] at O;cases O;have HG:CG (G=F++L.take k):=hG;have Z:CG (G.length=m):=I;have t:CG (af wr w.heap.size g m d (bF G)):=hO;have f:CG (Bl w wr):=hb;have D:=hE.length;have E:CG (L.length=len):=D;have zb:b<wr.heap.size:=l' ak hb.size;have ay:=hE.room;have a9:=hE.big;unfold maxLen at a9;have hm:m≤1048576:=by
      have h1:=ze (k:=k) J.o;rw [← u.o,← hG] at h1;have h2:=aa.o;omega
     rw [D] at hk;clear hG I hO hb D;by_cases a7:k<len
     · have U:(k:Int)<(len:Int):=by omega
       obtain ⟨bs,os,rfl,zs⟩:=hE.form (by omega);obtain ⟨es,eq,ed,et,en,hx,hw,e0,e1,e2,e3,e4⟩:=hE.ent (Below.refl _ wr) zs k a7;have HX:CG (L[k]?=some (es,eq,ed,et,en)):=hx;have CP:=qU g m d (bF G) es et eq ed en wr t.o.entsAt t.o.lt.2 hm hw;clear hx hw hE;go_wp2_with fail
       refine CP.mono ?_;rintro e w2 ⟨g2,c2,rfl,W,H⟩;have aj:CG (af w2 w.heap.size g2 (m+1) c2 (em (bF G) (es,eq,ed,et,en))):=W.mono f.o.size;have am:CG (Bl w w2):=f.o.trans (H.mono f.o.size);clear W H CP t f;go_wp2;go_roundw
       case rel =>
        refine ⟨k+1,g2,c2,m+1,F++L.take (k+1),by have:=E.o;omega,by go_num,rfl,?_,rfl,?_,am.o⟩
        · rw [u.o,qB J.o k HX.o,← u.o,← HG.o,CW,Z.o];rfl
        · rw [u.o,qB J.o k HX.o,← u.o,← HG.o,wX];exact aj.o
       case measure=>have:=E.o;simp [intOf];omega
     · have U:¬(k:Int)<(len:Int):=by omega
       have a5:CG (k=L.length):=by have:=E.o;show k=_;omega
       have wi:IntKind.i64.wrap ((i:Int)+1)=((i+1:Nat):Int):=by rw [Dg];unfold wrap64;omega
       go_wp2;go_roundw
       case rel =>
        refine ⟨i+1,g,d,m,G,by omega,by first | rfl | go_num,?_,Z.o,rfl,t.o,f.o⟩;rw [qC J.o,HG.o,u.o,a5.o]
       case measure=>simp [intOf];omega
  · have ae:i=n:=by omega
    have Q:¬(i:Int)<(n:Int):=by omega
    have al:CG (F=P.flatten):=by show F=_;rw [u.o,C9 (by rw [a1.o];omega)]
    clear ae;go_wp2;go_ret;have h1:=y.o;have h2:=t.o;rw [al.o] at h1 h2;obtain rfl:N=m:=by have:=HN.o;omega
    exact ⟨g,d,rfl,h2,f.o⟩
def yl (w:World) (X:Nat):Prop:=∀o,(∀s,w.cell? ⟨X,o,none⟩≠some (.string s))∧∀a n c k,w.cell? ⟨X,o,none⟩=some (.slice a n c)→w.cell? ⟨X,o+1,none⟩≠some (iT k)
theorem cy (w:World) (cs:Array Value) (t:Nat):au (w.alloc (.cells cs t)) w.heap.size t cs.size:=⟨cs,(by unfold World.alloc;exact DT),rfl⟩
theorem lm {o:Nat} {xs:List Value} (h:mQ w (sO b o n c) n xs):CG (∀j u,xs[j]?=some u→w.cell? ((⟨b,o,none⟩:Addr).add j)=some u):=fun j u d=>by
 rcases h.2.2 with ⟨h1,_⟩ | ⟨b',e,c',h1,hc⟩
 · cases h1
 · cases h1
   rw [De]
   exact hc j u d
theorem Bc (hb:au w X T k) (h0:w.cell? ⟨X,0,none⟩=some (iT q)) (hs:∀o,1≤o→o<k→∃a n c,w.cell? ⟨X,o,none⟩=some (.slice a n c)):yl w X:=by
 have far:∀o,k≤o→w.cell? ⟨X,o,none⟩=none:=fun o ho=>by
  obtain ⟨d,h1,h2⟩:=hb;simp [World.cell?,h1,Array.getElem?_eq_none (show d.size≤o by omega)]
 intro o;refine ⟨fun s e=>?_,fun a n c z _ e=>?_⟩
 · by_cases ho:o=0
   · subst ho;rw [h0] at e;cases e
   · by_cases hk:o<k
     · obtain ⟨a,n,c,h⟩:=hs o (by omega) hk;rw [h] at e;cases e
     · rw [far o (by omega)] at e;cases e
 · by_cases hk:o+1<k
   · obtain ⟨a,n,c,h⟩:=hs (o+1) (by omega) hk;rw [h] at e;cases e
   · rw [far (o+1) (by omega)] at e;cases e
theorem fJ {w:World} {X T:Nat} {q:Int} {a1 a2 a3:Option Addr} {n1 c1 n2 c2 d c3:Nat} (hb:au w X T 4) (h:az w X (iT q) (.slice a1 n1 c1) (.slice a2 n2 c2) (.slice a3 d c3)):yl w X :=
 Bc hb h.c0 (fun o h1 h2=>by
  match o,h1,h2 with
  | 1,_,_=>exact ⟨_,_,_,h.c1⟩
  | 2,_,_=>exact ⟨_,_,_,h.c2⟩
  | 3,_,_=>exact ⟨_,_,_,h.c3⟩)
theorem oS (w:World) (X:Nat) (u0 u1 u2 u3:Value):∀b,b≠X→∀o,((((w.setCell ⟨X,0,none⟩ u0).setCell ⟨X,1,none⟩ u1).setCell ⟨X,2,none⟩ u2).setCell ⟨X,3,none⟩ u3).cell? ⟨b,o,none⟩=w.cell? ⟨b,o,none⟩:=fun b hb o=>by
 have h1:∀(w:World) (k:Nat) (u:Value),(w.setCell ⟨X,k,none⟩ u).cell? ⟨b,o,none⟩=w.cell? ⟨b,o,none⟩:=fun w k u=>by
  simp only [World.cell?,Below.heap_setCell w (⟨X,k,none⟩:Addr) u b hb]
 rw [h1,h1,h1,h1]
theorem qy (w:World) (X:Nat) (u0 u1 u2 u3:Value):((((w.setCell ⟨X,0,none⟩ u0).setCell ⟨X,1,none⟩ u1).setCell ⟨X,2,none⟩ u2).setCell ⟨X,3,none⟩ u3).heap.size=w.heap.size:=by simp [World.setCell]
theorem jg {r m u:Option Addr} {t o f s:Nat} (hc:3≤c) (d:c≤maxLen) (c0:w.cell? ⟨G,0,none⟩=some (.slice r t o)) (c1:w.cell? ⟨G,1,none⟩=some (.slice m n1 f)) (c2:w.cell? ⟨G,2,none⟩=some (.slice u n2 s)) (h0:ay 0 w r t o A) (h1:ay 0 w m n1 f B) (h2:ay 0 w u n2 s C):cG 0 w (pT G) 3 c [A,B,C]:=by
 refine ⟨rfl,hc,d,(fun e=>by cases e),?_,?_⟩
 · rintro x e _;cases e;exact ⟨Cz _ _ c0,rfl,C3 _⟩
 · rintro x e i hi;cases e;simp only [C6];match i,hi with
   | 0,_=>exact ⟨_,_,_,c0,h0⟩
   | 1,_=>exact ⟨_,_,_,c1,h1⟩
   | 2,_=>exact ⟨_,_,_,c2,h2⟩
theorem mG {e:Ending} (h:pn n B w e w'):∃a c,e=.returned (.slice a n c)∧cY w' a n c (bj B)∧Bl w w':=by
 obtain ⟨v,d,rfl,h1,h2,h3⟩:=h;obtain ⟨a,c,rfl,h4⟩:=td h1 (h2.keep h3);exact ⟨a,c,rfl,h4,h3⟩
theorem rO (L:List ac):∀k,(eU L k).1.length≤k
 | 0=>Cy _
 | k+1=>by
  have:=rO L k
  rw [eU]
  split
  · rw [CW];simp;omega
  · omega
theorem l9:∀(B A:List an),(dq A B).length=A.length+B.length
 | [],A=>rfl
 | r :: B,A=>by
  show (dq (me A r) B).length=_
  rw [l9 B]
  simp [me]
  omega
theorem nX {P:Program} (base:Nat) (t o e:TypeId) (i:TypeInfo) (size:Nat) (f:P.underlying t=some (.slice e)) (hi:P.info? e=some i) (v:Value) (n c:Nat) (xs:List Value) (hown:w.ownsRow base e size v n xs) :
 (Builtin.append_ #[t,t] o #[v,.slice none 0 c]).run P w=.ok v w:=by
 rcases hown.2 with ⟨rfl,rfl⟩ | ⟨g,m,r,rfl,_,_,d,_⟩
 · simp [Builtin.append_,run_underlying f,sizeOf,typeInfo,hi,Builtin.lenOf,Builtin.firstCells]
 · simp [Builtin.append_,run_underlying f,sizeOf,typeInfo,hi,Builtin.lenOf,Builtin.firstCells,d,storeCells]
theorem cZ {P:Program} {f:Array Oper} {o:Oper} {a:Act} {w:World} {K:Act→World→Prop} {Q:Exit→Act→World→Prop} {E:Prop}
 (hg:o.guard=none) (s x:Operand) (t:TypeId) (hop:o.op=Op.call { callee:=Callee.builtin Builtin.append,args:=#[s,x],argTypes:=#[t,t] })
 (base:Nat) (e:TypeId) (i:TypeInfo) (z:Value) (size bytes:Nat) (h1:P.underlying t=some (.slice e)) (h2:P.info? e=some i) (h3:i.zero=some z) (h4:i.size=size) (h5:i.bytes=bytes) (h6:z.cells.size=size) (h7:0<size)
 (v:Value) (n:Nat) (olds:List Value) (hs:a.eval s=v) (hown:w.ownsRow base e size v n olds)
 (ad:Option Addr) (m c:Nat) (news:List Value) (hx:a.eval x=.slice ad m c) (hn:news.length=m*size) (hz:ad=none→m=0) (hc:∀y,ad=some y→∀j u,news[j]?=some u→w.cell? (y.add j)=some u) (h1c:∀u ∈ news,u.oneCell'=true)
 (b1:n+m≤maxLen) (b2:(n+m)*bytes≤140737488355328) (b3:base≤w.heap.size)
 (hK:∀D w',w'.ownsRow base e size D (n+m) (olds++news)→w.grownBy w' v.ownBlock→(D=nZ ↔ v=nZ∧m=0)→K (a.put o.dst D) w') :
 if Region.wanted o (yielded f a.tmps)=true then Oper.wp P o a w K Q else E:=by
 cases ad with
 | some y=>exact aw hg s x t hop base e i z size bytes h1 h2 h3 h4 h5 h6 h7 v n olds hs hown y m c news hx hn (hc y rfl) h1c b1 b2 b3 hK
 | none =>
  have hw:Region.wanted o (yielded f a.tmps)=true:=by simp [Region.wanted,hg]
  rw [if_pos hw];obtain rfl:m=0:=hz rfl;have r:news=[]:=List.eq_nil_of_length_eq_zero (by rw [hn];simp);subst r;have d:=nX (P:=P) (w:=w) base t o.type e i size h1 h2 v n c olds hown;unfold Oper.wp;simp [execOp,hop,resolve,invoke,builtin,hs,hx,d,Result.andThen];exact hK v w (by rw [Eh];exact hown) ⟨rfl,rfl,rfl,Cy _,fun _ _ _=>rfl⟩ ⟨fun h=>⟨h,rfl⟩,fun h=>h.1⟩
theorem kJ {a:Option Addr} (h:ag w a n c L):∀y,a=some y→∀j u,(aC L)[j]?=some u→w.cell? (y.add j)=some u:=by
 rintro ⟨b,o,s⟩ rfl j u e;have d:j<(aC L).length:=(Cx.1 e).1;rw [aU] at d;have hs:=(h.lies _ rfl (by have:=h.length;omega)).2;simp only at hs;subst hs;exact iK h j u e
theorem iG {f:Nat} {a:Option Addr} (h:bQ f w a n c S):∀y,a=some y→∀j u,(S.map iT)[j]?=some u→w.cell? (y.add j)=some u:=by
 rintro ⟨b,o,s⟩ rfl j u e;have d:j<(S.map iT).length:=(Cx.1 e).1;rw [EI] at d;have hs:=(h.lies _ rfl (by have:=h.length;omega)).2.1;simp only at hs;subst hs;exact xB h j u e
end Go.Proofs.YtpobkmjicbobdaaGreat
