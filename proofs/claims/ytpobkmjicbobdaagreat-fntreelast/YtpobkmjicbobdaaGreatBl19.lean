/- Walks. -/
import Derived.Test.YtpobkmjicbobdaaGreatBl10
namespace Go.Proofs.YtpobkmjicbobdaaGreat
open Go.RowKit
set_option maxRecDepth 100000
set_option maxHeartbeats 4000000
attribute [local go_sem] DN
theorem iw {w:World} {b o n c:Nat} {L:List ac} (h:ag w (some ⟨b,o,none⟩) n c L):∀j u,(aC L)[j]?=some u→w.cell? ((⟨b,o,none⟩:Addr).add j)=some u:=by
 intro j u d;have f:j<(aC L).length:=(Cx.1 d).1;rw [aU] at f;have hi:j / 5<L.length:=by omega
 obtain ⟨c0,c1,c2,c3,c4⟩:=h.cells _ rfl (j / 5) hi;obtain ⟨g,m,r2,r3,r4⟩:=fe L (j / 5) L[j / 5] (j' hi);rw [De];simp only at c0 c1 c2 c3 c4;have:j=j / 5*5∨j=j / 5*5+1∨j=j / 5*5+2∨j=j / 5*5+3∨j=j / 5*5+4:=by omega
 rcases this with e | e | e | e | e
 · rw [← e] at g c0;rw [g] at d;cases d;exact c0
 · rw [Eo,← e] at c1;rw [← e] at m;rw [m] at d;cases d;exact c1
 · rw [Eo,← e] at c2;rw [← e] at r2;rw [r2] at d;cases d;exact c2
 · rw [Eo,← e] at c3;rw [← e] at r3;rw [r3] at d;cases d;exact c3
 · rw [Eo,← e] at c4;rw [← e] at r4;rw [r4] at d;cases d;exact c4
theorem Ch {G n c:Nat} {k:Nat} (h:(sL G n c).ownBlock=some k):k=G:=by simp [Value.ownBlock] at h;exact h.symm
theorem rS (w:World) (base:Nat) (o:Obj) (h:base≤w.heap.size) (s t:ByteArray) (q d n:Int) (hw:dR (s,q,d,t,n)):af ((w.alloc o).alloc (.cells #[.string s,iT q,iT d,.string t,iT n] 50)) base (w.heap.size+1) 1 1 [(s,q,d,t,n)]:=by
 have:=BC (w.alloc o) base (by simp;omega) s t q d n hw;simpa using this
theorem wT (b y n c:Nat) (L:List ac) (u:ByteArray) (s:Int) (bare:Bool) (w:World) (hL:ag w (some ⟨b,y,none⟩) n c L) (hn:1≤n) (a4:n≤1048576) (h0:∃r,L[0]?=some (u,s,r)) (hN:∀e ∈ L,-1000000≤e.2.2.2.2∧e.2.2.2.2≤1000000) :
 Calls Tryz.prog 245 #[sO b y n c,.bool bare] w fun e w'=>∃g n' c',e=.returned (sL g n' c')∧af w' w.heap.size g n' c' (dJ bare u s L)∧Bl w w':=by
 have U:=bO hL;obtain ⟨r,H⟩:=h0;have I:=hL.ents _ (CV H);have A:CG ((aX true 0 L).2.1.size≤maxLen):=uX L true 0 (fun e he=>(hL.ents e he).2.2.2.1);have B:CG (1≤(aX true 0 L).1∧(aX true 0 L).1≤3):=uY L true 0;have x:CG (u.size≤maxLen∧(Lit.int .i64 s).wf=true):=⟨I.1,I.2.1⟩;have X:=yJ b y n c L u s w hL hn a4 ⟨r,H⟩ hN;have HC:CG (∀d t a,aX true 0 L=(d,t,a)→dJ bare u s L=if dH a=true then (if bare=true∧d=2 then [] else [(u,s,(if bare=true∧d=3 then 1 else d),t,a)]) else L):=fun d t a h=>by unfold dJ;rw [h]
 obtain ⟨d,t,a,hj⟩:∃d t a,aX true 0 L=(d,t,a):=⟨_,_,_,rfl⟩;have R:=HC.o d t a hj;rw [hj] at A B X;have J:CG (dJ bare u s L=if dH a=true then (if bare=true∧d=2 then [] else [(u,s,(if bare=true∧d=3 then 1 else d),t,a)]) else L):=R;clear R hj HC I H hL hN;simp only at A B X;go_enter Tryz.func245,Tryz.ntmps245
 go_wp2_with fail
 refine X.mono ?_;rintro e E ⟨rfl,T⟩;have f:CG (Bl w E):=T;clear T X;obtain ⟨i0,hi,a3,a0,a2⟩:=info_parts Tryz.infoEnt;cases hs:dH a with
 | true =>
  have hA:-1000000≤a∧a≤1000000:=by simpa [dH] using hs
  have F:CG ((Lit.int .i64 a).wf=true):=Cf hA.1 hA.2;have O:CG ((Lit.int .i64 d).wf=true):=Cf (by have:=B.o;omega) (by have:=B.o;omega);cases bare with
  | true =>
   by_cases N:d=2
   · subst N;have m:dJ true u s L=[]:=by rw [J.o];simp [hs]
     go_wp2;go_ret;exact ⟨E.heap.size+1,0,0,rfl,by rw [m];have:=ms (E.alloc (.cells #[.string u,iT s,iT 2,.string t,iT a] 50)) w.heap.size (by have:=f.o.size;simp;omega);simpa using this,(f.o.alloc f.o.size _).alloc (by have:=f.o.size;simp;omega) _⟩
   · by_cases Q:d=3
     · subst Q;have m:dJ true u s L=[(u,s,1,t,a)]:=by rw [J.o];simp [hs]
       go_wp2;go_ret;exact ⟨E.heap.size+1,1,1,rfl,by rw [m];exact rS _ _ _ f.o.size _ _ _ _ _ ⟨x.o.1,x.o.2,Cf (z:=1) (by omega) (by omega),A.o,F.o⟩,(f.o.alloc f.o.size _).alloc (by have:=f.o.size;simp;omega) _⟩
     · have m:dJ true u s L=[(u,s,d,t,a)]:=by rw [J.o];simp [hs,N,Q]
       go_wp2;go_ret;exact ⟨E.heap.size+1,1,1,rfl,by rw [m];exact rS _ _ _ f.o.size _ _ _ _ _ ⟨x.o.1,x.o.2,O.o,A.o,F.o⟩,(f.o.alloc f.o.size _).alloc (by have:=f.o.size;simp;omega) _⟩
  | false =>
   have m:dJ false u s L=[(u,s,d,t,a)]:=by rw [J.o];simp [hs]
   go_wp2;go_ret;exact ⟨E.heap.size+1,1,1,rfl,by rw [m];exact rS _ _ _ f.o.size _ _ _ _ _ ⟨x.o.1,x.o.2,O.o,A.o,F.o⟩,(f.o.alloc f.o.size _).alloc (by have:=f.o.size;simp;omega) _⟩
 | false =>
  have m:dJ bare u s L=L:=by rw [J.o];simp [hs]
  obtain ⟨W,Y⟩:=aH (E.alloc (.cells #[.string u,iT s,iT d,.string t,iT a] 50));have D:CG (Bl w W):=by rw [Y];exact f.o.alloc f.o.size _
  have C:CG (Bl w (W.alloc (.cells #[] 50))):=D.o.alloc D.o.size _;have HO:CG (af (W.alloc (.cells #[] 50)) w.heap.size W.heap.size 0 0 []):=ms W _ D.o.size;have Z:CG (ag (W.alloc (.cells #[] 50)) (some ⟨b,y,none⟩) n c L):=U.o.keep C.o;have a9:CG (W.heap.size=E.heap.size+1):=by rw [Y];simp [CG]
  go_upto_region 3 with fail
  rw [← Y];clear Y;go_wp2_with (at_builtin;refine wpList_append_lies _ rfl (.tmp 14) (.tmp 15) 28 rfl w.heap.size 50 i0 _ 5 56 Tryz.underlying28 hi a3 a0 a2 rfl (by omega) _ 0 _ rfl HO.o.owns ⟨b,y,none⟩ n c (aC L) rfl (by rw [aU,U.o.length]) (iw Z.o) (aL _) (by omega) (by unfold maxLen;omega) (by omega) C.o.size (W.heap.size+1) (by simp) ?_;intro g K w3 hown hgrow hat a7)
  go_ret;refine ⟨g,n,K,rfl,by rw [m];exact ⟨by simpa [aC] using hown,U.o.length,U.o.ents⟩,?_⟩;exact C.o.grown hgrow C.o.size (fun j e=>by rw [Ch e];exact D.o.size)
end Go.Proofs.YtpobkmjicbobdaaGreat
namespace Go.Proofs.YtpobkmjicbobdaaGreat
open Go.RowKit
set_option maxRecDepth 100000
set_option maxHeartbeats 4000000
theorem Bf {k:Nat} (h:1≤k) (hk:k≤1048576):IntKind.i64.wrap ((k:Int) - 1)=((k - 1:Nat):Int):=by
 have e:((k - 1:Nat):Int)=(k:Int) - 1:=by omega
 rw [e,Dg];unfold wrap64;omega
theorem mz (lo b C n c:Nat) (L:List ac) (a:Option Addr) (m d:Nat) (S:List Int) (w:World) (hL:ag w (some ⟨b,C,none⟩) n c L) (hS:bQ lo w a m d S) (hn:n≤1048576) (a5:b<w.heap.size) :
 Calls Tryz.prog 221 #[sO b C n c,.slice a m d] w fun e w'=>∃g k Y,e=.returned (sL g k Y)∧cY w' (pT g) k Y (Sq.parts (f7 S) L)∧Bl w w':=by
 have O:CG (L.length=n):=hL.length;have hroom:=hL.room;have hbig:=hL.big;unfold maxLen at hbig;have HL:=bO hL;have HS:=bO hS;have P0:aW (w.alloc (.cells #[] 28)) w.heap.size w.heap.size 0 0 [] [] none:=by
  refine ⟨?_,rfl,(fun e=>by cases e),fun i A hA=>by simp at hA⟩;have:=Do (base:=w.heap.size) (e:=28) (size:=1) w #[] 0 (Cy _) (by simp) (by simp);simpa using this
 have a9:CG (aW (w.alloc (.cells #[] 28)) w.heap.size w.heap.size 0 0 [] [] none):=P0;have ao:CG (Bl w (w.alloc (.cells #[] 28))):=bZ;obtain ⟨i0,hi,ar,ae,ah⟩:=info_parts Tryz.infoEntS;clear hL hS P0;go_enter Tryz.func221,Tryz.ntmps221
 go_wp2;go_loopw [5,6] (fun o iv wr=>∃(i N g Y:Nat) (P:List (List ac)) (vs:List Value),i≤n∧iv=iT i∧o=sL g N Y∧aW wr w.heap.size g N Y P vs none∧Bl w wr∧N≤i∧Sq.parts (f7 S) L=P++Sq.parts (f7 S) (L.drop i)) (fun _ iv _=>n - (intOf iv).toNat)
 case atStart=>exact ⟨0,0,w.heap.size,0,[],[],C3 _,rfl,rfl,a9.o,ao.o,Cy _,rfl⟩
 case round =>
  obtain ⟨i,N,g,Y,P,vs,b5,rfl,rfl,hP,hb,aZ,hcut⟩:=hrel;have HP:CG (aW wr w.heap.size g N Y P vs none):=hP;have R:CG (Bl w wr):=hb;have X:CG (Sq.parts (f7 S) L=P++Sq.parts (f7 S) (L.drop i)):=hcut;clear hP hb hcut a9 ao;by_cases b3:i<n
  · have ad:(i:Int)<(n:Int):=by omega
    obtain ⟨wo,aJ⟩:=aH wr;subst aJ;go_wp2;go_loopw [7] (fun kv wq=>∃k:Nat,i<k∧k≤n∧kv=iT k∧Bl wo wq∧(∀j,i<j→j<k→∀x y,L[j - 1]?=some x→L[j]?=some y→f7 S x y=true)) (fun kv _=>n - (intOf kv).toNat)
    case atStart=>exact ⟨i+1,by omega,by omega,by go_num,Below.refl _ _,fun j h1 h2=>by omega⟩
    case round =>
     obtain ⟨k,ab,af,rfl,Z,ai⟩:=hrel;have W:CG (∀j,i<j→j<k→∀x y,L[j - 1]?=some x→L[j]?=some y→f7 S x y=true):=ai;have Q:CG (Bl w wr):=R.o.trans (Z.mono R.o.size);have E:CG (Bl wo wr):=Z;clear ai;have zb:b<wr.heap.size:=l' a5 Q.o.size;have H:Bl wr wr.drew:=(Below.refl _ wr).drew;by_cases az:k<n
     · have au:(k:Int)<(n:Int):=by omega
       have b4:IntKind.i64.wrap ((k:Int) - 1)=((k - 1:Nat):Int):=Bf (by omega) (by omega);have aT:((k - 1:Nat):Int)<(n:Int):=by omega
       obtain ⟨s,q,dd,tt,nn,hx,_,_,g1,_⟩:=HL.o.ent Q.o a5 k az;obtain ⟨s0,q0,an,ak,al,hy,_,_,e1,_⟩:=HL.o.ent Q.o a5 (k - 1) (by omega);have HX:CG (L[k]?=some (s,q,dd,tt,nn)):=hx;have HY:CG (L[k - 1]?=some (s0,q0,an,ak,al)):=hy;have a1:CG (f7 S (s0,q0,an,ak,al) (s,q,dd,tt,nn)=!fs S q q0):=rfl;have B:CG (∀w',Bl wr w'→(w'.cell? ⟨b,C+k*5+1,none⟩=some (iT q)∧w'.cell? ⟨b,C+(k - 1)*5+1,none⟩=some (iT q0)∧b<w'.heap.size)):=fun w' kk=>⟨cell_later kk g1,cell_later kk e1,l' zb kk.size⟩
       clear hx hy g1 e1 Z;cases hap:fs S q q0 with
       | false =>
        go_wp2_with fail
        refine ez B H fun J=>?_
        refine aP 0 17 J ?_;refine aR 17 fun K hK=>?_
        go_simp;refine (pU lo a m d S q q0 _ (HS.o.keep (Q.o.trans (H.mono Q.o.size)))).mono ?_;rintro e w1 ⟨rfl,b1⟩;have k1:Bl wr w1:=H.trans (b1.mono H.size);go_wp2_with fail
        refine hK.o _ _ (B.o _ k1) fun J=>?_
        (try go_frame);refine aP 18 2 J ?_;refine dN ?_;clear H B J;have f:CG (Bl wo w1):=E.o.trans (k1.mono E.o.size);clear k1;go_wp2;go_roundw
        case rel =>
         refine ⟨k+1,by omega,by omega,by go_num,f.o,fun j h1 h2 x y hx hy=>?_⟩;by_cases I:j<k
         · exact W.o j h1 I x y hx hy
         · have:j=k:=by omega
           subst this;rw [HX.o] at hy;rw [HY.o] at hx;cases hx;cases hy;rw [a1.o,hap];rfl
        case measure=>simp [intOf];omega
       | true =>
        go_wp2_with fail
        refine ez B H fun J=>?_
        refine aP 0 17 J ?_;refine aR 17 fun K hK=>?_
        go_simp;refine (pU lo a m d S q q0 _ (HS.o.keep (Q.o.trans (H.mono Q.o.size)))).mono ?_;rintro e w1 ⟨rfl,b1⟩;have k1:Bl wr w1:=H.trans (b1.mono H.size);go_wp2_with fail
        refine hK.o _ _ (B.o _ k1) fun J=>?_
        (try go_frame);refine aP 18 2 J ?_;refine dN ?_;clear H B J;have f:CG (Bl w w1):=Q.o.trans (k1.mono Q.o.size);have T:CG (Bl wo w1):=E.o.trans (k1.mono E.o.size);have a6:CG (Sq.parts (f7 S) (L.drop i)=(L.drop i).take (k - i) :: Sq.parts (f7 S) (L.drop k)):=Sq.parts_front _ L i k ab (by rw [O.o];omega) W.o (fun x y hx hy=>by
         rw [HX.o] at hy;rw [HY.o] at hx;cases hx;cases hy;rw [a1.o,hap];rfl)
        have aC:=f.o.size;have t:CG (aW w1 w.heap.size g N Y P vs none):=HP.o.below T.o;clear k1 Q E W HX HY a1 HP T R;have aB:(0:Int)≤(i:Int):=by omega
        have av:(i:Int)≤(k:Int):=by omega
        have aq:(k:Int)≤(c:Int):=by omega
        have ay:¬c - i=0:=by omega
        go_wp2_with (at_builtin;refine wpList_append_own_at _ rfl _ _ 102 rfl w.heap.size 28 i0 _ 1 24 Tryz.underlying102 hi ar ae ah rfl (by decide) _ _ _ rfl (t.o.owns.alloc _) ⟨w1.heap.size,0,none⟩ 1 1 [.slice (some ⟨b,C+i*5,none⟩) (k - i) (c - i)] rfl rfl ?q1 ?q2 ?q3 ?q4 ?q5 ?_)
        case q1 =>
         intro j u I;match j,I with
         | 0,I=>simp at I;subst I;rw [De];simp
         | j+1,I=>simp at I
        case q2=>intro u hu;simp at hu;subst hu;rfl
        case q3=>unfold maxLen;omega
        case q4=>omega
        case q5=>simp;omega
        intro v' w2 r hgrow hnil hat;obtain ⟨g2,D,rfl⟩:∃g F,v'=sL g (N+1) F:=by
         rcases r.2 with ⟨hv,h0⟩ | ⟨g,F,aF,hv,_⟩
         · omega
         · exact ⟨g,F,hv⟩
        have a2:CG (aW w2 w.heap.size g2 (N+1) D (P++[(L.drop i).take (k - i)]) (vs++[.slice (some ⟨b,C+i*5,none⟩) (k - i) (c - i)]) none):=by
         have U:∀o,Bl w1 (w1.alloc o):=fun o=>(Below.refl _ _).alloc (Cy _) o
         exact (t.o.below (U _)).push r hgrow (by rcases hat with h | h;exact .inl (CZ h);exact .inr (by have h1:g2=w1.heap.size+1:=CZ h;simpa using h1)) ((HL.o.keep (f.o.trans ((U _).mono f.o.size))).sub (by omega) af) (fun x e hp=>by
          have h3:=(t.o.owns.lt g rfl).1;cases e;show b≠g
          omega)
        have a0:CG (Bl w w2):=(f.o.alloc f.o.size _).grown hgrow (by simp;omega) (fun q hq=>(t.o.owns.lt q hq).1);clear r hgrow hnil hat t f;go_wp2;go_roundw
        case rel=>exact ⟨k,N+1,g2,D,_,_,by omega,rfl,rfl,a2.o,a0.o,by omega,by rw [X.o,a6.o];simp⟩
        case measure=>simp [intOf];omega
     · have au:¬(k:Int)<(n:Int):=by omega
       have aE:k=n:=by omega
       subst aE;have B:CG (∀w',Bl wr w'→(b<w'.heap.size)):=fun w' kk=>l' zb kk.size
       clear Z;go_wp2_with fail
       refine ez B H fun J=>?_
       refine aP 0 17 J ?_;refine aR 17 fun K hK=>?_
       go_simp;refine hK.o _ _ (B.o _ H) fun J=>?_
       (try go_frame);refine aP 18 2 J ?_;refine dN ?_;clear B J;have f:CG (Bl w wr.drew):=Q.o.trans (H.mono Q.o.size);have T:CG (Bl wo wr.drew):=E.o.trans (H.mono E.o.size);have a6:CG (Sq.parts (f7 S) (L.drop i)=(L.drop i).take (k - i) :: Sq.parts (f7 S) (L.drop k)):=Sq.parts_front _ L i k ab (by rw [O.o];omega) W.o (fun x y hx hy=>by rw [Eu (by rw [O.o];omega)] at hy;cases hy);have t:CG (aW wr.drew w.heap.size g N Y P vs none):=HP.o.below T.o;obtain ⟨w1,aj⟩:=aH wr.drew;rw [← aj] at f t ⊢;have aC:=f.o.size;clear H Q E W HP T R aj;have aB:(0:Int)≤(i:Int):=by omega
       have av:(i:Int)≤(k:Int):=by omega
       have aq:(k:Int)≤(c:Int):=by omega
       have ay:¬c - i=0:=by omega
       go_wp2_with (at_builtin;refine wpList_append_own_at _ rfl _ _ 102 rfl w.heap.size 28 i0 _ 1 24 Tryz.underlying102 hi ar ae ah rfl (by decide) _ _ _ rfl (t.o.owns.alloc _) ⟨w1.heap.size,0,none⟩ 1 1 [.slice (some ⟨b,C+i*5,none⟩) (k - i) (c - i)] rfl rfl ?q1 ?q2 ?q3 ?q4 ?q5 ?_)
       case q1 =>
        intro j u I;match j,I with
        | 0,I=>simp at I;subst I;rw [De];simp
        | j+1,I=>simp at I
       case q2=>intro u hu;simp at hu;subst hu;rfl
       case q3=>unfold maxLen;omega
       case q4=>omega
       case q5=>simp;omega
       intro v' w2 r hgrow hnil hat;obtain ⟨g2,D,rfl⟩:∃g F,v'=sL g (N+1) F:=by
        rcases r.2 with ⟨hv,h0⟩ | ⟨g,F,aF,hv,_⟩
        · omega
        · exact ⟨g,F,hv⟩
       have a2:CG (aW w2 w.heap.size g2 (N+1) D (P++[(L.drop i).take (k - i)]) (vs++[.slice (some ⟨b,C+i*5,none⟩) (k - i) (c - i)]) none):=by
        have U:∀o,Bl w1 (w1.alloc o):=fun o=>(Below.refl _ _).alloc (Cy _) o
        exact (t.o.below (U _)).push r hgrow (by rcases hat with h | h;exact .inl (CZ h);exact .inr (by have h1:g2=w1.heap.size+1:=CZ h;simpa using h1)) ((HL.o.keep (f.o.trans ((U _).mono f.o.size))).sub (by omega) af) (fun x e hp=>by
         have h3:=(t.o.owns.lt g rfl).1;cases e;show b≠g
         omega)
       have a0:CG (Bl w w2):=(f.o.alloc f.o.size _).grown hgrow (by simp;omega) (fun q hq=>(t.o.owns.lt q hq).1);clear r hgrow hnil hat t f;go_wp2;go_roundw
       case rel=>exact ⟨k,N+1,g2,D,_,_,by omega,rfl,rfl,a2.o,a0.o,by omega,by rw [X.o,a6.o];simp⟩
       case measure=>simp [intOf];omega
  · have ad:¬(i:Int)<(n:Int):=by omega
    have HE:CG (Sq.parts (f7 S) L=P):=by
     have h:=X.o;rw [EM (by rw [O.o];omega)] at h;rw [show Sq.parts (f7 S) []=[] from rfl,Eh] at h;exact h
    go_wp2;go_ret;exact ⟨g,N,Y,rfl,by rw [HE.o];exact HP.o.partsAt,R.o⟩
end Go.Proofs.YtpobkmjicbobdaaGreat
namespace Go.Proofs.YtpobkmjicbobdaaGreat
open Go.RowKit
set_option maxRecDepth 100000
set_option maxHeartbeats 4000000
attribute [local go_sem] DN
def mL (P:List (List ac)) (bottom:Bool) (j:Nat):Bool × List ac:=(P.drop j).foldr (Sq.stepD lM) (bottom,[])
theorem zj {P:List (List ac)} {b:Bool} {j:Nat} {A:List ac} (h:P[j]?=some A):mL P b j=(if (lM (mL P b (j+1)).1 A).isEmpty then (mL P b (j+1)).1 else false,lM (mL P b (j+1)).1 A++(mL P b (j+1)).2):=xt b P j A h
theorem Az (P:List (List ac)) (b:Bool) (j:Nat):(mL P b j).2.length≤P.flatten.length:=by
 refine C8 (oF b (P.drop j)) ?_;conv=>rhs;rw [← Ds j P]
 rw [EB,CW];omega
theorem AW {w o m:World} {G f g r c':Nat} {C R:List ac} {v3:Value} (hO:af o w.heap.size G 0 0 []) (hR:af o w.heap.size g r c' R) (hB:Bl w o) (hg:g≠G)
 (hown:m.ownsRow w.heap.size 50 5 v3 (0+f) (aC []++aC C)) (hgrow:o.grownBy m (sL G 0 0).ownBlock) (hnil:v3=nZ ↔ sL G 0 0=nZ∧f=0) :
 ∃n d,n<m.heap.size∧v3=sL n f d∧CG (af m w.heap.size g r c' R)∧CG (Bl w m)∧CG (m.ownsRow w.heap.size 50 5 (sL n f d) f (aC C)):=by
 rw [C6] at hown;have b:m.ownsRow w.heap.size 50 5 v3 f (aC C):=by simpa [aC] using hown
 obtain ⟨n,d,rfl⟩:∃g cap,v3=sL g f cap:=by
  rcases b.2 with ⟨hv,h0⟩ | ⟨g,cap,s,hv,_⟩
  · have:=(hnil.1 hv).1;cases this
  · exact ⟨g,cap,hv⟩
 exact ⟨n,d,(b.lt n rfl).2,rfl,hR.grown hgrow (fun e=>hg (CZ e)),hB.grown hgrow hB.size (fun q hq=>(hO.owns.lt q hq).1),b⟩
theorem AV {w n r:World} {s d e g m c':Nat} {C R:List ac} {v4:Value} (hO:n.ownsRow w.heap.size 50 5 (sL s e d) e (aC C)) (hR:af n w.heap.size g m c' R) (hB:Bl w n) (hE:∀l ∈ C,dR l) (hL:C.length=e)
 (hown:r.ownsRow w.heap.size 50 5 v4 (e+m) (aC C++aC R)) (hgrow:n.grownBy r (sL s e d).ownBlock) (hnil:v4=nZ ↔ sL s e d=nZ∧m=0) :
 ∃o b,v4=sL o (e+m) b∧CG (af r w.heap.size o (e+m) b (C++R))∧CG (Bl w r):=by
 obtain ⟨o,b,rfl⟩:∃g f,v4=sL g (e+m) f:=by
  rcases hown.2 with ⟨hv,h0⟩ | ⟨g,f,t,hv,_⟩
  · have:=(hnil.1 hv).1;cases this
  · exact ⟨g,f,hv⟩
 refine ⟨o,b,rfl,⟨by rw [aJ];exact hown,by rw [CW,hL,hR.len],fun l hl=>?_⟩,hB.grown hgrow hB.size (fun q hq=>(hO.lt q hq).1)⟩;rcases Dd.1 hl with h | h
 · exact hE l h
 · exact hR.ents l h
theorem sE (a:Option Addr) (n c:Nat) (P:List (List ac)) (f:Bool) (w:World) (hP:cY w a n c P) (az:∀A ∈ P,A≠[]) (hT:P.flatten.length≤1048576) (hn:n≤1048576) (hN:∀A ∈ P,∀e ∈ A,-1000000≤e.2.2.2.2∧e.2.2.2.2≤1000000) :
 Calls Tryz.prog 220 #[.slice a n c,.bool f] w fun e w'=>∃g K c',e=.returned (sL g K c')∧af w' w.heap.size g K c' (Sq.leftD lM f P)∧Bl w w':=by
 have HP:=bO hP;have av:=bO az;have HN:=bO hN;have HT:=bO hT;have hroom:=hP.room;have hbig:=hP.big;unfold maxLen at hbig;have ar:CG (af (w.alloc (.cells #[] 50)) w.heap.size w.heap.size 0 0 (mL P f n).2):=by
  have e:(mL P f n).2=[]:=by unfold mL;rw [EM (by rw [hP.length];exact Cy _)];rfl
  show af _ _ _ _ _ _
  rw [e];exact ms w _ (Cy _)
 have ap:CG ((mL P f n).1=f):=by show (mL P f n).1=f;unfold mL;rw [EM (by rw [hP.length];exact Cy _)];rfl
 have aw:CG (Bl w (w.alloc (.cells #[] 50))):=bZ;obtain ⟨i0,hi,a8,a4,a5⟩:=info_parts Tryz.infoEnt;clear hP az hN hT;have wn:IntKind.i64.wrap ((n:Int) - 1)=(n:Int) - 1:=by rw [Dg];unfold wrap64;omega
 go_enter Tryz.func220,Tryz.ntmps220
 go_wp2;go_loopw [1,5,6] (fun bv o iv wr=>∃(j K g c':Nat) (z:Int),j≤n∧z=(j:Int) - 1∧iv=iT z∧bv=.bool (mL P f j).1∧o=sL g K c'∧af wr w.heap.size g K c' (mL P f j).2∧Bl w wr) (fun _ _ iv _=>(intOf iv+1).toNat)
 case atStart=>exact ⟨n,0,w.heap.size,0,_,Cy _,rfl,rfl,by rw [ap.o],rfl,ar.o,aw.o⟩
 case round =>
  obtain ⟨j,K,g,c',z,hj,hz,rfl,rfl,rfl,hO,hb⟩:=hrel;have HR:CG (af wr w.heap.size g K c' (mL P f j).2):=hO;have HB:CG (Bl w wr):=hb;clear hO hb ar ap aw;by_cases al:j=0
  · subst al;have am:z=-1:=by omega
    subst am;clear hz wn;go_wp2;go_ret;exact ⟨g,K,c',rfl,by have h:=HR.o;unfold mL at h;rw [List.drop_zero] at h;exact h,HB.o⟩
  · obtain ⟨y,rfl⟩:∃y,j=y+1:=⟨j - 1,by omega⟩;have am:z=(y:Int):=by omega
    subst am;clear hz al;have ba:(y:Int)<(n:Int):=by omega
    have al:(0:Int)≤(y:Int):=by omega
    have aE:y<n:=by omega
    obtain ⟨b,aZ,rfl,aR⟩:=HP.o.form (by omega);obtain ⟨A,s,m,d,hA,gA,hE⟩:=HP.o.list HB.o y aE;have T:=CV hA;have aa:=av.o A T;have ae:=hE.length;have ay:1≤m:=by
     rw [← ae];cases A with
     | nil=>exact absurd rfl aa
     | cons=>simp
    obtain ⟨bs,os,rfl,be⟩:=hE.form ay;obtain ⟨e0,ai⟩:∃e0,A[0]?=some e0:=⟨A[0]'(by omega),j' (by omega)⟩;obtain ⟨s0,q0,r0⟩:=e0;have aM:A.length≤P.flatten.length:=by
     obtain ⟨X,Y,e⟩:=List.append_of_mem T;rw [e];simp;omega
    have b5:=HT.o;have aP:m≤1048576:=by omega
    have zb:b<wr.heap.size:=l' aR HB.o.size;have b9:K≤1048576:=by have h1:=HR.o.len;have h2:=Az P f (y+1);omega
    obtain ⟨bb,a1⟩:=aH ((mL P f (y+1)).1);have CC:=wT bs os m d A s0 q0 bb wr hE ay aP ⟨r0,ai⟩ (HN.o A T);obtain ⟨C,hC⟩:=aH (lM bb A);rw [← tH bb ai,← hC] at CC;have aX:C.length≤m:=by rw [hC,← ae];exact vW _ _
    have a9:CG (mL P f y=(if C.isEmpty then bb else false,C++(mL P f (y+1)).2)):=by show mL P f y=_;rw [zj hA,← a1,← hC]
    rw [← a1];clear hA hE aa ae ai aM a1 hC T HP av HN;go_wp2_with fail
    refine CC.mono ?_;rintro e O ⟨gc,nc,cc,rfl,ah,a6⟩;have HC:CG (af O wr.heap.size gc nc cc C):=ah;have J:CG (Bl w O):=HB.o.trans (a6.mono HB.o.size);have U:CG (af O w.heap.size g K c' (mL P f (y+1)).2):=HR.o.below a6;have ab:=ah.len;have b8:nc≤1048576:=by omega
    have bh:=a6.size;have wj:IntKind.i64.wrap ((y:Int) - 1)=(y:Int) - 1:=by rw [Dg];unfold wrap64;omega
    clear CC ah a6 HB HR gA;by_cases aG:nc=0
    · have ak:CG (C.isEmpty=true):=by show C.isEmpty=true;rw [List.isEmpty_iff];exact DQ.1 (by omega)
      subst aG;go_upto_region 8 with fail
      obtain ⟨w2,D⟩:=aH (O.alloc (.cells #[] 50));have aF:w2.heap.size=O.heap.size+1:=by rw [D];simp
      have Q:CG (af w2 w.heap.size O.heap.size 0 0 []):=by rw [D];exact ms O _ J.o.size
      have H:Bl O w2:=by rw [D];exact bZ
      have R:CG (Bl w w2):=J.o.trans (H.mono J.o.size);have E:CG (af w2 wr.heap.size gc 0 cc C):=HC.o.below H;have a3:CG (af w2 w.heap.size g K c' (mL P f (y+1)).2):=U.o.below H;have aQ:g<O.heap.size:=U.o.lt.2;have a0:CG (∀l ∈ C,dR l):=E.o.ents;have aj:CG (C.length=0):=E.o.len;clear H J HC U;go_wp2_with (first
       | (at_builtin;rw [← D];refine wpList_append_own_at _ rfl _ _ 28 rfl w.heap.size 50 i0 _ 5 56 Tryz.underlying28 hi a8 a4 a5 rfl (by decide) _ _ _ rfl Q.o.owns ⟨gc,0,none⟩ 0 cc (aC C) rfl (by rw [aU,E.o.len]) (iw E.o.entsAt) (aL _) (by unfold maxLen;omega) (by omega) R.o.size ?_;intro v3 w3 B t F Z;obtain ⟨g3,au,aO,rfl,I,L,N⟩:=AW Q.o a3.o R.o (by omega) B t F;clear B t F Z D E Q a3 R)
       | (at_builtin;refine wpList_append_own_at _ rfl _ _ 28 rfl w.heap.size 50 i0 _ 5 56 Tryz.underlying28 hi a8 a4 a5 rfl (by decide) _ _ _ rfl N.o ⟨g,0,none⟩ K c' (aC (mL P f (y+1)).2) rfl (by rw [aU,I.o.len]) (iw I.o.entsAt) (aL _) (by unfold maxLen;omega) (by omega) L.o.size ?_;intro v4 w4 u r x W;obtain ⟨g4,a2,rfl,a7,ag⟩:=AV N.o I.o L.o a0.o aj.o u r x;clear u r x W I L N a0))
      rw [C6] at a7;go_roundw
      case rel=>exact ⟨y,K,g4,a2,(y:Int) - 1,by omega,rfl,by go_num,by rw [a9.o];rw [ak.o];rfl,rfl,by rw [a9.o];exact a7.o,ag.o⟩
      case measure=>simp [intOf] <;> omega
    · have ak:CG (C.isEmpty=false):=by
       show C.isEmpty=false
       cases hC:C with
       | nil=>rw [hC] at ab;simp at ab;omega
       | cons=>rfl
      have aW:(0:Int)<(nc:Int):=by omega
      go_upto_region 8 with fail
      obtain ⟨w2,D⟩:=aH (O.alloc (.cells #[] 50));have aF:w2.heap.size=O.heap.size+1:=by rw [D];simp
      have Q:CG (af w2 w.heap.size O.heap.size 0 0 []):=by rw [D];exact ms O _ J.o.size
      have H:Bl O w2:=by rw [D];exact bZ
      have R:CG (Bl w w2):=J.o.trans (H.mono J.o.size);have E:CG (af w2 wr.heap.size gc nc cc C):=HC.o.below H;have a3:CG (af w2 w.heap.size g K c' (mL P f (y+1)).2):=U.o.below H;have aQ:g<O.heap.size:=U.o.lt.2;have a0:CG (∀l ∈ C,dR l):=E.o.ents;have aj:CG (C.length=nc):=E.o.len;clear H J HC U;go_wp2_with (first
       | (at_builtin;rw [← D];refine wpList_append_own_at _ rfl _ _ 28 rfl w.heap.size 50 i0 _ 5 56 Tryz.underlying28 hi a8 a4 a5 rfl (by decide) _ _ _ rfl Q.o.owns ⟨gc,0,none⟩ nc cc (aC C) rfl (by rw [aU,E.o.len]) (iw E.o.entsAt) (aL _) (by unfold maxLen;omega) (by omega) R.o.size ?_;intro v3 w3 B t F Z;obtain ⟨g3,au,aO,rfl,I,L,N⟩:=AW Q.o a3.o R.o (by omega) B t F;clear B t F Z D E Q a3 R)
       | (at_builtin;refine wpList_append_own_at _ rfl _ _ 28 rfl w.heap.size 50 i0 _ 5 56 Tryz.underlying28 hi a8 a4 a5 rfl (by decide) _ _ _ rfl N.o ⟨g,0,none⟩ K c' (aC (mL P f (y+1)).2) rfl (by rw [aU,I.o.len]) (iw I.o.entsAt) (aL _) (by unfold maxLen;omega) (by omega) L.o.size ?_;intro v4 w4 u r x W;obtain ⟨g4,a2,rfl,a7,ag⟩:=AV N.o I.o L.o a0.o aj.o u r x;clear u r x W I L N a0))
      go_roundw
      case rel=>exact ⟨y,nc+K,g4,a2,(y:Int) - 1,by omega,rfl,by go_num,by rw [a9.o];rw [ak.o];rfl,rfl,by rw [a9.o];exact a7.o,ag.o⟩
      case measure=>simp [intOf] <;> omega
end Go.Proofs.YtpobkmjicbobdaaGreat
namespace Go.Proofs.YtpobkmjicbobdaaGreat
open Go.RowKit
set_option maxRecDepth 100000
set_option maxHeartbeats 4000000
theorem mC (r:ac→ac→Bool) (L:List ac):(Sq.parts r L).length≤L.length:=by
 have key:∀P:List (List ac),(∀c ∈ P,c≠[])→P.length≤P.flatten.length:=by
  intro P;induction P with
  | nil=>intro _;exact Cy _
  | cons c P b =>
   intro h;have h1:=b (fun x hx=>h x (DB _ hx));have h2:1≤c.length:=by
    cases c with
    | nil=>exact absurd rfl (h [] Dy)
    | cons=>simp
   rw [DC,DW,CW];omega
 have:=key _ (jA r L);rwa [Sq.parts_flat] at this
theorem xM {L:List ac} {P:List (List ac)} {i:Nat} (h:Sq.parts eY L=P++Sq.parts eY (L.drop i)) (S:List Int) (b:Bool):(P.flatMap (eG S b)).length≤L.length:=by
 have h1:=oV S b P;have h2:=Sq.parts_flat eY L;rw [h,EB] at h2;have h3:=congrArg List.length h2;rw [CW] at h3;omega
theorem AX {w f o:World} {base g n c r e c3:Nat} {R C:List ac} {v4:Value} (hO:af f w.heap.size g n c R) (hC:af f base r e c3 C) (hB:Bl w f)
 (hown:o.ownsRow w.heap.size 50 5 v4 (n+e) (aC R++aC C)) (hgrow:f.grownBy o (sL g n c).ownBlock) (hnil:v4=nZ ↔ sL g n c=nZ∧e=0) :
 ∃m b,v4=sL m (n+e) b∧CG (af o w.heap.size m (n+e) b (R++C))∧CG (Bl w o):=by
 obtain ⟨m,b,rfl⟩:∃g d,v4=sL g (n+e) d:=by
  rcases hown.2 with ⟨hv,h0⟩ | ⟨g,d,s,hv,_⟩
  · have:=(hnil.1 hv).1;cases this
  · exact ⟨g,d,hv⟩
 refine ⟨m,b,rfl,⟨by rw [aJ];exact hown,by rw [CW,hO.len,hC.len],fun l hl=>?_⟩,hB.grown hgrow hB.size (fun q hq=>(hO.owns.lt q hq).1)⟩;rcases Dd.1 hl with h | h
 · exact hO.ents l h
 · exact hC.ents l h
theorem jT (lo:Nat) (al:Option Addr) (n c:Nat) (L:List ac) (a:Option Addr) (m d:Nat) (S:List Int) (f:Bool) (w:World) (hL:ag w al n c L) (hS:bQ lo w a m d S) (hn:n≤1048576) :
 Calls Tryz.prog 174 #[.slice al n c,.slice a m d,.bool f] w fun e w'=>∃g F c',e=.returned (sL g F c')∧af w' w.heap.size g F c' (bG L S f)∧Bl w w':=by
 have D:CG (L.length=n):=hL.length;have hroom:=hL.room;have hbig:=hL.big;unfold maxLen at hbig;have HL:=bO hL;have HS:=bO hS;obtain ⟨w0,a9⟩:=aH (w.alloc (.cells #[] 50));have ab:Bl w w0:=by rw [a9];exact bZ
 have aF:CG (af w0 w.heap.size w.heap.size 0 0 []):=by rw [a9];exact ms w _ (Cy _)
 have CR:=jt al n c L w0 (hL.keep ab);obtain ⟨i0,hi,aS,aJ,aM⟩:=info_parts Tryz.infoEnt;clear hL hS;go_enter Tryz.func174,Tryz.ntmps174
 go_wp2_with fail
 rw [← a9];refine CR.mono ?_;rintro e w1 ⟨rfl,ao⟩;have aw:CG (Bl w w1):=ab.trans (ao.mono ab.size);have C:CG (af w1 w.heap.size w.heap.size 0 0 []):=aF.o.below ao;clear CR ao ab aF a9;cases hR:aI L with
 | false =>
  have HQ:CG (bG L S f=[]):=by show bG L S f=[];unfold bG;rw [hR];rfl
  go_wp2;go_ret;exact ⟨w.heap.size,0,0,rfl,by rw [HQ.o];exact C.o,aw.o⟩
 | true =>
  have HQ:CG (bG L S f=(Sq.parts eY L).flatMap (eG S f)):=by show bG L S f=_;unfold bG;rw [if_pos hR]
  have aD:CG (∀e ∈ L,-1000000≤e.2.2.2.2∧e.2.2.2.2≤1000000):=fun e he=>(uw hR e he).1
  clear hR;go_wp2;go_loopw [7,8] (fun o iv wr=>∃(i F g c':Nat) (P:List (List ac)),i≤n∧iv=iT i∧o=sL g F c'∧af wr w.heap.size g F c' (P.flatMap (eG S f))∧Bl w wr∧Sq.parts eY L=P++Sq.parts eY (L.drop i)) (fun _ iv _=>n - (intOf iv).toNat)
  case atStart=>exact ⟨0,0,w.heap.size,0,[],C3 _,rfl,rfl,C.o,aw.o,rfl⟩
  case round =>
   obtain ⟨i,F,g,c',P,bA,rfl,rfl,hO,hb,hcut⟩:=hrel;have HO:CG (af wr w.heap.size g F c' (P.flatMap (eG S f))):=hO;have T:CG (Bl w wr):=hb;have Z:CG (Sq.parts eY L=P++Sq.parts eY (L.drop i)):=hcut;have bt:F≤n:=by have h1:=hO.len;have h2:=xM hcut S f;have h3:=D.o;omega
   clear hO hb hcut C aw;by_cases aN:i<n
   · have aE:(i:Int)<(n:Int):=by omega
     obtain ⟨b,a4,rfl,ai⟩:=HL.o.form (by omega);obtain ⟨si,qi,di,ti,ni,aA,_,_,_⟩:=HL.o.ent T.o ai i aN;have aG:CG (L[i]?=some (si,qi,di,ti,ni)):=aA;clear aA;obtain ⟨wo,bb⟩:=aH wr;subst bb;go_wp2;go_loopw [9] (fun kv wq=>∃k:Nat,i<k∧k≤n∧kv=iT k∧Bl wo wq∧(∀j,i≤j→j<k→∀x,L[j]?=some x→x.1=si)) (fun kv _=>n - (intOf kv).toNat)
     case atStart=>exact ⟨i+1,by omega,by omega,by go_num,Below.refl _ _,fun j h1 h2 x hx=>by
      have:j=i:=by omega
      subst this;rw [aG.o] at hx;cases hx;rfl⟩
     case round =>
      obtain ⟨k,az,aK,rfl,ad,a8⟩:=hrel;have a7:CG (∀j,i≤j→j<k→∀x,L[j]?=some x→x.1=si):=a8;have HB:CG (Bl w wr):=T.o.trans (ad.mono T.o.size);have ae:CG (Bl wo wr):=ad;have a3:CG (∀j,i<j→j<k→∀x y,L[j - 1]?=some x→L[j]?=some y→eY x y=true):=fun j h1 h2 x y hx hy=>by
       show decide (x.1=y.1)=true
       rw [a8 (j - 1) (by omega) (by omega) x hx,a8 j (by omega) h2 y hy];simp
      clear a8;have zb:b<wr.heap.size:=l' ai HB.o.size;have k0:Bl wr wr.drew:=(Below.refl _ wr).drew;have t:CG (Bl w wr.drew):=HB.o.trans (k0.mono HB.o.size);have W:CG (Bl wo wr.drew):=ae.o.trans (k0.mono ae.o.size);by_cases b3:k<n
      · have aT:(k:Int)<(n:Int):=by omega
        obtain ⟨s,q,dd,tt,nn,hx,_,g0,_⟩:=HL.o.ent HB.o ai k b3;obtain ⟨s2,q2,bz,bw,bp,aB,_,e0,_⟩:=HL.o.ent HB.o ai i aN;rw [aG.o] at aB;cases aB;have HX:CG (L[k]?=some (s,q,dd,tt,nn)):=hx;have J:CG (∀w',Bl wr w'→(w'.cell? ⟨b,a4+k*5,none⟩=some (.string s)∧w'.cell? ⟨b,a4+i*5,none⟩=some (.string si)∧b<w'.heap.size)):=fun w' kk=>⟨cell_later kk g0,cell_later kk e0,l' zb kk.size⟩
        clear hx g0 e0 ad;by_cases a5:s=si
        · subst a5;go_wp2_with fail
          refine ez J k0 fun aa=>?_
          refine aP 0 17 aa ?_;refine dN ?_;clear k0 J aa;go_wp2;go_roundw
          case rel =>
           refine ⟨k+1,by omega,by omega,by go_num,W.o,fun j h1 h2 x hx=>?_⟩;by_cases hj:j<k
           · exact a7.o j h1 hj x hx
           · have:j=k:=by omega
             subst this;rw [HX.o] at hx;cases hx;rfl
          case measure=>simp [intOf];omega
        · have b0:¬s.toList=si.toList:=by
           rw [Dp,Dp];intro h;exact a5 (Ef (Ed.1 h))
          have aX:(s.toList == si.toList)=false:=by simpa using b0
          have a1:CG (Sq.parts eY (L.drop i)=(L.drop i).take (k - i) :: Sq.parts eY (L.drop k)):=Sq.parts_front _ L i k az (by rw [D.o];omega) a3.o (fun x y hx hy=>by
           rw [HX.o] at hy;cases hy;show decide (x.1=s)=false
           rw [a7.o (k - 1) (by omega) (by omega) x hx];exact decide_eq_false (fun h=>a5 h.symm))
          clear a5;go_wp2_with fail
          refine ez J k0 fun aa=>?_
          refine aP 0 17 aa ?_;refine dN ?_;clear k0 J aa a7 a3 HX b0 aX;have C:CG (af wr.drew w.heap.size g F c' (P.flatMap (eG S f))):=HO.o.below W.o;obtain ⟨w1,X⟩:=aH wr.drew;rw [← X] at t C ⊢;have ar:=t.o.size;clear HB ae HO W T X;have b4:(0:Int)≤(i:Int):=by omega
          have aV:(i:Int)≤(k:Int):=by omega
          have aR:(k:Int)≤(c:Int):=by omega
          have b2:¬c - i=0:=by omega
          obtain ⟨G,hG⟩:=aH ((L.drop i).take (k - i));have b1:G.length=k - i:=by rw [hG,C5,Dh,D.o];omega
          have ap:CG (∀e ∈ G,e ∈ L):=fun e he=>by rw [hG] at he;exact DE (Dw he)
          have CK:=mz lo b (a4+i*5) (k - i) (c - i) G a m d S w1 (by rw [hG];exact (HL.o.keep t.o).sub (by omega) aK) (HS.o.keep t.o) (by omega) (by omega);rw [← hG] at a1;clear hG;go_wp2_with fail
          refine CK.mono ?_;rintro e w2 ⟨g2,n2,c2,rfl,N,R⟩;have CF:=sE (pT g2) n2 c2 (Sq.parts (f7 S) G) f w2 N (jA _ _) (by rw [Sq.parts_flat];omega) (by have h1:=N.length;have h2:=mC (f7 S) G;omega) (fun A hA e he=>aD.o e (ap.o e ((ig _ _ A hA).2 e he)));have O:CG (Bl w w2):=t.o.trans (R.mono t.o.size);have a2:CG (af w2 w.heap.size g F c' (P.flatMap (eG S f))):=C.o.below R;clear CK N R t C ar;go_wp2_with fail
          refine CF.mono ?_;rintro e w3 ⟨g3,n3,c3,rfl,Q,H⟩;have E:CG (af w3 w2.heap.size g3 n3 c3 (eG S f G)):=Q;have I:CG (Bl w w3):=O.o.trans (H.mono O.o.size);have K:CG (af w3 w.heap.size g F c' (P.flatMap (eG S f))):=a2.o.below H;have b6:n3≤k - i:=by have h1:=Q.len;have h2:=mc S f G;unfold eG at h2;omega
          clear CF Q H O a2;go_wp2_with (at_builtin;refine wpList_append_own_at _ rfl _ _ 28 rfl w.heap.size 50 i0 _ 5 56 Tryz.underlying28 hi aS aJ aM rfl (by decide) _ _ _ rfl K.o.owns ⟨g3,0,none⟩ n3 c3 (aC (eG S f G)) rfl (by rw [aU,E.o.len]) (iw E.o.entsAt) (aL _) (by unfold maxLen;omega) (by omega) I.o.size ?_;intro v4 w4 u r B U;obtain ⟨g4,Y,rfl,aq,an⟩:=AX K.o E.o I.o u r B;clear u r B U K E I)
          go_roundw
          case rel=>exact ⟨k,F+n3,g4,Y,P++[G],by omega,rfl,rfl,by rw [List.flatMap_append];simpa using aq.o,an.o,by rw [Z.o,a1.o];simp⟩
          case measure=>simp [intOf];omega
      · have aT:¬(k:Int)<(n:Int):=by omega
        have b7:k=n:=by omega
        subst b7;have J:CG (∀w',Bl wr w'→(b<w'.heap.size)):=fun w' kk=>l' zb kk.size
        have a1:CG (Sq.parts eY (L.drop i)=(L.drop i).take (k - i) :: Sq.parts eY (L.drop k)):=Sq.parts_front _ L i k az (by rw [D.o];omega) a3.o (fun x y hx hy=>by rw [Eu (by rw [D.o];omega)] at hy;cases hy);clear ad;go_wp2_with fail
        refine ez J k0 fun aa=>?_
        refine aP 0 17 aa ?_;refine dN ?_;clear J aa k0 a7 a3;have C:CG (af wr.drew w.heap.size g F c' (P.flatMap (eG S f))):=HO.o.below W.o;obtain ⟨w1,X⟩:=aH wr.drew;rw [← X] at t C ⊢;have ar:=t.o.size;clear HB ae HO W T X;have b4:(0:Int)≤(i:Int):=by omega
        have aV:(i:Int)≤(k:Int):=by omega
        have aR:(k:Int)≤(c:Int):=by omega
        have b2:¬c - i=0:=by omega
        obtain ⟨G,hG⟩:=aH ((L.drop i).take (k - i));have b1:G.length=k - i:=by rw [hG,C5,Dh,D.o];omega
        have ap:CG (∀e ∈ G,e ∈ L):=fun e he=>by rw [hG] at he;exact DE (Dw he)
        have CK:=mz lo b (a4+i*5) (k - i) (c - i) G a m d S w1 (by rw [hG];exact (HL.o.keep t.o).sub (by omega) aK) (HS.o.keep t.o) (by omega) (by omega);rw [← hG] at a1;clear hG;go_wp2_with fail
        refine CK.mono ?_;rintro e w2 ⟨g2,n2,c2,rfl,N,R⟩;have CF:=sE (pT g2) n2 c2 (Sq.parts (f7 S) G) f w2 N (jA _ _) (by rw [Sq.parts_flat];omega) (by have h1:=N.length;have h2:=mC (f7 S) G;omega) (fun A hA e he=>aD.o e (ap.o e ((ig _ _ A hA).2 e he)));have O:CG (Bl w w2):=t.o.trans (R.mono t.o.size);have a2:CG (af w2 w.heap.size g F c' (P.flatMap (eG S f))):=C.o.below R;clear CK N R t C ar;go_wp2_with fail
        refine CF.mono ?_;rintro e w3 ⟨g3,n3,c3,rfl,Q,H⟩;have E:CG (af w3 w2.heap.size g3 n3 c3 (eG S f G)):=Q;have I:CG (Bl w w3):=O.o.trans (H.mono O.o.size);have K:CG (af w3 w.heap.size g F c' (P.flatMap (eG S f))):=a2.o.below H;have b6:n3≤k - i:=by have h1:=Q.len;have h2:=mc S f G;unfold eG at h2;omega
        clear CF Q H O a2;go_wp2_with (at_builtin;refine wpList_append_own_at _ rfl _ _ 28 rfl w.heap.size 50 i0 _ 5 56 Tryz.underlying28 hi aS aJ aM rfl (by decide) _ _ _ rfl K.o.owns ⟨g3,0,none⟩ n3 c3 (aC (eG S f G)) rfl (by rw [aU,E.o.len]) (iw E.o.entsAt) (aL _) (by unfold maxLen;omega) (by omega) I.o.size ?_;intro v4 w4 u r B U;obtain ⟨g4,Y,rfl,aq,an⟩:=AX K.o E.o I.o u r B;clear u r B U K E I)
        go_roundw
        case rel=>exact ⟨k,F+n3,g4,Y,P++[G],by omega,rfl,rfl,by rw [List.flatMap_append];simpa using aq.o,an.o,by rw [Z.o,a1.o];simp⟩
        case measure=>simp [intOf];omega
   · have aE:¬(i:Int)<(n:Int):=by omega
     have HE:CG (bG L S f=P.flatMap (eG S f)):=by
      have h:=Z.o;rw [EM (by rw [D.o];omega),show Sq.parts eY []=[] from rfl,Eh] at h;show bG L S f=_
      rw [HQ.o,h]
     go_wp2;go_ret;exact ⟨g,F,c',rfl,by rw [HE.o];exact HO.o,T.o⟩
end Go.Proofs.YtpobkmjicbobdaaGreat
