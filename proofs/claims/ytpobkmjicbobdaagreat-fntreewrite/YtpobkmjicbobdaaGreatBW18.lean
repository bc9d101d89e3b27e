/- Walks. -/
import Derived.Test.YtpobkmjicbobdaaGreatBW17
namespace Go.Proofs.YtpobkmjicbobdaaGreat
open Go.RowKit
set_option maxRecDepth 100000
set_option maxHeartbeats 4000000
attribute [local go_sem] Ic
theorem ju {w:World} {b o n c:Nat} {L:List ac} (h:ah w (some ⟨b,o,none⟩) n c L):∀j u,(aF L)[j]?=some u→w.cell? ((⟨b,o,none⟩:Addr).add j)=some u:=by
 intro j u d;have g:j<(aF L).length:=(F'.1 d).1;rw [aX] at g;have hi:j / 5<L.length:=by omega
 obtain ⟨c0,c1,f,c3,c4⟩:=h.cells _ rfl (j / 5) hi;obtain ⟨r,m,r2,r3,r4⟩:=fP L (j / 5) L[j / 5] (j' hi);rw [G6];simp only at c0 c1 f c3 c4;have:j=j / 5*5∨j=j / 5*5+1∨j=j / 5*5+2∨j=j / 5*5+3∨j=j / 5*5+4:=by omega
 rcases this with e | e | e | e | e
 · rw [← e] at r c0;rw [r] at d;cases d;exact c0
 · rw [IV,← e] at c1;rw [← e] at m;rw [m] at d;cases d;exact c1
 · rw [IV,← e] at f;rw [← e] at r2;rw [r2] at d;cases d;exact f
 · rw [IV,← e] at c3;rw [← e] at r3;rw [r3] at d;cases d;exact c3
 · rw [IV,← e] at c4;rw [← e] at r4;rw [r4] at d;cases d;exact c4
theorem Gt {G n c:Nat} {k:Nat} (h:(sL G n c).ownBlock=some k):k=G:=by simp [Value.ownBlock] at h;exact h.symm
theorem uW (w:World) (base:Nat) (o:Obj) (h:base≤w.heap.size) (s t:ByteArray) (q d n:Int) (hw:d9 (s,q,d,t,n)):ag ((w.alloc o).alloc (.cells #[.string s,iT q,iT d,.string t,iT n] 50)) base (w.heap.size+1) 1 1 [(s,q,d,t,n)]:=by
 have:=FL (w.alloc o) base (by simp;omega) s t q d n hw;simpa using this
theorem Au (b C n c:Nat) (L:List ac) (u:ByteArray) (s:Int) (bare:Bool) (w:World) (hL:ah w (some ⟨b,C,none⟩) n c L) (hn:1≤n) (a0:n≤1048576) (h0:∃r,L[0]?=some (u,s,r)) (hN:∀e ∈ L,-1000000≤e.2.2.2.2∧e.2.2.2.2≤1000000) :
 Calls Tryz.prog 245 #[sO b C n c,.bool bare] w fun e w'=>∃g n' c',e=.returned (sL g n' c')∧ag w' w.heap.size g n' c' (eE bare u s L)∧Bl w w':=by
 have R:=az hL;obtain ⟨r,J⟩:=h0;have K:=hL.ents _ (GP J);have y:Eq ((bg true 0 L).2.1.size≤maxLen):=yM L true 0 (fun e he=>(hL.ents e he).2.2.2.1);have A:=az (yN L true 0);have x:Eq (u.size≤maxLen∧(Lit.int .i64 s).wf=true):=⟨K.1,K.2.1⟩;have CJ:=Cr b C n c L u s w hL hn a0 ⟨r,J⟩ hN;have HC:Eq (∀d t a,bg true 0 L=(d,t,a)→eE bare u s L=if eC a=true then (if bare=true∧d=2 then [] else [(u,s,(if bare=true∧d=3 then 1 else d),t,a)]) else L):=fun d t a h=>by unfold eE;rw [h]
 obtain ⟨d,t,a,hj⟩:∃d t a,bg true 0 L=(d,t,a):=⟨_,_,_,rfl⟩;have Z:=HC.o d t a hj;rw [hj] at y A CJ;have N:=az Z;simp only at y A CJ;go_enter Tryz.func245,Tryz.ntmps245
 go_wp2_with fail
 refine CJ.mono ?_;rintro e F ⟨rfl,a1⟩;have f:=az a1;obtain ⟨i0,hi,X,Y,U⟩:=info_parts Tryz.infoEnt;cases hs:eC a with
 | true =>
  have hA:-1000000≤a∧a≤1000000:=by simpa [eC] using hs
  have E:=az (Gq hA.1 hA.2);have O:Eq ((Lit.int .i64 d).wf=true):=Gq (by have:=A.o;omega) (by have:=A.o;omega);cases bare with
  | true =>
   by_cases H:d=2
   · subst H;have m:eE true u s L=[]:=by rw [N.o];simp [hs]
     go_wp2;go_ret;exact ⟨F.heap.size+1,0,0,rfl,by rw [m];have:=oV (F.alloc (.cells #[.string u,iT s,iT 2,.string t,iT a] 50)) w.heap.size (by have:=f.o.size;simp;omega);simpa using this,(f.o.alloc f.o.size _).alloc (by have:=f.o.size;simp;omega) _⟩
   · by_cases I:d=3
     · subst I;have m:eE true u s L=[(u,s,1,t,a)]:=by rw [N.o];simp [hs]
       go_wp2;go_ret;exact ⟨F.heap.size+1,1,1,rfl,by rw [m];exact uW _ _ _ f.o.size _ _ _ _ _ ⟨x.o.1,x.o.2,Gq (z:=1) (by omega) (by omega),y.o,E.o⟩,(f.o.alloc f.o.size _).alloc (by have:=f.o.size;simp;omega) _⟩
     · have m:eE true u s L=[(u,s,d,t,a)]:=by rw [N.o];simp [hs,H,I]
       go_wp2;go_ret;exact ⟨F.heap.size+1,1,1,rfl,by rw [m];exact uW _ _ _ f.o.size _ _ _ _ _ ⟨x.o.1,x.o.2,O.o,y.o,E.o⟩,(f.o.alloc f.o.size _).alloc (by have:=f.o.size;simp;omega) _⟩
  | false =>
   have m:eE false u s L=[(u,s,d,t,a)]:=by rw [N.o];simp [hs]
   go_wp2;go_ret;exact ⟨F.heap.size+1,1,1,rfl,by rw [m];exact uW _ _ _ f.o.size _ _ _ _ _ ⟨x.o.1,x.o.2,O.o,y.o,E.o⟩,(f.o.alloc f.o.size _).alloc (by have:=f.o.size;simp;omega) _⟩
 | false =>
  have m:eE bare u s L=L:=by rw [N.o];simp [hs]
  obtain ⟨W,T⟩:=aG (F.alloc (.cells #[.string u,iT s,iT d,.string t,iT a] 50));have D:Eq (Bl w W):=by rw [T];exact f.o.alloc f.o.size _
  have B:Eq (Bl w (W.alloc (.cells #[] 50))):=D.o.alloc D.o.size _;have HO:Eq (ag (W.alloc (.cells #[] 50)) w.heap.size W.heap.size 0 0 []):=oV W _ D.o.size;have a3:=az (R.o.keep B.o);have a7:Eq (W.heap.size=F.heap.size+1):=by rw [T];simp [Eq]
  go_upto_region 3 with fail
  rw [← T];clear T;go_wp2_with (at_builtin;refine wpList_append_lies _ rfl (.tmp 14) (.tmp 15) 28 rfl w.heap.size 50 i0 _ 5 56 Tryz.underlying28 hi X Y U rfl (by omega) _ 0 _ rfl HO.o.owns ⟨b,C,none⟩ n c (aF L) rfl (by rw [aX,R.o.length]) (ju a3.o) (bf _) (by omega) (by unfold maxLen;omega) (by omega) B.o.size (W.heap.size+1) (by simp) ?_;intro g Q w3 hown hgrow hat a6)
  go_ret;refine ⟨g,n,Q,rfl,by rw [m];exact ⟨by simpa [aF] using hown,R.o.length,R.o.ents⟩,?_⟩;exact B.o.grown hgrow B.o.size (fun j e=>by rw [Gt e];exact D.o.size)
end Go.Proofs.YtpobkmjicbobdaaGreat
namespace Go.Proofs.YtpobkmjicbobdaaGreat
open Go.RowKit
set_option maxRecDepth 100000
set_option maxHeartbeats 4000000
theorem Fy {k:Nat} (h:1≤k) (hk:k≤1048576):IntKind.i64.wrap ((k:Int) - 1)=((k - 1:Nat):Int):=by
 have e:((k - 1:Nat):Int)=(k:Int) - 1:=by omega
 rw [e,G4];unfold wrap64;omega
theorem o8 (lo b C n c:Nat) (L:List ac) (a:Option Addr) (m d:Nat) (S:List Int) (w:World) (hL:ah w (some ⟨b,C,none⟩) n c L) (hS:bJ lo w a m d S) (hn:n≤1048576) (a3:b<w.heap.size) :
 Calls Tryz.prog 221 #[sO b C n c,.slice a m d] w fun e w'=>∃g k Y,e=.returned (sL g k Y)∧cZ w' (pT g) k Y (Sq.parts (im S) L)∧Bl w w':=by
 have J:Eq (L.length=n):=hL.length;have hroom:=hL.room;have hbig:=hL.big;unfold maxLen at hbig;have HL:=az hL;have HS:=az hS;have P0:aY (w.alloc (.cells #[] 28)) w.heap.size w.heap.size 0 0 [] [] none:=by
  refine ⟨?_,rfl,(fun e=>by cases e),fun i A hA=>by simp at hA⟩;have:=Hi (base:=w.heap.size) (e:=28) (size:=1) w #[] 0 (GL _) (by simp) (by simp);simpa using this
 have ab:Eq (aY (w.alloc (.cells #[] 28)) w.heap.size w.heap.size 0 0 [] [] none):=P0;have am:Eq (Bl w (w.alloc (.cells #[] 28))):=bZ;obtain ⟨i0,hi,ae,ap,ak⟩:=info_parts Tryz.infoEntS;clear hL hS P0;go_enter Tryz.func221,Tryz.ntmps221
 go_wp2;go_loopw [5,6] (fun o iv wr=>∃(i O g Y:Nat) (P:List (List ac)) (vs:List Value),i≤n∧iv=iT i∧o=sL g O Y∧aY wr w.heap.size g O Y P vs none∧Bl w wr∧O≤i∧Sq.parts (im S) L=P++Sq.parts (im S) (L.drop i)) (fun _ iv _=>n - (intOf iv).toNat)
 case atStart=>exact ⟨0,0,w.heap.size,0,[],[],GQ _,rfl,rfl,ab.o,am.o,GL _,rfl⟩
 case round =>
  obtain ⟨i,O,g,Y,P,vs,b0,rfl,rfl,hP,hb,aZ,hcut⟩:=hrel;have HP:Eq (aY wr w.heap.size g O Y P vs none):=hP;have U:Eq (Bl w wr):=hb;have X:Eq (Sq.parts (im S) L=P++Sq.parts (im S) (L.drop i)):=hcut;clear hP hb hcut ab am;by_cases b2:i<n
  · have ar:(i:Int)<(n:Int):=by omega
    obtain ⟨wo,hwo⟩:=aG wr;subst hwo;go_wp2;go_loopw [7] (fun kv wq=>∃k:Nat,i<k∧k≤n∧kv=iT k∧Bl wo wq∧(∀j,i<j→j<k→∀x y,L[j - 1]?=some x→L[j]?=some y→im S x y=true)) (fun kv _=>n - (intOf kv).toNat)
    case atStart=>exact ⟨i+1,by omega,by omega,by go_num,Below.refl _ _,fun j h1 h2=>by omega⟩
    case round =>
     obtain ⟨k,aq,a8,rfl,Z,an⟩:=hrel;have T:Eq (∀j,i<j→j<k→∀x y,L[j - 1]?=some x→L[j]?=some y→im S x y=true):=an;have Q:Eq (Bl w wr):=U.o.trans (Z.mono U.o.size);have D:Eq (Bl wo wr):=Z;clear an;have zb:b<wr.heap.size:=E' a3 Q.o.size;have H:Bl wr wr.drew:=(Below.refl _ wr).drew;by_cases aI:k<n
     · have au:(k:Int)<(n:Int):=by omega
       have aU:IntKind.i64.wrap ((k:Int) - 1)=((k - 1:Nat):Int):=Fy (by omega) (by omega);have aS:((k - 1:Nat):Int)<(n:Int):=by omega
       obtain ⟨s,q,dd,tt,nn,hx,_,_,g1,_⟩:=HL.o.ent Q.o a3 k aI;obtain ⟨s0,q0,aj,ao,ag,hy,_,_,e1,_⟩:=HL.o.ent Q.o a3 (k - 1) (by omega);have HX:Eq (L[k]?=some (s,q,dd,tt,nn)):=hx;have HY:Eq (L[k - 1]?=some (s0,q0,aj,ao,ag)):=hy;have a2:Eq (im S (s0,q0,aj,ao,ag) (s,q,dd,tt,nn)=!gL S q q0):=rfl;have B:Eq (∀w',Bl wr w'→(w'.cell? ⟨b,C+k*5+1,none⟩=some (iT q)∧w'.cell? ⟨b,C+(k - 1)*5+1,none⟩=some (iT q0)∧b<w'.heap.size)):=fun w' kk=>⟨cell_later kk g1,cell_later kk e1,E' zb kk.size⟩
       clear hx hy g1 e1 Z;cases hap:gL S q q0 with
       | false =>
        go_wp2_with fail
        refine eJ B H fun N=>?_
        refine aR 0 17 N ?_;refine aV 17 fun K hK=>?_
        go_simp;refine (tf lo a m d S q q0 _ (HS.o.keep (Q.o.trans (H.mono Q.o.size)))).mono ?_;rintro e w1 ⟨rfl,b1⟩;have k1:Bl wr w1:=H.trans (b1.mono H.size);go_wp2_with fail
        refine hK.o _ _ (B.o _ k1) fun N=>?_
        (try go_frame);refine aR 18 2 N ?_;refine dN ?_;clear H B N;have f:Eq (Bl wo w1):=D.o.trans (k1.mono D.o.size);clear k1;go_wp2;go_roundw
        case rel =>
         refine ⟨k+1,by omega,by omega,by go_num,f.o,fun j h1 h2 x y hx hy=>?_⟩;by_cases F:j<k
         · exact T.o j h1 F x y hx hy
         · have:j=k:=by omega
           subst this;rw [HX.o] at hy;rw [HY.o] at hx;cases hx;cases hy;rw [a2.o,hap];rfl
        case measure=>simp [intOf];omega
       | true =>
        go_wp2_with fail
        refine eJ B H fun N=>?_
        refine aR 0 17 N ?_;refine aV 17 fun K hK=>?_
        go_simp;refine (tf lo a m d S q q0 _ (HS.o.keep (Q.o.trans (H.mono Q.o.size)))).mono ?_;rintro e w1 ⟨rfl,b1⟩;have k1:Bl wr w1:=H.trans (b1.mono H.size);go_wp2_with fail
        refine hK.o _ _ (B.o _ k1) fun N=>?_
        (try go_frame);refine aR 18 2 N ?_;refine dN ?_;clear H B N;have f:Eq (Bl w w1):=Q.o.trans (k1.mono Q.o.size);have W:Eq (Bl wo w1):=D.o.trans (k1.mono D.o.size);have a4:Eq (Sq.parts (im S) (L.drop i)=(L.drop i).take (k - i) :: Sq.parts (im S) (L.drop k)):=Sq.parts_front _ L i k aq (by rw [J.o];omega) T.o (fun x y hx hy=>by
         rw [HX.o] at hy;rw [HY.o] at hx;cases hx;cases hy;rw [a2.o,hap];rfl)
        have aE:=f.o.size;have t:Eq (aY w1 w.heap.size g O Y P vs none):=HP.o.below W.o;clear k1 Q D T HX HY a2 HP W U;have aJ:(0:Int)≤(i:Int):=by omega
        have af:(i:Int)≤(k:Int):=by omega
        have ad:(k:Int)≤(c:Int):=by omega
        have aC:¬c - i=0:=by omega
        go_wp2_with (at_builtin;refine wpList_append_own_at _ rfl _ _ 102 rfl w.heap.size 28 i0 _ 1 24 Tryz.underlying102 hi ae ap ak rfl (by decide) _ _ _ rfl (t.o.owns.alloc _) ⟨w1.heap.size,0,none⟩ 1 1 [.slice (some ⟨b,C+i*5,none⟩) (k - i) (c - i)] rfl rfl ?q1 ?q2 ?q3 ?q4 ?q5 ?_)
        case q1 =>
         intro j u F;match j,F with
         | 0,F=>simp at F;subst F;rw [G6];simp
         | j+1,F=>simp at F
        case q2=>intro u hu;simp at hu;subst hu;rfl
        case q3=>unfold maxLen;omega
        case q4=>omega
        case q5=>simp;omega
        intro v' w2 r hgrow hnil hat;obtain ⟨g2,E,rfl⟩:∃g I,v'=sL g (O+1) I:=by
         rcases r.2 with ⟨hv,h0⟩ | ⟨g,I,ay,hv,_⟩
         · omega
         · exact ⟨g,I,hv⟩
        have a1:Eq (aY w2 w.heap.size g2 (O+1) E (P++[(L.drop i).take (k - i)]) (vs++[.slice (some ⟨b,C+i*5,none⟩) (k - i) (c - i)]) none):=by
         have R:∀o,Bl w1 (w1.alloc o):=fun o=>(Below.refl _ _).alloc (GL _) o
         exact (t.o.below (R _)).push r hgrow (by rcases hat with h | h;exact .inl (GN h);exact .inr (by have h1:g2=w1.heap.size+1:=GN h;simpa using h1)) ((HL.o.keep (f.o.trans ((R _).mono f.o.size))).sub (by omega) a8) (fun x e hp=>by
          have h3:=(t.o.owns.lt g rfl).1;cases e;show b≠g
          omega)
        have a5:Eq (Bl w w2):=(f.o.alloc f.o.size _).grown hgrow (by simp;omega) (fun q hq=>(t.o.owns.lt q hq).1);clear r hgrow hnil hat t f;go_wp2;go_roundw
        case rel=>exact ⟨k,O+1,g2,E,_,_,by omega,rfl,rfl,a1.o,a5.o,by omega,by rw [X.o,a4.o];simp⟩
        case measure=>simp [intOf];omega
     · have au:¬(k:Int)<(n:Int):=by omega
       have aD:k=n:=by omega
       subst aD;have B:Eq (∀w',Bl wr w'→(b<w'.heap.size)):=fun w' kk=>E' zb kk.size
       clear Z;go_wp2_with fail
       refine eJ B H fun N=>?_
       refine aR 0 17 N ?_;refine aV 17 fun K hK=>?_
       go_simp;refine hK.o _ _ (B.o _ H) fun N=>?_
       (try go_frame);refine aR 18 2 N ?_;refine dN ?_;clear B N;have f:Eq (Bl w wr.drew):=Q.o.trans (H.mono Q.o.size);have W:Eq (Bl wo wr.drew):=D.o.trans (H.mono D.o.size);have a4:Eq (Sq.parts (im S) (L.drop i)=(L.drop i).take (k - i) :: Sq.parts (im S) (L.drop k)):=Sq.parts_front _ L i k aq (by rw [J.o];omega) T.o (fun x y hx hy=>by rw [IK (by rw [J.o];omega)] at hy;cases hy);have t:Eq (aY wr.drew w.heap.size g O Y P vs none):=HP.o.below W.o;obtain ⟨w1,a9⟩:=aG wr.drew;rw [← a9] at f t ⊢;have aE:=f.o.size;clear H Q D T HP W U a9;have aJ:(0:Int)≤(i:Int):=by omega
       have af:(i:Int)≤(k:Int):=by omega
       have ad:(k:Int)≤(c:Int):=by omega
       have aC:¬c - i=0:=by omega
       go_wp2_with (at_builtin;refine wpList_append_own_at _ rfl _ _ 102 rfl w.heap.size 28 i0 _ 1 24 Tryz.underlying102 hi ae ap ak rfl (by decide) _ _ _ rfl (t.o.owns.alloc _) ⟨w1.heap.size,0,none⟩ 1 1 [.slice (some ⟨b,C+i*5,none⟩) (k - i) (c - i)] rfl rfl ?q1 ?q2 ?q3 ?q4 ?q5 ?_)
       case q1 =>
        intro j u F;match j,F with
        | 0,F=>simp at F;subst F;rw [G6];simp
        | j+1,F=>simp at F
       case q2=>intro u hu;simp at hu;subst hu;rfl
       case q3=>unfold maxLen;omega
       case q4=>omega
       case q5=>simp;omega
       intro v' w2 r hgrow hnil hat;obtain ⟨g2,E,rfl⟩:∃g I,v'=sL g (O+1) I:=by
        rcases r.2 with ⟨hv,h0⟩ | ⟨g,I,ay,hv,_⟩
        · omega
        · exact ⟨g,I,hv⟩
       have a1:Eq (aY w2 w.heap.size g2 (O+1) E (P++[(L.drop i).take (k - i)]) (vs++[.slice (some ⟨b,C+i*5,none⟩) (k - i) (c - i)]) none):=by
        have R:∀o,Bl w1 (w1.alloc o):=fun o=>(Below.refl _ _).alloc (GL _) o
        exact (t.o.below (R _)).push r hgrow (by rcases hat with h | h;exact .inl (GN h);exact .inr (by have h1:g2=w1.heap.size+1:=GN h;simpa using h1)) ((HL.o.keep (f.o.trans ((R _).mono f.o.size))).sub (by omega) a8) (fun x e hp=>by
         have h3:=(t.o.owns.lt g rfl).1;cases e;show b≠g
         omega)
       have a5:Eq (Bl w w2):=(f.o.alloc f.o.size _).grown hgrow (by simp;omega) (fun q hq=>(t.o.owns.lt q hq).1);clear r hgrow hnil hat t f;go_wp2;go_roundw
       case rel=>exact ⟨k,O+1,g2,E,_,_,by omega,rfl,rfl,a1.o,a5.o,by omega,by rw [X.o,a4.o];simp⟩
       case measure=>simp [intOf];omega
  · have ar:¬(i:Int)<(n:Int):=by omega
    have HE:Eq (Sq.parts (im S) L=P):=by
     have h:=X.o;rw [Ji (by rw [J.o];omega)] at h;rw [show Sq.parts (im S) []=[] from rfl,Iv] at h;exact h
    go_wp2;go_ret;exact ⟨g,O,Y,rfl,by rw [HE.o];exact HP.o.partsAt,U.o⟩
end Go.Proofs.YtpobkmjicbobdaaGreat
namespace Go.Proofs.YtpobkmjicbobdaaGreat
open Go.RowKit
set_option maxRecDepth 100000
set_option maxHeartbeats 4000000
attribute [local go_sem] Ic
def pz (P:List (List ac)) (bottom:Bool) (j:Nat):Bool × List ac:=(P.drop j).foldr (Sq.stepD nW) (bottom,[])
theorem Dm {P:List (List ac)} {b:Bool} {j:Nat} {A:List ac} (h:P[j]?=some A):pz P b j=(if (nW (pz P b (j+1)).1 A).isEmpty then (pz P b (j+1)).1 else false,nW (pz P b (j+1)).1 A++(pz P b (j+1)).2):=AN b P j A h
theorem EM (P:List (List ac)) (b:Bool) (j:Nat):(pz P b j).2.length≤P.flatten.length:=by
 refine GU (qQ b (P.drop j)) ?_;conv=>rhs;rw [← Hh j P]
 rw [IJ,GO];omega
theorem Fi {w n f:World} {G m g o c':Nat} {C R:List ac} {v3:Value} (hO:ag n w.heap.size G 0 0 []) (hR:ag n w.heap.size g o c' R) (hB:Bl w n) (hg:g≠G)
 (hown:f.ownsRow w.heap.size 50 5 v3 (0+m) (aF []++aF C)) (hgrow:n.grownBy f (sL G 0 0).ownBlock) (hnil:v3=nZ ↔ sL G 0 0=nZ∧m=0) :
 ∃g3 d,g3<f.heap.size∧v3=sL g3 m d∧Eq (ag f w.heap.size g o c' R)∧Eq (Bl w f)∧Eq (f.ownsRow w.heap.size 50 5 (sL g3 m d) m (aF C)):=by
 rw [GT] at hown;have b:f.ownsRow w.heap.size 50 5 v3 m (aF C):=by simpa [aF] using hown
 obtain ⟨g3,d,rfl⟩:∃g cap,v3=sL g m cap:=by
  rcases b.2 with ⟨hv,h0⟩ | ⟨g,cap,r,hv,_⟩
  · have:=(hnil.1 hv).1;cases this
  · exact ⟨g,cap,hv⟩
 exact ⟨g3,d,(b.lt g3 rfl).2,rfl,hR.grown hgrow (fun e=>hg (GN e)),hB.grown hgrow hB.size (fun q hq=>(hO.owns.lt q hq).1),b⟩
theorem Fh {w r n:World} {g3 d e g m c':Nat} {C R:List ac} {v4:Value} (hO:r.ownsRow w.heap.size 50 5 (sL g3 e d) e (aF C)) (hR:ag r w.heap.size g m c' R) (hB:Bl w r) (hE:∀l ∈ C,d9 l) (hL:C.length=e)
 (hown:n.ownsRow w.heap.size 50 5 v4 (e+m) (aF C++aF R)) (hgrow:r.grownBy n (sL g3 e d).ownBlock) (hnil:v4=nZ ↔ sL g3 e d=nZ∧m=0) :
 ∃o b,v4=sL o (e+m) b∧Eq (ag n w.heap.size o (e+m) b (C++R))∧Eq (Bl w n):=by
 obtain ⟨o,b,rfl⟩:∃g f,v4=sL g (e+m) f:=by
  rcases hown.2 with ⟨hv,h0⟩ | ⟨g,f,s,hv,_⟩
  · have:=(hnil.1 hv).1;cases this
  · exact ⟨g,f,hv⟩
 refine ⟨o,b,rfl,⟨by rw [bC];exact hown,by rw [GO,hL,hR.len],fun l hl=>?_⟩,hB.grown hgrow hB.size (fun q hq=>(hO.lt q hq).1)⟩;rcases GX.1 hl with h | h
 · exact hE l h
 · exact hR.ents l h
theorem vy (a:Option Addr) (n c:Nat) (P:List (List ac)) (f:Bool) (w:World) (hP:cZ w a n c P) (ap:∀A ∈ P,A≠[]) (hT:P.flatten.length≤1048576) (hn:n≤1048576) (hN:∀A ∈ P,∀e ∈ A,-1000000≤e.2.2.2.2∧e.2.2.2.2≤1000000) :
 Calls Tryz.prog 220 #[.slice a n c,.bool f] w fun e w'=>∃g K c',e=.returned (sL g K c')∧ag w' w.heap.size g K c' (Sq.leftD nW f P)∧Bl w w':=by
 have HP:=az hP;have aw:=az ap;have HN:=az hN;have HT:=az hT;have hroom:=hP.room;have hbig:=hP.big;unfold maxLen at hbig;have ax:Eq (ag (w.alloc (.cells #[] 50)) w.heap.size w.heap.size 0 0 (pz P f n).2):=by
  have e:(pz P f n).2=[]:=by unfold pz;rw [Ji (by rw [hP.length];exact GL _)];rfl
  show ag _ _ _ _ _ _
  rw [e];exact oV w _ (GL _)
 have aq:Eq ((pz P f n).1=f):=by show (pz P f n).1=f;unfold pz;rw [Ji (by rw [hP.length];exact GL _)];rfl
 have ay:Eq (Bl w (w.alloc (.cells #[] 50))):=bZ;obtain ⟨i0,hi,a5,a7,a6⟩:=info_parts Tryz.infoEnt;clear hP ap hN hT;have wn:IntKind.i64.wrap ((n:Int) - 1)=(n:Int) - 1:=by rw [G4];unfold wrap64;omega
 go_enter Tryz.func220,Tryz.ntmps220
 go_wp2;go_loopw [1,5,6] (fun bv o iv wr=>∃(j K g c':Nat) (z:Int),j≤n∧z=(j:Int) - 1∧iv=iT z∧bv=.bool (pz P f j).1∧o=sL g K c'∧ag wr w.heap.size g K c' (pz P f j).2∧Bl w wr) (fun _ _ iv _=>(intOf iv+1).toNat)
 case atStart=>exact ⟨n,0,w.heap.size,0,_,GL _,rfl,rfl,by rw [aq.o],rfl,ax.o,ay.o⟩
 case round =>
  obtain ⟨j,K,g,c',z,hj,hz,rfl,rfl,rfl,hO,hb⟩:=hrel;have HR:Eq (ag wr w.heap.size g K c' (pz P f j).2):=hO;have HB:Eq (Bl w wr):=hb;clear hO hb ax aq ay;by_cases ah:j=0
  · subst ah;have ak:z=-1:=by omega
    subst ak;clear hz wn;go_wp2;go_ret;exact ⟨g,K,c',rfl,by have h:=HR.o;unfold pz at h;rw [List.drop_zero] at h;exact h,HB.o⟩
  · obtain ⟨E,rfl⟩:∃E,j=E+1:=⟨j - 1,by omega⟩;have ak:z=(E:Int):=by omega
    subst ak;clear hz ah;have b0:(E:Int)<(n:Int):=by omega
    have ah:(0:Int)≤(E:Int):=by omega
    have aH:E<n:=by omega
    obtain ⟨b,b5,rfl,aI⟩:=HP.o.form (by omega);obtain ⟨A,s,m,d,hA,gA,hE⟩:=HP.o.list HB.o E aH;have T:=GP hA;have ad:=aw.o A T;have aj:=hE.length;have aA:1≤m:=by
     rw [← aj];cases A with
     | nil=>exact absurd rfl ad
     | cons=>simp
    obtain ⟨bs,os,rfl,aW⟩:=hE.form aA;obtain ⟨e0,ae⟩:∃e0,A[0]?=some e0:=⟨A[0]'(by omega),j' (by omega)⟩;obtain ⟨s0,q0,r0⟩:=e0;have aL:A.length≤P.flatten.length:=by
     obtain ⟨X,Y,e⟩:=List.append_of_mem T;rw [e];simp;omega
    have ba:=HT.o;have aN:m≤1048576:=by omega
    have zb:b<wr.heap.size:=E' aI HB.o.size;have aZ:K≤1048576:=by have h1:=HR.o.len;have h2:=EM P f (E+1);omega
    obtain ⟨bb,W⟩:=aG ((pz P f (E+1)).1);have CC:=Au bs os m d A s0 q0 bb wr hE aA aN ⟨r0,ae⟩ (HN.o A T);obtain ⟨C,hC⟩:=aG (nW bb A);rw [← wU bb ae,← hC] at CC;have bg:C.length≤m:=by rw [hC,← aj];exact zV _ _
    have a9:Eq (pz P f E=(if C.isEmpty then bb else false,C++(pz P f (E+1)).2)):=by show pz P f E=_;rw [Dm hA,← W,← hC]
    rw [← W];clear hA hE ad aj ae aL W hC T HP aw HN;go_wp2_with fail
    refine CC.mono ?_;rintro e Q ⟨gc,nc,cc,rfl,af,a8⟩;have HC:Eq (ag Q wr.heap.size gc nc cc C):=af;have J:Eq (Bl w Q):=HB.o.trans (a8.mono HB.o.size);have U:Eq (ag Q w.heap.size g K c' (pz P f (E+1)).2):=HR.o.below a8;have aa:=af.len;have bc:nc≤1048576:=by omega
    have b7:=a8.size;have wj:IntKind.i64.wrap ((E:Int) - 1)=(E:Int) - 1:=by rw [G4];unfold wrap64;omega
    clear CC af a8 HB HR gA;by_cases aQ:nc=0
    · have ai:Eq (C.isEmpty=true):=by show C.isEmpty=true;rw [List.isEmpty_iff];exact Hy.1 (by omega)
      subst aQ;go_upto_region 8 with fail
      obtain ⟨w2,u⟩:=aG (Q.alloc (.cells #[] 50));have aJ:w2.heap.size=Q.heap.size+1:=by rw [u];simp
      have L:Eq (ag w2 w.heap.size Q.heap.size 0 0 []):=by rw [u];exact oV Q _ J.o.size
      have I:Bl Q w2:=by rw [u];exact bZ
      have N:Eq (Bl w w2):=J.o.trans (I.mono J.o.size);have B:Eq (ag w2 wr.heap.size gc 0 cc C):=HC.o.below I;have a1:Eq (ag w2 w.heap.size g K c' (pz P f (E+1)).2):=U.o.below I;have aE:g<Q.heap.size:=U.o.lt.2;have a0:Eq (∀l ∈ C,d9 l):=B.o.ents;have am:Eq (C.length=0):=B.o.len;clear I J HC U;go_wp2_with (first
       | (at_builtin;rw [← u];refine wpList_append_own_at _ rfl _ _ 28 rfl w.heap.size 50 i0 _ 5 56 Tryz.underlying28 hi a5 a7 a6 rfl (by decide) _ _ _ rfl L.o.owns ⟨gc,0,none⟩ 0 cc (aF C) rfl (by rw [aX,B.o.len]) (ju B.o.entsAt) (bf _) (by unfold maxLen;omega) (by omega) N.o.size ?_;intro v3 w3 y t D a2;obtain ⟨g3,ar,aM,rfl,H,O,R⟩:=Fi L.o a1.o N.o (by omega) y t D;clear y t D a2 u B L a1 N)
       | (at_builtin;refine wpList_append_own_at _ rfl _ _ 28 rfl w.heap.size 50 i0 _ 5 56 Tryz.underlying28 hi a5 a7 a6 rfl (by decide) _ _ _ rfl R.o ⟨g,0,none⟩ K c' (aF (pz P f (E+1)).2) rfl (by rw [aX,H.o.len]) (ju H.o.entsAt) (bf _) (by unfold maxLen;omega) (by omega) O.o.size ?_;intro v4 w4 x r F Z;obtain ⟨g4,a3,rfl,a4,al⟩:=Fh R.o H.o O.o a0.o am.o x r F;clear x r F Z H O R a0))
      rw [GT] at a4;go_roundw
      case rel=>exact ⟨E,K,g4,a3,(E:Int) - 1,by omega,rfl,by go_num,by rw [a9.o];rw [ai.o];rfl,rfl,by rw [a9.o];exact a4.o,al.o⟩
      case measure=>simp [intOf] <;> omega
    · have ai:Eq (C.isEmpty=false):=by
       show C.isEmpty=false
       cases hC:C with
       | nil=>rw [hC] at aa;simp at aa;omega
       | cons=>rfl
      have aS:(0:Int)<(nc:Int):=by omega
      go_upto_region 8 with fail
      obtain ⟨w2,u⟩:=aG (Q.alloc (.cells #[] 50));have aJ:w2.heap.size=Q.heap.size+1:=by rw [u];simp
      have L:Eq (ag w2 w.heap.size Q.heap.size 0 0 []):=by rw [u];exact oV Q _ J.o.size
      have I:Bl Q w2:=by rw [u];exact bZ
      have N:Eq (Bl w w2):=J.o.trans (I.mono J.o.size);have B:Eq (ag w2 wr.heap.size gc nc cc C):=HC.o.below I;have a1:Eq (ag w2 w.heap.size g K c' (pz P f (E+1)).2):=U.o.below I;have aE:g<Q.heap.size:=U.o.lt.2;have a0:Eq (∀l ∈ C,d9 l):=B.o.ents;have am:Eq (C.length=nc):=B.o.len;clear I J HC U;go_wp2_with (first
       | (at_builtin;rw [← u];refine wpList_append_own_at _ rfl _ _ 28 rfl w.heap.size 50 i0 _ 5 56 Tryz.underlying28 hi a5 a7 a6 rfl (by decide) _ _ _ rfl L.o.owns ⟨gc,0,none⟩ nc cc (aF C) rfl (by rw [aX,B.o.len]) (ju B.o.entsAt) (bf _) (by unfold maxLen;omega) (by omega) N.o.size ?_;intro v3 w3 y t D a2;obtain ⟨g3,ar,aM,rfl,H,O,R⟩:=Fi L.o a1.o N.o (by omega) y t D;clear y t D a2 u B L a1 N)
       | (at_builtin;refine wpList_append_own_at _ rfl _ _ 28 rfl w.heap.size 50 i0 _ 5 56 Tryz.underlying28 hi a5 a7 a6 rfl (by decide) _ _ _ rfl R.o ⟨g,0,none⟩ K c' (aF (pz P f (E+1)).2) rfl (by rw [aX,H.o.len]) (ju H.o.entsAt) (bf _) (by unfold maxLen;omega) (by omega) O.o.size ?_;intro v4 w4 x r F Z;obtain ⟨g4,a3,rfl,a4,al⟩:=Fh R.o H.o O.o a0.o am.o x r F;clear x r F Z H O R a0))
      go_roundw
      case rel=>exact ⟨E,nc+K,g4,a3,(E:Int) - 1,by omega,rfl,by go_num,by rw [a9.o];rw [ai.o];rfl,rfl,by rw [a9.o];exact a4.o,al.o⟩
      case measure=>simp [intOf] <;> omega
end Go.Proofs.YtpobkmjicbobdaaGreat
namespace Go.Proofs.YtpobkmjicbobdaaGreat
open Go.RowKit
set_option maxRecDepth 100000
set_option maxHeartbeats 4000000
theorem pf (r:ac→ac→Bool) (L:List ac):(Sq.parts r L).length≤L.length:=by
 have key:∀P:List (List ac),(∀c ∈ P,c≠[])→P.length≤P.flatten.length:=by
  intro P;induction P with
  | nil=>intro _;exact GL _
  | cons c P b =>
   intro h;have h1:=b (fun x hx=>h x (He _ hx));have h2:1≤c.length:=by
    cases c with
    | nil=>exact absurd rfl (h [] Ha)
    | cons=>simp
   rw [Hn,Ip,GO];omega
 have:=key _ (lC r L);rwa [Sq.parts_flat] at this
theorem Bf {L:List ac} {P:List (List ac)} {i:Nat} (h:Sq.parts fA L=P++Sq.parts fA (L.drop i)) (S:List Int) (b:Bool):(P.flatMap (fc S b)).length≤L.length:=by
 have h1:=ru S b P;have h2:=Sq.parts_flat fA L;rw [h,IJ] at h2;have h3:=congrArg List.length h2;rw [GO] at h3;omega
theorem Fj {w o f:World} {base g n c g3 e c3:Nat} {R C:List ac} {v4:Value} (hO:ag o w.heap.size g n c R) (hC:ag o base g3 e c3 C) (hB:Bl w o)
 (hown:f.ownsRow w.heap.size 50 5 v4 (n+e) (aF R++aF C)) (hgrow:o.grownBy f (sL g n c).ownBlock) (hnil:v4=nZ ↔ sL g n c=nZ∧e=0) :
 ∃m b,v4=sL m (n+e) b∧Eq (ag f w.heap.size m (n+e) b (R++C))∧Eq (Bl w f):=by
 obtain ⟨m,b,rfl⟩:∃g d,v4=sL g (n+e) d:=by
  rcases hown.2 with ⟨hv,h0⟩ | ⟨g,d,r,hv,_⟩
  · have:=(hnil.1 hv).1;cases this
  · exact ⟨g,d,hv⟩
 refine ⟨m,b,rfl,⟨by rw [bC];exact hown,by rw [GO,hO.len,hC.len],fun l hl=>?_⟩,hB.grown hgrow hB.size (fun q hq=>(hO.owns.lt q hq).1)⟩;rcases GX.1 hl with h | h
 · exact hO.ents l h
 · exact hC.ents l h
theorem mj (lo:Nat) (al:Option Addr) (n c:Nat) (L:List ac) (a:Option Addr) (m d:Nat) (S:List Int) (f:Bool) (w:World) (hL:ah w al n c L) (hS:bJ lo w a m d S) (hn:n≤1048576) :
 Calls Tryz.prog 174 #[.slice al n c,.slice a m d,.bool f] w fun e w'=>∃g F c',e=.returned (sL g F c')∧ag w' w.heap.size g F c' (bT L S f)∧Bl w w':=by
 have C:Eq (L.length=n):=hL.length;have hroom:=hL.room;have hbig:=hL.big;unfold maxLen at hbig;have HL:=az hL;have HS:=az hS;obtain ⟨w0,ab⟩:=aG (w.alloc (.cells #[] 50));have ae:Bl w w0:=by rw [ab];exact bZ
 have aQ:Eq (ag w0 w.heap.size w.heap.size 0 0 []):=by rw [ab];exact oV w _ (GL _)
 have CR:=ln al n c L w0 (hL.keep ae);obtain ⟨i0,hi,aH,aT,aO⟩:=info_parts Tryz.infoEnt;clear hL hS;go_enter Tryz.func174,Tryz.ntmps174
 go_wp2_with fail
 rw [← ab];refine CR.mono ?_;rintro e w1 ⟨rfl,aw⟩;have au:Eq (Bl w w1):=ae.trans (aw.mono ae.size);have u:Eq (ag w1 w.heap.size w.heap.size 0 0 []):=aQ.o.below aw;clear CR aw ae aQ ab;cases hR:aI L with
 | false =>
  have HQ:Eq (bT L S f=[]):=by show bT L S f=[];unfold bT;rw [hR];rfl
  go_wp2;go_ret;exact ⟨w.heap.size,0,0,rfl,by rw [HQ.o];exact u.o,au.o⟩
 | true =>
  have HQ:Eq (bT L S f=(Sq.parts fA L).flatMap (fc S f)):=by show bT L S f=_;unfold bT;rw [if_pos hR]
  have aJ:Eq (∀e ∈ L,-1000000≤e.2.2.2.2∧e.2.2.2.2≤1000000):=fun e he=>(x8 hR e he).1
  clear hR;go_wp2;go_loopw [7,8] (fun o iv wr=>∃(i F g c':Nat) (P:List (List ac)),i≤n∧iv=iT i∧o=sL g F c'∧ag wr w.heap.size g F c' (P.flatMap (fc S f))∧Bl w wr∧Sq.parts fA L=P++Sq.parts fA (L.drop i)) (fun _ iv _=>n - (intOf iv).toNat)
  case atStart=>exact ⟨0,0,w.heap.size,0,[],GQ _,rfl,rfl,u.o,au.o,rfl⟩
  case round =>
   obtain ⟨i,F,g,c',P,bw,rfl,rfl,hO,hb,hcut⟩:=hrel;have HO:Eq (ag wr w.heap.size g F c' (P.flatMap (fc S f))):=hO;have T:Eq (Bl w wr):=hb;have a1:Eq (Sq.parts fA L=P++Sq.parts fA (L.drop i)):=hcut;have bm:F≤n:=by have h1:=hO.len;have h2:=Bf hcut S f;have h3:=C.o;omega
   clear hO hb hcut u au;by_cases aW:i<n
   · have aY:(i:Int)<(n:Int):=by omega
     obtain ⟨b,a4,rfl,a8⟩:=HL.o.form (by omega);obtain ⟨si,qi,di,ti,ni,aM,_,_,_⟩:=HL.o.ent T.o a8 i aW;have aS:Eq (L[i]?=some (si,qi,di,ti,ni)):=aM;clear aM;obtain ⟨wo,hwo⟩:=aG wr;subst hwo;go_wp2;go_loopw [9] (fun kv wq=>∃k:Nat,i<k∧k≤n∧kv=iT k∧Bl wo wq∧(∀j,i≤j→j<k→∀x,L[j]?=some x→x.1=si)) (fun kv _=>n - (intOf kv).toNat)
     case atStart=>exact ⟨i+1,by omega,by omega,by go_num,Below.refl _ _,fun j h1 h2 x hx=>by
      have:j=i:=by omega
      subst this;rw [aS.o] at hx;cases hx;rfl⟩
     case round =>
      obtain ⟨k,aU,aA,rfl,af,ad⟩:=hrel;have a3:Eq (∀j,i≤j→j<k→∀x,L[j]?=some x→x.1=si):=ad;have HB:Eq (Bl w wr):=T.o.trans (af.mono T.o.size);have a9:Eq (Bl wo wr):=af;have a6:Eq (∀j,i<j→j<k→∀x y,L[j - 1]?=some x→L[j]?=some y→fA x y=true):=fun j h1 h2 x y hx hy=>by
       show decide (x.1=y.1)=true
       rw [ad (j - 1) (by omega) (by omega) x hx,ad j (by omega) h2 y hy];simp
      clear ad;have zb:b<wr.heap.size:=E' a8 HB.o.size;have k0:Bl wr wr.drew:=(Below.refl _ wr).drew;have t:Eq (Bl w wr.drew):=HB.o.trans (k0.mono HB.o.size);have Y:Eq (Bl wo wr.drew):=a9.o.trans (k0.mono a9.o.size);by_cases b9:k<n
      · have aZ:(k:Int)<(n:Int):=by omega
        obtain ⟨s,q,dd,tt,nn,hx,_,g0,_⟩:=HL.o.ent HB.o a8 k b9;obtain ⟨s2,q2,bv,bn,bu,aB,_,e0,_⟩:=HL.o.ent HB.o a8 i aW;rw [aS.o] at aB;cases aB;have HX:Eq (L[k]?=some (s,q,dd,tt,nn)):=hx;have K:Eq (∀w',Bl wr w'→(w'.cell? ⟨b,a4+k*5,none⟩=some (.string s)∧w'.cell? ⟨b,a4+i*5,none⟩=some (.string si)∧b<w'.heap.size)):=fun w' kk=>⟨cell_later kk g0,cell_later kk e0,E' zb kk.size⟩
        clear hx g0 e0 af;by_cases a5:s=si
        · subst a5;go_wp2_with fail
          refine eJ K k0 fun aa=>?_
          refine aR 0 17 aa ?_;refine dN ?_;clear k0 K aa;go_wp2;go_roundw
          case rel =>
           refine ⟨k+1,by omega,by omega,by go_num,Y.o,fun j h1 h2 x hx=>?_⟩;by_cases hj:j<k
           · exact a3.o j h1 hj x hx
           · have:j=k:=by omega
             subst this;rw [HX.o] at hx;cases hx;rfl
          case measure=>simp [intOf];omega
        · have aC:¬s.toList=si.toList:=by
           rw [Hk,Hk];intro h;exact a5 (IP (II.1 h))
          have aE:(s.toList == si.toList)=false:=by simpa using aC
          have Z:Eq (Sq.parts fA (L.drop i)=(L.drop i).take (k - i) :: Sq.parts fA (L.drop k)):=Sq.parts_front _ L i k aU (by rw [C.o];omega) a6.o (fun x y hx hy=>by
           rw [HX.o] at hy;cases hy;show decide (x.1=s)=false
           rw [a3.o (k - 1) (by omega) (by omega) x hx];exact decide_eq_false (fun h=>a5 h.symm))
          clear a5;go_wp2_with fail
          refine eJ K k0 fun aa=>?_
          refine aR 0 17 aa ?_;refine dN ?_;clear k0 K aa a3 a6 HX aC aE;have u:Eq (ag wr.drew w.heap.size g F c' (P.flatMap (fc S f))):=HO.o.below Y.o;obtain ⟨w1,U⟩:=aG wr.drew;rw [← U] at t u ⊢;have aq:=t.o.size;clear HB a9 HO Y T U;have bb:(0:Int)≤(i:Int):=by omega
          have aK:(i:Int)≤(k:Int):=by omega
          have aD:(k:Int)≤(c:Int):=by omega
          have b6:¬c - i=0:=by omega
          obtain ⟨G,hG⟩:=aG ((L.drop i).take (k - i));have b0:G.length=k - i:=by rw [hG,GS,G7,C.o];omega
          have am:Eq (∀e ∈ G,e ∈ L):=fun e he=>by rw [hG] at he;exact H8 (Hq he)
          have CK:=o8 lo b (a4+i*5) (k - i) (c - i) G a m d S w1 (by rw [hG];exact (HL.o.keep t.o).sub (by omega) aA) (HS.o.keep t.o) (by omega) (by omega);rw [← hG] at Z;clear hG;go_wp2_with fail
          refine CK.mono ?_;rintro e w2 ⟨g2,n2,c2,rfl,R,I⟩;have CF:=vy (pT g2) n2 c2 (Sq.parts (im S) G) f w2 R (lC _ _) (by rw [Sq.parts_flat];omega) (by have h1:=R.length;have h2:=pf (im S) G;omega) (fun A hA e he=>aJ.o e (am.o e ((jc _ _ A hA).2 e he)));have O:Eq (Bl w w2):=t.o.trans (I.mono t.o.size);have W:Eq (ag w2 w.heap.size g F c' (P.flatMap (fc S f))):=u.o.below I;clear CK R I t u aq;go_wp2_with fail
          refine CF.mono ?_;rintro e w3 ⟨g3,n3,c3,rfl,Q,J⟩;have E:Eq (ag w3 w2.heap.size g3 n3 c3 (fc S f G)):=Q;have H:Eq (Bl w w3):=O.o.trans (J.mono O.o.size);have N:Eq (ag w3 w.heap.size g F c' (P.flatMap (fc S f))):=W.o.below J;have b4:n3≤k - i:=by have h1:=Q.len;have h2:=oH S f G;unfold fc at h2;omega
          clear CF Q J O W;go_wp2_with (at_builtin;refine wpList_append_own_at _ rfl _ _ 28 rfl w.heap.size 50 i0 _ 5 56 Tryz.underlying28 hi aH aT aO rfl (by decide) _ _ _ rfl N.o.owns ⟨g3,0,none⟩ n3 c3 (aF (fc S f G)) rfl (by rw [aX,E.o.len]) (ju E.o.entsAt) (bf _) (by unfold maxLen;omega) (by omega) H.o.size ?_;intro v4 w4 B r D X;obtain ⟨g4,a0,rfl,an,ar⟩:=Fj N.o E.o H.o B r D;clear B r D X N E H)
          go_roundw
          case rel=>exact ⟨k,F+n3,g4,a0,P++[G],by omega,rfl,rfl,by rw [List.flatMap_append];simpa using an.o,ar.o,by rw [a1.o,Z.o];simp⟩
          case measure=>simp [intOf];omega
      · have aZ:¬(k:Int)<(n:Int):=by omega
        have b7:k=n:=by omega
        subst b7;have K:Eq (∀w',Bl wr w'→(b<w'.heap.size)):=fun w' kk=>E' zb kk.size
        have Z:Eq (Sq.parts fA (L.drop i)=(L.drop i).take (k - i) :: Sq.parts fA (L.drop k)):=Sq.parts_front _ L i k aU (by rw [C.o];omega) a6.o (fun x y hx hy=>by rw [IK (by rw [C.o];omega)] at hy;cases hy);clear af;go_wp2_with fail
        refine eJ K k0 fun aa=>?_
        refine aR 0 17 aa ?_;refine dN ?_;clear K aa k0 a3 a6;have u:Eq (ag wr.drew w.heap.size g F c' (P.flatMap (fc S f))):=HO.o.below Y.o;obtain ⟨w1,U⟩:=aG wr.drew;rw [← U] at t u ⊢;have aq:=t.o.size;clear HB a9 HO Y T U;have bb:(0:Int)≤(i:Int):=by omega
        have aK:(i:Int)≤(k:Int):=by omega
        have aD:(k:Int)≤(c:Int):=by omega
        have b6:¬c - i=0:=by omega
        obtain ⟨G,hG⟩:=aG ((L.drop i).take (k - i));have b0:G.length=k - i:=by rw [hG,GS,G7,C.o];omega
        have am:Eq (∀e ∈ G,e ∈ L):=fun e he=>by rw [hG] at he;exact H8 (Hq he)
        have CK:=o8 lo b (a4+i*5) (k - i) (c - i) G a m d S w1 (by rw [hG];exact (HL.o.keep t.o).sub (by omega) aA) (HS.o.keep t.o) (by omega) (by omega);rw [← hG] at Z;clear hG;go_wp2_with fail
        refine CK.mono ?_;rintro e w2 ⟨g2,n2,c2,rfl,R,I⟩;have CF:=vy (pT g2) n2 c2 (Sq.parts (im S) G) f w2 R (lC _ _) (by rw [Sq.parts_flat];omega) (by have h1:=R.length;have h2:=pf (im S) G;omega) (fun A hA e he=>aJ.o e (am.o e ((jc _ _ A hA).2 e he)));have O:Eq (Bl w w2):=t.o.trans (I.mono t.o.size);have W:Eq (ag w2 w.heap.size g F c' (P.flatMap (fc S f))):=u.o.below I;clear CK R I t u aq;go_wp2_with fail
        refine CF.mono ?_;rintro e w3 ⟨g3,n3,c3,rfl,Q,J⟩;have E:Eq (ag w3 w2.heap.size g3 n3 c3 (fc S f G)):=Q;have H:Eq (Bl w w3):=O.o.trans (J.mono O.o.size);have N:Eq (ag w3 w.heap.size g F c' (P.flatMap (fc S f))):=W.o.below J;have b4:n3≤k - i:=by have h1:=Q.len;have h2:=oH S f G;unfold fc at h2;omega
        clear CF Q J O W;go_wp2_with (at_builtin;refine wpList_append_own_at _ rfl _ _ 28 rfl w.heap.size 50 i0 _ 5 56 Tryz.underlying28 hi aH aT aO rfl (by decide) _ _ _ rfl N.o.owns ⟨g3,0,none⟩ n3 c3 (aF (fc S f G)) rfl (by rw [aX,E.o.len]) (ju E.o.entsAt) (bf _) (by unfold maxLen;omega) (by omega) H.o.size ?_;intro v4 w4 B r D X;obtain ⟨g4,a0,rfl,an,ar⟩:=Fj N.o E.o H.o B r D;clear B r D X N E H)
        go_roundw
        case rel=>exact ⟨k,F+n3,g4,a0,P++[G],by omega,rfl,rfl,by rw [List.flatMap_append];simpa using an.o,ar.o,by rw [a1.o,Z.o];simp⟩
        case measure=>simp [intOf];omega
   · have aY:¬(i:Int)<(n:Int):=by omega
     have HE:Eq (bT L S f=P.flatMap (fc S f)):=by
      have h:=a1.o;rw [Ji (by rw [C.o];omega),show Sq.parts fA []=[] from rfl,Iv] at h;show bT L S f=_
      rw [HQ.o,h]
     go_wp2;go_ret;exact ⟨g,F,c',rfl,by rw [HE.o];exact HO.o,T.o⟩
end Go.Proofs.YtpobkmjicbobdaaGreat
namespace Go.Proofs.YtpobkmjicbobdaaGreat
set_option maxRecDepth 100000
set_option maxHeartbeats 40000000
open Go.RowKit
variable {G base c c1 c3 g1 g3 nm ns nv:Nat} {M:List ac} {S:List Int} {V:List (List af)} {w w':World}
theorem Ez (lo:Nat) (q d:Int) (E K n:Option Addr) (nm H nv F ns cs:Nat) (S:List Int) (w:World) (hS:bJ lo w n ns cs S) (hn:ns≤1048576) :
 Calls Tryz.prog 102 #[.agg #[iT q,.slice E nm H,.slice K nv F,.slice n ns cs],iT d] w fun e w'=>e=.returned (.bool (decide (d ∈ S)))∧Bl w w':=by
 obtain ⟨X,y⟩:=aG w.heap.size;obtain ⟨W,t⟩:=aG (w.alloc (.cells #[iT q,.slice E nm H,.slice K nv F,.slice n ns cs] 31));have u:Bl w W:=by rw [t];exact bZ
 have N:W.cell? ⟨X,3,none⟩=some (.slice n ns cs):=by rw [t,y];simp
 have J:Eq (bJ lo W n ns cs S):=hS.keep u;have T:Eq (S.length=ns):=hS.length;have I:Eq (Bl w W):=u;have U:=GK _ _ N;simp only at U;obtain ⟨Z,C⟩:=aG (decide (d ∈ S));have L:Eq (Z=decide (d ∈ S)):=C;rw [← C];clear hS u C;go_enter Tryz.func102,Tryz.ntmps102
 go_upto_region 1 with fail
 rw [← y,← t];clear y t;go_wp2;go_loopw [5] (fun D wr=>∃(k:Nat),k≤ns∧D=iT k∧(∀j,j<k→¬S[j]?=some d)∧W=wr) (fun D _=>ns - (intOf D).toNat)
 case atStart=>exact ⟨0,GQ _,rfl,fun j r=>absurd r (H7 _),rfl⟩
 case round =>
  obtain ⟨k,hk,rfl,f,rfl⟩:=hrel;have g:Eq (∀j,j<k→¬S[j]?=some d):=f;clear f;by_cases x:k<ns
  · have m:(k:Int)<(ns:Int):=by omega
    obtain ⟨b,R,rfl,O⟩:=J.o.form (by omega);obtain ⟨z,hz,_,Y⟩:=J.o.num (Below.refl _ W) k x;have s:Eq (S[k]?=some z):=hz;clear hz;by_cases hq:z=d
    · subst hq;have B:Eq (Z=true):=by show _=_;rw [L.o];exact decide_eq_true (GP s.o)
      go_wp2;go_ret;exact ⟨by have e:=B.o;first | (rw [e];rfl) | (subst e;rfl) | simp [e],I.o⟩
    · have Q:(z == d)=false:=by simpa using hq
      go_wp2;go_roundw
      case rel =>
       refine ⟨k+1,by omega,by go_num,fun j r=>?_,by first | rfl | trivial⟩;by_cases e:j=k
       · subst e;rw [s.o];intro h;exact hq (GN h)
       · exact g.o j (by omega)
      case measure=>simp [intOf];omega
  · have m:¬(k:Int)<(ns:Int):=by omega
    have B:Eq (Z=false):=by
     show _=_
     rw [L.o];refine decide_eq_false (fun hm=>?_);obtain ⟨j,r⟩:=Hr hm;have A:=(F'.1 r).1;rw [T.o] at A;exact g.o j (by omega) r
    go_wp2;go_ret;exact ⟨by have e:=B.o;first | (rw [e];rfl) | (subst e;rfl) | simp [e],I.o⟩
theorem ay.grownB {b g:Nat} {u0 u1 u2 u3:Value} (h:ay w b u0 u1 u2 u3) (hg:w.grownBy w' (some g)) (d:b≠g):ay w' b u0 u1 u2 u3 :=
 have hn:some b≠some g:=fun e=>d (GN e)
 ⟨hg.cell h.c0 hn,hg.cell h.c1 hn,hg.cell h.c2 hn,hg.cell h.c3 hn,fun o=>(bU hg (x:=⟨b,o,none⟩) h.lt hn).trans (h.fz o)⟩
theorem cQ.kind {Y T sz:Nat} (h:cQ base w g1 nm c1 G nv c g3 ns c3 M V S) (hB:aq w Y T sz) (t0:T≠61) (f:T≠63) (d:T≠50) (t3:T≠3) (hg:w.grownBy w' (some Y)):cQ base w' g1 nm c1 G nv c g3 ns c3 M V S:=by
 obtain ⟨_,k1⟩:=aQ h.mem.owns;obtain ⟨_,k3⟩:=aQ h.sn;refine ⟨h.mem.grown hg (fun e=>?_),h.levs.grown hB t0 f d hg,h.slen,h.swf,h.sn.kept hg (.inr fun e=>?_)⟩
 · have b:=GN e;subst b;exact d (hB.kind k1)
 · have b:g3=Y:=by simpa [Value.ownBlock] using e
   subst b;exact t3 (hB.kind k3)
def xB (q:Int) (nm nv n:Nat) (M:List ac) (V:List (List af)) (S:List Int) (ok:Bool) (w:World) (e:Ending) (w':World):Prop :=
 ∃g1 c1 G c g3 c3,e=.returned (.tuple #[.agg #[iT q,sL g1 nm c1,sL G nv c,sL g3 n c3],.bool ok])∧cQ w.heap.size w' g1 nm c1 G nv c g3 n c3 M V S∧Bl w w'
theorem cQ.push {b c4:Nat} {q:Int} (h:cQ base w g1 nm c1 G nv c g3 ns c3 M V S) (hg:w.grownBy w' (some g3)) (ho:w'.ownsRow base 3 1 (sL b (ns+1) c4) (ns+1) (S.map iT++[iT q])) (hq:(Lit.int .i64 q).wf=true):cQ base w' g1 nm c1 G nv c b (ns+1) c4 M V (S++[q]) :=
 ⟨dV h.mem h.sn (by decide) hg,iw h.levs h.sn (by decide) (by decide) (by decide) hg,by rw [GO,h.slen];rfl,fun z hz=>by
  rcases GX.1 hz with h1 | h1
  · exact h.swf z h1
  · rw [G5] at h1;subst h1;exact hq,by rw [Iw];exact ho⟩
end Go.Proofs.YtpobkmjicbobdaaGreat
