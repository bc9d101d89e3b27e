/- Walks. -/
import Derived.Test.YtpobkmjicbobdaaGreatBc08
namespace Go.Proofs.YtpobkmjicbobdaaGreat
open Go.RowKit
set_option maxRecDepth 100000
set_option maxHeartbeats 4000000
attribute [local go_sem] Gi
theorem i8 {w:World} {b o n c:Nat} {L:List ae} (h:ah w (some ⟨b,o,none⟩) n c L):∀j u,(aC L)[j]?=some u→w.cell? ((⟨b,o,none⟩:Addr).add j)=some u:=by
 intro j u d;have f:j<(aC L).length:=(E'.1 d).1;rw [aV] at f;have hi:j / 5<L.length:=by omega
 obtain ⟨c0,c1,c2,c3,c4⟩:=h.cells _ rfl (j / 5) hi;obtain ⟨g,m,r2,r3,r4⟩:=fF L (j / 5) L[j / 5] (j' hi);rw [FO];simp only at c0 c1 c2 c3 c4;have:j=j / 5*5∨j=j / 5*5+1∨j=j / 5*5+2∨j=j / 5*5+3∨j=j / 5*5+4:=by omega
 rcases this with e | e | e | e | e
 · rw [← e] at g c0;rw [g] at d;cases d;exact c0
 · rw [G9,← e] at c1;rw [← e] at m;rw [m] at d;cases d;exact c1
 · rw [G9,← e] at c2;rw [← e] at r2;rw [r2] at d;cases d;exact c2
 · rw [G9,← e] at c3;rw [← e] at r3;rw [r3] at d;cases d;exact c3
 · rw [G9,← e] at c4;rw [← e] at r4;rw [r4] at d;cases d;exact c4
theorem Fd {G n c:Nat} {k:Nat} (h:(sL G n c).ownBlock=some k):k=G:=by simp [Value.ownBlock] at h;exact h.symm
theorem tT (w:World) (base:Nat) (o:Obj) (h:base≤w.heap.size) (s t:ByteArray) (q d n:Int) (hw:dR (s,q,d,t,n)):ag ((w.alloc o).alloc (.cells #[.string s,iT q,iT d,.string t,iT n] 50)) base (w.heap.size+1) 1 1 [(s,q,d,t,n)]:=by
 have:=EB (w.alloc o) base (by simp;omega) s t q d n hw;simpa using this
theorem zi (b A n c:Nat) (L:List ae) (u:ByteArray) (s:Int) (bare:Bool) (w:World) (hL:ah w (some ⟨b,A,none⟩) n c L) (hn:1≤n) (a3:n≤1048576) (h0:∃r,L[0]?=some (u,s,r)) (hN:∀e ∈ L,-1000000≤e.2.2.2.2∧e.2.2.2.2≤1000000) :
 Calls Tryz.prog 245 #[sO b A n c,.bool bare] w fun e w'=>∃g n' c',e=.returned (sL g n' c')∧ag w' w.heap.size g n' c' (d4 bare u s L)∧Bl w w':=by
 have X:=bT hL;obtain ⟨r,F⟩:=h0;have I:=hL.ents _ (Fw F);have y:Eq ((bh true 0 L).2.1.size≤maxLen):=xv L true 0 (fun e he=>(hL.ents e he).2.2.2.1);have C:Eq (1≤(bh true 0 L).1∧(bh true 0 L).1≤3):=xw L true 0;have x:Eq (u.size≤maxLen∧(Lit.int .i64 s).wf=true):=⟨I.1,I.2.1⟩;have Y:=Bc b A n c L u s w hL hn a3 ⟨r,F⟩ hN;have HC:Eq (∀d t a,bh true 0 L=(d,t,a)→d4 bare u s L=if dY a=true then (if bare=true∧d=2 then [] else [(u,s,(if bare=true∧d=3 then 1 else d),t,a)]) else L):=fun d t a h=>by unfold d4;rw [h]
 obtain ⟨d,t,a,hj⟩:∃d t a,bh true 0 L=(d,t,a):=⟨_,_,_,rfl⟩;have T:=HC.o d t a hj;rw [hj] at y C Y;have O:Eq (d4 bare u s L=if dY a=true then (if bare=true∧d=2 then [] else [(u,s,(if bare=true∧d=3 then 1 else d),t,a)]) else L):=T;clear T hj HC I F hL hN;simp only at y C Y;go_enter Tryz.func245,Tryz.ntmps245
 go_wp2_with fail
 refine Y.mono ?_;rintro e E ⟨rfl,K⟩;have f:Eq (Bl w E):=K;clear K Y;obtain ⟨i0,hi,a0,Z,a4⟩:=info_parts Tryz.infoEnt;cases hs:dY a with
 | true =>
  have hA:-1000000≤a∧a≤1000000:=by simpa [dY] using hs
  have H:Eq ((Lit.int .i64 a).wf=true):=Fb hA.1 hA.2;have J:Eq ((Lit.int .i64 d).wf=true):=Fb (by have:=C.o;omega) (by have:=C.o;omega);cases bare with
  | true =>
   by_cases R:d=2
   · subst R;have m:d4 true u s L=[]:=by rw [O.o];simp [hs]
     go_wp2;go_ret;exact ⟨E.heap.size+1,0,0,rfl,by rw [m];have:=nK (E.alloc (.cells #[.string u,iT s,iT 2,.string t,iT a] 50)) w.heap.size (by have:=f.o.size;simp;omega);simpa using this,(f.o.alloc f.o.size _).alloc (by have:=f.o.size;simp;omega) _⟩
   · by_cases Q:d=3
     · subst Q;have m:d4 true u s L=[(u,s,1,t,a)]:=by rw [O.o];simp [hs]
       go_wp2;go_ret;exact ⟨E.heap.size+1,1,1,rfl,by rw [m];exact tT _ _ _ f.o.size _ _ _ _ _ ⟨x.o.1,x.o.2,Fb (z:=1) (by omega) (by omega),y.o,H.o⟩,(f.o.alloc f.o.size _).alloc (by have:=f.o.size;simp;omega) _⟩
     · have m:d4 true u s L=[(u,s,d,t,a)]:=by rw [O.o];simp [hs,R,Q]
       go_wp2;go_ret;exact ⟨E.heap.size+1,1,1,rfl,by rw [m];exact tT _ _ _ f.o.size _ _ _ _ _ ⟨x.o.1,x.o.2,J.o,y.o,H.o⟩,(f.o.alloc f.o.size _).alloc (by have:=f.o.size;simp;omega) _⟩
  | false =>
   have m:d4 false u s L=[(u,s,d,t,a)]:=by rw [O.o];simp [hs]
   go_wp2;go_ret;exact ⟨E.heap.size+1,1,1,rfl,by rw [m];exact tT _ _ _ f.o.size _ _ _ _ _ ⟨x.o.1,x.o.2,J.o,y.o,H.o⟩,(f.o.alloc f.o.size _).alloc (by have:=f.o.size;simp;omega) _⟩
 | false =>
  have m:d4 bare u s L=L:=by rw [O.o];simp [hs]
  obtain ⟨W,U⟩:=aG (E.alloc (.cells #[.string u,iT s,iT d,.string t,iT a] 50));have D:Eq (Bl w W):=by rw [U];exact f.o.alloc f.o.size _
  have B:Eq (Bl w (W.alloc (.cells #[] 50))):=D.o.alloc D.o.size _;have HO:Eq (ag (W.alloc (.cells #[] 50)) w.heap.size W.heap.size 0 0 []):=nK W _ D.o.size;have a1:Eq (ah (W.alloc (.cells #[] 50)) (some ⟨b,A,none⟩) n c L):=X.o.keep B.o;have aa:Eq (W.heap.size=E.heap.size+1):=by rw [U];simp [Eq]
  go_upto_region 3 with fail
  rw [← U];clear U;go_wp2_with (at_builtin;refine wpList_append_lies _ rfl (.tmp 14) (.tmp 15) 28 rfl w.heap.size 50 i0 _ 5 56 Tryz.underlying28 hi a0 Z a4 rfl (by omega) _ 0 _ rfl HO.o.owns ⟨b,A,none⟩ n c (aC L) rfl (by rw [aV,X.o.length]) (i8 a1.o) (aO _) (by omega) (by unfold maxLen;omega) (by omega) B.o.size (W.heap.size+1) (by simp) ?_;intro g N w3 hown hgrow hat a5)
  go_ret;refine ⟨g,n,N,rfl,by rw [m];exact ⟨by simpa [aC] using hown,X.o.length,X.o.ents⟩,?_⟩;exact B.o.grown hgrow B.o.size (fun j e=>by rw [Fd e];exact D.o.size)
end Go.Proofs.YtpobkmjicbobdaaGreat
namespace Go.Proofs.YtpobkmjicbobdaaGreat
open Go.RowKit
set_option maxRecDepth 100000
set_option maxHeartbeats 4000000
theorem Ei {k:Nat} (h:1≤k) (hk:k≤1048576):IntKind.i64.wrap ((k:Int) - 1)=((k - 1:Nat):Int):=by
 have e:((k - 1:Nat):Int)=(k:Int) - 1:=by omega
 rw [e,FQ];unfold wrap64;omega
theorem nV (lo b E n c:Nat) (L:List ae) (a:Option Addr) (m d:Nat) (S:List Int) (w:World) (hL:ah w (some ⟨b,E,none⟩) n c L) (hS:b6 lo w a m d S) (hn:n≤1048576) (a3:b<w.heap.size) :
 Calls Tryz.prog 221 #[sO b E n c,.slice a m d] w fun e w'=>∃g k Y,e=.returned (sL g k Y)∧cy w' (pT g) k Y (Sq.parts (gV S) L)∧Bl w w':=by
 have J:Eq (L.length=n):=hL.length;have hroom:=hL.room;have hbig:=hL.big;unfold maxLen at hbig;have HL:=bT hL;have HS:=bT hS;have P0:bg (w.alloc (.cells #[] 28)) w.heap.size w.heap.size 0 0 [] [] none:=by
  refine ⟨?_,rfl,(fun e=>by cases e),fun i A hA=>by simp at hA⟩;have:=F6 (base:=w.heap.size) (e:=28) (size:=1) w #[] 0 (Fv _) (by simp) (by simp);simpa using this
 have ad:Eq (bg (w.alloc (.cells #[] 28)) w.heap.size w.heap.size 0 0 [] [] none):=P0;have al:Eq (Bl w (w.alloc (.cells #[] 28))):=bZ;obtain ⟨i0,hi,an,am,au⟩:=info_parts Tryz.infoEntS;clear hL hS P0;go_enter Tryz.func221,Tryz.ntmps221
 go_wp2;go_loopw [5,6] (fun o iv wr=>∃(i N g Y:Nat) (P:List (List ae)) (vs:List Value),i≤n∧iv=iT i∧o=sL g N Y∧bg wr w.heap.size g N Y P vs none∧Bl w wr∧N≤i∧Sq.parts (gV S) L=P++Sq.parts (gV S) (L.drop i)) (fun _ iv _=>n - (intOf iv).toNat)
 case atStart=>exact ⟨0,0,w.heap.size,0,[],[],FB _,rfl,rfl,ad.o,al.o,Fv _,rfl⟩
 case round =>
  obtain ⟨i,N,g,Y,P,vs,aX,rfl,rfl,hP,hb,aZ,hcut⟩:=hrel;have HP:Eq (bg wr w.heap.size g N Y P vs none):=hP;have W:Eq (Bl w wr):=hb;have T:Eq (Sq.parts (gV S) L=P++Sq.parts (gV S) (L.drop i)):=hcut;clear hP hb hcut ad al;by_cases aY:i<n
  · have af:(i:Int)<(n:Int):=by omega
    obtain ⟨wo,aA⟩:=aG wr;subst aA;go_wp2;go_loopw [7] (fun kv wq=>∃k:Nat,i<k∧k≤n∧kv=iT k∧Bl wo wq∧(∀j,i<j→j<k→∀x y,L[j - 1]?=some x→L[j]?=some y→gV S x y=true)) (fun kv _=>n - (intOf kv).toNat)
    case atStart=>exact ⟨i+1,by omega,by omega,by go_num,Below.refl _ _,fun j h1 h2=>by omega⟩
    case round =>
     obtain ⟨k,aa,ak,rfl,Z,a8⟩:=hrel;have R:Eq (∀j,i<j→j<k→∀x y,L[j - 1]?=some x→L[j]?=some y→gV S x y=true):=a8;have Q:Eq (Bl w wr):=W.o.trans (Z.mono W.o.size);have D:Eq (Bl wo wr):=Z;clear a8;have zb:b<wr.heap.size:=u' a3 Q.o.size;have F:Bl wr wr.drew:=(Below.refl _ wr).drew;by_cases aE:k<n
     · have ao:(k:Int)<(n:Int):=by omega
       have b0:IntKind.i64.wrap ((k:Int) - 1)=((k - 1:Nat):Int):=Ei (by omega) (by omega);have aV:((k - 1:Nat):Int)<(n:Int):=by omega
       obtain ⟨s,q,dd,tt,nn,hx,_,_,g1,_⟩:=HL.o.ent Q.o a3 k aE;obtain ⟨s0,q0,ar,a9,ai,hy,_,_,e1,_⟩:=HL.o.ent Q.o a3 (k - 1) (by omega);have HX:Eq (L[k]?=some (s,q,dd,tt,nn)):=hx;have HY:Eq (L[k - 1]?=some (s0,q0,ar,a9,ai)):=hy;have a4:Eq (gV S (s0,q0,ar,a9,ai) (s,q,dd,tt,nn)=!fQ S q q0):=rfl;have B:Eq (∀w',Bl wr w'→(w'.cell? ⟨b,E+k*5+1,none⟩=some (iT q)∧w'.cell? ⟨b,E+(k - 1)*5+1,none⟩=some (iT q0)∧b<w'.heap.size)):=fun w' kk=>⟨cell_later kk g1,cell_later kk e1,u' zb kk.size⟩
       clear hx hy g1 e1 Z;cases hap:fQ S q q0 with
       | false =>
        go_wp2_with fail
        refine eJ B F fun O=>?_
        refine aP 0 17 O ?_;refine aQ 17 fun K hK=>?_
        go_simp;refine (rJ lo a m d S q q0 _ (HS.o.keep (Q.o.trans (F.mono Q.o.size)))).mono ?_;rintro e w1 ⟨rfl,b1⟩;have k1:Bl wr w1:=F.trans (b1.mono F.size);go_wp2_with fail
        refine hK.o _ _ (B.o _ k1) fun O=>?_
        (try go_frame);refine aP 18 2 O ?_;refine dN ?_;clear F B O;have f:Eq (Bl wo w1):=D.o.trans (k1.mono D.o.size);clear k1;go_wp2;go_roundw
        case rel =>
         refine ⟨k+1,by omega,by omega,by go_num,f.o,fun j h1 h2 x y hx hy=>?_⟩;by_cases H:j<k
         · exact R.o j h1 H x y hx hy
         · have:j=k:=by omega
           subst this;rw [HX.o] at hy;rw [HY.o] at hx;cases hx;cases hy;rw [a4.o,hap];rfl
        case measure=>simp [intOf];omega
       | true =>
        go_wp2_with fail
        refine eJ B F fun O=>?_
        refine aP 0 17 O ?_;refine aQ 17 fun K hK=>?_
        go_simp;refine (rJ lo a m d S q q0 _ (HS.o.keep (Q.o.trans (F.mono Q.o.size)))).mono ?_;rintro e w1 ⟨rfl,b1⟩;have k1:Bl wr w1:=F.trans (b1.mono F.size);go_wp2_with fail
        refine hK.o _ _ (B.o _ k1) fun O=>?_
        (try go_frame);refine aP 18 2 O ?_;refine dN ?_;clear F B O;have f:Eq (Bl w w1):=Q.o.trans (k1.mono Q.o.size);have U:Eq (Bl wo w1):=D.o.trans (k1.mono D.o.size);have a2:Eq (Sq.parts (gV S) (L.drop i)=(L.drop i).take (k - i) :: Sq.parts (gV S) (L.drop k)):=Sq.parts_front _ L i k aa (by rw [J.o];omega) R.o (fun x y hx hy=>by
         rw [HX.o] at hy;rw [HY.o] at hx;cases hx;cases hy;rw [a4.o,hap];rfl)
        have aJ:=f.o.size;have t:Eq (bg w1 w.heap.size g N Y P vs none):=HP.o.below U.o;clear k1 Q D R HX HY a4 HP U W;have aD:(0:Int)≤(i:Int):=by omega
        have ag:(i:Int)≤(k:Int):=by omega
        have aq:(k:Int)≤(c:Int):=by omega
        have aB:¬c - i=0:=by omega
        go_wp2_with (at_builtin;refine wpList_append_own_at _ rfl _ _ 102 rfl w.heap.size 28 i0 _ 1 24 Tryz.underlying102 hi an am au rfl (by decide) _ _ _ rfl (t.o.owns.alloc _) ⟨w1.heap.size,0,none⟩ 1 1 [.slice (some ⟨b,E+i*5,none⟩) (k - i) (c - i)] rfl rfl ?q1 ?q2 ?q3 ?q4 ?q5 ?_)
        case q1 =>
         intro j u H;match j,H with
         | 0,H=>simp at H;subst H;rw [FO];simp
         | j+1,H=>simp at H
        case q2=>intro u hu;simp at hu;subst hu;rfl
        case q3=>unfold maxLen;omega
        case q4=>omega
        case q5=>simp;omega
        intro v' w2 r hgrow hnil hat;obtain ⟨g2,C,rfl⟩:∃g I,v'=sL g (N+1) I:=by
         rcases r.2 with ⟨hv,h0⟩ | ⟨g,I,aH,hv,_⟩
         · omega
         · exact ⟨g,I,hv⟩
        have a0:Eq (bg w2 w.heap.size g2 (N+1) C (P++[(L.drop i).take (k - i)]) (vs++[.slice (some ⟨b,E+i*5,none⟩) (k - i) (c - i)]) none):=by
         have X:∀o,Bl w1 (w1.alloc o):=fun o=>(Below.refl _ _).alloc (Fv _) o
         exact (t.o.below (X _)).push r hgrow (by rcases hat with h | h;exact .inl (Fx h);exact .inr (by have h1:g2=w1.heap.size+1:=Fx h;simpa using h1)) ((HL.o.keep (f.o.trans ((X _).mono f.o.size))).sub (by omega) ak) (fun x e hp=>by
          have h3:=(t.o.owns.lt g rfl).1;cases e;show b≠g
          omega)
        have a6:Eq (Bl w w2):=(f.o.alloc f.o.size _).grown hgrow (by simp;omega) (fun q hq=>(t.o.owns.lt q hq).1);clear r hgrow hnil hat t f;go_wp2;go_roundw
        case rel=>exact ⟨k,N+1,g2,C,_,_,by omega,rfl,rfl,a0.o,a6.o,by omega,by rw [T.o,a2.o];simp⟩
        case measure=>simp [intOf];omega
     · have ao:¬(k:Int)<(n:Int):=by omega
       have aF:k=n:=by omega
       subst aF;have B:Eq (∀w',Bl wr w'→(b<w'.heap.size)):=fun w' kk=>u' zb kk.size
       clear Z;go_wp2_with fail
       refine eJ B F fun O=>?_
       refine aP 0 17 O ?_;refine aQ 17 fun K hK=>?_
       go_simp;refine hK.o _ _ (B.o _ F) fun O=>?_
       (try go_frame);refine aP 18 2 O ?_;refine dN ?_;clear B O;have f:Eq (Bl w wr.drew):=Q.o.trans (F.mono Q.o.size);have U:Eq (Bl wo wr.drew):=D.o.trans (F.mono D.o.size);have a2:Eq (Sq.parts (gV S) (L.drop i)=(L.drop i).take (k - i) :: Sq.parts (gV S) (L.drop k)):=Sq.parts_front _ L i k aa (by rw [J.o];omega) R.o (fun x y hx hy=>by rw [Hd (by rw [J.o];omega)] at hy;cases hy);have t:Eq (bg wr.drew w.heap.size g N Y P vs none):=HP.o.below U.o;obtain ⟨w1,av⟩:=aG wr.drew;rw [← av] at f t ⊢;have aJ:=f.o.size;clear F Q D R HP U W av;have aD:(0:Int)≤(i:Int):=by omega
       have ag:(i:Int)≤(k:Int):=by omega
       have aq:(k:Int)≤(c:Int):=by omega
       have aB:¬c - i=0:=by omega
       go_wp2_with (at_builtin;refine wpList_append_own_at _ rfl _ _ 102 rfl w.heap.size 28 i0 _ 1 24 Tryz.underlying102 hi an am au rfl (by decide) _ _ _ rfl (t.o.owns.alloc _) ⟨w1.heap.size,0,none⟩ 1 1 [.slice (some ⟨b,E+i*5,none⟩) (k - i) (c - i)] rfl rfl ?q1 ?q2 ?q3 ?q4 ?q5 ?_)
       case q1 =>
        intro j u H;match j,H with
        | 0,H=>simp at H;subst H;rw [FO];simp
        | j+1,H=>simp at H
       case q2=>intro u hu;simp at hu;subst hu;rfl
       case q3=>unfold maxLen;omega
       case q4=>omega
       case q5=>simp;omega
       intro v' w2 r hgrow hnil hat;obtain ⟨g2,C,rfl⟩:∃g I,v'=sL g (N+1) I:=by
        rcases r.2 with ⟨hv,h0⟩ | ⟨g,I,aH,hv,_⟩
        · omega
        · exact ⟨g,I,hv⟩
       have a0:Eq (bg w2 w.heap.size g2 (N+1) C (P++[(L.drop i).take (k - i)]) (vs++[.slice (some ⟨b,E+i*5,none⟩) (k - i) (c - i)]) none):=by
        have X:∀o,Bl w1 (w1.alloc o):=fun o=>(Below.refl _ _).alloc (Fv _) o
        exact (t.o.below (X _)).push r hgrow (by rcases hat with h | h;exact .inl (Fx h);exact .inr (by have h1:g2=w1.heap.size+1:=Fx h;simpa using h1)) ((HL.o.keep (f.o.trans ((X _).mono f.o.size))).sub (by omega) ak) (fun x e hp=>by
         have h3:=(t.o.owns.lt g rfl).1;cases e;show b≠g
         omega)
       have a6:Eq (Bl w w2):=(f.o.alloc f.o.size _).grown hgrow (by simp;omega) (fun q hq=>(t.o.owns.lt q hq).1);clear r hgrow hnil hat t f;go_wp2;go_roundw
       case rel=>exact ⟨k,N+1,g2,C,_,_,by omega,rfl,rfl,a0.o,a6.o,by omega,by rw [T.o,a2.o];simp⟩
       case measure=>simp [intOf];omega
  · have af:¬(i:Int)<(n:Int):=by omega
    have HE:Eq (Sq.parts (gV S) L=P):=by
     have h:=T.o;rw [Ht (by rw [J.o];omega)] at h;rw [show Sq.parts (gV S) []=[] from rfl,GR] at h;exact h
    go_wp2;go_ret;exact ⟨g,N,Y,rfl,by rw [HE.o];exact HP.o.partsAt,W.o⟩
end Go.Proofs.YtpobkmjicbobdaaGreat
namespace Go.Proofs.YtpobkmjicbobdaaGreat
open Go.RowKit
set_option maxRecDepth 100000
set_option maxHeartbeats 4000000
attribute [local go_sem] Gi
def oG (P:List (List ae)) (bottom:Bool) (j:Nat):Bool × List ae:=(P.drop j).foldr (Sq.stepD mF) (bottom,[])
theorem BO {P:List (List ae)} {b:Bool} {j:Nat} {A:List ae} (h:P[j]?=some A):oG P b j=(if (mF (oG P b (j+1)).1 A).isEmpty then (oG P b (j+1)).1 else false,mF (oG P b (j+1)).1 A++(oG P b (j+1)).2):=zL b P j A h
theorem Dw (P:List (List ae)) (b:Bool) (j:Nat):(oG P b j).2.length≤P.flatten.length:=by
 refine FK (pQ b (P.drop j)) ?_;conv=>rhs;rw [← FX j P]
 rw [GT,Fy];omega
theorem DZ {w o m:World} {G f g r c':Nat} {C R:List ae} {v3:Value} (hO:ag o w.heap.size G 0 0 []) (hR:ag o w.heap.size g r c' R) (hB:Bl w o) (hg:g≠G)
 (hown:m.ownsRow w.heap.size 50 5 v3 (0+f) (aC []++aC C)) (hgrow:o.grownBy m (sL G 0 0).ownBlock) (hnil:v3=nZ ↔ sL G 0 0=nZ∧f=0) :
 ∃n d,n<m.heap.size∧v3=sL n f d∧Eq (ag m w.heap.size g r c' R)∧Eq (Bl w m)∧Eq (m.ownsRow w.heap.size 50 5 (sL n f d) f (aC C)):=by
 rw [FG] at hown;have b:m.ownsRow w.heap.size 50 5 v3 f (aC C):=by simpa [aC] using hown
 obtain ⟨n,d,rfl⟩:∃g cap,v3=sL g f cap:=by
  rcases b.2 with ⟨hv,h0⟩ | ⟨g,cap,s,hv,_⟩
  · have:=(hnil.1 hv).1;cases this
  · exact ⟨g,cap,hv⟩
 exact ⟨n,d,(b.lt n rfl).2,rfl,hR.grown hgrow (fun e=>hg (Fx e)),hB.grown hgrow hB.size (fun q hq=>(hO.owns.lt q hq).1),b⟩
theorem DY {w r n:World} {s d e g m c':Nat} {C R:List ae} {v4:Value} (hO:r.ownsRow w.heap.size 50 5 (sL s e d) e (aC C)) (hR:ag r w.heap.size g m c' R) (hB:Bl w r) (hE:∀l ∈ C,dR l) (hL:C.length=e)
 (hown:n.ownsRow w.heap.size 50 5 v4 (e+m) (aC C++aC R)) (hgrow:r.grownBy n (sL s e d).ownBlock) (hnil:v4=nZ ↔ sL s e d=nZ∧m=0) :
 ∃o b,v4=sL o (e+m) b∧Eq (ag n w.heap.size o (e+m) b (C++R))∧Eq (Bl w n):=by
 obtain ⟨o,b,rfl⟩:∃g f,v4=sL g (e+m) f:=by
  rcases hown.2 with ⟨hv,h0⟩ | ⟨g,f,t,hv,_⟩
  · have:=(hnil.1 hv).1;cases this
  · exact ⟨g,f,hv⟩
 refine ⟨o,b,rfl,⟨by rw [aL];exact hown,by rw [Fy,hL,hR.len],fun l hl=>?_⟩,hB.grown hgrow hB.size (fun q hq=>(hO.lt q hq).1)⟩;rcases FI.1 hl with h | h
 · exact hE l h
 · exact hR.ents l h
theorem us (a:Option Addr) (n c:Nat) (P:List (List ae)) (f:Bool) (w:World) (hP:cy w a n c P) (az:∀A ∈ P,A≠[]) (hT:P.flatten.length≤1048576) (hn:n≤1048576) (hN:∀A ∈ P,∀e ∈ A,-1000000≤e.2.2.2.2∧e.2.2.2.2≤1000000) :
 Calls Tryz.prog 220 #[.slice a n c,.bool f] w fun e w'=>∃g K c',e=.returned (sL g K c')∧ag w' w.heap.size g K c' (Sq.leftD mF f P)∧Bl w w':=by
 have HP:=bT hP;have ax:=bT az;have HN:=bT hN;have HT:=bT hT;have hroom:=hP.room;have hbig:=hP.big;unfold maxLen at hbig;have aw:Eq (ag (w.alloc (.cells #[] 50)) w.heap.size w.heap.size 0 0 (oG P f n).2):=by
  have e:(oG P f n).2=[]:=by unfold oG;rw [Ht (by rw [hP.length];exact Fv _)];rfl
  show ag _ _ _ _ _ _
  rw [e];exact nK w _ (Fv _)
 have au:Eq ((oG P f n).1=f):=by show (oG P f n).1=f;unfold oG;rw [Ht (by rw [hP.length];exact Fv _)];rfl
 have av:Eq (Bl w (w.alloc (.cells #[] 50))):=bZ;obtain ⟨i0,hi,a7,a5,a9⟩:=info_parts Tryz.infoEnt;clear hP az hN hT;have wn:IntKind.i64.wrap ((n:Int) - 1)=(n:Int) - 1:=by rw [FQ];unfold wrap64;omega
 go_enter Tryz.func220,Tryz.ntmps220
 go_wp2;go_loopw [1,5,6] (fun bv o iv wr=>∃(j K g c':Nat) (z:Int),j≤n∧z=(j:Int) - 1∧iv=iT z∧bv=.bool (oG P f j).1∧o=sL g K c'∧ag wr w.heap.size g K c' (oG P f j).2∧Bl w wr) (fun _ _ iv _=>(intOf iv+1).toNat)
 case atStart=>exact ⟨n,0,w.heap.size,0,_,Fv _,rfl,rfl,by rw [au.o],rfl,aw.o,av.o⟩
 case round =>
  obtain ⟨j,K,g,c',z,hj,hz,rfl,rfl,rfl,hO,hb⟩:=hrel;have HR:Eq (ag wr w.heap.size g K c' (oG P f j).2):=hO;have HB:Eq (Bl w wr):=hb;clear hO hb aw au av;by_cases am:j=0
  · subst am;have al:z=-1:=by omega
    subst al;clear hz wn;go_wp2;go_ret;exact ⟨g,K,c',rfl,by have h:=HR.o;unfold oG at h;rw [List.drop_zero] at h;exact h,HB.o⟩
  · obtain ⟨B,rfl⟩:∃B,j=B+1:=⟨j - 1,by omega⟩;have al:z=(B:Int):=by omega
    subst al;clear hz am;have bf:(B:Int)<(n:Int):=by omega
    have am:(0:Int)≤(B:Int):=by omega
    have aM:B<n:=by omega
    obtain ⟨b,bg,rfl,aN⟩:=HP.o.form (by omega);obtain ⟨A,s,m,d,hA,gA,hE⟩:=HP.o.list HB.o B aM;have T:=Fw hA;have aa:=ax.o A T;have ai:=hE.length;have ar:1≤m:=by
     rw [← ai];cases A with
     | nil=>exact absurd rfl aa
     | cons=>simp
    obtain ⟨bs,os,rfl,b9⟩:=hE.form ar;obtain ⟨e0,ah⟩:∃e0,A[0]?=some e0:=⟨A[0]'(by omega),j' (by omega)⟩;obtain ⟨s0,q0,r0⟩:=e0;have aJ:A.length≤P.flatten.length:=by
     obtain ⟨X,Y,e⟩:=List.append_of_mem T;rw [e];simp;omega
    have bc:=HT.o;have aF:m≤1048576:=by omega
    have zb:b<wr.heap.size:=u' aN HB.o.size;have aX:K≤1048576:=by have h1:=HR.o.len;have h2:=Dw P f (B+1);omega
    obtain ⟨bb,W⟩:=aG ((oG P f (B+1)).1);have CC:=zi bs os m d A s0 q0 bb wr hE ar aF ⟨r0,ah⟩ (HN.o A T);obtain ⟨C,hC⟩:=aG (mF bb A);rw [← vp bb ah,← hC] at CC;have b3:C.length≤m:=by rw [hC,← ai];exact yF _ _
    have a8:Eq (oG P f B=(if C.isEmpty then bb else false,C++(oG P f (B+1)).2)):=by show oG P f B=_;rw [BO hA,← W,← hC]
    rw [← W];clear hA hE aa ai ah aJ W hC T HP ax HN;go_wp2_with fail
    refine CC.mono ?_;rintro e L ⟨gc,nc,cc,rfl,aj,a6⟩;have HC:Eq (ag L wr.heap.size gc nc cc C):=aj;have J:Eq (Bl w L):=HB.o.trans (a6.mono HB.o.size);have U:Eq (ag L w.heap.size g K c' (oG P f (B+1)).2):=HR.o.below a6;have ab:=aj.len;have be:nc≤1048576:=by omega
    have b5:=a6.size;have wj:IntKind.i64.wrap ((B:Int) - 1)=(B:Int) - 1:=by rw [FQ];unfold wrap64;omega
    clear CC aj a6 HB HR gA;by_cases aP:nc=0
    · have af:Eq (C.isEmpty=true):=by show C.isEmpty=true;rw [List.isEmpty_iff];exact Gk.1 (by omega)
      subst aP;go_upto_region 8 with fail
      obtain ⟨w2,u⟩:=aG (L.alloc (.cells #[] 50));have aH:w2.heap.size=L.heap.size+1:=by rw [u];simp
      have R:Eq (ag w2 w.heap.size L.heap.size 0 0 []):=by rw [u];exact nK L _ J.o.size
      have I:Bl L w2:=by rw [u];exact bZ
      have N:Eq (Bl w w2):=J.o.trans (I.mono J.o.size);have x:Eq (ag w2 wr.heap.size gc 0 cc C):=HC.o.below I;have Z:Eq (ag w2 w.heap.size g K c' (oG P f (B+1)).2):=U.o.below I;have aL:g<L.heap.size:=U.o.lt.2;have a1:Eq (∀l ∈ C,dR l):=x.o.ents;have ad:Eq (C.length=0):=x.o.len;clear I J HC U;go_wp2_with (first
       | (at_builtin;rw [← u];refine wpList_append_own_at _ rfl _ _ 28 rfl w.heap.size 50 i0 _ 5 56 Tryz.underlying28 hi a7 a5 a9 rfl (by decide) _ _ _ rfl R.o.owns ⟨gc,0,none⟩ 0 cc (aC C) rfl (by rw [aV,x.o.len]) (i8 x.o.entsAt) (aO _) (by unfold maxLen;omega) (by omega) N.o.size ?_;intro v3 w3 D r F a3;obtain ⟨g3,ay,aR,rfl,H,O,Q⟩:=DZ R.o Z.o N.o (by omega) D r F;clear D r F a3 u x R Z N)
       | (at_builtin;refine wpList_append_own_at _ rfl _ _ 28 rfl w.heap.size 50 i0 _ 5 56 Tryz.underlying28 hi a7 a5 a9 rfl (by decide) _ _ _ rfl Q.o ⟨g,0,none⟩ K c' (aC (oG P f (B+1)).2) rfl (by rw [aV,H.o.len]) (i8 H.o.entsAt) (aO _) (by unfold maxLen;omega) (by omega) O.o.size ?_;intro v4 w4 E t y a0;obtain ⟨g4,a2,rfl,a4,ak⟩:=DY Q.o H.o O.o a1.o ad.o E t y;clear E t y a0 H O Q a1))
      rw [FG] at a4;go_roundw
      case rel=>exact ⟨B,K,g4,a2,(B:Int) - 1,by omega,rfl,by go_num,by rw [a8.o];rw [af.o];rfl,rfl,by rw [a8.o];exact a4.o,ak.o⟩
      case measure=>simp [intOf] <;> omega
    · have af:Eq (C.isEmpty=false):=by
       show C.isEmpty=false
       cases hC:C with
       | nil=>rw [hC] at ab;simp at ab;omega
       | cons=>rfl
      have aU:(0:Int)<(nc:Int):=by omega
      go_upto_region 8 with fail
      obtain ⟨w2,u⟩:=aG (L.alloc (.cells #[] 50));have aH:w2.heap.size=L.heap.size+1:=by rw [u];simp
      have R:Eq (ag w2 w.heap.size L.heap.size 0 0 []):=by rw [u];exact nK L _ J.o.size
      have I:Bl L w2:=by rw [u];exact bZ
      have N:Eq (Bl w w2):=J.o.trans (I.mono J.o.size);have x:Eq (ag w2 wr.heap.size gc nc cc C):=HC.o.below I;have Z:Eq (ag w2 w.heap.size g K c' (oG P f (B+1)).2):=U.o.below I;have aL:g<L.heap.size:=U.o.lt.2;have a1:Eq (∀l ∈ C,dR l):=x.o.ents;have ad:Eq (C.length=nc):=x.o.len;clear I J HC U;go_wp2_with (first
       | (at_builtin;rw [← u];refine wpList_append_own_at _ rfl _ _ 28 rfl w.heap.size 50 i0 _ 5 56 Tryz.underlying28 hi a7 a5 a9 rfl (by decide) _ _ _ rfl R.o.owns ⟨gc,0,none⟩ nc cc (aC C) rfl (by rw [aV,x.o.len]) (i8 x.o.entsAt) (aO _) (by unfold maxLen;omega) (by omega) N.o.size ?_;intro v3 w3 D r F a3;obtain ⟨g3,ay,aR,rfl,H,O,Q⟩:=DZ R.o Z.o N.o (by omega) D r F;clear D r F a3 u x R Z N)
       | (at_builtin;refine wpList_append_own_at _ rfl _ _ 28 rfl w.heap.size 50 i0 _ 5 56 Tryz.underlying28 hi a7 a5 a9 rfl (by decide) _ _ _ rfl Q.o ⟨g,0,none⟩ K c' (aC (oG P f (B+1)).2) rfl (by rw [aV,H.o.len]) (i8 H.o.entsAt) (aO _) (by unfold maxLen;omega) (by omega) O.o.size ?_;intro v4 w4 E t y a0;obtain ⟨g4,a2,rfl,a4,ak⟩:=DY Q.o H.o O.o a1.o ad.o E t y;clear E t y a0 H O Q a1))
      go_roundw
      case rel=>exact ⟨B,nc+K,g4,a2,(B:Int) - 1,by omega,rfl,by go_num,by rw [a8.o];rw [af.o];rfl,rfl,by rw [a8.o];exact a4.o,ak.o⟩
      case measure=>simp [intOf] <;> omega
end Go.Proofs.YtpobkmjicbobdaaGreat
namespace Go.Proofs.YtpobkmjicbobdaaGreat
open Go.RowKit
set_option maxRecDepth 100000
set_option maxHeartbeats 4000000
theorem oc (r:ae→ae→Bool) (L:List ae):(Sq.parts r L).length≤L.length:=by
 have key:∀P:List (List ae),(∀c ∈ P,c≠[])→P.length≤P.flatten.length:=by
  intro P;induction P with
  | nil=>intro _;exact Fv _
  | cons c P b =>
   intro h;have h1:=b (fun x hx=>h x (FY _ hx));have h2:1≤c.length:=by
    cases c with
    | nil=>exact absurd rfl (h [] FV)
    | cons=>simp
   rw [F5,GA,Fy];omega
 have:=key _ (kF r L);rwa [Sq.parts_flat] at this
theorem Ah {L:List ae} {P:List (List ae)} {i:Nat} (h:Sq.parts fp L=P++Sq.parts fp (L.drop i)) (S:List Int) (b:Bool):(P.flatMap (eZ S b)).length≤L.length:=by
 have h1:=qn S b P;have h2:=Sq.parts_flat fp L;rw [h,GT] at h2;have h3:=congrArg List.length h2;rw [Fy] at h3;omega
theorem D0 {w o f:World} {base g n c s e c3:Nat} {R C:List ae} {v4:Value} (hO:ag o w.heap.size g n c R) (hC:ag o base s e c3 C) (hB:Bl w o)
 (hown:f.ownsRow w.heap.size 50 5 v4 (n+e) (aC R++aC C)) (hgrow:o.grownBy f (sL g n c).ownBlock) (hnil:v4=nZ ↔ sL g n c=nZ∧e=0) :
 ∃m b,v4=sL m (n+e) b∧Eq (ag f w.heap.size m (n+e) b (R++C))∧Eq (Bl w f):=by
 obtain ⟨m,b,rfl⟩:∃g d,v4=sL g (n+e) d:=by
  rcases hown.2 with ⟨hv,h0⟩ | ⟨g,d,r,hv,_⟩
  · have:=(hnil.1 hv).1;cases this
  · exact ⟨g,d,hv⟩
 refine ⟨m,b,rfl,⟨by rw [aL];exact hown,by rw [Fy,hO.len,hC.len],fun l hl=>?_⟩,hB.grown hgrow hB.size (fun q hq=>(hO.owns.lt q hq).1)⟩;rcases FI.1 hl with h | h
 · exact hO.ents l h
 · exact hC.ents l h
theorem lq (lo:Nat) (al:Option Addr) (n c:Nat) (L:List ae) (a:Option Addr) (m d:Nat) (S:List Int) (f:Bool) (w:World) (hL:ah w al n c L) (hS:b6 lo w a m d S) (hn:n≤1048576) :
 Calls Tryz.prog 174 #[.slice al n c,.slice a m d,.bool f] w fun e w'=>∃g F c',e=.returned (sL g F c')∧ag w' w.heap.size g F c' (bU L S f)∧Bl w w':=by
 have u:Eq (L.length=n):=hL.length;have hroom:=hL.room;have hbig:=hL.big;unfold maxLen at hbig;have HL:=bT hL;have HS:=bT hS;obtain ⟨w0,a7⟩:=aG (w.alloc (.cells #[] 50));have a8:Bl w w0:=by rw [a7];exact bZ
 have aT:Eq (ag w0 w.heap.size w.heap.size 0 0 []):=by rw [a7];exact nK w _ (Fv _)
 have CR:=ke al n c L w0 (hL.keep a8);obtain ⟨i0,hi,aR,aQ,b0⟩:=info_parts Tryz.infoEnt;clear hL hS;go_enter Tryz.func174,Tryz.ntmps174
 go_wp2_with fail
 rw [← a7];refine CR.mono ?_;rintro e w1 ⟨rfl,ap⟩;have ao:Eq (Bl w w1):=a8.trans (ap.mono a8.size);have D:Eq (ag w1 w.heap.size w.heap.size 0 0 []):=aT.o.below ap;clear CR ap a8 aT a7;cases hR:aJ L with
 | false =>
  have HQ:Eq (bU L S f=[]):=by show bU L S f=[];unfold bU;rw [hR];rfl
  go_wp2;go_ret;exact ⟨w.heap.size,0,0,rfl,by rw [HQ.o];exact D.o,ao.o⟩
 | true =>
  have HQ:Eq (bU L S f=(Sq.parts fp L).flatMap (eZ S f)):=by show bU L S f=_;unfold bU;rw [if_pos hR]
  have aF:Eq (∀e ∈ L,-1000000≤e.2.2.2.2∧e.2.2.2.2≤1000000):=fun e he=>(wG hR e he).1
  clear hR;go_wp2;go_loopw [7,8] (fun o iv wr=>∃(i F g c':Nat) (P:List (List ae)),i≤n∧iv=iT i∧o=sL g F c'∧ag wr w.heap.size g F c' (P.flatMap (eZ S f))∧Bl w wr∧Sq.parts fp L=P++Sq.parts fp (L.drop i)) (fun _ iv _=>n - (intOf iv).toNat)
  case atStart=>exact ⟨0,0,w.heap.size,0,[],FB _,rfl,rfl,D.o,ao.o,rfl⟩
  case round =>
   obtain ⟨i,F,g,c',P,bq,rfl,rfl,hO,hb,hcut⟩:=hrel;have HO:Eq (ag wr w.heap.size g F c' (P.flatMap (eZ S f))):=hO;have T:Eq (Bl w wr):=hb;have W:Eq (Sq.parts fp L=P++Sq.parts fp (L.drop i)):=hcut;have bw:F≤n:=by have h1:=hO.len;have h2:=Ah hcut S f;have h3:=u.o;omega
   clear hO hb hcut D ao;by_cases aL:i<n
   · have aH:(i:Int)<(n:Int):=by omega
     obtain ⟨b,ai,rfl,a9⟩:=HL.o.form (by omega);obtain ⟨si,qi,di,ti,ni,aA,_,_,_⟩:=HL.o.ent T.o a9 i aL;have az:Eq (L[i]?=some (si,qi,di,ti,ni)):=aA;clear aA;obtain ⟨wo,b2⟩:=aG wr;subst b2;go_wp2;go_loopw [9] (fun kv wq=>∃k:Nat,i<k∧k≤n∧kv=iT k∧Bl wo wq∧(∀j,i≤j→j<k→∀x,L[j]?=some x→x.1=si)) (fun kv _=>n - (intOf kv).toNat)
     case atStart=>exact ⟨i+1,by omega,by omega,by go_num,Below.refl _ _,fun j h1 h2 x hx=>by
      have:j=i:=by omega
      subst this;rw [az.o] at hx;cases hx;rfl⟩
     case round =>
      obtain ⟨k,aD,aM,rfl,af,a4⟩:=hrel;have a6:Eq (∀j,i≤j→j<k→∀x,L[j]?=some x→x.1=si):=a4;have HB:Eq (Bl w wr):=T.o.trans (af.mono T.o.size);have ad:Eq (Bl wo wr):=af;have a3:Eq (∀j,i<j→j<k→∀x y,L[j - 1]?=some x→L[j]?=some y→fp x y=true):=fun j h1 h2 x y hx hy=>by
       show decide (x.1=y.1)=true
       rw [a4 (j - 1) (by omega) (by omega) x hx,a4 j (by omega) h2 y hy];simp
      clear a4;have zb:b<wr.heap.size:=u' a9 HB.o.size;have k0:Bl wr wr.drew:=(Below.refl _ wr).drew;have r:Eq (Bl w wr.drew):=HB.o.trans (k0.mono HB.o.size);have Y:Eq (Bl wo wr.drew):=ad.o.trans (k0.mono ad.o.size);by_cases b9:k<n
      · have aX:(k:Int)<(n:Int):=by omega
        obtain ⟨s,q,dd,tt,nn,hx,_,g0,_⟩:=HL.o.ent HB.o a9 k b9;obtain ⟨s2,q2,bu,bp,bs,aS,_,e0,_⟩:=HL.o.ent HB.o a9 i aL;rw [az.o] at aS;cases aS;have HX:Eq (L[k]?=some (s,q,dd,tt,nn)):=hx;have R:Eq (∀w',Bl wr w'→(w'.cell? ⟨b,ai+k*5,none⟩=some (.string s)∧w'.cell? ⟨b,ai+i*5,none⟩=some (.string si)∧b<w'.heap.size)):=fun w' kk=>⟨cell_later kk g0,cell_later kk e0,u' zb kk.size⟩
        clear hx g0 e0 af;by_cases a5:s=si
        · subst a5;go_wp2_with fail
          refine eJ R k0 fun ac=>?_
          refine aP 0 17 ac ?_;refine dN ?_;clear k0 R ac;go_wp2;go_roundw
          case rel =>
           refine ⟨k+1,by omega,by omega,by go_num,Y.o,fun j h1 h2 x hx=>?_⟩;by_cases hj:j<k
           · exact a6.o j h1 hj x hx
           · have:j=k:=by omega
             subst this;rw [HX.o] at hx;cases hx;rfl
          case measure=>simp [intOf];omega
        · have aW:¬s.toList=si.toList:=by
           rw [F1,F1];intro h;exact a5 (GX (GS.1 h))
          have aY:(s.toList == si.toList)=false:=by simpa using aW
          have U:Eq (Sq.parts fp (L.drop i)=(L.drop i).take (k - i) :: Sq.parts fp (L.drop k)):=Sq.parts_front _ L i k aD (by rw [u.o];omega) a3.o (fun x y hx hy=>by
           rw [HX.o] at hy;cases hy;show decide (x.1=s)=false
           rw [a6.o (k - 1) (by omega) (by omega) x hx];exact decide_eq_false (fun h=>a5 h.symm))
          clear a5;go_wp2_with fail
          refine eJ R k0 fun ac=>?_
          refine aP 0 17 ac ?_;refine dN ?_;clear k0 R ac a6 a3 HX aW aY;have D:Eq (ag wr.drew w.heap.size g F c' (P.flatMap (eZ S f))):=HO.o.below Y.o;obtain ⟨w1,a1⟩:=aG wr.drew;rw [← a1] at r D ⊢;have ar:=r.o.size;clear HB ad HO Y T a1;have b8:(0:Int)≤(i:Int):=by omega
          have aI:(i:Int)≤(k:Int):=by omega
          have aZ:(k:Int)≤(c:Int):=by omega
          have b4:¬c - i=0:=by omega
          obtain ⟨G,hG⟩:=aG ((L.drop i).take (k - i));have ba:G.length=k - i:=by rw [hG,FC,FN,u.o];omega
          have aw:Eq (∀e ∈ G,e ∈ L):=fun e he=>by rw [hG] at he;exact Gf (F9 he)
          have CK:=nV lo b (ai+i*5) (k - i) (c - i) G a m d S w1 (by rw [hG];exact (HL.o.keep r.o).sub (by omega) aM) (HS.o.keep r.o) (by omega) (by omega);rw [← hG] at U;clear hG;go_wp2_with fail
          refine CK.mono ?_;rintro e w2 ⟨g2,n2,c2,rfl,N,Q⟩;have CF:=us (pT g2) n2 c2 (Sq.parts (gV S) G) f w2 N (kF _ _) (by rw [Sq.parts_flat];omega) (by have h1:=N.length;have h2:=oc (gV S) G;omega) (fun A hA e he=>aF.o e (aw.o e ((iM _ _ A hA).2 e he)));have J:Eq (Bl w w2):=r.o.trans (Q.mono r.o.size);have X:Eq (ag w2 w.heap.size g F c' (P.flatMap (eZ S f))):=D.o.below Q;clear CK N Q r D ar;go_wp2_with fail
          refine CF.mono ?_;rintro e w3 ⟨g3,n3,c3,rfl,O,H⟩;have E:Eq (ag w3 w2.heap.size g3 n3 c3 (eZ S f G)):=O;have K:Eq (Bl w w3):=J.o.trans (H.mono J.o.size);have I:Eq (ag w3 w.heap.size g F c' (P.flatMap (eZ S f))):=X.o.below H;have b5:n3≤k - i:=by have h1:=O.len;have h2:=mY S f G;unfold eZ at h2;omega
          clear CF O H J X;go_wp2_with (at_builtin;refine wpList_append_own_at _ rfl _ _ 28 rfl w.heap.size 50 i0 _ 5 56 Tryz.underlying28 hi aR aQ b0 rfl (by decide) _ _ _ rfl I.o.owns ⟨g3,0,none⟩ n3 c3 (aC (eZ S f G)) rfl (by rw [aV,E.o.len]) (i8 E.o.entsAt) (aO _) (by unfold maxLen;omega) (by omega) K.o.size ?_;intro v4 w4 C t B Z;obtain ⟨g4,a0,rfl,an,au⟩:=D0 I.o E.o K.o C t B;clear C t B Z I E K)
          go_roundw
          case rel=>exact ⟨k,F+n3,g4,a0,P++[G],by omega,rfl,rfl,by rw [List.flatMap_append];simpa using an.o,au.o,by rw [W.o,U.o];simp⟩
          case measure=>simp [intOf];omega
      · have aX:¬(k:Int)<(n:Int):=by omega
        have bb:k=n:=by omega
        subst bb;have R:Eq (∀w',Bl wr w'→(b<w'.heap.size)):=fun w' kk=>u' zb kk.size
        have U:Eq (Sq.parts fp (L.drop i)=(L.drop i).take (k - i) :: Sq.parts fp (L.drop k)):=Sq.parts_front _ L i k aD (by rw [u.o];omega) a3.o (fun x y hx hy=>by rw [Hd (by rw [u.o];omega)] at hy;cases hy);clear af;go_wp2_with fail
        refine eJ R k0 fun ac=>?_
        refine aP 0 17 ac ?_;refine dN ?_;clear R ac k0 a6 a3;have D:Eq (ag wr.drew w.heap.size g F c' (P.flatMap (eZ S f))):=HO.o.below Y.o;obtain ⟨w1,a1⟩:=aG wr.drew;rw [← a1] at r D ⊢;have ar:=r.o.size;clear HB ad HO Y T a1;have b8:(0:Int)≤(i:Int):=by omega
        have aI:(i:Int)≤(k:Int):=by omega
        have aZ:(k:Int)≤(c:Int):=by omega
        have b4:¬c - i=0:=by omega
        obtain ⟨G,hG⟩:=aG ((L.drop i).take (k - i));have ba:G.length=k - i:=by rw [hG,FC,FN,u.o];omega
        have aw:Eq (∀e ∈ G,e ∈ L):=fun e he=>by rw [hG] at he;exact Gf (F9 he)
        have CK:=nV lo b (ai+i*5) (k - i) (c - i) G a m d S w1 (by rw [hG];exact (HL.o.keep r.o).sub (by omega) aM) (HS.o.keep r.o) (by omega) (by omega);rw [← hG] at U;clear hG;go_wp2_with fail
        refine CK.mono ?_;rintro e w2 ⟨g2,n2,c2,rfl,N,Q⟩;have CF:=us (pT g2) n2 c2 (Sq.parts (gV S) G) f w2 N (kF _ _) (by rw [Sq.parts_flat];omega) (by have h1:=N.length;have h2:=oc (gV S) G;omega) (fun A hA e he=>aF.o e (aw.o e ((iM _ _ A hA).2 e he)));have J:Eq (Bl w w2):=r.o.trans (Q.mono r.o.size);have X:Eq (ag w2 w.heap.size g F c' (P.flatMap (eZ S f))):=D.o.below Q;clear CK N Q r D ar;go_wp2_with fail
        refine CF.mono ?_;rintro e w3 ⟨g3,n3,c3,rfl,O,H⟩;have E:Eq (ag w3 w2.heap.size g3 n3 c3 (eZ S f G)):=O;have K:Eq (Bl w w3):=J.o.trans (H.mono J.o.size);have I:Eq (ag w3 w.heap.size g F c' (P.flatMap (eZ S f))):=X.o.below H;have b5:n3≤k - i:=by have h1:=O.len;have h2:=mY S f G;unfold eZ at h2;omega
        clear CF O H J X;go_wp2_with (at_builtin;refine wpList_append_own_at _ rfl _ _ 28 rfl w.heap.size 50 i0 _ 5 56 Tryz.underlying28 hi aR aQ b0 rfl (by decide) _ _ _ rfl I.o.owns ⟨g3,0,none⟩ n3 c3 (aC (eZ S f G)) rfl (by rw [aV,E.o.len]) (i8 E.o.entsAt) (aO _) (by unfold maxLen;omega) (by omega) K.o.size ?_;intro v4 w4 C t B Z;obtain ⟨g4,a0,rfl,an,au⟩:=D0 I.o E.o K.o C t B;clear C t B Z I E K)
        go_roundw
        case rel=>exact ⟨k,F+n3,g4,a0,P++[G],by omega,rfl,rfl,by rw [List.flatMap_append];simpa using an.o,au.o,by rw [W.o,U.o];simp⟩
        case measure=>simp [intOf];omega
   · have aH:¬(i:Int)<(n:Int):=by omega
     have HE:Eq (bU L S f=P.flatMap (eZ S f)):=by
      have h:=W.o;rw [Ht (by rw [u.o];omega),show Sq.parts fp []=[] from rfl,GR] at h;show bU L S f=_
      rw [HQ.o,h]
     go_wp2;go_ret;exact ⟨g,F,c',rfl,by rw [HE.o];exact HO.o,T.o⟩
end Go.Proofs.YtpobkmjicbobdaaGreat
