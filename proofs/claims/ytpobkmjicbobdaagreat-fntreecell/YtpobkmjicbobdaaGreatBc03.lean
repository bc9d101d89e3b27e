/- Walks. -/
import Derived.Deep.CutBlock
import Derived.Test.YtpobkmjicbobdaaGreatBc02
import Derived.Maps.AppendAt
namespace Go.Proofs.YtpobkmjicbobdaaGreat
set_option maxRecDepth 100000
set_option maxHeartbeats 40000000
open Go.RowKit
variable {B:List aj} {L:List ae} {P:List (List ae)} {a:Option Addr} {ap:Bool} {b base c cap g i j k n off:Nat} {most q:Int} {r:aj} {row y:Option Nat} {vs xs:List Value} {w w':World}
theorem pn (a:Option Addr) (n c:Nat) (M:List ae) (q:Int) (w:World) (h:ah w a n c M) :
 Calls Tryz.prog 88 #[.slice a n c,iT q] w fun e w'=>e=.returned (.bool (bX M q))∧w'=w:=by
 have hr:=h.room;have m:=h.big;unfold maxLen at m;have x:Eq (M.length=n):=h.length;have H:=bT h;clear h;go_enter Tryz.func88,Tryz.ntmps88
 go_wp2;go_loopw [5] (fun i wr=>∃k:Nat,k≤n∧i=iT k∧wr=w∧bX (M.take k) q=true) (fun i _=>n - (intOf i).toNat)
 case atStart=>exact ⟨0,FB _,rfl,rfl,by simp [bX]⟩
 case round =>
  obtain ⟨k,hk,rfl,rfl,hw⟩:=hrel;have D:Eq (bX (M.take k) q=true):=hw;clear hw;by_cases A:k<n
  · have F:(k:Int)<(n:Int):=by omega
    obtain ⟨b,off,rfl,u⟩:=H.o.form (by omega);obtain ⟨s,E,d,t,nn,hg,_,O,I,J,K,N⟩:=H.o.ent (Below.refl _ wr) u k A;have C:Eq (M[k]?=some (s,E,d,t,nn)):=hg;clear hg;by_cases hq:q<E
    · go_wp2;go_ret;exact ⟨aq (yP C.o (by simp only;omega)).symm,rfl⟩
    · go_wp2;go_roundw
      case rel=>exact ⟨k+1,by omega,by go_num,by first | rfl | trivial,tX D.o C.o (by simp only;omega)⟩
      case measure=>simp [intOf];omega
  · go_wp2;go_ret;have f:=D.o;rw [FH (by rw [x.o];omega)] at f;exact ⟨aq f.symm,rfl⟩
theorem zT (Y:Nat) (a:Option Addr) (n c:Nat) (S:List Int) (q:Int) (w:World) (h:b6 Y w a n c S) :
 Calls Tryz.prog 196 #[.slice a n c,iT q] w fun e w'=>e=.returned (.bool (cC S q))∧w'=w:=by
 have hr:=h.room;have J:=h.big;unfold maxLen at J;have d:Eq (S.length=n):=h.length;have H:=bT h;clear h;by_cases hm:4<n
 · go_enter Tryz.func196,Tryz.ntmps196
   go_wp2;go_ret;exact ⟨aq (wh (by rw [d.o];exact hm)).symm,rfl⟩
 go_enter Tryz.func196,Tryz.ntmps196
 go_wp2;go_loopw [12] (fun i wr=>∃k:Nat,k≤n∧i=iT k∧wr=w∧ju S q k) (fun i _=>n - (intOf i).toNat)
 case atStart=>exact ⟨0,FB _,rfl,rfl,fun j U=>absurd U (Gy _)⟩
 case round =>
  obtain ⟨k,hk,rfl,rfl,hw⟩:=hrel;have N:Eq (ju S q k):=hw;clear hw;by_cases A:k<n
  · have Q:(k:Int)<(n:Int):=by omega
    have u:k<S.length:=by rw [d.o];exact A
    have m:Eq (k<S.length):=u;clear u;obtain ⟨b,off,rfl,W⟩:=H.o.form (by omega);obtain ⟨s,hg,_,Z⟩:=H.o.num (Below.refl _ wr) k A;have D:Eq (S[k]?=some s):=hg;clear hg;by_cases O:s<0
    · go_wp2;go_ret;exact ⟨aq (iL m.o (uA D.o O)).symm,rfl⟩
    by_cases E:q<s
    · go_wp2;go_ret;exact ⟨aq (iL m.o (rL D.o E)).symm,rfl⟩
    by_cases K:k=0
    · subst K;simp only [Gv] at Z;have x:Eq (cV S q 0=true):=by show cV S q 0=true;rw [mO D.o,decide_eq_true (show 0≤s by omega),decide_eq_true (show s≤q by omega)];rfl
      go_wp2;go_roundw
      case rel=>exact ⟨0+1,by omega,by go_num,by first | rfl | trivial,ja N.o x.o⟩
      case measure=>simp [intOf];omega
    · have T:(0:Int)<(k:Int):=by omega
      have R:(0:Int)≤(k:Int) - 1:=by omega
      have X:(k:Int) - 1<(n:Int):=by omega
      have F:((k:Int) - 1).toNat=k - 1:=by omega
      have wj:IntKind.i64.wrap ((k:Int) - 1)=(k:Int) - 1:=by rw [FQ];unfold wrap64;omega
      obtain ⟨p,hp,_,e0⟩:=H.o.num (Below.refl _ wr) (k - 1) (by omega);obtain ⟨j,rfl⟩:∃j,k=j+1:=⟨k - 1,by omega⟩;simp only [GG] at hp e0 F;have C:=ki (q:=q) D.o hp;have f:Eq (cV S q (j+1)=(decide (0≤s) && (decide (s≤q) && decide (p<s)))):=C;clear hp C;by_cases t:p<s
      · have x:Eq (cV S q (j+1)=true):=by show cV S q (j+1)=true;rw [f.o,decide_eq_true (show 0≤s by omega),decide_eq_true (show s≤q by omega),decide_eq_true t];rfl
        go_wp2;go_roundw
        case rel=>exact ⟨j+1+1,by omega,by go_num,by first | rfl | trivial,ja N.o x.o⟩
        case measure=>simp [intOf];omega
      · have x:Eq (cV S q (j+1)=false):=by show cV S q (j+1)=false;rw [f.o,decide_eq_false t];simp
        go_wp2;go_ret;exact ⟨aq (iL m.o x.o).symm,rfl⟩
  · go_wp2;go_ret;refine ⟨aq ?_,rfl⟩;have I:k=S.length:=by rw [d.o];omega
    have hw:=N.o;rw [I] at hw;rw [rK hw,decide_eq_true (by rw [d.o];omega)]
theorem x6 (m:Int) (b off n c:Nat) (L:List ae) (w:World) (h:ah w (some ⟨b,off,none⟩) n c L) (e:ae) (h0:L[0]?=some e) :
 Calls Tryz.prog 147 #[.agg #[sO b off n c,iT m]] w fun r w'=>r=.returned (.string e.1)∧Bl w w':=by
 have hl:=(E'.1 h0).1;rw [h.length] at hl;have u:(0:Int)<(n:Int):=by omega
 have o:Bl w (w.alloc (.cells #[sO b off n c,iT m] 63)):=bZ;have f:=(h.lies _ rfl hl).1;simp only at f;obtain ⟨s,q,d,t,nn,hg,_,x,_⟩:=h.ent (Below.refl _ w) f 0 hl;rw [h0] at hg;cases hg;simp only [G4,Gv] at x;clear h h0;go_enter Tryz.func147,Tryz.ntmps147
 go_wp2;go_ret;exact ⟨rfl,o⟩
theorem ut (m:Int) (b off n c:Nat) (L:List ae) (w:World) (h:ah w (some ⟨b,off,none⟩) n c L) (e:ae) (h0:L[n - 1]?=some e) (hn:1≤n) :
 Calls Tryz.prog 146 #[.agg #[sO b off n c,iT m]] w fun r w'=>r=.returned (.string e.1)∧Bl w w':=by
 have hr:=h.room;have o:=h.big;unfold maxLen at o;have u:(0:Int)≤(n:Int) - 1:=by omega
 have A:(n:Int) - 1<(n:Int):=by omega
 have x:((n:Int) - 1).toNat=n - 1:=by omega
 have D:IntKind.i64.wrap ((n:Int) - 1)=(n:Int) - 1:=by rw [FQ];unfold wrap64;omega
 have C:Bl w (w.alloc (.cells #[sO b off n c,iT m] 63)):=bZ;have f:=(h.lies _ rfl (by omega)).1;simp only at f;obtain ⟨s,q,d,t,nn,hg,_,E,_⟩:=h.ent (Below.refl _ w) f (n - 1) (by omega);rw [h0] at hg;cases hg;clear h h0;go_enter Tryz.func146,Tryz.ntmps146
 go_wp2;go_ret;exact ⟨rfl,C⟩
theorem zU (m:Int) (a:Option Addr) (n c:Nat) (L:List ae) (w:World) (h:ah w a n c L) :
 Calls Tryz.prog 233 #[.agg #[.slice a n c,iT m]] w fun r w'=>r=.returned (.bool (!cF L m))∧Bl w w':=by
 have f:Bl w (w.alloc (.cells #[.slice a n c,iT m] 63)):=bZ;go_enter Tryz.func233,Tryz.ntmps233
 go_wp2_with fail
 refine (sj _ _ _ L m _ (h.keep f)).mono ?_;rintro e o ⟨rfl,d⟩;go_wp2;go_ret;exact ⟨rfl,f.trans (d.mono f.size)⟩
theorem zd (q:Int) (lo:Nat) (v0 v1:Value) (a:Option Addr) (n c:Nat) (S:List Int) (w:World) (h:b6 lo w a n c S) :
 Calls Tryz.prog 89 #[.agg #[iT q,v0,v1,.slice a n c]] w fun e w'=>e=.returned (.bool (cC S q))∧Bl w w':=by
 have hr:=h.room;have a7:=h.big;unfold maxLen at a7;have E:Eq (S.length=n):=h.length;obtain ⟨X,hX⟩:=aG w.heap.size;obtain ⟨W,O⟩:=aG (w.alloc (.cells #[iT q,v0,v1,.slice a n c] 31));have kW:Bl w W:=by rw [O];exact bZ
 have x0:W.cell? ⟨X,0,none⟩=some (iT q):=by rw [O,hX];simp
 have x3:W.cell? ⟨X,3,none⟩=some (.slice a n c):=by rw [O,hX];simp
 have H:Eq (b6 lo W a n c S):=h.keep kW;have KW:Eq (Bl w W):=kW;have zx:=Fu _ _ x0;simp only at zx;have HP:Eq (∀e w',(e=Ending.returned (.bool (cC S q))∧Bl W w')→e=Ending.returned (.bool (cC S q))∧Bl w w'):=fun e w' hh=>⟨hh.1,KW.o.trans (hh.2.mono KW.o.size)⟩
 clear h kW;go_enter Tryz.func89,Tryz.ntmps89
 go_upto_block 0 with fail
 rw [← hX,← O];clear hX O;go_wp2;go_loopw [3] (fun i wr=>∃k:Nat,k≤n∧i=iT k∧Bl W wr∧ju S q k) (fun i _=>n - (intOf i).toNat)
 case atStart=>exact ⟨0,FB _,rfl,Below.refl _ _,fun j hj=>absurd hj (Gy _)⟩
 case round =>
  obtain ⟨k,hk,rfl,hb,hw⟩:=hrel;have HW:Eq (ju S q k):=hw;have HB:Eq (Bl W wr):=hb;have y0:=cell_later hb x0;have y3:=cell_later hb x3;have zy:=Fu _ _ y0;simp only at zy;clear hw;by_cases Z:k<n
  · have R:(k:Int)<(n:Int):=by omega
    have U:k<S.length:=by rw [E.o];exact Z
    have D:Eq (k<S.length):=U;clear U;obtain ⟨b,off,rfl,aa⟩:=H.o.form (by omega);obtain ⟨s,hg,_,g0⟩:=H.o.num hb k Z;have HG:Eq (S[k]?=some s):=hg;have zb:=u' aa hb.size;have u:Bl wr wr.drew:=(Below.refl _ wr).drew;have d:Eq (∀w',Bl wr w'→(w'.cell? ⟨X,0,none⟩=some (iT q)∧w'.cell? ⟨X,3,none⟩=some (sO b off n c)∧X<w'.heap.size∧w'.cell? ⟨b,off+k,none⟩=some (iT s)∧b<w'.heap.size)):=fun w' m=>⟨cell_later m y0,cell_later m y3,u' zy m.size,cell_later m g0,u' zb m.size⟩
    have N:Eq (Bl W wr.drew):=HB.o.trans (u.mono HB.o.size);clear hg hb;by_cases F:s<0
    · have Q:decide (s<0)=true:=decide_eq_true F;go_wp2_with fail
      refine eJ d u fun f=>?_
      refine aP 0 34 f ?_;refine dN ?_;clear u d f;go_wp2;go_ret;exact HP.o _ _ ⟨aq (iL D.o (uA HG.o F)).symm,N.o⟩
    have Q:decide (s<0)=false:=decide_eq_false F;by_cases C:q<s
    · have J:decide (q<s)=true:=decide_eq_true C;go_wp2_with fail
      refine eJ d u fun f=>?_
      refine aP 0 34 f ?_;refine dN ?_;clear u d f;go_wp2;go_ret;exact HP.o _ _ ⟨aq (iL D.o (rL HG.o C)).symm,N.o⟩
    have J:decide (q<s)=false:=decide_eq_false C;by_cases a9:k=0
    · subst a9;simp only [Gv] at g0 d;have Y:Eq (cV S q 0=true):=by show cV S q 0=true;rw [mO HG.o,decide_eq_true (show 0≤s by omega),decide_eq_true (show s≤q by omega)];rfl
      go_wp2_with fail
      refine eJ d u fun f=>?_
      refine aP 0 34 f ?_;refine dN ?_;clear u d f;go_wp2;go_roundw
      case rel=>exact ⟨0+1,by omega,by go_num,N.o,ja HW.o Y.o⟩
      case measure=>simp [intOf];omega
    · have au:(0:Int)<(k:Int):=by omega
      have I:0<k:=by omega
      have ak:decide (0<k)=true:=decide_eq_true I;have am:(0:Int)≤(k:Int) - 1:=by omega
      have an:(k:Int) - 1<(n:Int):=by omega
      have ao:(1:Int)≤(k:Int):=by omega
      have al:((k:Int) - 1).toNat=k - 1:=by omega
      have wj:IntKind.i64.wrap ((k:Int) - 1)=(k:Int) - 1:=by rw [FQ];unfold wrap64;omega
      obtain ⟨p,hp,_,e0⟩:=H.o.num HB.o (k - 1) (by omega);have x:Eq (∀w',Bl wr w'→(w'.cell? ⟨X,0,none⟩=some (iT q)∧w'.cell? ⟨X,3,none⟩=some (sO b off n c)∧X<w'.heap.size∧w'.cell? ⟨b,off+k,none⟩=some (iT s)∧b<w'.heap.size∧w'.cell? ⟨b,off+(k - 1),none⟩=some (iT p))):=fun w' m=>⟨cell_later m y0,cell_later m y3,u' zy m.size,cell_later m g0,u' zb m.size,cell_later m e0⟩
      have a0:Eq (cV S q k=(decide (0≤s) && (decide (s≤q) && decide (p<s)))):=by
       obtain ⟨j,rfl⟩:∃j,k=j+1:=⟨k - 1,by omega⟩;exact ki HG.o hp
      clear hp d;by_cases K:p<s
      · have Y:Eq (cV S q k=true):=by show cV S q k=true;rw [a0.o,decide_eq_true (show 0≤s by omega),decide_eq_true (show s≤q by omega),decide_eq_true K];rfl
        have t:¬s≤p:=by omega
        have T:decide (s≤p)=false:=decide_eq_false t;go_wp2_with fail
        refine eJ x u fun f=>?_
        refine aP 0 34 f ?_;refine dN ?_;clear u x f;go_wp2;go_roundw
        case rel=>exact ⟨k+1,by omega,by go_num,N.o,ja HW.o Y.o⟩
        case measure=>simp [intOf];omega
      · have Y:Eq (cV S q k=false):=by show cV S q k=false;rw [a0.o,decide_eq_false K];simp
        have t:s≤p:=by omega
        have T:decide (s≤p)=true:=decide_eq_true t;go_wp2_with fail
        refine eJ x u fun f=>?_
        refine aP 0 34 f ?_;refine dN ?_;clear u x f;go_wp2;go_ret;exact HP.o _ _ ⟨aq (iL D.o Y.o).symm,N.o⟩
  · have R:¬(k:Int)<(n:Int):=by omega
    have A:cC S q=decide ((n:Int)≤4):=by
     have a5:k=S.length:=by rw [E.o];omega
     have hw:=HW.o;rw [a5] at hw;rw [rK hw,E.o];by_cases h4:n≤4
     · rw [decide_eq_true h4,decide_eq_true (by omega)]
     · rw [decide_eq_false h4,decide_eq_false (by omega)]
    have a8:Eq (cC S q=decide ((n:Int)≤4)):=A;clear A;go_wp2;go_ret;exact HP.o _ _ ⟨aq a8.o.symm,HB.o⟩
def fP (x y:ae):Bool:=decide (x.1=y.1) && decide (x.2.1≤y.2.1)
def jt (A B:List ae):Bool:=A.all (fun x=>B.all (fun y=>!fP x y))
theorem qJ {α:Type} {L:List α} {f:α→Bool} {e:α} (h:(L.take k).all f=true) (hk:L[k]?=some e) (d:f e=true):(L.take (k+1)).all f=true:=by
 rw [FU,hk];simp [List.all_append,h,d]
theorem C4 {α:Type} {L:List α} {f:α→Bool} {e:α} (hk:L[k]?=some e) (d:f e=false):L.all f=false:=by
 rw [GU];intro h;rw [FZ] at h;rw [h e (Fw hk)] at d;cases d
theorem zm (a1 a2:Option Addr) (E c1 n2 c2:Nat) (A B:List ae) (w:World) (h1:ah w a1 E c1 A) (h2:ah w a2 n2 c2 B) :
 Calls Tryz.prog 148 #[.slice a1 E c1,.slice a2 n2 c2] w fun e w'=>e=.returned (.bool (jt A B))∧Bl w w':=by
 have a9:Eq (A.length=E):=h1.length;have aa:Eq (B.length=n2):=h2.length;have aw:=h1.room;have a7:=h1.big;have au:=h2.room;have af:=h2.big;unfold maxLen at a7 af;have H1:=bT h1;have H2:=bT h2;clear h1 h2;go_enter Tryz.func148,Tryz.ntmps148
 go_wp2;go_loopw [5] (fun iv wr=>∃i:Nat,i≤E∧iv=iT i∧Bl w wr∧(A.take i).all (fun x=>B.all (fun y=>!fP x y))=true) (fun iv _=>E - (intOf iv).toNat)
 case atStart=>exact ⟨0,FB _,rfl,Below.refl _ _,by simp⟩
 case round =>
  obtain ⟨i,hi,rfl,hb,hw⟩:=hrel;have HW:Eq ((A.take i).all (fun x=>B.all (fun y=>!fP x y))=true):=hw;have HB:Eq (Bl w wr):=hb;clear hw;by_cases W:i<E
  · have U:(i:Int)<(E:Int):=by omega
    obtain ⟨b1,o1,rfl,J⟩:=H1.o.form (by omega);obtain ⟨s,q,d,t,nn,hg,_,_⟩:=H1.o.ent hb J i W;have HG:Eq (A[i]?=some (s,q,d,t,nn)):=hg;clear hg hb;go_wp2;go_loopw [6] (fun kv wq=>∃k:Nat,k≤n2∧kv=iT k∧Bl w wq∧(B.take k).all (fun y=>!fP (s,q,d,t,nn) y)=true) (fun kv _=>n2 - (intOf kv).toNat)
    case atStart=>exact ⟨0,FB _,rfl,HB.o,by simp⟩
    case round =>
     obtain ⟨k,hk,rfl,m,Y⟩:=hrel;have N:Eq ((B.take k).all (fun y=>!fP (s,q,d,t,nn) y)=true):=Y;have I:Eq (Bl w wr):=m;clear Y;by_cases a3:k<n2
     · have R:(k:Int)<(n2:Int):=by omega
       obtain ⟨b2,o2,rfl,T⟩:=H2.o.form (by omega);obtain ⟨s1,q1,d1,t1,ar,X,_,g0,g1,_⟩:=H1.o.ent m J i W;rw [HG.o] at X;cases X;obtain ⟨O,F,d',Z,D,hF,_,e0,e1,_⟩:=H2.o.ent m T k a3;have HF:Eq (B[k]?=some (O,F,d',Z,D)):=hF;have z1:=u' J m.size;have z2:=u' T m.size;have K:Bl wr wr.drew:=(Below.refl _ wr).drew;have u:Eq (∀w',Bl wr w'→(w'.cell? ⟨b1,o1+i*5,none⟩=some (.string s)∧w'.cell? ⟨b1,o1+i*5+1,none⟩=some (iT q)∧b1<w'.heap.size∧w'.cell? ⟨b2,o2+k*5,none⟩=some (.string O)∧w'.cell? ⟨b2,o2+k*5+1,none⟩=some (iT F)∧b2<w'.heap.size)):=fun w' Q=>⟨cell_later Q g0,cell_later Q g1,u' z1 Q.size,cell_later Q e0,cell_later Q e1,u' z2 Q.size⟩
       have KZ:Eq (Bl w wr.drew):=I.o.trans (K.mono I.o.size);clear hF m;by_cases hs:s=O
       · subst hs;by_cases hq:q≤F
         · have a5:decide (q≤F)=true:=decide_eq_true hq;have C:Eq ((!fP (s,q,d,t,nn) (s,F,d',Z,D))=false):=by show (!fP _ _)=false;unfold fP;simp [hq]
           go_wp2_with fail
           refine eJ u K fun H=>?_
           refine aP 0 24 H ?_;refine dN ?_;clear K u H;go_wp2;go_ret;exact ⟨aq (C4 HG.o (C4 HF.o C.o)).symm,KZ.o⟩
         · have a5:decide (q≤F)=false:=decide_eq_false hq;have C:Eq ((!fP (s,q,d,t,nn) (s,F,d',Z,D))=true):=by show (!fP _ _)=true;unfold fP;simp [hq]
           go_wp2_with fail
           refine eJ u K fun H=>?_
           refine aP 0 24 H ?_;refine dN ?_;clear K u H;go_wp2;go_roundw
           case rel=>exact ⟨k+1,by omega,by go_num,KZ.o,qJ N.o HF.o C.o⟩
           case measure=>simp [intOf];omega
       · have ab:¬s.toList=O.toList:=by
          rw [F1,F1];intro h;exact hs (GX (GS.1 h))
         have al:(s.toList == O.toList)=false:=by simpa using ab
         have C:Eq ((!fP (s,q,d,t,nn) (O,F,d',Z,D))=true):=by show (!fP _ _)=true;unfold fP;simp [hs]
         clear hs;go_wp2_with fail
         refine eJ u K fun H=>?_
         refine aP 0 24 H ?_;refine dN ?_;clear K u H;go_wp2;go_roundw
         case rel=>exact ⟨k+1,by omega,by go_num,KZ.o,qJ N.o HF.o C.o⟩
         case measure=>simp [intOf];omega
     · have R:¬(k:Int)<(n2:Int):=by omega
       have C:Eq (B.all (fun y=>!fP (s,q,d,t,nn) y)=true):=by
        have:=N.o;rw [FH (by rw [aa.o];omega)] at this;exact this
       go_wp2;go_roundw
       case rel=>exact ⟨i+1,by omega,by go_num,I.o,qJ (f:=fun x=>B.all (fun y=>!fP x y)) HW.o HG.o C.o⟩
       case measure=>simp [intOf];omega
  · have U:¬(i:Int)<(E:Int):=by omega
    have C:Eq (jt A B=true):=by
     have:=HW.o;rw [FH (by rw [a9.o];omega)] at this;exact this
    go_wp2;go_ret;exact ⟨aq C.o.symm,HB.o⟩
def bn (L:List ae):ByteArray:=match L[0]? with | some e=>e.1 | none=>⟨#[]⟩
def aU (L:List ae):ByteArray:=match L[L.length - 1]? with | some e=>e.1 | none=>⟨#[]⟩
def lQ (A B:List ae):Bool:=Op.bytesLess (aU A).toList (bn B).toList
def iE (B:List aj) (r:aj) (i:Nat):Bool:=match i with | 0=>true | j+1=>match B[j]? with | none=>true | some p=>lQ p.1 r.1
def fo (B:List aj) (ap:Bool) (q:Int) (i:Nat):Bool :=
 match B[i]? with
 | none=>true
 | some r=>cF r.1 r.2 && (bX r.1 q && (!ap || iE B r i))
def qM (B:List aj) (ap:Bool) (q:Int) (k:Nat):Prop:=∀j,j<k→fo B ap q j=true
def dG (B:List aj) (most:Int) (ap:Bool) (q:Int):Bool:=decide ((B.length:Int)≤most) && (List.range B.length).all (fo B ap q)
theorem zu (h:most<(B.length:Int)):dG B most ap q=false:=by
 unfold dG;rw [decide_eq_false (by omega)];rfl
theorem tn (hk:k<B.length) (h:fo B ap q k=false):dG B most ap q=false:=by
 unfold dG;rw [Hx];right
 rw [GU];intro h1;rw [FZ] at h1;rw [h1 k (Gh.2 hk)] at h;cases h
theorem Bo (h:qM B ap q B.length) (hm:(B.length:Int)≤most):dG B most ap q=true:=by
 unfold dG;rw [decide_eq_true hm,Bool.true_and,FZ];intro j d;exact h j (Gh.1 d)
theorem mQ (h:qM B ap q k) (hk:fo B ap q k=true):qM B ap q (k+1):=by
 intro j d;by_cases e:j=k
 · subst e;exact hk
 · exact h j (by omega)
theorem dS (h:B[i]?=some r):fo B ap q i=(cF r.1 r.2 && (bX r.1 q && (!ap || iE B r i))):=by
 unfold fo;simp only [h]
theorem wy {p:aj} (h:B[i]?=some r) (hi:0<i) (hp:B[i - 1]?=some p):fo B ap q i=(cF r.1 r.2 && (bX r.1 q && (!ap || lQ p.1 r.1))):=by
 obtain ⟨j,rfl⟩:∃j,i=j+1:=⟨i - 1,by omega⟩;simp only [GG] at hp;rw [dS h];unfold iE;simp only [hp]
theorem mn (h:1≤L.length):∃e,L[0]?=some e∧bn L=e.1:=by
 have hg:L[0]?=some L[0]:=j' (by omega);exact ⟨_,hg,by unfold bn;rw [hg]⟩
theorem iR (h:1≤L.length):∃e,L[L.length - 1]?=some e∧aU L=e.1:=by
 have hg:L[L.length - 1]?=some (L[L.length - 1]'(by omega)):=j' (by omega);exact ⟨_,hg,by unfold aU;rw [hg]⟩
theorem po (lo:Nat) (a:Option Addr) (n c:Nat) (B:List aj) (most:Int) (ap:Bool) (q:Int) (w:World) (h:az lo w a n c B) :
 Calls Tryz.prog 90 #[.slice a n c,iT most,.bool ap,iT q] w fun e w'=>e=.returned (.bool (dG B most ap q))∧Bl w w':=by
 have R:Eq (B.length=n):=h.length;have hr:=h.room;have aB:=h.big;unfold maxLen at aB;have H:=bT h;clear h;by_cases hm:most<(n:Int)
 · go_enter Tryz.func90,Tryz.ntmps90
   go_wp2;go_ret;exact ⟨aq (zu (by rw [R.o];exact hm)).symm,Below.refl _ _⟩
 go_enter Tryz.func90,Tryz.ntmps90
 go_wp2;go_loopw [9] (fun iv wr=>∃i:Nat,i≤n∧iv=iT i∧Bl w wr∧qM B ap q i) (fun iv _=>n - (intOf iv).toNat)
 case atStart=>exact ⟨0,FB _,rfl,Below.refl _ _,fun j hj=>absurd hj (Gy _)⟩
 case round =>
  obtain ⟨i,hi,rfl,hb,hw⟩:=hrel;have HW:Eq (qM B ap q i):=hw;have HB:Eq (Bl w wr):=hb;clear hw;by_cases a7:i<n
  · have a6:(i:Int)<(n:Int):=by omega
    have a2:Eq (i<B.length):=by show i<B.length;rw [R.o];exact a7
    obtain ⟨b,off,rfl,aE⟩:=H.o.form (by omega);obtain ⟨L,m,s,ns,cs,hg,_,g0,g1,hE⟩:=H.o.run hb i a7;have HG:Eq (B[i]?=some (L,m)):=hg;have HE:Eq (fm lo wr s ns cs L):=hE;have zb:=u' aE hb.size;clear hg hb hE;obtain ⟨O,hO⟩:=aG (cF L m);go_wp2_with fail
    refine (zf _ _ _ L m wr HE.o.1).mono ?_;rw [← hO];rintro e w1 ⟨rfl,A⟩;have g0:=cell_later A g0;have g1:=cell_later A g1;have zb:=u' zb A.size;have N:Eq (Bl w w1):=HB.o.trans (A.mono HB.o.size);have E1:Eq (ah w1 s ns cs L):=HE.o.1.keep A;clear A;cases hOv:O with
    | false =>
     have I:Eq (fo B ap q i=false):=by show fo B ap q i=false;rw [dS HG.o,← hO,hOv];rfl
     go_wp2;go_ret;exact ⟨aq (tn a2.o I.o).symm,N.o⟩
    | true =>
     have D:Eq (cF L m=true):=by rw [← hO];exact hOv
     clear hO hOv;obtain ⟨T,hT⟩:=aG (bX L q);go_wp2_with fail
     refine (pn _ _ _ L q w1 E1.o).mono ?_;rw [← hT];rintro e f ⟨rfl,rfl⟩;cases hTv:T with
     | false =>
      have I:Eq (fo B ap q i=false):=by show fo B ap q i=false;rw [dS HG.o,D.o,← hT,hTv];rfl
      go_wp2;go_ret;exact ⟨aq (tn a2.o I.o).symm,N.o⟩
     | true =>
      have a0:Eq (bX L q=true):=by rw [← hT];exact hTv
      clear hT hTv;have t:Bl f f.drew:=(Below.refl _ f).drew;have KZ:Eq (Bl w f.drew):=N.o.trans (t.mono N.o.size);have u:Eq (∀w',Bl f w'→(b<w'.heap.size)):=fun w' Z=>u' zb Z.size
      cases ap with
      | false =>
      have I:Eq (fo B false q i=true):=by show fo B false q i=true;rw [dS HG.o,D.o,a0.o];rfl
      go_wp2_with fail
      refine eJ u t fun d=>?_
      refine aP 0 11 d ?_;refine aP 12 4 d ?_;refine aQ 11 fun K hK=>?_
      go_simp;refine hK.o _ _ (u.o _ t) fun d=>?_
      (try go_frame);refine aQ 16 fun K hK=>?_
      go_simp;refine hK.o _ _ (u.o _ t) fun d=>?_
      (try go_frame);refine aP 17 2 d ?_;refine dN ?_;clear t u d;go_wp2;go_roundw
      case rel=>exact ⟨i+1,by omega,by go_num,KZ.o,mQ HW.o I.o⟩
      case measure=>simp [intOf];omega
      | true =>
       by_cases av:i=0
       · subst av;have I:Eq (fo B true q 0=true):=by show fo B true q 0=true;rw [dS HG.o,D.o,a0.o];rfl
         go_wp2_with fail
         refine eJ u t fun d=>?_
         refine aP 0 11 d ?_;refine aP 12 4 d ?_;refine aQ 11 fun K hK=>?_
         go_simp;refine hK.o _ _ (u.o _ t) fun d=>?_
         (try go_frame);refine aQ 16 fun K hK=>?_
         go_simp;refine hK.o _ _ (u.o _ t) fun d=>?_
         (try go_frame);refine aP 17 2 d ?_;refine dN ?_;clear t u d;go_wp2;go_roundw
         case rel=>exact ⟨0+1,by omega,by go_num,KZ.o,mQ HW.o I.o⟩
         case measure=>simp [intOf];omega
       · have aU:(0:Int)<(i:Int):=by omega
         have W:0<i:=by omega
         have aO:decide (0<i)=true:=decide_eq_true W;have aT:(0:Int)≤(i:Int) - 1:=by omega
         have aV:(i:Int) - 1<(n:Int):=by omega
         have aW:(1:Int)≤(i:Int):=by omega
         have aS:((i:Int) - 1).toNat=i - 1:=by omega
         have wj:IntKind.i64.wrap ((i:Int) - 1)=(i:Int) - 1:=by rw [FQ];unfold wrap64;omega
         obtain ⟨Lp,mp,sp,np,cp,hp,_,p0,p1,Q⟩:=H.o.run N.o (i - 1) (by omega);have a3:cF Lp mp=true:=by
          have h1:=HW.o (i - 1) (by omega);rw [dS hp] at h1;simp only [FJ] at h1;exact h1.1
         have l1:=(bF D.o).1;have l2:=(bF a3).1;obtain ⟨el,a5,U⟩:=mn l1;obtain ⟨eh,Y,C⟩:=iR l2;have aJ:=E1.o.length;have a4:=Q.1.length;obtain ⟨bs,os,rfl,_⟩:=E1.o.form (by omega);obtain ⟨bp,op,rfl,_⟩:=Q.1.form (by omega);rw [a4] at Y;have CH:Eq (∀w',Bl f w'→Calls Tryz.prog 146 #[.agg #[sO bp op np cp,iT mp]] w' fun r a1=>r=.returned (.string eh.1)∧Bl w' a1):=fun w' k=>ut mp bp op np cp Lp w' (Q.1.keep k) eh Y (by omega)
         have X:Eq (∀w',Bl f w'→Calls Tryz.prog 147 #[.agg #[sO bs os ns cs,iT m]] w' fun r a1=>r=.returned (.string el.1)∧Bl w' a1):=fun w' k=>x6 m bs os ns cs L w' (E1.o.keep k) el a5
         have J:Eq (fo B true q i=Op.bytesLess eh.1.toList el.1.toList):=by
          show fo B true q i=_
          rw [wy HG.o W hp,D.o,a0.o];simp only [Bool.true_and,Bool.not_true,Bool.false_or];unfold lQ;rw [U,C]
         have x:Eq (∀w',Bl f w'→(w'.cell? ⟨b,off+i*2,none⟩=some (sO bs os ns cs)∧w'.cell? ⟨b,off+i*2+1,none⟩=some (iT m)∧w'.cell? ⟨b,off+(i - 1)*2,none⟩=some (sO bp op np cp)∧w'.cell? ⟨b,off+(i - 1)*2+1,none⟩=some (iT mp)∧b<w'.heap.size)):=fun w' Z=>⟨cell_later Z g0,cell_later Z g1,cell_later Z p0,cell_later Z p1,u' zb Z.size⟩
         clear u hp Q a3 l1 l2 a5 Y U C aJ a4 g0 g1 p0 p1 zb HE;obtain ⟨sh,a8⟩:=aG eh.1;obtain ⟨sl,hsl⟩:=aG el.1;rw [← a8] at CH J;rw [← hsl] at X J;clear a8 hsl;cases hcmp:Op.bytesLess sh.toList sl.toList with
         | true =>
          have I:Eq (fo B true q i=true):=by show fo B true q i=true;rw [J.o];exact hcmp
          go_wp2_with fail
          refine eJ x t fun d=>?_
          refine aP 0 11 d ?_;refine aP 12 4 d ?_;refine aQ 11 fun K hK=>?_
          go_simp;refine (CH.o _ t).mono ?_;rintro e wk1 ⟨rfl,E⟩;have k1:Bl f wk1:=t.trans (E.mono t.size);go_wp2_with fail
          refine hK.o _ _ (x.o _ k1) fun d=>?_
          (try go_frame);refine aQ 16 fun K hK=>?_
          go_simp;refine (X.o _ k1).mono ?_;rintro e wk2 ⟨rfl,F⟩;have k2:Bl f wk2:=k1.trans (F.mono k1.size);go_wp2_with fail
          refine hK.o _ _ (x.o _ k2) fun d=>?_
          (try go_frame);refine aP 17 2 d ?_;refine dN ?_;have KY:Eq (Bl w wk2):=N.o.trans (k2.mono N.o.size);clear t k1 k2 E F x d;go_wp2;go_roundw
          case rel=>exact ⟨i+1,by omega,by go_num,KY.o,mQ HW.o I.o⟩
          case measure=>simp [intOf];omega
         | false =>
          have I:Eq (fo B true q i=false):=by show fo B true q i=false;rw [J.o];exact hcmp
          go_wp2_with fail
          refine eJ x t fun d=>?_
          refine aP 0 11 d ?_;refine aP 12 4 d ?_;refine aQ 11 fun K hK=>?_
          go_simp;refine (CH.o _ t).mono ?_;rintro e wk1 ⟨rfl,E⟩;have k1:Bl f wk1:=t.trans (E.mono t.size);go_wp2_with fail
          refine hK.o _ _ (x.o _ k1) fun d=>?_
          (try go_frame);refine aQ 16 fun K hK=>?_
          go_simp;refine (X.o _ k1).mono ?_;rintro e wk2 ⟨rfl,F⟩;have k2:Bl f wk2:=k1.trans (F.mono k1.size);go_wp2_with fail
          refine hK.o _ _ (x.o _ k2) fun d=>?_
          (try go_frame);refine aP 17 2 d ?_;refine dN ?_;have KY:Eq (Bl w wk2):=N.o.trans (k2.mono N.o.size);clear t k1 k2 E F x d;go_wp2;go_ret;exact ⟨aq (tn a2.o I.o).symm,KY.o⟩
  · have a6:¬(i:Int)<(n:Int):=by omega
    have HC:Eq (dG B most ap q=true):=by
     have hw:=HW.o;have ax:i=B.length:=by rw [R.o];omega
     rw [ax] at hw;exact Bo hw (by rw [R.o];omega)
    go_wp2;go_ret;exact ⟨aq HC.o.symm,HB.o⟩
theorem Tryz.infoEnt:(Tryz.prog.info? 50).map (fun i=>(i.zero,i.size,i.bytes))=some (some (.agg #[.string ByteArray.empty,iT 0,iT 0,.string ByteArray.empty,iT 0]),5,56):=by kernel_rfl
def jw (xs:List Value) (j:Nat) (l:ae):Prop:=xs[j*5]?=some (.string l.1)∧xs[j*5+1]?=some (iT l.2.1)∧xs[j*5+2]?=some (iT l.2.2.1)∧xs[j*5+3]?=some (.string l.2.2.2.1)∧xs[j*5+4]?=some (iT l.2.2.2.2)
theorem jc {l:ae} (h:jw xs j l) (d:j≠k) (u0 u1 u2 u3 u4:Value):jw (((((xs.set (k*5) u0).set (k*5+1) u1).set (k*5+2) u2).set (k*5+3) u3).set (k*5+4) u4) j l:=by
 obtain ⟨h0,h1,h2,h3,h4⟩:=h;refine ⟨?_,?_,?_,?_,?_⟩ <;> (repeat rw [F3 (by omega)]) <;> assumption
theorem jJ (s t:ByteArray) (q d n:Int) (h:k*5+4<xs.length):jw (((((xs.set (k*5) (.string s)).set (k*5+1) (iT q)).set (k*5+2) (iT d)).set (k*5+3) (.string t)).set (k*5+4) (iT n)) k (s,q,d,t,n):=by
 refine ⟨?_,?_,?_,?_,?_⟩
 · rw [F3 (by omega),F3 (by omega),F3 (by omega),F3 (by omega),Gu (by omega)]
 · rw [F3 (by omega),F3 (by omega),F3 (by omega),Gu (by simp;omega)]
 · rw [F3 (by omega),F3 (by omega),Gu (by simp;omega)]
 · rw [F3 (by omega),Gu (by simp;omega)]
 · rw [Gu (by simp;omega)]
theorem rg (h:w.ownsRow base 50 5 (sL g n cap) n xs) (hn:L.length=n) (hw:∀l ∈ L,dR l)
 (hh:∀j l,L[j]?=some l→jw xs j l):ah w (pT g) n cap L:=by
 have m:=(h.lt g rfl).2;have d:n≤cap∧cap≤maxLen:=by
  rcases h.2 with ⟨h',_⟩ | ⟨C,s,u,h',_,_,o,f,_,_⟩
  · simp at h'
  · simp only [Value.slice.injEq,G2,Addr.mk.injEq,and_true,true_and] at h';obtain ⟨rfl,rfl⟩:=h';exact ⟨o,f⟩
 refine ⟨hn,d.1,d.2,hw,(fun e=>by cases e),?_,?_⟩
 · rintro x e _;cases e;exact ⟨m,rfl⟩
 · rintro x e i hi;cases e;obtain ⟨t,A,r2,r3,r4⟩:=hh i L[i] (j' hi);rw [hn] at hi;simp only [FG];exact ⟨(h.cellAt _ (by omega)).trans t,(h.cellAt _ (by omega)).trans A,(h.cellAt _ (by omega)).trans r2,(h.cellAt _ (by omega)).trans r3,(h.cellAt _ (by omega)).trans r4⟩
def aX (e:ae):List Value:=[.string e.1,iT e.2.1,iT e.2.2.1,.string e.2.2.2.1,iT e.2.2.2.2]
def aC (L:List ae):List Value:=L.flatMap aX
theorem aL (A B:List ae):aC (A++B)=aC A++aC B:=by simp [aC]
theorem aV (L:List ae):(aC L).length=L.length*5:=by
 induction L with
 | nil=>rfl
 | cons l r d=>simp [aC,aX] at d ⊢;omega
theorem xH (l:ae) (r:List ae):aC (l :: r)=.string l.1 :: iT l.2.1 :: iT l.2.2.1 :: .string l.2.2.2.1 :: iT l.2.2.2.2 :: aC r:=rfl
theorem fF (L:List ae) (j:Nat) (l:ae) (h:L[j]?=some l):jw (aC L) j l:=by
 induction L generalizing j with
 | nil=>simp at h
 | cons a r d =>
  rw [xH];cases j with
  | zero=>simp at h;subst h;exact ⟨rfl,rfl,rfl,rfl,rfl⟩
  | succ j =>
   simp at h;obtain ⟨h0,h1,h2,h3,h4⟩:=d j h;refine ⟨?_,?_,?_,?_,?_⟩
   · rw [show (j+1)*5=j*5+1+1+1+1+1 by omega];simpa using h0
   · rw [show (j+1)*5+1=j*5+1+1+1+1+1+1 by omega];simpa using h1
   · rw [show (j+1)*5+2=j*5+2+1+1+1+1+1 by omega];simpa using h2
   · rw [show (j+1)*5+3=j*5+3+1+1+1+1+1 by omega];simpa using h3
   · rw [show (j+1)*5+4=j*5+4+1+1+1+1+1 by omega];simpa using h4
theorem pB (hx:xs.length=L.length*5) (hh:∀j l,L[j]?=some l→jw xs j l):xs=aC L:=by
 apply List.ext_getElem?;intro i;by_cases hi:i<L.length*5
 · have d:i / 5<L.length:=by omega
   obtain ⟨a0,a1,a2,a3,a4⟩:=hh (i / 5) L[i / 5] (j' d);obtain ⟨m,b1,b2,b3,f⟩:=fF L (i / 5) L[i / 5] (j' d);have:i=i / 5*5∨i=i / 5*5+1∨i=i / 5*5+2∨i=i / 5*5+3∨i=i / 5*5+4:=by omega
   rcases this with e | e | e | e | e
   · rw [e,a0,m]
   · rw [e,a1,b1]
   · rw [e,a2,b2]
   · rw [e,a3,b3]
   · rw [e,a4,f]
 · rw [Hd (by omega),Hd (by rw [aV];omega)]
theorem aO (L:List ae):∀u ∈ aC L,u.oneCell'=true:=by
 intro u d;simp only [aC,He,aX,FF,F4,or_false] at d;obtain ⟨l,_,rfl | rfl | rfl | rfl | rfl⟩:=d <;> rfl
structure ag (w:World) (base b n cap:Nat) (L:List ae):Prop where
 owns:w.ownsRow base 50 5 (sL b n cap) n (aC L)
 len:L.length=n
 ents:∀l ∈ L,dR l
theorem ag.entsAt (h:ag w base b n cap L):ah w (pT b) n cap L :=
 rg h.owns h.len h.ents (fun j l hl=>fF L j l hl)
theorem ag.lt (h:ag w base b n cap L):base≤b∧b<w.heap.size:=h.owns.lt b rfl
theorem ag.grown (h:ag w base b n cap L) (hg:w.grownBy w' row) (d:some b≠row):ag w' base b n cap L :=
 ⟨h.owns.kept hg (.inr d),h.len,h.ents⟩
theorem ag.below (h:ag w base b n cap L) (hb:Bl w w'):ag w' base b n cap L:=h.grown (row:=none) ⟨hb.os,hb.tape,hb.output,hb.size,fun k hk _=>hb.block k hk⟩ (by simp)
theorem ag.setCell (h:ag w base b n cap L) {p:Addr} (hp:p.block≠b) (u:Value):ag (w.setCell p u) base b n cap L :=
 h.grown (row:=some p.block) ⟨rfl,rfl,rfl,by simp [World.setCell],fun k _ hk=>Below.heap_setCell _ _ _ _ (fun e=>hk (by rw [e]))⟩ (fun e=>hp (by cases e;rfl))
theorem ag.mono {base':Nat} (h:ag w base b n cap L) (hb:base'≤base):ag w base' b n cap L:=by
 refine ⟨⟨h.owns.1,?_⟩,h.len,h.ents⟩;rcases h.owns.2 with h2 | ⟨g,cap,d,hv,hg,r⟩
 · exact Or.inl h2
 · exact Or.inr ⟨g,cap,d,hv,FK hb hg,r⟩
theorem ah.sub {len:Nat} (h:ah w (some ⟨b,off,none⟩) len cap L) (f:i≤j) (m:j≤len):ah w (some ⟨b,off+i*5,none⟩) (j - i) (cap - i) ((L.drop i).take (j - i)) where
 length:=by have:=h.length;simp;omega
 room:=by have:=h.room;omega
 big:=by have:=h.big;omega
 ents:=fun l hl=>h.ents l (Gf (F9 hl))
 nil:=fun e=>by cases e
 lies:=fun x e hp=>by cases e;exact h.lies ⟨b,off,none⟩ rfl (by omega)
 cells:=fun x e k hk=>by
  cases e
  have d:i+k<L.length:=by simp at hk;omega
  have h1:=h.cells ⟨b,off,none⟩ rfl (i+k) d
  have e1:off+(i+k)*5=off+i*5+k*5:=by omega
  simp only [e1] at h1
  simpa using h1
structure cy (w:World) (a:Option Addr) (n c:Nat) (P:List (List ae)):Prop where
 length:P.length=n
 room:n≤c
 big:c≤maxLen
 nil:a=none→n=0
 lies:∀x,a=some x→0<n→x.block<w.heap.size∧x.spot=none
 lists:∀x,a=some x→∀i (h:i<P.length),∃s m d,w.cell? ⟨x.block,x.off+i,none⟩=some (.slice s m d)∧ah w s m d P[i]
theorem cy.keep (h:cy w a n c P) (hb:Bl w w'):cy w' a n c P where
 length:=h.length
 room:=h.room
 big:=h.big
 nil:=h.nil
 lies:=fun x e hp=>⟨u' (h.lies x e hp).1 hb.size,(h.lies x e hp).2⟩
 lists:=fun x e i hi=>by
  obtain ⟨s,m,d,c0,hL⟩:=h.lists x e i hi
  exact ⟨s,m,d,cell_later hb c0,hL.keep hb⟩
theorem cy.form (h:cy w a n c P) (hl:1≤n):∃b off,a=some ⟨b,off,none⟩∧b<w.heap.size:=by
 cases a with
 | none=>have:=h.nil rfl;omega
 | some x =>
  obtain ⟨b,off,d⟩:=x;obtain ⟨h1,h2⟩:=h.lies _ rfl (by omega);simp only at h1 h2;subst h2;exact ⟨b,off,rfl,h1⟩
theorem cy.list {wr:World} (h:cy w (some ⟨b,off,none⟩) n c P) (hb:Bl w wr) (k:Nat) (hk:k<n) :
 ∃A s m d,P[k]?=some A∧wr.cell? ⟨b,off+k,none⟩=some (.slice s m d)∧ah wr s m d A:=by
 have e:k<P.length:=by rw [h.length];exact hk
 obtain ⟨s,m,d,c0,hL⟩:=(h.keep hb).lists _ rfl k e;exact ⟨P[k],s,m,d,j' e,c0,hL⟩
theorem Tryz.infoEntS:(Tryz.prog.info? 28).map (fun i=>(i.zero,i.size,i.bytes))=some (some nZ,1,24):=by kernel_rfl
structure bg (w:World) (base g n c:Nat) (P:List (List ae)) (vs:List Value) (y:Option Nat):Prop where
 owns:w.ownsRow base 28 1 (sL g n c) n vs
 len:P.length=n
 ne:some g≠y
 lists:∀(i:Nat) A,P[i]?=some A→∃s m d,vs[i]?=some (.slice s m d)∧ah w s m d A∧∀x,s=some x→0<m→x.block≠g∧some x.block≠y
theorem ah.grownB {s:Option Addr} {m d:Nat} {A:List ae} (h:ah w s m d A) (hg:w.grownBy w' row) (f:∀x,s=some x→0<m→some x.block≠row):ah w' s m d A :=
 h.moved hg.size (fun x e hp o=>Gc (a:=⟨x.block,o,none⟩) (hg.block x.block (h.lies x e hp).1 (f x e hp)))
theorem bg.partsAt (h:bg w base g n c P vs y):cy w (pT g) n c P:=by
 have t:=(h.owns.lt g rfl).2;have f:n≤c∧c≤maxLen:=by
  rcases h.owns.2 with ⟨h',_⟩ | ⟨D,A,C,h',_,_,u,o,_,_⟩
  · simp at h'
  · simp only [Value.slice.injEq,G2,Addr.mk.injEq,and_true,true_and] at h';obtain ⟨rfl,rfl⟩:=h';exact ⟨u,o⟩
 refine ⟨h.len,f.1,f.2,(fun e=>by cases e),?_,?_⟩
 · rintro x e _;cases e;exact ⟨t,rfl⟩
 · rintro x e i hi;cases e;obtain ⟨s,m,d,hv,hE,_⟩:=h.lists i _ (j' hi);refine ⟨s,m,d,?_,hE⟩;have:=h.owns.cellAt i (by rw [← h.len];omega);rw [hv] at this;simpa using this
theorem bg.grown (h:bg w base g n c P vs y) (hg:w.grownBy w' row) (hr:∀k,row=some k→y=some k):bg w' base g n c P vs y where
 owns:=h.owns.kept hg (.inr (fun e=>h.ne (by rw [hr g e.symm])))
 len:=h.len
 ne:=h.ne
 lists:=fun i A hA=>by
  obtain ⟨s,m,d,hv,hE,hx⟩:=h.lists i A hA
  exact ⟨s,m,d,hv,hE.grownB hg (fun x e hp f=>(hx x e hp).2 (hr _ f.symm).symm),hx⟩
theorem dU (hb:Bl w w'):w.grownBy w' none:=⟨hb.os,hb.tape,hb.output,hb.size,fun k hk _=>hb.block k hk⟩
theorem bg.below (h:bg w base g n c P vs y) (hb:Bl w w'):bg w' base g n c P vs y:=h.grown (dU hb) (fun k e=>by cases e)
theorem bg.turn (h:bg w base g n c P vs y) {y':Option Nat} (hy:y'=y∨y'=none∨y'=some w.heap.size):bg w base g n c P vs y' where
 owns:=h.owns
 len:=h.len
 ne:=by
  rcases hy with rfl | rfl | rfl
  · exact h.ne
  · exact fun e=>by cases e
  · intro e;have h1:=(h.owns.lt g rfl).2;have h2:=Fx e;omega
 lists:=fun i A hA=>by
  obtain ⟨s,m,d,hv,hE,hx⟩:=h.lists i A hA;refine ⟨s,m,d,hv,hE,fun x e hp=>⟨(hx x e hp).1,?_⟩⟩;rcases hy with rfl | rfl | rfl
  · exact (hx x e hp).2
  · exact fun e=>by cases e
  · intro f;have h1:=(hE.lies x e hp).1;have h2:=Fx f;omega
theorem bg.push {g2 c2:Nat} (h:bg w base g n c P vs y) {s:Option Addr} {m d:Nat} {A:List ae}
 (ho:w'.ownsRow base 28 1 (sL g2 (n+1) c2) (n+1) (vs++[.slice s m d])) (hg:w.grownBy w' (some g)) (h2:g2=g∨g2=w.heap.size)
 (hE:ah w s m d A) (hx:∀x,s=some x→0<m→x.block≠g):bg w' base g2 (n+1) c2 (P++[A]) (vs++[.slice s m d]) none where
 owns:=ho
 len:=by rw [Fy,h.len];rfl
 ne:=fun e=>by cases e
 lists:=fun i B hB=>by
  have f:vs.length=n:=by have:=h.owns.1;omega
  by_cases hi:i<n
  · rw [FE (by rw [h.len];exact hi)] at hB
    obtain ⟨D,F,E,hv,t,o⟩:=h.lists i B hB
    refine ⟨D,F,E,by rw [FE (by rw [f];exact hi)];exact hv,t.grownB hg (fun x e hp C=>(o x e hp).1 (by cases C;rfl)),fun x e hp=>⟨?_,fun e=>by cases e⟩⟩
    rcases h2 with rfl | rfl
    · exact (o x e hp).1
    · have:=(t.lies x e hp).1;omega
  · rw [Fz (by rw [h.len];omega),h.len] at hB
    have u:i - n=0:=by
     by_cases e:i - n=0
     · exact e
     · rw [Hd (by simp;omega)] at hB;cases hB
    rw [u] at hB
    simp at hB
    subst hB
    refine ⟨s,m,d,by rw [Fz (by rw [f];omega),f,u];rfl,hE.grownB hg (fun x e hp C=>hx x e hp (by cases C;rfl)),fun x e hp=>⟨?_,fun e=>by cases e⟩⟩
    rcases h2 with rfl | rfl
    · exact hx x e hp
    · have:=(hE.lies x e hp).1;omega
end Go.Proofs.YtpobkmjicbobdaaGreat
