/- Walks. -/
import Derived.Deep.CutBlock
import Derived.Test.YtpobkmjicbobdaaGreatBD02
import Derived.Maps.AppendAt
namespace Go.Proofs.YtpobkmjicbobdaaGreat
set_option maxRecDepth 100000
set_option maxHeartbeats 40000000
open Go.RowKit
variable {A L:List ac} {P:List (List ac)} {a:Option Addr} {ap:Bool} {b base c cap g i j k n off:Nat} {most q:Int} {r:af} {row y:Option Nat} {vs xs:List Value} {w w':World}
theorem pF (a:Option Addr) (n c:Nat) (M:List ac) (q:Int) (w:World) (h:aj w a n c M) :
 Calls Tryz.prog 88 #[.slice a n c,iT q] w fun e w'=>e=.returned (.bool (b9 M q))∧w'=w:=by
 have hr:=h.room;have B:=h.big;unfold maxLen at B;have u:=az h.length;have H:=az h;go_enter Tryz.func88,Tryz.ntmps88
 go_wp2;go_loopw [5] (fun i wr=>∃k:Nat,k≤n∧i=iT k∧wr=w∧b9 (M.take k) q=true) (fun i _=>n - (intOf i).toNat)
 case atStart=>exact ⟨0,Gl _,rfl,rfl,by simp [b9]⟩
 case round =>
  obtain ⟨k,hk,rfl,rfl,hw⟩:=hrel;have E:=az hw;by_cases m:k<n
  · have D:(k:Int)<(n:Int):=by omega
    obtain ⟨b,off,rfl,x⟩:=H.o.form (by omega);obtain ⟨s,F,d,t,nn,hg,_,J,N,I,O,K⟩:=H.o.ent (Below.refl _ wr) x k m;have C:=az hg;by_cases hq:q<F
    · go_wp2;go_ret;exact ⟨ag (zF C.o (by simp only;omega)).symm,rfl⟩
    · go_wp2;go_roundw
      case rel=>exact ⟨k+1,by omega,by go_num,by first | rfl | trivial,uB E.o C.o (by simp only;omega)⟩
      case measure=>simp [intOf];omega
  · go_wp2;go_ret;have f:=E.o;rw [Gr (by rw [u.o];omega)] at f;exact ⟨ag f.symm,rfl⟩
theorem Az (lo:Nat) (a:Option Addr) (n c:Nat) (S:List Int) (q:Int) (w:World) (h:aR lo w a n c S) :
 Calls Tryz.prog 196 #[.slice a n c,iT q] w fun e w'=>e=.returned (.bool (bX S q))∧w'=w:=by
 have hr:=h.room;have K:=h.big;unfold maxLen at K;have d:=az h.length;have H:=az h;by_cases hm:4<n
 · go_enter Tryz.func196,Tryz.ntmps196
   go_wp2;go_ret;exact ⟨ag (xt (by rw [d.o];exact hm)).symm,rfl⟩
 go_enter Tryz.func196,Tryz.ntmps196
 go_wp2;go_loopw [12] (fun i wr=>∃k:Nat,k≤n∧i=iT k∧wr=w∧ly S q k) (fun i _=>n - (intOf i).toNat)
 case atStart=>exact ⟨0,Gl _,rfl,rfl,fun j W=>absurd W (G2 _)⟩
 case round =>
  obtain ⟨k,hk,rfl,rfl,hw⟩:=hrel;have O:=az hw;by_cases t:k<n
  · have Q:(k:Int)<(n:Int):=by omega
    have E:k<S.length:=by rw [d.o];exact t
    have m:=az E;obtain ⟨b,off,rfl,U⟩:=H.o.form (by omega);obtain ⟨s,hg,_,T⟩:=H.o.num (Below.refl _ wr) k t;have B:=az hg;by_cases I:s<0
    · go_wp2;go_ret;exact ⟨ag (iM m.o (uX B.o I)).symm,rfl⟩
    by_cases D:q<s
    · go_wp2;go_ret;exact ⟨ag (iM m.o (sE B.o D)).symm,rfl⟩
    by_cases J:k=0
    · subst J;simp only [Hl] at T;have u:Eq (cZ S q 0=true):=by show cZ S q 0=true;rw [nq B.o,decide_eq_true (show 0≤s by omega),decide_eq_true (show s≤q by omega)];rfl
      go_wp2;go_roundw
      case rel=>exact ⟨0+1,by omega,by go_num,by first | rfl | trivial,jf O.o u.o⟩
      case measure=>simp [intOf];omega
    · have Y:(0:Int)<(k:Int):=by omega
      have R:(0:Int)≤(k:Int) - 1:=by omega
      have X:(k:Int) - 1<(n:Int):=by omega
      have F:((k:Int) - 1).toNat=k - 1:=by omega
      have Z:IntKind.i64.wrap ((k:Int) - 1)=(k:Int) - 1:=by rw [GB];unfold wrap64;omega
      obtain ⟨p,hp,_,e0⟩:=H.o.num (Below.refl _ wr) (k - 1) (by omega);obtain ⟨j,rfl⟩:∃j,k=j+1:=⟨k - 1,by omega⟩;simp only [Hv] at hp e0 F;have N:=kM (q:=q) B.o hp;have f:=az N;by_cases x:p<s
      · have u:Eq (cZ S q (j+1)=true):=by show cZ S q (j+1)=true;rw [f.o,decide_eq_true (show 0≤s by omega),decide_eq_true (show s≤q by omega),decide_eq_true x];rfl
        go_wp2;go_roundw
        case rel=>exact ⟨j+1+1,by omega,by go_num,by first | rfl | trivial,jf O.o u.o⟩
        case measure=>simp [intOf];omega
      · have u:Eq (cZ S q (j+1)=false):=by show cZ S q (j+1)=false;rw [f.o,decide_eq_false x];simp
        go_wp2;go_ret;exact ⟨ag (iM m.o u.o).symm,rfl⟩
  · go_wp2;go_ret;refine ⟨ag ?_,rfl⟩;have C:k=S.length:=by rw [d.o];omega
    have hw:=O.o;rw [C] at hw;rw [sD hw,decide_eq_true (by rw [d.o];omega)]
theorem yN (m:Int) (b off n c:Nat) (L:List ac) (w:World) (h:aj w (some ⟨b,off,none⟩) n c L) (e:ac) (h0:L[0]?=some e) :
 Calls Tryz.prog 147 #[.agg #[sO b off n c,iT m]] w fun r w'=>r=.returned (.string e.1)∧Bl w w':=by
 have hl:=(F'.1 h0).1;rw [h.length] at hl;have x:(0:Int)<(n:Int):=by omega
 have o:Bl w (w.alloc (.cells #[sO b off n c,iT m] 63)):=bZ;have f:=(h.lies _ rfl hl).1;simp only at f;obtain ⟨s,q,d,t,nn,hg,_,u,_⟩:=h.ent (Below.refl _ w) f 0 hl;rw [h0] at hg;cases hg;simp only [It,Hl] at u;go_enter Tryz.func147,Tryz.ntmps147
 go_wp2;go_ret;exact ⟨rfl,o⟩
theorem uR (m:Int) (b off n c:Nat) (L:List ac) (w:World) (h:aj w (some ⟨b,off,none⟩) n c L) (e:ac) (h0:L[n - 1]?=some e) (hn:1≤n) :
 Calls Tryz.prog 146 #[.agg #[sO b off n c,iT m]] w fun r w'=>r=.returned (.string e.1)∧Bl w w':=by
 have hr:=h.room;have o:=h.big;unfold maxLen at o;have x:(0:Int)≤(n:Int) - 1:=by omega
 have C:(n:Int) - 1<(n:Int):=by omega
 have B:((n:Int) - 1).toNat=n - 1:=by omega
 have D:IntKind.i64.wrap ((n:Int) - 1)=(n:Int) - 1:=by rw [GB];unfold wrap64;omega
 have u:Bl w (w.alloc (.cells #[sO b off n c,iT m] 63)):=bZ;have f:=(h.lies _ rfl (by omega)).1;simp only at f;obtain ⟨s,q,d,t,nn,hg,_,E,_⟩:=h.ent (Below.refl _ w) f (n - 1) (by omega);rw [h0] at hg;cases hg;go_enter Tryz.func146,Tryz.ntmps146
 go_wp2;go_ret;exact ⟨rfl,u⟩
theorem AA (m:Int) (a:Option Addr) (n c:Nat) (L:List ac) (w:World) (h:aj w a n c L) :
 Calls Tryz.prog 233 #[.agg #[.slice a n c,iT m]] w fun r w'=>r=.returned (.bool (!cP L m))∧Bl w w':=by
 have d:Bl w (w.alloc (.cells #[.slice a n c,iT m] 63)):=bZ;go_enter Tryz.func233,Tryz.ntmps233
 go_wp2_with fail
 refine (s5 _ _ _ L m _ (h.keep d)).mono ?_;rintro e o ⟨rfl,f⟩;go_wp2;go_ret;exact ⟨rfl,d.trans (f.mono d.size)⟩
theorem zR (q:Int) (lo:Nat) (v0 v1:Value) (a:Option Addr) (n c:Nat) (S:List Int) (w:World) (h:aR lo w a n c S) :
 Calls Tryz.prog 89 #[.agg #[iT q,v0,v1,.slice a n c]] w fun e w'=>e=.returned (.bool (bX S q))∧Bl w w':=by
 have hr:=h.room;have a9:=h.big;unfold maxLen at a9;have C:Eq (S.length=n):=h.length;obtain ⟨X,hX⟩:=aF w.heap.size;obtain ⟨W,T⟩:=aF (w.alloc (.cells #[iT q,v0,v1,.slice a n c] 31));have kW:Bl w W:=by rw [T];exact bZ
 have x0:W.cell? ⟨X,0,none⟩=some (iT q):=by rw [T,hX];simp
 have x3:W.cell? ⟨X,3,none⟩=some (.slice a n c):=by rw [T,hX];simp
 have H:Eq (aR lo W a n c S):=h.keep kW;have KW:Eq (Bl w W):=kW;have zx:=Gf _ _ x0;simp only at zx;have HP:Eq (∀e w',(e=Ending.returned (.bool (bX S q))∧Bl W w')→e=Ending.returned (.bool (bX S q))∧Bl w w'):=fun e w' hh=>⟨hh.1,KW.o.trans (hh.2.mono KW.o.size)⟩
 clear h kW;go_enter Tryz.func89,Tryz.ntmps89
 go_upto_block 0 with fail
 rw [← hX,← T];clear hX T;go_wp2;go_loopw [3] (fun i wr=>∃k:Nat,k≤n∧i=iT k∧Bl W wr∧ly S q k) (fun i _=>n - (intOf i).toNat)
 case atStart=>exact ⟨0,Gl _,rfl,Below.refl _ _,fun j hj=>absurd hj (G2 _)⟩
 case round =>
  obtain ⟨k,hk,rfl,hb,hw⟩:=hrel;have HW:Eq (ly S q k):=hw;have HB:Eq (Bl W wr):=hb;have y0:=cell_later hb x0;have y3:=cell_later hb x3;have zy:=Gf _ _ y0;simp only at zy;clear hw;by_cases N:k<n
  · have Y:(k:Int)<(n:Int):=by omega
    have O:k<S.length:=by rw [C.o];exact N
    have D:Eq (k<S.length):=O;clear O;obtain ⟨b,off,rfl,a8⟩:=H.o.form (by omega);obtain ⟨s,hg,_,g0⟩:=H.o.num hb k N;have HG:Eq (S[k]?=some s):=hg;have zb:=E' a8 hb.size;have u:Bl wr wr.drew:=(Below.refl _ wr).drew;have d:Eq (∀w',Bl wr w'→(w'.cell? ⟨X,0,none⟩=some (iT q)∧w'.cell? ⟨X,3,none⟩=some (sO b off n c)∧X<w'.heap.size∧w'.cell? ⟨b,off+k,none⟩=some (iT s)∧b<w'.heap.size)):=fun w' m=>⟨cell_later m y0,cell_later m y3,E' zy m.size,cell_later m g0,E' zb m.size⟩
    have U:Eq (Bl W wr.drew):=HB.o.trans (u.mono HB.o.size);clear hg hb;by_cases F:s<0
    · have Q:decide (s<0)=true:=decide_eq_true F;go_wp2_with fail
      refine eJ d u fun f=>?_
      refine aO 0 34 f ?_;refine dN ?_;clear u d f;go_wp2;go_ret;exact HP.o _ _ ⟨ag (iM D.o (uX HG.o F)).symm,U.o⟩
    have Q:decide (s<0)=false:=decide_eq_false F;by_cases E:q<s
    · have I:decide (q<s)=true:=decide_eq_true E;go_wp2_with fail
      refine eJ d u fun f=>?_
      refine aO 0 34 f ?_;refine dN ?_;clear u d f;go_wp2;go_ret;exact HP.o _ _ ⟨ag (iM D.o (sE HG.o E)).symm,U.o⟩
    have I:decide (q<s)=false:=decide_eq_false E;by_cases ac:k=0
    · subst ac;simp only [Hl] at g0 d;have K:Eq (cZ S q 0=true):=by show cZ S q 0=true;rw [nq HG.o,decide_eq_true (show 0≤s by omega),decide_eq_true (show s≤q by omega)];rfl
      go_wp2_with fail
      refine eJ d u fun f=>?_
      refine aO 0 34 f ?_;refine dN ?_;clear u d f;go_wp2;go_roundw
      case rel=>exact ⟨0+1,by omega,by go_num,U.o,jf HW.o K.o⟩
      case measure=>simp [intOf];omega
    · have an:(0:Int)<(k:Int):=by omega
      have J:0<k:=by omega
      have ak:decide (0<k)=true:=decide_eq_true J;have ao:(0:Int)≤(k:Int) - 1:=by omega
      have av:(k:Int) - 1<(n:Int):=by omega
      have au:(1:Int)≤(k:Int):=by omega
      have aq:((k:Int) - 1).toNat=k - 1:=by omega
      have wj:IntKind.i64.wrap ((k:Int) - 1)=(k:Int) - 1:=by rw [GB];unfold wrap64;omega
      obtain ⟨p,hp,_,e0⟩:=H.o.num HB.o (k - 1) (by omega);have x:Eq (∀w',Bl wr w'→(w'.cell? ⟨X,0,none⟩=some (iT q)∧w'.cell? ⟨X,3,none⟩=some (sO b off n c)∧X<w'.heap.size∧w'.cell? ⟨b,off+k,none⟩=some (iT s)∧b<w'.heap.size∧w'.cell? ⟨b,off+(k - 1),none⟩=some (iT p))):=fun w' m=>⟨cell_later m y0,cell_later m y3,E' zy m.size,cell_later m g0,E' zb m.size,cell_later m e0⟩
      have Z:Eq (cZ S q k=(decide (0≤s) && (decide (s≤q) && decide (p<s)))):=by
       obtain ⟨j,rfl⟩:∃j,k=j+1:=⟨k - 1,by omega⟩;exact kM HG.o hp
      clear hp d;by_cases a0:p<s
      · have K:Eq (cZ S q k=true):=by show cZ S q k=true;rw [Z.o,decide_eq_true (show 0≤s by omega),decide_eq_true (show s≤q by omega),decide_eq_true a0];rfl
        have t:¬s≤p:=by omega
        have R:decide (s≤p)=false:=decide_eq_false t;go_wp2_with fail
        refine eJ x u fun f=>?_
        refine aO 0 34 f ?_;refine dN ?_;clear u x f;go_wp2;go_roundw
        case rel=>exact ⟨k+1,by omega,by go_num,U.o,jf HW.o K.o⟩
        case measure=>simp [intOf];omega
      · have K:Eq (cZ S q k=false):=by show cZ S q k=false;rw [Z.o,decide_eq_false a0];simp
        have t:s≤p:=by omega
        have R:decide (s≤p)=true:=decide_eq_true t;go_wp2_with fail
        refine eJ x u fun f=>?_
        refine aO 0 34 f ?_;refine dN ?_;clear u x f;go_wp2;go_ret;exact HP.o _ _ ⟨ag (iM D.o K.o).symm,U.o⟩
  · have Y:¬(k:Int)<(n:Int):=by omega
    have B:bX S q=decide ((n:Int)≤4):=by
     have a5:k=S.length:=by rw [C.o];omega
     have hw:=HW.o;rw [a5] at hw;rw [sD hw,C.o];by_cases h4:n≤4
     · rw [decide_eq_true h4,decide_eq_true (by omega)]
     · rw [decide_eq_false h4,decide_eq_false (by omega)]
    have ab:Eq (bX S q=decide ((n:Int)≤4)):=B;clear B;go_wp2;go_ret;exact HP.o _ _ ⟨ag ab.o.symm,HB.o⟩
def gM (x y:ac):Bool:=decide (x.1=y.1) && decide (x.2.1≤y.2.1)
def j9 (A B:List ac):Bool:=A.all (fun x=>B.all (fun y=>!gM x y))
theorem rj {α:Type} {L:List α} {f:α→Bool} {e:α} (h:(L.take k).all f=true) (hk:L[k]?=some e) (d:f e=true):(L.take (k+1)).all f=true:=by
 rw [GH,hk];simp [List.all_append,h,d]
theorem DK {α:Type} {L:List α} {f:α→Bool} {e:α} (hk:L[k]?=some e) (d:f e=false):L.all f=false:=by
 rw [Ih];intro h;rw [GL] at h;rw [h e (Gk hk)] at d;cases d
theorem zZ (a1 a2:Option Addr) (H c1 n2 c2:Nat) (A B:List ac) (w:World) (h1:aj w a1 H c1 A) (h2:aj w a2 n2 c2 B) :
 Calls Tryz.prog 148 #[.slice a1 H c1,.slice a2 n2 c2] w fun e w'=>e=.returned (.bool (j9 A B))∧Bl w w':=by
 have ae:=az h1.length;have a9:=az h2.length;have aw:=h1.room;have ai:=h1.big;have ar:=h2.room;have af:=h2.big;unfold maxLen at ai af;have H1:=az h1;have H2:=az h2;go_enter Tryz.func148,Tryz.ntmps148
 go_wp2;go_loopw [5] (fun iv wr=>∃i:Nat,i≤H∧iv=iT i∧Bl w wr∧(A.take i).all (fun x=>B.all (fun y=>!gM x y))=true) (fun iv _=>H - (intOf iv).toNat)
 case atStart=>exact ⟨0,Gl _,rfl,Below.refl _ _,by simp⟩
 case round =>
  obtain ⟨i,hi,rfl,hb,hw⟩:=hrel;have HW:=az hw;have HB:=az hb;by_cases U:i<H
  · have R:(i:Int)<(H:Int):=by omega
    obtain ⟨b1,o1,rfl,E⟩:=H1.o.form (by omega);obtain ⟨s,q,d,t,nn,hg,_,_⟩:=H1.o.ent hb E i U;have HG:=az hg;go_wp2;go_loopw [6] (fun kv wq=>∃k:Nat,k≤n2∧kv=iT k∧Bl w wq∧(B.take k).all (fun y=>!gM (s,q,d,t,nn) y)=true) (fun kv _=>n2 - (intOf kv).toNat)
    case atStart=>exact ⟨0,Gl _,rfl,HB.o,by simp⟩
    case round =>
     obtain ⟨k,hk,rfl,m,a4⟩:=hrel;have F:=az a4;have D:=az m;by_cases Y:k<n2
     · have N:(k:Int)<(n2:Int):=by omega
       obtain ⟨b2,o2,rfl,K⟩:=H2.o.form (by omega);obtain ⟨s1,q1,d1,t1,ax,T,_,g0,g1,_⟩:=H1.o.ent m E i U;rw [HG.o] at T;cases T;obtain ⟨Q,O,d',t',I,hF,_,e0,e1,_⟩:=H2.o.ent m K k Y;have HF:=az hF;have z1:=E' E m.size;have z2:=E' K m.size;have X:Bl wr wr.drew:=(Below.refl _ wr).drew;have C:Eq (∀w',Bl wr w'→(w'.cell? ⟨b1,o1+i*5,none⟩=some (.string s)∧w'.cell? ⟨b1,o1+i*5+1,none⟩=some (iT q)∧b1<w'.heap.size∧w'.cell? ⟨b2,o2+k*5,none⟩=some (.string Q)∧w'.cell? ⟨b2,o2+k*5+1,none⟩=some (iT O)∧b2<w'.heap.size)):=fun w' J=>⟨cell_later J g0,cell_later J g1,E' z1 J.size,cell_later J e0,cell_later J e1,E' z2 J.size⟩
       have KZ:=az (D.o.trans (X.mono D.o.size));by_cases hs:s=Q
       · subst hs;by_cases hq:q≤O
         · have a5:=decide_eq_true hq;have u:Eq ((!gM (s,q,d,t,nn) (s,O,d',t',I))=false):=by show (!gM _ _)=false;unfold gM;simp [hq]
           go_wp2_with fail
           refine eJ C X fun W=>?_
           refine aO 0 24 W ?_;refine dN ?_;go_wp2;go_ret;exact ⟨ag (DK HG.o (DK HF.o u.o)).symm,KZ.o⟩
         · have a5:=decide_eq_false hq;have u:Eq ((!gM (s,q,d,t,nn) (s,O,d',t',I))=true):=by show (!gM _ _)=true;unfold gM;simp [hq]
           go_wp2_with fail
           refine eJ C X fun W=>?_
           refine aO 0 24 W ?_;refine dN ?_;go_wp2;go_roundw
           case rel=>exact ⟨k+1,by omega,by go_num,KZ.o,rj F.o HF.o u.o⟩
           case measure=>simp [intOf];omega
       · have Z:¬s.toList=Q.toList:=by
          rw [GS,GS];intro h;exact hs (Io (Il.1 h))
         have al:(s.toList == Q.toList)=false:=by simpa using Z
         have u:Eq ((!gM (s,q,d,t,nn) (Q,O,d',t',I))=true):=by show (!gM _ _)=true;unfold gM;simp [hs]
         go_wp2_with fail
         refine eJ C X fun W=>?_
         refine aO 0 24 W ?_;refine dN ?_;go_wp2;go_roundw
         case rel=>exact ⟨k+1,by omega,by go_num,KZ.o,rj F.o HF.o u.o⟩
         case measure=>simp [intOf];omega
     · have N:¬(k:Int)<(n2:Int):=by omega
       have u:Eq (B.all (fun y=>!gM (s,q,d,t,nn) y)=true):=by
        have:=F.o;rw [Gr (by rw [a9.o];omega)] at this;exact this
       go_wp2;go_roundw
       case rel=>exact ⟨i+1,by omega,by go_num,D.o,rj (f:=fun x=>B.all (fun y=>!gM x y)) HW.o HG.o u.o⟩
       case measure=>simp [intOf];omega
  · have R:¬(i:Int)<(H:Int):=by omega
    have u:Eq (j9 A B=true):=by
     have:=HW.o;rw [Gr (by rw [ae.o];omega)] at this;exact this
    go_wp2;go_ret;exact ⟨ag u.o.symm,HB.o⟩
def bh (L:List ac):ByteArray:=match L[0]? with | some e=>e.1 | none=>⟨#[]⟩
def aQ (L:List ac):ByteArray:=match L[L.length - 1]? with | some e=>e.1 | none=>⟨#[]⟩
def oo (A B:List ac):Bool:=Op.bytesLess (aQ A).toList (bh B).toList
def iE (B:List af) (r:af) (i:Nat):Bool:=match i with | 0=>true | j+1=>match B[j]? with | none=>true | some p=>oo p.1 r.1
def fk (B:List af) (ap:Bool) (q:Int) (i:Nat):Bool :=
 match B[i]? with
 | none=>true
 | some r=>cP r.1 r.2 && (b9 r.1 q && (!ap || iE B r i))
def ux (B:List af) (ap:Bool) (q:Int) (k:Nat):Prop:=∀j,j<k→fk B ap q j=true
def dF (B:List af) (most:Int) (ap:Bool) (q:Int):Bool:=decide ((B.length:Int)≤most) && (List.range B.length).all (fk B ap q)
theorem Ab {B:List af} (h:most<(B.length:Int)):dF B most ap q=false:=by
 unfold dF;rw [decide_eq_false (by omega)];rfl
theorem tM {B:List af} (hk:k<B.length) (h:fk B ap q k=false):dF B most ap q=false:=by
 unfold dF;rw [IQ];right
 rw [Ih];intro h1;rw [GL] at h1;rw [h1 k (G7.2 hk)] at h;cases h
theorem B7 {B:List af} (h:ux B ap q B.length) (hm:(B.length:Int)≤most):dF B most ap q=true:=by
 unfold dF;rw [decide_eq_true hm,Bool.true_and,GL];intro j d;exact h j (G7.1 d)
theorem nz {B:List af} (h:ux B ap q k) (hk:fk B ap q k=true):ux B ap q (k+1):=by
 intro j d;by_cases e:j=k
 · subst e;exact hk
 · exact h j (by omega)
theorem dS {B:List af} (h:B[i]?=some r):fk B ap q i=(cP r.1 r.2 && (b9 r.1 q && (!ap || iE B r i))):=by
 unfold fk;simp only [h]
theorem xw {B:List af} {p:af} (h:B[i]?=some r) (hi:0<i) (hp:B[i - 1]?=some p):fk B ap q i=(cP r.1 r.2 && (b9 r.1 q && (!ap || oo p.1 r.1))):=by
 obtain ⟨j,rfl⟩:∃j,i=j+1:=⟨i - 1,by omega⟩;simp only [Hv] at hp;rw [dS h];unfold iE;simp only [hp]
theorem mD (h:1≤L.length):∃e,L[0]?=some e∧bh L=e.1:=by
 have hg:L[0]?=some L[0]:=j' (by omega);exact ⟨_,hg,by unfold bh;rw [hg]⟩
theorem iV (h:1≤L.length):∃e,L[L.length - 1]?=some e∧aQ L=e.1:=by
 have hg:L[L.length - 1]?=some (L[L.length - 1]'(by omega)):=j' (by omega);exact ⟨_,hg,by unfold aQ;rw [hg]⟩
theorem pG (lo:Nat) (a:Option Addr) (n c:Nat) (B:List af) (most:Int) (ap:Bool) (q:Int) (w:World) (h:aw lo w a n c B) :
 Calls Tryz.prog 90 #[.slice a n c,iT most,.bool ap,iT q] w fun e w'=>e=.returned (.bool (dF B most ap q))∧Bl w w':=by
 have I:=az h.length;have hr:=h.room;have am:=h.big;unfold maxLen at am;have H:=az h;by_cases hm:most<(n:Int)
 · go_enter Tryz.func90,Tryz.ntmps90
   go_wp2;go_ret;exact ⟨ag (Ab (by rw [I.o];exact hm)).symm,Below.refl _ _⟩
 go_enter Tryz.func90,Tryz.ntmps90
 go_wp2;go_loopw [9] (fun iv wr=>∃i:Nat,i≤n∧iv=iT i∧Bl w wr∧ux B ap q i) (fun iv _=>n - (intOf iv).toNat)
 case atStart=>exact ⟨0,Gl _,rfl,Below.refl _ _,fun j hj=>absurd hj (G2 _)⟩
 case round =>
  obtain ⟨i,hi,rfl,hb,hw⟩:=hrel;have HW:=az hw;have HB:=az hb;by_cases a5:i<n
  · have a4:(i:Int)<(n:Int):=by omega
    have Y:Eq (i<B.length):=by show i<B.length;rw [I.o];exact a5
    obtain ⟨b,off,rfl,al⟩:=H.o.form (by omega);obtain ⟨L,m,s,ns,cs,hg,_,g0,g1,hE⟩:=H.o.run hb i a5;have HG:=az hg;have HE:=az hE;have zb:=E' al hb.size;obtain ⟨O,hO⟩:=aF (cP L m);go_wp2_with fail
    refine (zU _ _ _ L m wr HE.o.1).mono ?_;rw [← hO];rintro e w1 ⟨rfl,E⟩;have g0:=cell_later E g0;have g1:=cell_later E g1;have zb:=E' zb E.size;have J:=az (HB.o.trans (E.mono HB.o.size));have E1:=az (HE.o.1.keep E);cases hOv:O with
    | false =>
     have D:Eq (fk B ap q i=false):=by show fk B ap q i=false;rw [dS HG.o,← hO,hOv];rfl
     go_wp2;go_ret;exact ⟨ag (tM Y.o D.o).symm,J.o⟩
    | true =>
     have C:Eq (cP L m=true):=by rw [← hO];exact hOv
     obtain ⟨T,hT⟩:=aF (b9 L q);go_wp2_with fail
     refine (pF _ _ _ L q w1 E1.o).mono ?_;rw [← hT];rintro e t ⟨rfl,rfl⟩;cases hTv:T with
     | false =>
      have D:Eq (fk B ap q i=false):=by show fk B ap q i=false;rw [dS HG.o,C.o,← hT,hTv];rfl
      go_wp2;go_ret;exact ⟨ag (tM Y.o D.o).symm,J.o⟩
     | true =>
      have X:Eq (b9 L q=true):=by rw [← hT];exact hTv
      have f:Bl t t.drew:=(Below.refl _ t).drew;have KZ:=az (J.o.trans (f.mono J.o.size));have x:Eq (∀w',Bl t w'→(b<w'.heap.size)):=fun w' W=>E' zb W.size
      cases ap with
      | false =>
      have D:Eq (fk B false q i=true):=by show fk B false q i=true;rw [dS HG.o,C.o,X.o];rfl
      go_wp2_with fail
      refine eJ x f fun d=>?_
      refine aO 0 11 d ?_;refine aO 12 4 d ?_;refine aS 11 fun K hK=>?_
      go_simp;refine hK.o _ _ (x.o _ f) fun d=>?_
      refine aS 16 fun K hK=>?_
      go_simp;refine hK.o _ _ (x.o _ f) fun d=>?_
      refine aO 17 2 d ?_;refine dN ?_;go_wp2;go_roundw
      case rel=>exact ⟨i+1,by omega,by go_num,KZ.o,nz HW.o D.o⟩
      case measure=>simp [intOf];omega
      | true =>
       by_cases ar:i=0
       · subst ar;have D:Eq (fk B true q 0=true):=by show fk B true q 0=true;rw [dS HG.o,C.o,X.o];rfl
         go_wp2_with fail
         refine eJ x f fun d=>?_
         refine aO 0 11 d ?_;refine aO 12 4 d ?_;refine aS 11 fun K hK=>?_
         go_simp;refine hK.o _ _ (x.o _ f) fun d=>?_
         refine aS 16 fun K hK=>?_
         go_simp;refine hK.o _ _ (x.o _ f) fun d=>?_
         refine aO 17 2 d ?_;refine dN ?_;go_wp2;go_roundw
         case rel=>exact ⟨0+1,by omega,by go_num,KZ.o,nz HW.o D.o⟩
         case measure=>simp [intOf];omega
       · have aP:(0:Int)<(i:Int):=by omega
         have R:0<i:=by omega
         have aM:=decide_eq_true R;have aT:(0:Int)≤(i:Int) - 1:=by omega
         have b1:(i:Int) - 1<(n:Int):=by omega
         have b0:(1:Int)≤(i:Int):=by omega
         have aU:((i:Int) - 1).toNat=i - 1:=by omega
         have wj:IntKind.i64.wrap ((i:Int) - 1)=(i:Int) - 1:=by rw [GB];unfold wrap64;omega
         obtain ⟨Lp,mp,sp,np,cp,hp,_,p0,p1,a0⟩:=H.o.run J.o (i - 1) (by omega);have aG:cP Lp mp=true:=by
          have h1:=HW.o (i - 1) (by omega);rw [dS hp] at h1;simp only [Gx] at h1;exact h1.1
         have l1:=(bD C.o).1;have l2:=(bD aG).1;obtain ⟨el,ak,a2⟩:=mD l1;obtain ⟨eh,a7,a1⟩:=iV l2;have hns:=E1.o.length;have aJ:=a0.1.length;obtain ⟨bs,os,rfl,_⟩:=E1.o.form (by omega);obtain ⟨bp,op,rfl,_⟩:=a0.1.form (by omega);rw [aJ] at a7;have CH:Eq (∀w',Bl t w'→Calls Tryz.prog 146 #[.agg #[sO bp op np cp,iT mp]] w' fun r Z=>r=.returned (.string eh.1)∧Bl w' Z):=fun w' k=>uR mp bp op np cp Lp w' (a0.1.keep k) eh a7 (by omega)
         have U:Eq (∀w',Bl t w'→Calls Tryz.prog 147 #[.agg #[sO bs os ns cs,iT m]] w' fun r Z=>r=.returned (.string el.1)∧Bl w' Z):=fun w' k=>yN m bs os ns cs L w' (E1.o.keep k) el ak
         have Q:Eq (fk B true q i=Op.bytesLess eh.1.toList el.1.toList):=by
          show fk B true q i=_
          rw [xw HG.o R hp,C.o,X.o];simp only [Bool.true_and,Bool.not_true,Bool.false_or];unfold oo;rw [a2,a1]
         have u:Eq (∀w',Bl t w'→(w'.cell? ⟨b,off+i*2,none⟩=some (sO bs os ns cs)∧w'.cell? ⟨b,off+i*2+1,none⟩=some (iT m)∧w'.cell? ⟨b,off+(i - 1)*2,none⟩=some (sO bp op np cp)∧w'.cell? ⟨b,off+(i - 1)*2+1,none⟩=some (iT mp)∧b<w'.heap.size)):=fun w' W=>⟨cell_later W g0,cell_later W g1,cell_later W p0,cell_later W p1,E' zb W.size⟩
         obtain ⟨sh,a8⟩:=aF eh.1;obtain ⟨sl,hsl⟩:=aF el.1;rw [← a8] at CH Q;rw [← hsl] at U Q;clear a8 hsl;cases hcmp:Op.bytesLess sh.toList sl.toList with
         | true =>
          have D:Eq (fk B true q i=true):=by show fk B true q i=true;rw [Q.o];exact hcmp
          go_wp2_with fail
          refine eJ u f fun d=>?_
          refine aO 0 11 d ?_;refine aO 12 4 d ?_;refine aS 11 fun K hK=>?_
          go_simp;refine (CH.o _ f).mono ?_;rintro e au ⟨rfl,F⟩;have k1:=f.trans (F.mono f.size);go_wp2_with fail
          refine hK.o _ _ (u.o _ k1) fun d=>?_
          refine aS 16 fun K hK=>?_
          go_simp;refine (U.o _ k1).mono ?_;rintro e aq ⟨rfl,N⟩;have k2:=k1.trans (N.mono k1.size);go_wp2_with fail
          refine hK.o _ _ (u.o _ k2) fun d=>?_
          refine aO 17 2 d ?_;refine dN ?_;have KY:=az (J.o.trans (k2.mono J.o.size));clear f k1 k2 F N u d;go_wp2;go_roundw
          case rel=>exact ⟨i+1,by omega,by go_num,KY.o,nz HW.o D.o⟩
          case measure=>simp [intOf];omega
         | false =>
          have D:Eq (fk B true q i=false):=by show fk B true q i=false;rw [Q.o];exact hcmp
          go_wp2_with fail
          refine eJ u f fun d=>?_
          refine aO 0 11 d ?_;refine aO 12 4 d ?_;refine aS 11 fun K hK=>?_
          go_simp;refine (CH.o _ f).mono ?_;rintro e au ⟨rfl,F⟩;have k1:=f.trans (F.mono f.size);go_wp2_with fail
          refine hK.o _ _ (u.o _ k1) fun d=>?_
          refine aS 16 fun K hK=>?_
          go_simp;refine (U.o _ k1).mono ?_;rintro e aq ⟨rfl,N⟩;have k2:=k1.trans (N.mono k1.size);go_wp2_with fail
          refine hK.o _ _ (u.o _ k2) fun d=>?_
          refine aO 17 2 d ?_;refine dN ?_;have KY:=az (J.o.trans (k2.mono J.o.size));go_wp2;go_ret;exact ⟨ag (tM Y.o D.o).symm,KY.o⟩
  · have a4:¬(i:Int)<(n:Int):=by omega
    have HC:Eq (dF B most ap q=true):=by
     have hw:=HW.o;have aH:i=B.length:=by rw [I.o];omega
     rw [aH] at hw;exact B7 hw (by rw [I.o];omega)
    go_wp2;go_ret;exact ⟨ag HC.o.symm,HB.o⟩
theorem Tryz.infoEnt:(Tryz.prog.info? 50).map (fun i=>(i.zero,i.size,i.bytes))=some (some (.agg #[.string ByteArray.empty,iT 0,iT 0,.string ByteArray.empty,iT 0]),5,56):=by kernel_rfl
def jw (xs:List Value) (j:Nat) (l:ac):Prop:=xs[j*5]?=some (.string l.1)∧xs[j*5+1]?=some (iT l.2.1)∧xs[j*5+2]?=some (iT l.2.2.1)∧xs[j*5+3]?=some (.string l.2.2.2.1)∧xs[j*5+4]?=some (iT l.2.2.2.2)
theorem jh {l:ac} (h:jw xs j l) (d:j≠k) (u0 u1 u2 u3 u4:Value):jw (((((xs.set (k*5) u0).set (k*5+1) u1).set (k*5+2) u2).set (k*5+3) u3).set (k*5+4) u4) j l:=by
 obtain ⟨h0,h1,h2,h3,h4⟩:=h;refine ⟨?_,?_,?_,?_,?_⟩ <;> (repeat rw [GE (by omega)]) <;> assumption
theorem jM (s t:ByteArray) (q d n:Int) (h:k*5+4<xs.length):jw (((((xs.set (k*5) (.string s)).set (k*5+1) (iT q)).set (k*5+2) (iT d)).set (k*5+3) (.string t)).set (k*5+4) (iT n)) k (s,q,d,t,n):=by
 refine ⟨?_,?_,?_,?_,?_⟩
 · rw [GE (by omega),GE (by omega),GE (by omega),GE (by omega),GV (by omega)]
 · rw [GE (by omega),GE (by omega),GE (by omega),GV (by simp;omega)]
 · rw [GE (by omega),GE (by omega),GV (by simp;omega)]
 · rw [GE (by omega),GV (by simp;omega)]
 · rw [GV (by simp;omega)]
theorem rX (h:w.ownsRow base 50 5 (sL g n cap) n xs) (hn:L.length=n) (hw:∀l ∈ L,eG l)
 (hh:∀j l,L[j]?=some l→jw xs j l):aj w (pT g) n cap L:=by
 have f:=(h.lt g rfl).2;have d:n≤cap∧cap≤maxLen:=by
  rcases h.2 with ⟨h',_⟩ | ⟨C,s,t,h',_,_,o,m,_,_⟩
  · simp at h'
  · simp only [IR,Hy,Addr.mk.injEq,and_true,true_and] at h';obtain ⟨rfl,rfl⟩:=h';exact ⟨o,m⟩
 refine ⟨hn,d.1,d.2,hw,(fun e=>by cases e),?_,?_⟩
 · rintro x e _;cases e;exact ⟨f,rfl⟩
 · rintro x e i hi;cases e;obtain ⟨B,u,r2,r3,r4⟩:=hh i L[i] (j' hi);rw [hn] at hi;simp only [Gp];exact ⟨(h.cellAt _ (by omega)).trans B,(h.cellAt _ (by omega)).trans u,(h.cellAt _ (by omega)).trans r2,(h.cellAt _ (by omega)).trans r3,(h.cellAt _ (by omega)).trans r4⟩
def bg (e:ac):List Value:=[.string e.1,iT e.2.1,iT e.2.2.1,.string e.2.2.2.1,iT e.2.2.2.2]
def aG (L:List ac):List Value:=L.flatMap bg
theorem bw (A B:List ac):aG (A++B)=aG A++aG B:=by simp [aG]
theorem aW (L:List ac):(aG L).length=L.length*5:=by
 induction L with
 | nil=>rfl
 | cons l r d=>simp [aG,bg] at d ⊢;omega
theorem yw (l:ac) (r:List ac):aG (l :: r)=.string l.1 :: iT l.2.1 :: iT l.2.2.1 :: .string l.2.2.2.1 :: iT l.2.2.2.2 :: aG r:=rfl
theorem fH (L:List ac) (j:Nat) (l:ac) (h:L[j]?=some l):jw (aG L) j l:=by
 induction L generalizing j with
 | nil=>simp at h
 | cons a r d =>
  rw [yw];cases j with
  | zero=>simp at h;subst h;exact ⟨rfl,rfl,rfl,rfl,rfl⟩
  | succ j =>
   simp at h;obtain ⟨h0,h1,h2,h3,h4⟩:=d j h;refine ⟨?_,?_,?_,?_,?_⟩
   · rw [show (j+1)*5=j*5+1+1+1+1+1 by omega];simpa using h0
   · rw [show (j+1)*5+1=j*5+1+1+1+1+1+1 by omega];simpa using h1
   · rw [show (j+1)*5+2=j*5+2+1+1+1+1+1 by omega];simpa using h2
   · rw [show (j+1)*5+3=j*5+3+1+1+1+1+1 by omega];simpa using h3
   · rw [show (j+1)*5+4=j*5+4+1+1+1+1+1 by omega];simpa using h4
theorem pU (hx:xs.length=L.length*5) (hh:∀j l,L[j]?=some l→jw xs j l):xs=aG L:=by
 apply List.ext_getElem?;intro i;by_cases hi:i<L.length*5
 · have d:i / 5<L.length:=by omega
   obtain ⟨a0,a1,a2,a3,a4⟩:=hh (i / 5) L[i / 5] (j' d);obtain ⟨b0,b1,b2,b3,b4⟩:=fH L (i / 5) L[i / 5] (j' d);have:i=i / 5*5∨i=i / 5*5+1∨i=i / 5*5+2∨i=i / 5*5+3∨i=i / 5*5+4:=by omega
   rcases this with e | e | e | e | e
   · rw [e,a0,b0]
   · rw [e,a1,b1]
   · rw [e,a2,b2]
   · rw [e,a3,b3]
   · rw [e,a4,b4]
 · rw [Ig (by omega),Ig (by rw [aW];omega)]
theorem aY (L:List ac):∀u ∈ aG L,u.oneCell'=true:=by
 intro u d;simp only [aG,IA,bg,Gz,GZ,or_false] at d;obtain ⟨l,_,rfl | rfl | rfl | rfl | rfl⟩:=d <;> rfl
structure ah (w:World) (base b n cap:Nat) (L:List ac):Prop where
 owns:w.ownsRow base 50 5 (sL b n cap) n (aG L)
 len:L.length=n
 ents:∀l ∈ L,eG l
theorem ah.entsAt (h:ah w base b n cap L):aj w (pT b) n cap L :=
 rX h.owns h.len h.ents (fun j l hl=>fH L j l hl)
theorem ah.lt (h:ah w base b n cap L):base≤b∧b<w.heap.size:=h.owns.lt b rfl
theorem ah.grown (h:ah w base b n cap L) (hg:w.grownBy w' row) (d:some b≠row):ah w' base b n cap L :=
 ⟨h.owns.kept hg (.inr d),h.len,h.ents⟩
theorem ah.below (h:ah w base b n cap L) (hb:Bl w w'):ah w' base b n cap L:=h.grown (row:=none) ⟨hb.os,hb.tape,hb.output,hb.size,fun k hk _=>hb.block k hk⟩ (by simp)
theorem ah.setCell (h:ah w base b n cap L) {p:Addr} (hp:p.block≠b) (u:Value):ah (w.setCell p u) base b n cap L :=
 h.grown (row:=some p.block) ⟨rfl,rfl,rfl,by simp [World.setCell],fun k _ hk=>Below.heap_setCell _ _ _ _ (fun e=>hk (by rw [e]))⟩ (fun e=>hp (by cases e;rfl))
theorem ah.mono {base':Nat} (h:ah w base b n cap L) (hb:base'≤base):ah w base' b n cap L:=by
 refine ⟨⟨h.owns.1,?_⟩,h.len,h.ents⟩;rcases h.owns.2 with h2 | ⟨g,cap,d,hv,hg,r⟩
 · exact Or.inl h2
 · exact Or.inr ⟨g,cap,d,hv,Gq hb hg,r⟩
theorem aj.sub {len:Nat} (h:aj w (some ⟨b,off,none⟩) len cap L) (f:i≤j) (m:j≤len):aj w (some ⟨b,off+i*5,none⟩) (j - i) (cap - i) ((L.drop i).take (j - i)) where
 length:=by have:=h.length;simp;omega
 room:=by have:=h.room;omega
 big:=by have:=h.big;omega
 ents:=fun l hl=>h.ents l (Ha (GX hl))
 nil:=fun e=>by cases e
 lies:=fun x e hp=>by cases e;exact h.lies ⟨b,off,none⟩ rfl (by omega)
 cells:=fun x e k hk=>by
  cases e
  have d:i+k<L.length:=by simp at hk;omega
  have h1:=h.cells ⟨b,off,none⟩ rfl (i+k) d
  have e1:off+(i+k)*5=off+i*5+k*5:=by omega
  simp only [e1] at h1
  simpa using h1
structure df (w:World) (a:Option Addr) (n c:Nat) (P:List (List ac)):Prop where
 length:P.length=n
 room:n≤c
 big:c≤maxLen
 nil:a=none→n=0
 lies:∀x,a=some x→0<n→x.block<w.heap.size∧x.spot=none
 lists:∀x,a=some x→∀i (h:i<P.length),∃s m d,w.cell? ⟨x.block,x.off+i,none⟩=some (.slice s m d)∧aj w s m d P[i]
theorem df.keep (h:df w a n c P) (hb:Bl w w'):df w' a n c P where
 length:=h.length
 room:=h.room
 big:=h.big
 nil:=h.nil
 lies:=fun x e hp=>⟨E' (h.lies x e hp).1 hb.size,(h.lies x e hp).2⟩
 lists:=fun x e i hi=>by
  obtain ⟨s,m,d,c0,hL⟩:=h.lists x e i hi
  exact ⟨s,m,d,cell_later hb c0,hL.keep hb⟩
theorem df.form (h:df w a n c P) (hl:1≤n):∃b off,a=some ⟨b,off,none⟩∧b<w.heap.size:=by
 cases a with
 | none=>have:=h.nil rfl;omega
 | some x =>
  obtain ⟨b,off,d⟩:=x;obtain ⟨h1,h2⟩:=h.lies _ rfl (by omega);simp only at h1 h2;subst h2;exact ⟨b,off,rfl,h1⟩
theorem df.list {wr:World} (h:df w (some ⟨b,off,none⟩) n c P) (hb:Bl w wr) (k:Nat) (hk:k<n) :
 ∃A s m d,P[k]?=some A∧wr.cell? ⟨b,off+k,none⟩=some (.slice s m d)∧aj wr s m d A:=by
 have e:k<P.length:=by rw [h.length];exact hk
 obtain ⟨s,m,d,c0,hL⟩:=(h.keep hb).lists _ rfl k e;exact ⟨P[k],s,m,d,j' e,c0,hL⟩
theorem Tryz.infoEntS:(Tryz.prog.info? 28).map (fun i=>(i.zero,i.size,i.bytes))=some (some nZ,1,24):=by kernel_rfl
structure aX (w:World) (base g n c:Nat) (P:List (List ac)) (vs:List Value) (y:Option Nat):Prop where
 owns:w.ownsRow base 28 1 (sL g n c) n vs
 len:P.length=n
 ne:some g≠y
 lists:∀(i:Nat) A,P[i]?=some A→∃s m d,vs[i]?=some (.slice s m d)∧aj w s m d A∧∀x,s=some x→0<m→x.block≠g∧some x.block≠y
theorem aj.grownB {s:Option Addr} {m d:Nat} (h:aj w s m d A) (hg:w.grownBy w' row) (f:∀x,s=some x→0<m→some x.block≠row):aj w' s m d A :=
 h.moved hg.size (fun x e hp o=>G8 (a:=⟨x.block,o,none⟩) (hg.block x.block (h.lies x e hp).1 (f x e hp)))
theorem aX.partsAt (h:aX w base g n c P vs y):df w (pT g) n c P:=by
 have o:=(h.owns.lt g rfl).2;have f:n≤c∧c≤maxLen:=by
  rcases h.owns.2 with ⟨h',_⟩ | ⟨D,B,C,h',_,_,u,t,_,_⟩
  · simp at h'
  · simp only [IR,Hy,Addr.mk.injEq,and_true,true_and] at h';obtain ⟨rfl,rfl⟩:=h';exact ⟨u,t⟩
 refine ⟨h.len,f.1,f.2,(fun e=>by cases e),?_,?_⟩
 · rintro x e _;cases e;exact ⟨o,rfl⟩
 · rintro x e i hi;cases e;obtain ⟨s,m,d,hv,hE,_⟩:=h.lists i _ (j' hi);refine ⟨s,m,d,?_,hE⟩;have:=h.owns.cellAt i (by rw [← h.len];omega);rw [hv] at this;simpa using this
theorem aX.grown (h:aX w base g n c P vs y) (hg:w.grownBy w' row) (hr:∀k,row=some k→y=some k):aX w' base g n c P vs y where
 owns:=h.owns.kept hg (.inr (fun e=>h.ne (by rw [hr g e.symm])))
 len:=h.len
 ne:=h.ne
 lists:=fun i A hA=>by
  obtain ⟨s,m,d,hv,hE,hx⟩:=h.lists i A hA
  exact ⟨s,m,d,hv,hE.grownB hg (fun x e hp f=>(hx x e hp).2 (hr _ f.symm).symm),hx⟩
theorem dU (hb:Bl w w'):w.grownBy w' none:=⟨hb.os,hb.tape,hb.output,hb.size,fun k hk _=>hb.block k hk⟩
theorem aX.below (h:aX w base g n c P vs y) (hb:Bl w w'):aX w' base g n c P vs y:=h.grown (dU hb) (fun k e=>by cases e)
theorem aX.turn (h:aX w base g n c P vs y) {y':Option Nat} (hy:y'=y∨y'=none∨y'=some w.heap.size):aX w base g n c P vs y' where
 owns:=h.owns
 len:=h.len
 ne:=by
  rcases hy with rfl | rfl | rfl
  · exact h.ne
  · exact fun e=>by cases e
  · intro e;have h1:=(h.owns.lt g rfl).2;have h2:=Gi e;omega
 lists:=fun i A hA=>by
  obtain ⟨s,m,d,hv,hE,hx⟩:=h.lists i A hA;refine ⟨s,m,d,hv,hE,fun x e hp=>⟨(hx x e hp).1,?_⟩⟩;rcases hy with rfl | rfl | rfl
  · exact (hx x e hp).2
  · exact fun e=>by cases e
  · intro f;have h1:=(hE.lies x e hp).1;have h2:=Gi f;omega
theorem aX.push {g2 c2:Nat} (h:aX w base g n c P vs y) {s:Option Addr} {m d:Nat} {A:List ac}
 (ho:w'.ownsRow base 28 1 (sL g2 (n+1) c2) (n+1) (vs++[.slice s m d])) (hg:w.grownBy w' (some g)) (h2:g2=g∨g2=w.heap.size)
 (hE:aj w s m d A) (hx:∀x,s=some x→0<m→x.block≠g):aX w' base g2 (n+1) c2 (P++[A]) (vs++[.slice s m d]) none where
 owns:=ho
 len:=by rw [Gj,h.len];rfl
 ne:=fun e=>by cases e
 lists:=fun i B hB=>by
  have f:vs.length=n:=by have:=h.owns.1;omega
  by_cases hi:i<n
  · rw [Gt (by rw [h.len];exact hi)] at hB
    obtain ⟨D,F,E,hv,t,o⟩:=h.lists i B hB
    refine ⟨D,F,E,by rw [Gt (by rw [f];exact hi)];exact hv,t.grownB hg (fun x e hp C=>(o x e hp).1 (by cases C;rfl)),fun x e hp=>⟨?_,fun e=>by cases e⟩⟩
    rcases h2 with rfl | rfl
    · exact (o x e hp).1
    · have:=(t.lies x e hp).1;omega
  · rw [Gm (by rw [h.len];omega),h.len] at hB
    have u:i - n=0:=by
     by_cases e:i - n=0
     · exact e
     · rw [Ig (by simp;omega)] at hB;cases hB
    rw [u] at hB
    simp at hB
    subst hB
    refine ⟨s,m,d,by rw [Gm (by rw [f];omega),f,u];rfl,hE.grownB hg (fun x e hp C=>hx x e hp (by cases C;rfl)),fun x e hp=>⟨?_,fun e=>by cases e⟩⟩
    rcases h2 with rfl | rfl
    · exact hx x e hp
    · have:=(hE.lies x e hp).1;omega
def mg (P:List (List ac)) (i k:Nat):Bool:=match P[i]? with | none=>true | some A=>match P[k]? with | none=>true | some B=>j9 A B
theorem oq {B:List ac} (h:P[i]?=some A) (h':P[k]?=some B):mg P i k=j9 A B:=by
 unfold mg;simp only [h,h']
def rD (P:List (List ac)) (i:Nat):Prop:=∀j k,j<i→j<k→k<P.length→mg P j k=true
def uA (P:List (List ac)) (i k:Nat):Prop:=∀j,i<j→j<k→mg P i j=true
def iZ (P:List (List ac)):Bool:=(List.range P.length).all fun i=>(List.range P.length).all fun k=>!decide (i<k) || mg P i k
theorem EI (hi:i<k) (hk:k<P.length) (h:mg P i k=false):iZ P=false:=by
 rw [Ih];intro h1;unfold iZ at h1;rw [GL] at h1;have h2:=h1 i (G7.2 (by omega));rw [GL] at h2;have h3:=h2 k (G7.2 hk);rw [h,decide_eq_true hi] at h3;cases h3
theorem DO (h:rD P P.length):iZ P=true:=by
 unfold iZ;rw [GL];intro i hi;rw [GL];intro k hk;by_cases e:i<k
 · rw [h i k (G7.1 hi) e (G7.1 hk)];simp
 · rw [decide_eq_false e];rfl
theorem EJ (h:uA P i k) (hk:mg P i k=true):uA P i (k+1):=by
 intro j h1 h2;by_cases e:j=k
 · subst e;exact hk
 · exact h j h1 (by omega)
theorem EH (h:rD P i) (hi:uA P i P.length):rD P (i+1):=by
 intro j k h1 h2 h3;by_cases e:j=i
 · subst e;exact hi k h2 h3
 · exact h j k (by omega) h2 h3
theorem BV (sq:Int) (am av ak:Option Addr) (nm cm nv cv nk ck:Nat) (P:List (List ac)) (w:World)
 (hp:∀w1,Bl w w1→Calls Tryz.prog 110 #[.agg #[iT sq,.slice am nm cm,.slice av nv cv,.slice ak nk ck]] w1 fun e w'=>∃a n c,e=.returned (.slice a n c)∧df w' a n c P∧Bl w1 w') :
 Calls Tryz.prog 91 #[.agg #[iT sq,.slice am nm cm,.slice av nv cv,.slice ak nk ck]] w fun e w'=>e=.returned (.bool (iZ P))∧Bl w w':=by
 go_enter Tryz.func91,Tryz.ntmps91
 go_wp2_with fail
 refine (hp _ bZ).mono ?_;rintro e w2 ⟨a,n,c,rfl,Q,a9⟩;have K1:∀o,Bl w (w.alloc o):=fun o=>(Below.refl _ _).alloc (Gg _) o
 have N:Eq (Bl w w2):=(K1 _).trans (a9.mono (K1 _).size);have u:=az Q.length;have hr:=Q.room;have W:=Q.big;unfold maxLen at W;have H:=az Q;go_wp2;go_loopw [4] (fun iv wr=>∃i:Nat,i≤n∧iv=iT i∧Bl w2 wr∧rD P i) (fun iv _=>n - (intOf iv).toNat)
 case atStart=>exact ⟨0,Gl _,rfl,Below.refl _ _,fun j k hj=>absurd hj (G2 _)⟩
 case round =>
  obtain ⟨i,hi,rfl,hb,hw⟩:=hrel;have HW:=az hw;have HB:=az hb;by_cases a7:i<n
  · have I:(i:Int)<(n:Int):=by omega
    obtain ⟨b,off,rfl,T⟩:=H.o.form (by omega);go_wp2;go_loopw [5] (fun kv wq=>∃k:Nat,i<k∧k≤n∧kv=iT k∧Bl w2 wq∧uA P i k) (fun kv _=>n - (intOf kv).toNat)
    case atStart=>exact ⟨i+1,by omega,by omega,by go_num,HB.o,fun j h1 h2=>absurd h2 (by omega)⟩
    case round =>
     obtain ⟨k,a6,hk,rfl,m,U⟩:=hrel;have J:=az U;have d:=az m;by_cases E:k<n
     · have F:(k:Int)<(n:Int):=by omega
       obtain ⟨A,Y,n1,c1,hA,g1,a3⟩:=H.o.list m i a7;obtain ⟨B,s2,n2,R,hB,g2,ad⟩:=H.o.list m k E;have x:=az (oq hA hB);have X:Eq (k<P.length):=by show k<P.length;rw [u.o];exact E
       have zb:=E' T m.size;have CA:Eq (∀w',Bl wr w'→Calls Tryz.prog 148 #[.slice Y n1 c1,.slice s2 n2 R] w' fun e Z=>e=.returned (.bool (j9 A B))∧Bl w' Z):=fun w' D=>zZ Y s2 n1 c1 n2 R A B w' (a3.keep D) (ad.keep D)
       have f:Eq (∀w',Bl wr w'→(w'.cell? ⟨b,off+i,none⟩=some (.slice Y n1 c1)∧w'.cell? ⟨b,off+k,none⟩=some (.slice s2 n2 R)∧b<w'.heap.size)):=fun w' D=>⟨cell_later D g1,cell_later D g2,E' zb D.size⟩
       have s:Bl wr wr.drew:=(Below.refl _ wr).drew;obtain ⟨O,hO⟩:=aF (j9 A B);rw [← hO] at CA x;clear hO;cases O with
       | true =>
        go_wp2_with fail
        refine eJ f s fun C=>?_
        refine aO 0 8 C ?_;refine aS 8 fun K hK=>?_
        go_simp;refine (CA.o _ s).mono ?_;rintro e a2 ⟨rfl,t⟩;have k1:=s.trans (t.mono s.size);go_wp2_with fail
        refine hK.o _ _ (f.o _ k1) fun C=>?_
        refine aO 9 1 C ?_;refine dN ?_;have KY:=az (d.o.trans (k1.mono d.o.size));go_wp2;go_roundw
        case rel=>exact ⟨k+1,by omega,by omega,by go_num,KY.o,EJ J.o x.o⟩
        case measure=>simp [intOf];omega
       | false =>
        go_wp2_with fail
        refine eJ f s fun C=>?_
        refine aO 0 8 C ?_;refine aS 8 fun K hK=>?_
        go_simp;refine (CA.o _ s).mono ?_;rintro e a2 ⟨rfl,t⟩;have k1:=s.trans (t.mono s.size);go_wp2_with fail
        refine hK.o _ _ (f.o _ k1) fun C=>?_
        refine aO 9 1 C ?_;refine dN ?_;have KY:=az (d.o.trans (k1.mono d.o.size));go_wp2;go_ret;exact ⟨ag (EI a6 X.o x.o).symm,N.o.trans (KY.o.mono N.o.size)⟩
     · have F:¬(k:Int)<(n:Int):=by omega
       have HN:Eq (rD P (i+1)):=by
        have h1:=J.o;have h2:k=P.length:=by rw [u.o];omega
        rw [h2] at h1;exact EH HW.o h1
       go_wp2;go_roundw
       case rel=>exact ⟨i+1,by omega,by go_num,d.o,HN.o⟩
       case measure=>simp [intOf];omega
  · have I:¬(i:Int)<(n:Int):=by omega
    have HC:Eq (iZ P=true):=by
     have hw:=HW.o;have a8:i=P.length:=by rw [u.o];omega
     rw [a8] at hw;exact DO hw
    go_wp2;go_ret;exact ⟨ag HC.o.symm,N.o.trans (HB.o.mono N.o.size)⟩
end Go.Proofs.YtpobkmjicbobdaaGreat
