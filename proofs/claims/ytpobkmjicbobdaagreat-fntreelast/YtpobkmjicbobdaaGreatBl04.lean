/- Walks. -/
import Derived.Test.YtpobkmjicbobdaaGreatBl03
import Derived.Maps.AppendAt
namespace Go.Proofs.YtpobkmjicbobdaaGreat
set_option maxRecDepth 100000
set_option maxHeartbeats 40000000
open Go.RowKit
variable {A L:List ac} {P:List (List ac)} {a:Option Addr} {ap:Bool} {b base c cap g i j k n off:Nat} {most q:Int} {r:an} {row y:Option Nat} {vs xs:List Value} {w w':World}
def fq (x y:ac):Bool:=decide (x.1=y.1) && decide (x.2.1≤y.2.1)
def iN (A B:List ac):Bool:=A.all (fun x=>B.all (fun y=>!fq x y))
theorem pj {α:Type} {L:List α} {f:α→Bool} {e:α} (h:(L.take k).all f=true) (hk:L[k]?=some e) (d:f e=true):(L.take (k+1)).all f=true:=by
 rw [Dl,hk];simp [List.all_append,h,d]
theorem z7 {α:Type} {L:List α} {f:α→Bool} {e:α} (hk:L[k]?=some e) (d:f e=false):L.all f=false:=by
 rw [D7];intro h;rw [Dn] at h;rw [h e (CV hk)] at d;cases d
theorem wW (a1 a2:Option Addr) (E c1 n2 c2:Nat) (A B:List ac) (w:World) (h1:ag w a1 E c1 A) (h2:ag w a2 n2 c2 B) :
 Calls Tryz.prog 148 #[.slice a1 E c1,.slice a2 n2 c2] w fun e w'=>e=.returned (.bool (iN A B))∧Bl w w':=by
 have a6:CG (A.length=E):=h1.length;have ab:CG (B.length=n2):=h2.length;have aw:=h1.room;have ad:=h1.big;have aA:=h2.room;have a4:=h2.big;unfold maxLen at ad a4;have H1:=bO h1;have H2:=bO h2;clear h1 h2;go_enter Tryz.func148,Tryz.ntmps148
 go_wp2;go_loopw [5] (fun iv wr=>∃i:Nat,i≤E∧iv=iT i∧Bl w wr∧(A.take i).all (fun x=>B.all (fun y=>!fq x y))=true) (fun iv _=>E - (intOf iv).toNat)
 case atStart=>exact ⟨0,C3 _,rfl,Below.refl _ _,by simp⟩
 case round =>
  obtain ⟨i,hi,rfl,hb,hw⟩:=hrel;have HW:CG ((A.take i).all (fun x=>B.all (fun y=>!fq x y))=true):=hw;have HB:CG (Bl w wr):=hb;clear hw;by_cases U:i<E
  · have W:(i:Int)<(E:Int):=by omega
    obtain ⟨b1,o1,rfl,J⟩:=H1.o.form (by omega);obtain ⟨s,q,d,t,nn,hg,_,_⟩:=H1.o.ent hb J i U;have HG:CG (A[i]?=some (s,q,d,t,nn)):=hg;clear hg hb;go_wp2;go_loopw [6] (fun kv wq=>∃k:Nat,k≤n2∧kv=iT k∧Bl w wq∧(B.take k).all (fun y=>!fq (s,q,d,t,nn) y)=true) (fun kv _=>n2 - (intOf kv).toNat)
    case atStart=>exact ⟨0,C3 _,rfl,HB.o,by simp⟩
    case round =>
     obtain ⟨k,hk,rfl,m,R⟩:=hrel;have N:CG ((B.take k).all (fun y=>!fq (s,q,d,t,nn) y)=true):=R;have I:CG (Bl w wr):=m;clear R;by_cases a9:k<n2
     · have X:(k:Int)<(n2:Int):=by omega
       obtain ⟨b2,o2,rfl,T⟩:=H2.o.form (by omega);obtain ⟨s1,q1,d1,t1,ax,Y,_,g0,g1,_⟩:=H1.o.ent m J i U;rw [HG.o] at Y;cases Y;obtain ⟨O,H,d',Z,D,hF,_,e0,e1,_⟩:=H2.o.ent m T k a9;have HF:CG (B[k]?=some (O,H,d',Z,D)):=hF;have z1:=l' J m.size;have z2:=l' T m.size;have K:Bl wr wr.drew:=(Below.refl _ wr).drew;have u:CG (∀w',Bl wr w'→(w'.cell? ⟨b1,o1+i*5,none⟩=some (.string s)∧w'.cell? ⟨b1,o1+i*5+1,none⟩=some (iT q)∧b1<w'.heap.size∧w'.cell? ⟨b2,o2+k*5,none⟩=some (.string O)∧w'.cell? ⟨b2,o2+k*5+1,none⟩=some (iT H)∧b2<w'.heap.size)):=fun w' Q=>⟨cell_later Q g0,cell_later Q g1,l' z1 Q.size,cell_later Q e0,cell_later Q e1,l' z2 Q.size⟩
       have KZ:CG (Bl w wr.drew):=I.o.trans (K.mono I.o.size);clear hF m;by_cases hs:s=O
       · subst hs;by_cases hq:q≤H
         · have a7:decide (q≤H)=true:=decide_eq_true hq;have C:CG ((!fq (s,q,d,t,nn) (s,H,d',Z,D))=false):=by show (!fq _ _)=false;unfold fq;simp [hq]
           go_wp2_with fail
           refine ez u K fun F=>?_
           refine aP 0 24 F ?_;refine dN ?_;clear K u F;go_wp2;go_ret;exact ⟨ah (z7 HG.o (z7 HF.o C.o)).symm,KZ.o⟩
         · have a7:decide (q≤H)=false:=decide_eq_false hq;have C:CG ((!fq (s,q,d,t,nn) (s,H,d',Z,D))=true):=by show (!fq _ _)=true;unfold fq;simp [hq]
           go_wp2_with fail
           refine ez u K fun F=>?_
           refine aP 0 24 F ?_;refine dN ?_;clear K u F;go_wp2;go_roundw
           case rel=>exact ⟨k+1,by omega,by go_num,KZ.o,pj N.o HF.o C.o⟩
           case measure=>simp [intOf];omega
       · have aj:¬s.toList=O.toList:=by
          rw [Dp,Dp];intro h;exact hs (Ef (Ed.1 h))
         have ao:(s.toList == O.toList)=false:=by simpa using aj
         have C:CG ((!fq (s,q,d,t,nn) (O,H,d',Z,D))=true):=by show (!fq _ _)=true;unfold fq;simp [hs]
         clear hs;go_wp2_with fail
         refine ez u K fun F=>?_
         refine aP 0 24 F ?_;refine dN ?_;clear K u F;go_wp2;go_roundw
         case rel=>exact ⟨k+1,by omega,by go_num,KZ.o,pj N.o HF.o C.o⟩
         case measure=>simp [intOf];omega
     · have X:¬(k:Int)<(n2:Int):=by omega
       have C:CG (B.all (fun y=>!fq (s,q,d,t,nn) y)=true):=by
        have:=N.o;rw [C9 (by rw [ab.o];omega)] at this;exact this
       go_wp2;go_roundw
       case rel=>exact ⟨i+1,by omega,by go_num,I.o,pj (f:=fun x=>B.all (fun y=>!fq x y)) HW.o HG.o C.o⟩
       case measure=>simp [intOf];omega
  · have W:¬(i:Int)<(E:Int):=by omega
    have C:CG (iN A B=true):=by
     have:=HW.o;rw [C9 (by rw [a6.o];omega)] at this;exact this
    go_wp2;go_ret;exact ⟨ah C.o.symm,HB.o⟩
def bd (L:List ac):ByteArray:=match L[0]? with | some e=>e.1 | none=>⟨#[]⟩
def aT (L:List ac):ByteArray:=match L[L.length - 1]? with | some e=>e.1 | none=>⟨#[]⟩
def kM (A B:List ac):Bool:=Op.bytesLess (aT A).toList (bd B).toList
def gV (B:List an) (r:an) (i:Nat):Bool:=match i with | 0=>true | j+1=>match B[j]? with | none=>true | some p=>kM p.1 r.1
def eX (B:List an) (ap:Bool) (q:Int) (i:Nat):Bool :=
 match B[i]? with
 | none=>true
 | some r=>ch r.1 r.2 && (bJ r.1 q && (!ap || gV B r i))
def pm (B:List an) (ap:Bool) (q:Int) (k:Nat):Prop:=∀j,j<k→eX B ap q j=true
def dh (B:List an) (most:Int) (ap:Bool) (q:Int):Bool:=decide ((B.length:Int)≤most) && (List.range B.length).all (eX B ap q)
theorem xc {B:List an} (h:most<(B.length:Int)):dh B most ap q=false:=by
 unfold dh;rw [decide_eq_false (by omega)];rfl
theorem qZ {B:List an} (hk:k<B.length) (h:eX B ap q k=false):dh B most ap q=false:=by
 unfold dh;rw [Bool.and_eq_false_iff];right
 rw [D7];intro h1;rw [Dn] at h1;rw [h1 k (DG.2 hk)] at h;cases h
theorem yQ {B:List an} (h:pm B ap q B.length) (hm:(B.length:Int)≤most):dh B most ap q=true:=by
 unfold dh;rw [decide_eq_true hm,Bool.true_and,Dn];intro j d;exact h j (DG.1 d)
theorem l6 {B:List an} (h:pm B ap q k) (hk:eX B ap q k=true):pm B ap q (k+1):=by
 intro j d;by_cases e:j=k
 · subst e;exact hk
 · exact h j (by omega)
theorem dE {B:List an} (h:B[i]?=some r):eX B ap q i=(ch r.1 r.2 && (bJ r.1 q && (!ap || gV B r i))):=by
 unfold eX;simp only [h]
theorem uu {B:List an} {p:an} (h:B[i]?=some r) (hi:0<i) (hp:B[i - 1]?=some p):eX B ap q i=(ch r.1 r.2 && (bJ r.1 q && (!ap || kM p.1 r.1))):=by
 obtain ⟨j,rfl⟩:∃j,i=j+1:=⟨i - 1,by omega⟩;simp only [DU] at hp;rw [dE h];unfold gV;simp only [hp]
theorem ls (h:1≤L.length):∃e,L[0]?=some e∧bd L=e.1:=by
 have hg:L[0]?=some L[0]:=j' (by omega);exact ⟨_,hg,by unfold bd;rw [hg]⟩
theorem im (h:1≤L.length):∃e,L[L.length - 1]?=some e∧aT L=e.1:=by
 have hg:L[L.length - 1]?=some (L[L.length - 1]'(by omega)):=j' (by omega);exact ⟨_,hg,by unfold aT;rw [hg]⟩
theorem nM (lo:Nat) (a:Option Addr) (n c:Nat) (B:List an) (most:Int) (ap:Bool) (q:Int) (w:World) (h:ay lo w a n c B) :
 Calls Tryz.prog 90 #[.slice a n c,iT most,.bool ap,iT q] w fun e w'=>e=.returned (.bool (dh B most ap q))∧Bl w w':=by
 have U:CG (B.length=n):=h.length;have hr:=h.room;have aq:=h.big;unfold maxLen at aq;have H:=bO h;clear h;by_cases hm:most<(n:Int)
 · go_enter Tryz.func90,Tryz.ntmps90
   go_wp2;go_ret;exact ⟨ah (xc (by rw [U.o];exact hm)).symm,Below.refl _ _⟩
 go_enter Tryz.func90,Tryz.ntmps90
 go_wp2;go_loopw [9] (fun iv wr=>∃i:Nat,i≤n∧iv=iT i∧Bl w wr∧pm B ap q i) (fun iv _=>n - (intOf iv).toNat)
 case atStart=>exact ⟨0,C3 _,rfl,Below.refl _ _,fun j hj=>absurd hj (DP _)⟩
 case round =>
  obtain ⟨i,hi,rfl,hb,hw⟩:=hrel;have HW:CG (pm B ap q i):=hw;have HB:CG (Bl w wr):=hb;clear hw;by_cases a8:i<n
  · have ab:(i:Int)<(n:Int):=by omega
    have Y:CG (i<B.length):=by show i<B.length;rw [U.o];exact a8
    obtain ⟨b,off,rfl,aE⟩:=H.o.form (by omega);obtain ⟨L,m,s,ns,cs,hg,_,g0,g1,hE⟩:=H.o.run hb i a8;have HG:CG (B[i]?=some (L,m)):=hg;have HE:CG (eW lo wr s ns cs L):=hE;have zb:=l' aE hb.size;clear hg hb hE;obtain ⟨O,hO⟩:=aH (ch L m);go_wp2_with fail
    refine (wQ _ _ _ L m wr HE.o.1).mono ?_;rw [← hO];rintro e w1 ⟨rfl,C⟩;have g0:=cell_later C g0;have g1:=cell_later C g1;have zb:=l' zb C.size;have Q:CG (Bl w w1):=HB.o.trans (C.mono HB.o.size);have E1:CG (ag w1 s ns cs L):=HE.o.1.keep C;clear C;cases hOv:O with
    | false =>
     have D:CG (eX B ap q i=false):=by show eX B ap q i=false;rw [dE HG.o,← hO,hOv];rfl
     go_wp2;go_ret;exact ⟨ah (qZ Y.o D.o).symm,Q.o⟩
    | true =>
     have F:CG (ch L m=true):=by rw [← hO];exact hOv
     clear hO hOv;obtain ⟨T,hT⟩:=aH (bJ L q);go_wp2_with fail
     refine (nL _ _ _ L q w1 E1.o).mono ?_;rw [← hT];rintro e f ⟨rfl,rfl⟩;cases hTv:T with
     | false =>
      have D:CG (eX B ap q i=false):=by show eX B ap q i=false;rw [dE HG.o,F.o,← hT,hTv];rfl
      go_wp2;go_ret;exact ⟨ah (qZ Y.o D.o).symm,Q.o⟩
     | true =>
      have a0:CG (bJ L q=true):=by rw [← hT];exact hTv
      clear hT hTv;have u:Bl f f.drew:=(Below.refl _ f).drew;have KZ:CG (Bl w f.drew):=Q.o.trans (u.mono Q.o.size);have t:CG (∀w',Bl f w'→(b<w'.heap.size)):=fun w' kk=>l' zb kk.size
      cases ap with
      | false =>
      have D:CG (eX B false q i=true):=by show eX B false q i=true;rw [dE HG.o,F.o,a0.o];rfl
      go_wp2_with fail
      refine ez t u fun d=>?_
      refine aP 0 11 d ?_;refine aP 12 4 d ?_;refine aR 11 fun K hK=>?_
      go_simp;refine hK.o _ _ (t.o _ u) fun d=>?_
      (try go_frame);refine aR 16 fun K hK=>?_
      go_simp;refine hK.o _ _ (t.o _ u) fun d=>?_
      (try go_frame);refine aP 17 2 d ?_;refine dN ?_;clear u t d;go_wp2;go_roundw
      case rel=>exact ⟨i+1,by omega,by go_num,KZ.o,l6 HW.o D.o⟩
      case measure=>simp [intOf];omega
      | true =>
       by_cases ax:i=0
       · subst ax;have D:CG (eX B true q 0=true):=by show eX B true q 0=true;rw [dE HG.o,F.o,a0.o];rfl
         go_wp2_with fail
         refine ez t u fun d=>?_
         refine aP 0 11 d ?_;refine aP 12 4 d ?_;refine aR 11 fun K hK=>?_
         go_simp;refine hK.o _ _ (t.o _ u) fun d=>?_
         (try go_frame);refine aR 16 fun K hK=>?_
         go_simp;refine hK.o _ _ (t.o _ u) fun d=>?_
         (try go_frame);refine aP 17 2 d ?_;refine dN ?_;clear u t d;go_wp2;go_roundw
         case rel=>exact ⟨0+1,by omega,by go_num,KZ.o,l6 HW.o D.o⟩
         case measure=>simp [intOf];omega
       · have aZ:(0:Int)<(i:Int):=by omega
         have W:0<i:=by omega
         have aO:decide (0<i)=true:=decide_eq_true W;have b1:(0:Int)≤(i:Int) - 1:=by omega
         have aX:(i:Int) - 1<(n:Int):=by omega
         have aY:(1:Int)≤(i:Int):=by omega
         have aT:((i:Int) - 1).toNat=i - 1:=by omega
         have wj:IntKind.i64.wrap ((i:Int) - 1)=(i:Int) - 1:=by rw [Dg];unfold wrap64;omega
         obtain ⟨Lp,mp,sp,np,cp,hp,_,p0,p1,R⟩:=H.o.run Q.o (i - 1) (by omega);have ad:ch Lp mp=true:=by
          have h1:=HW.o (i - 1) (by omega);rw [dE hp] at h1;simp only [Db] at h1;exact h1.1
         have l1:=(bE F.o).1;have l2:=(bE ad).1;obtain ⟨el,ae,X⟩:=ls l1;obtain ⟨eh,a2,I⟩:=im l2;have aK:=E1.o.length;have ac:=R.1.length;obtain ⟨bs,os,rfl,_⟩:=E1.o.form (by omega);obtain ⟨bp,op,rfl,_⟩:=R.1.form (by omega);rw [ac] at a2;have CH:CG (∀w',Bl f w'→Calls Tryz.prog 146 #[.agg #[sO bp op np cp,iT mp]] w' fun r Z=>r=.returned (.string eh.1)∧Bl w' Z):=fun w' k=>sF mp bp op np cp Lp w' (R.1.keep k) eh a2 (by omega)
         have a3:CG (∀w',Bl f w'→Calls Tryz.prog 147 #[.agg #[sO bs os ns cs,iT m]] w' fun r Z=>r=.returned (.string el.1)∧Bl w' Z):=fun w' k=>vw m bs os ns cs L w' (E1.o.keep k) el ae
         have N:CG (eX B true q i=Op.bytesLess eh.1.toList el.1.toList):=by
          show eX B true q i=_
          rw [uu HG.o W hp,F.o,a0.o];simp only [Bool.true_and,Bool.not_true,Bool.false_or];unfold kM;rw [X,I]
         have x:CG (∀w',Bl f w'→(w'.cell? ⟨b,off+i*2,none⟩=some (sO bs os ns cs)∧w'.cell? ⟨b,off+i*2+1,none⟩=some (iT m)∧w'.cell? ⟨b,off+(i - 1)*2,none⟩=some (sO bp op np cp)∧w'.cell? ⟨b,off+(i - 1)*2+1,none⟩=some (iT mp)∧b<w'.heap.size)):=fun w' kk=>⟨cell_later kk g0,cell_later kk g1,cell_later kk p0,cell_later kk p1,l' zb kk.size⟩
         clear t hp R ad l1 l2 ae a2 X I aK ac g0 g1 p0 p1 zb HE;obtain ⟨sh,a7⟩:=aH eh.1;obtain ⟨sl,hsl⟩:=aH el.1;rw [← a7] at CH N;rw [← hsl] at a3 N;clear a7 hsl;cases hcmp:Op.bytesLess sh.toList sl.toList with
         | true =>
          have D:CG (eX B true q i=true):=by show eX B true q i=true;rw [N.o];exact hcmp
          go_wp2_with fail
          refine ez x u fun d=>?_
          refine aP 0 11 d ?_;refine aP 12 4 d ?_;refine aR 11 fun K hK=>?_
          go_simp;refine (CH.o _ u).mono ?_;rintro e wk1 ⟨rfl,E⟩;have k1:Bl f wk1:=u.trans (E.mono u.size);go_wp2_with fail
          refine hK.o _ _ (x.o _ k1) fun d=>?_
          (try go_frame);refine aR 16 fun K hK=>?_
          go_simp;refine (a3.o _ k1).mono ?_;rintro e wk2 ⟨rfl,J⟩;have k2:Bl f wk2:=k1.trans (J.mono k1.size);go_wp2_with fail
          refine hK.o _ _ (x.o _ k2) fun d=>?_
          (try go_frame);refine aP 17 2 d ?_;refine dN ?_;have KY:CG (Bl w wk2):=Q.o.trans (k2.mono Q.o.size);clear u k1 k2 E J x d;go_wp2;go_roundw
          case rel=>exact ⟨i+1,by omega,by go_num,KY.o,l6 HW.o D.o⟩
          case measure=>simp [intOf];omega
         | false =>
          have D:CG (eX B true q i=false):=by show eX B true q i=false;rw [N.o];exact hcmp
          go_wp2_with fail
          refine ez x u fun d=>?_
          refine aP 0 11 d ?_;refine aP 12 4 d ?_;refine aR 11 fun K hK=>?_
          go_simp;refine (CH.o _ u).mono ?_;rintro e wk1 ⟨rfl,E⟩;have k1:Bl f wk1:=u.trans (E.mono u.size);go_wp2_with fail
          refine hK.o _ _ (x.o _ k1) fun d=>?_
          (try go_frame);refine aR 16 fun K hK=>?_
          go_simp;refine (a3.o _ k1).mono ?_;rintro e wk2 ⟨rfl,J⟩;have k2:Bl f wk2:=k1.trans (J.mono k1.size);go_wp2_with fail
          refine hK.o _ _ (x.o _ k2) fun d=>?_
          (try go_frame);refine aP 17 2 d ?_;refine dN ?_;have KY:CG (Bl w wk2):=Q.o.trans (k2.mono Q.o.size);clear u k1 k2 E J x d;go_wp2;go_ret;exact ⟨ah (qZ Y.o D.o).symm,KY.o⟩
  · have ab:¬(i:Int)<(n:Int):=by omega
    have HC:CG (dh B most ap q=true):=by
     have hw:=HW.o;have aJ:i=B.length:=by rw [U.o];omega
     rw [aJ] at hw;exact yQ hw (by rw [U.o];omega)
    go_wp2;go_ret;exact ⟨ah HC.o.symm,HB.o⟩
theorem Tryz.infoEnt:(Tryz.prog.info? 50).map (fun i=>(i.zero,i.size,i.bytes))=some (some (.agg #[.string ByteArray.empty,iT 0,iT 0,.string ByteArray.empty,iT 0]),5,56):=by kernel_rfl
def iP (xs:List Value) (j:Nat) (l:ac):Prop:=xs[j*5]?=some (.string l.1)∧xs[j*5+1]?=some (iT l.2.1)∧xs[j*5+2]?=some (iT l.2.2.1)∧xs[j*5+3]?=some (.string l.2.2.2.1)∧xs[j*5+4]?=some (iT l.2.2.2.2)
theorem iA {l:ac} (h:iP xs j l) (d:j≠k) (u0 u1 u2 u3 u4:Value):iP (((((xs.set (k*5) u0).set (k*5+1) u1).set (k*5+2) u2).set (k*5+3) u3).set (k*5+4) u4) j l:=by
 obtain ⟨h0,h1,h2,h3,h4⟩:=h;refine ⟨?_,?_,?_,?_,?_⟩ <;> (repeat rw [Dx (by omega)]) <;> assumption
theorem jd (s t:ByteArray) (q d n:Int) (h:k*5+4<xs.length):iP (((((xs.set (k*5) (.string s)).set (k*5+1) (iT q)).set (k*5+2) (iT d)).set (k*5+3) (.string t)).set (k*5+4) (iT n)) k (s,q,d,t,n):=by
 refine ⟨?_,?_,?_,?_,?_⟩
 · rw [Dx (by omega),Dx (by omega),Dx (by omega),Dx (by omega),DX (by omega)]
 · rw [Dx (by omega),Dx (by omega),Dx (by omega),DX (by simp;omega)]
 · rw [Dx (by omega),Dx (by omega),DX (by simp;omega)]
 · rw [Dx (by omega),DX (by simp;omega)]
 · rw [DX (by simp;omega)]
theorem pD (h:w.ownsRow base 50 5 (sL g n cap) n xs) (hn:L.length=n) (hw:∀l ∈ L,dR l)
 (hh:∀j l,L[j]?=some l→iP xs j l):ag w (pT g) n cap L:=by
 have m:=(h.lt g rfl).2;have d:n≤cap∧cap≤maxLen:=by
  rcases h.2 with ⟨f,_⟩ | ⟨D,t,C,f,_,_,s,o,_,_⟩
  · simp at f
  · simp only [Value.slice.injEq,Er,Addr.mk.injEq,and_true,true_and] at f;obtain ⟨rfl,rfl⟩:=f;exact ⟨s,o⟩
 refine ⟨hn,d.1,d.2,hw,(fun e=>by cases e),?_,?_⟩
 · rintro x e _;cases e;exact ⟨m,rfl⟩
 · rintro x e i hi;cases e;obtain ⟨u,B,r2,r3,r4⟩:=hh i L[i] (j' hi);rw [hn] at hi;simp only [C6];exact ⟨(h.cellAt _ (by omega)).trans u,(h.cellAt _ (by omega)).trans B,(h.cellAt _ (by omega)).trans r2,(h.cellAt _ (by omega)).trans r3,(h.cellAt _ (by omega)).trans r4⟩
def bD (e:ac):List Value:=[.string e.1,iT e.2.1,iT e.2.2.1,.string e.2.2.2.1,iT e.2.2.2.2]
def aC (L:List ac):List Value:=L.flatMap bD
theorem aJ (A B:List ac):aC (A++B)=aC A++aC B:=by simp [aC]
theorem aU (L:List ac):(aC L).length=L.length*5:=by
 induction L with
 | nil=>rfl
 | cons l r d=>simp [aC,bD] at d ⊢;omega
theorem ve (l:ac) (r:List ac):aC (l :: r)=.string l.1 :: iT l.2.1 :: iT l.2.2.1 :: .string l.2.2.2.1 :: iT l.2.2.2.2 :: aC r:=rfl
theorem fe (L:List ac) (j:Nat) (l:ac) (h:L[j]?=some l):iP (aC L) j l:=by
 induction L generalizing j with
 | nil=>simp at h
 | cons a r d =>
  rw [ve];cases j with
  | zero=>simp at h;subst h;exact ⟨rfl,rfl,rfl,rfl,rfl⟩
  | succ j =>
   simp at h;obtain ⟨h0,h1,h2,h3,h4⟩:=d j h;refine ⟨?_,?_,?_,?_,?_⟩
   · rw [show (j+1)*5=j*5+1+1+1+1+1 by omega];simpa using h0
   · rw [show (j+1)*5+1=j*5+1+1+1+1+1+1 by omega];simpa using h1
   · rw [show (j+1)*5+2=j*5+2+1+1+1+1+1 by omega];simpa using h2
   · rw [show (j+1)*5+3=j*5+3+1+1+1+1+1 by omega];simpa using h3
   · rw [show (j+1)*5+4=j*5+4+1+1+1+1+1 by omega];simpa using h4
theorem n8 (hx:xs.length=L.length*5) (hh:∀j l,L[j]?=some l→iP xs j l):xs=aC L:=by
 apply List.ext_getElem?;intro i;by_cases hi:i<L.length*5
 · have d:i / 5<L.length:=by omega
   obtain ⟨a0,a1,a2,a3,a4⟩:=hh (i / 5) L[i / 5] (j' d);obtain ⟨m,b1,b2,b3,f⟩:=fe L (i / 5) L[i / 5] (j' d);have:i=i / 5*5∨i=i / 5*5+1∨i=i / 5*5+2∨i=i / 5*5+3∨i=i / 5*5+4:=by omega
   rcases this with e | e | e | e | e
   · rw [e,a0,m]
   · rw [e,a1,b1]
   · rw [e,a2,b2]
   · rw [e,a3,b3]
   · rw [e,a4,f]
 · rw [Eu (by omega),Eu (by rw [aU];omega)]
theorem aL (L:List ac):∀u ∈ aC L,u.oneCell'=true:=by
 intro u d;simp only [aC,Ej,bD,Da,Dr,or_false] at d;obtain ⟨l,_,rfl | rfl | rfl | rfl | rfl⟩:=d <;> rfl
structure af (w:World) (base b n cap:Nat) (L:List ac):Prop where
 owns:w.ownsRow base 50 5 (sL b n cap) n (aC L)
 len:L.length=n
 ents:∀l ∈ L,dR l
theorem af.entsAt (h:af w base b n cap L):ag w (pT b) n cap L :=
 pD h.owns h.len h.ents (fun j l hl=>fe L j l hl)
theorem af.lt (h:af w base b n cap L):base≤b∧b<w.heap.size:=h.owns.lt b rfl
theorem af.grown (h:af w base b n cap L) (hg:w.grownBy w' row) (d:some b≠row):af w' base b n cap L :=
 ⟨h.owns.kept hg (.inr d),h.len,h.ents⟩
theorem af.below (h:af w base b n cap L) (hb:Bl w w'):af w' base b n cap L:=h.grown (row:=none) ⟨hb.os,hb.tape,hb.output,hb.size,fun k hk _=>hb.block k hk⟩ (by simp)
theorem af.setCell (h:af w base b n cap L) {p:Addr} (hp:p.block≠b) (u:Value):af (w.setCell p u) base b n cap L :=
 h.grown (row:=some p.block) ⟨rfl,rfl,rfl,by simp [World.setCell],fun k _ hk=>Below.heap_setCell _ _ _ _ (fun e=>hk (by rw [e]))⟩ (fun e=>hp (by cases e;rfl))
theorem af.mono {base':Nat} (h:af w base b n cap L) (hb:base'≤base):af w base' b n cap L:=by
 refine ⟨⟨h.owns.1,?_⟩,h.len,h.ents⟩;rcases h.owns.2 with h2 | ⟨g,cap,d,hv,hg,r⟩
 · exact Or.inl h2
 · exact Or.inr ⟨g,cap,d,hv,C8 hb hg,r⟩
theorem ag.sub {len:Nat} (h:ag w (some ⟨b,off,none⟩) len cap L) (f:i≤j) (o:j≤len):ag w (some ⟨b,off+i*5,none⟩) (j - i) (cap - i) ((L.drop i).take (j - i)) where
 length:=by have:=h.length;simp;omega
 room:=by have:=h.room;omega
 big:=by have:=h.big;omega
 ents:=fun l hl=>h.ents l (DE (Dw hl))
 nil:=fun e=>by cases e
 lies:=fun x e hp=>by cases e;exact h.lies ⟨b,off,none⟩ rfl (by omega)
 cells:=fun x e k hk=>by
  cases e
  have d:i+k<L.length:=by simp at hk;omega
  have h1:=h.cells ⟨b,off,none⟩ rfl (i+k) d
  have m:off+(i+k)*5=off+i*5+k*5:=by omega
  simp only [m] at h1
  simpa using h1
structure cY (w:World) (a:Option Addr) (n c:Nat) (P:List (List ac)):Prop where
 length:P.length=n
 room:n≤c
 big:c≤maxLen
 nil:a=none→n=0
 lies:∀x,a=some x→0<n→x.block<w.heap.size∧x.spot=none
 lists:∀x,a=some x→∀i (h:i<P.length),∃s m d,w.cell? ⟨x.block,x.off+i,none⟩=some (.slice s m d)∧ag w s m d P[i]
theorem cY.keep (h:cY w a n c P) (hb:Bl w w'):cY w' a n c P where
 length:=h.length
 room:=h.room
 big:=h.big
 nil:=h.nil
 lies:=fun x e hp=>⟨l' (h.lies x e hp).1 hb.size,(h.lies x e hp).2⟩
 lists:=fun x e i hi=>by
  obtain ⟨s,m,d,c0,hL⟩:=h.lists x e i hi
  exact ⟨s,m,d,cell_later hb c0,hL.keep hb⟩
theorem cY.form (h:cY w a n c P) (hl:1≤n):∃b off,a=some ⟨b,off,none⟩∧b<w.heap.size:=by
 cases a with
 | none=>have:=h.nil rfl;omega
 | some x =>
  obtain ⟨b,off,d⟩:=x;obtain ⟨h1,h2⟩:=h.lies _ rfl (by omega);simp only at h1 h2;subst h2;exact ⟨b,off,rfl,h1⟩
theorem cY.list {wr:World} (h:cY w (some ⟨b,off,none⟩) n c P) (hb:Bl w wr) (k:Nat) (hk:k<n) :
 ∃A s m d,P[k]?=some A∧wr.cell? ⟨b,off+k,none⟩=some (.slice s m d)∧ag wr s m d A:=by
 have e:k<P.length:=by rw [h.length];exact hk
 obtain ⟨s,m,d,c0,hL⟩:=(h.keep hb).lists _ rfl k e;exact ⟨P[k],s,m,d,j' e,c0,hL⟩
theorem Tryz.infoEntS:(Tryz.prog.info? 28).map (fun i=>(i.zero,i.size,i.bytes))=some (some nZ,1,24):=by kernel_rfl
structure aW (w:World) (base g n c:Nat) (P:List (List ac)) (vs:List Value) (y:Option Nat):Prop where
 owns:w.ownsRow base 28 1 (sL g n c) n vs
 len:P.length=n
 ne:some g≠y
 lists:∀(i:Nat) A,P[i]?=some A→∃s m d,vs[i]?=some (.slice s m d)∧ag w s m d A∧∀x,s=some x→0<m→x.block≠g∧some x.block≠y
theorem ag.grownB {s:Option Addr} {m d:Nat} (h:ag w s m d A) (hg:w.grownBy w' row) (f:∀x,s=some x→0<m→some x.block≠row):ag w' s m d A :=
 h.moved hg.size (fun x e hp o=>DJ (a:=⟨x.block,o,none⟩) (hg.block x.block (h.lies x e hp).1 (f x e hp)))
theorem aW.partsAt (h:aW w base g n c P vs y):cY w (pT g) n c P:=by
 have t:=(h.owns.lt g rfl).2;have f:n≤c∧c≤maxLen:=by
  rcases h.owns.2 with ⟨o,_⟩ | ⟨E,C,D,o,_,_,B,u,_,_⟩
  · simp at o
  · simp only [Value.slice.injEq,Er,Addr.mk.injEq,and_true,true_and] at o;obtain ⟨rfl,rfl⟩:=o;exact ⟨B,u⟩
 refine ⟨h.len,f.1,f.2,(fun e=>by cases e),?_,?_⟩
 · rintro x e _;cases e;exact ⟨t,rfl⟩
 · rintro x e i hi;cases e;obtain ⟨s,m,d,hv,hE,_⟩:=h.lists i _ (j' hi);refine ⟨s,m,d,?_,hE⟩;have:=h.owns.cellAt i (by rw [← h.len];omega);rw [hv] at this;simpa using this
theorem aW.grown (h:aW w base g n c P vs y) (hg:w.grownBy w' row) (hr:∀k,row=some k→y=some k):aW w' base g n c P vs y where
 owns:=h.owns.kept hg (.inr (fun e=>h.ne (by rw [hr g e.symm])))
 len:=h.len
 ne:=h.ne
 lists:=fun i A hA=>by
  obtain ⟨s,m,d,hv,hE,hx⟩:=h.lists i A hA
  exact ⟨s,m,d,hv,hE.grownB hg (fun x e hp f=>(hx x e hp).2 (hr _ f.symm).symm),hx⟩
theorem iI (hb:Bl w w'):w.grownBy w' none:=⟨hb.os,hb.tape,hb.output,hb.size,fun k hk _=>hb.block k hk⟩
theorem aW.below (h:aW w base g n c P vs y) (hb:Bl w w'):aW w' base g n c P vs y:=h.grown (iI hb) (fun k e=>by cases e)
theorem aW.turn (h:aW w base g n c P vs y) {y':Option Nat} (hy:y'=y∨y'=none∨y'=some w.heap.size):aW w base g n c P vs y' where
 owns:=h.owns
 len:=h.len
 ne:=by
  rcases hy with rfl | rfl | rfl
  · exact h.ne
  · exact fun e=>by cases e
  · intro e;have h1:=(h.owns.lt g rfl).2;have h2:=CZ e;omega
 lists:=fun i A hA=>by
  obtain ⟨s,m,d,hv,hE,hx⟩:=h.lists i A hA;refine ⟨s,m,d,hv,hE,fun x e hp=>⟨(hx x e hp).1,?_⟩⟩;rcases hy with rfl | rfl | rfl
  · exact (hx x e hp).2
  · exact fun e=>by cases e
  · intro f;have h1:=(hE.lies x e hp).1;have h2:=CZ f;omega
theorem aW.push {g2 c2:Nat} (h:aW w base g n c P vs y) {s:Option Addr} {m d:Nat} {A:List ac}
 (ho:w'.ownsRow base 28 1 (sL g2 (n+1) c2) (n+1) (vs++[.slice s m d])) (hg:w.grownBy w' (some g)) (h2:g2=g∨g2=w.heap.size)
 (hE:ag w s m d A) (hx:∀x,s=some x→0<m→x.block≠g):aW w' base g2 (n+1) c2 (P++[A]) (vs++[.slice s m d]) none where
 owns:=ho
 len:=by rw [CW,h.len];rfl
 ne:=fun e=>by cases e
 lists:=fun i B hB=>by
  have f:vs.length=n:=by have:=h.owns.1;omega
  by_cases hi:i<n
  · rw [C7 (by rw [h.len];exact hi)] at hB
    obtain ⟨D,F,E,hv,u,o⟩:=h.lists i B hB
    refine ⟨D,F,E,by rw [C7 (by rw [f];exact hi)];exact hv,u.grownB hg (fun x e hp C=>(o x e hp).1 (by cases C;rfl)),fun x e hp=>⟨?_,fun e=>by cases e⟩⟩
    rcases h2 with rfl | rfl
    · exact (o x e hp).1
    · have:=(u.lies x e hp).1;omega
  · rw [CU (by rw [h.len];omega),h.len] at hB
    have t:i - n=0:=by
     by_cases e:i - n=0
     · exact e
     · rw [Eu (by simp;omega)] at hB;cases hB
    rw [t] at hB
    simp at hB
    subst hB
    refine ⟨s,m,d,by rw [CU (by rw [f];omega),f,t];rfl,hE.grownB hg (fun x e hp C=>hx x e hp (by cases C;rfl)),fun x e hp=>⟨?_,fun e=>by cases e⟩⟩
    rcases h2 with rfl | rfl
    · exact hx x e hp
    · have:=(hE.lies x e hp).1;omega
def jo (P:List (List ac)) (i k:Nat):Bool:=match P[i]? with | none=>true | some A=>match P[k]? with | none=>true | some B=>iN A B
theorem mt {B:List ac} (h:P[i]?=some A) (d:P[k]?=some B):jo P i k=iN A B:=by
 unfold jo;simp only [h,d]
def mw (P:List (List ac)) (i:Nat):Prop:=∀j k,j<i→j<k→k<P.length→jo P j k=true
def ps (P:List (List ac)) (i k:Nat):Prop:=∀j,i<j→j<k→jo P i j=true
def ip (P:List (List ac)):Bool:=(List.range P.length).all fun i=>(List.range P.length).all fun k=>!decide (i<k) || jo P i k
theorem AP (hi:i<k) (hk:k<P.length) (h:jo P i k=false):ip P=false:=by
 rw [D7];intro h1;unfold ip at h1;rw [Dn] at h1;have h2:=h1 i (DG.2 (by omega));rw [Dn] at h2;have h3:=h2 k (DG.2 hk);rw [h,decide_eq_true hi] at h3;cases h3
theorem Ab (h:mw P P.length):ip P=true:=by
 unfold ip;rw [Dn];intro i hi;rw [Dn];intro k hk;by_cases e:i<k
 · rw [h i k (DG.1 hi) e (DG.1 hk)];simp
 · rw [decide_eq_false e];rfl
theorem AQ (h:ps P i k) (hk:jo P i k=true):ps P i (k+1):=by
 intro j h1 h2;by_cases e:j=k
 · subst e;exact hk
 · exact h j h1 (by omega)
theorem AO (h:mw P i) (hi:ps P i P.length):mw P (i+1):=by
 intro j k h1 h2 h3;by_cases e:j=i
 · subst e;exact hi k h2 h3
 · exact h j k (by omega) h2 h3
theorem yL (sq:Int) (am av ak:Option Addr) (nm cm nv cv nk ck:Nat) (P:List (List ac)) (w:World)
 (hp:∀w1,Bl w w1→Calls Tryz.prog 110 #[.agg #[iT sq,.slice am nm cm,.slice av nv cv,.slice ak nk ck]] w1 fun e w'=>∃a n c,e=.returned (.slice a n c)∧cY w' a n c P∧Bl w1 w') :
 Calls Tryz.prog 91 #[.agg #[iT sq,.slice am nm cm,.slice av nv cv,.slice ak nk ck]] w fun e w'=>e=.returned (.bool (ip P))∧Bl w w':=by
 go_enter Tryz.func91,Tryz.ntmps91
 go_wp2_with fail
 refine (hp _ bZ).mono ?_;rintro e x ⟨a,n,c,rfl,W,F⟩;have K1:∀o,Bl w (w.alloc o):=fun o=>(Below.refl _ _).alloc (Cy _) o
 have Y:CG (Bl w x):=(K1 _).trans (F.mono (K1 _).size);clear F hp K1;have D:CG (P.length=n):=W.length;have hr:=W.room;have Z:=W.big;unfold maxLen at Z;have H:CG (cY x a n c P):=W;clear W;go_wp2;go_loopw [4] (fun iv wr=>∃i:Nat,i≤n∧iv=iT i∧Bl x wr∧mw P i) (fun iv _=>n - (intOf iv).toNat)
 case atStart=>exact ⟨0,C3 _,rfl,Below.refl _ _,fun j k hj=>absurd hj (DP _)⟩
 case round =>
  obtain ⟨i,hi,rfl,hb,hw⟩:=hrel;have HW:CG (mw P i):=hw;have HB:CG (Bl x wr):=hb;clear hw hb;by_cases a8:i<n
  · have T:(i:Int)<(n:Int):=by omega
    obtain ⟨b,off,rfl,ad⟩:=H.o.form (by omega);go_wp2;go_loopw [5] (fun kv wq=>∃k:Nat,i<k∧k≤n∧kv=iT k∧Bl x wq∧ps P i k) (fun kv _=>n - (intOf kv).toNat)
    case atStart=>exact ⟨i+1,by omega,by omega,by go_num,HB.o,fun j h1 h2=>absurd h2 (by omega)⟩
    case round =>
     obtain ⟨k,a3,hk,rfl,m,I⟩:=hrel;have N:CG (ps P i k):=I;have s:CG (Bl x wr):=m;clear I;by_cases J:k<n
     · have U:(k:Int)<(n:Int):=by omega
       obtain ⟨A,s1,n1,c1,hA,g1,R⟩:=H.o.list m i a8;obtain ⟨B,s2,n2,c2,hB,g2,Q⟩:=H.o.list m k J;have C:CG (jo P i k=iN A B):=mt hA hB;have a2:CG (k<P.length):=by show k<P.length;rw [D.o];exact J
       have zb:=l' ad m.size;have X:CG (∀w',Bl wr w'→Calls Tryz.prog 148 #[.slice s1 n1 c1,.slice s2 n2 c2] w' fun e a7=>e=.returned (.bool (iN A B))∧Bl w' a7):=fun w' E=>wW s1 s2 n1 c1 n2 c2 A B w' (R.keep E) (Q.keep E)
       have d:CG (∀w',Bl wr w'→(w'.cell? ⟨b,off+i,none⟩=some (.slice s1 n1 c1)∧w'.cell? ⟨b,off+k,none⟩=some (.slice s2 n2 c2)∧b<w'.heap.size)):=fun w' E=>⟨cell_later E g1,cell_later E g2,l' zb E.size⟩
       have t:Bl wr wr.drew:=(Below.refl _ wr).drew;clear hA hB g1 g2 R Q zb m;obtain ⟨O,hO⟩:=aH (iN A B);rw [← hO] at X C;clear hO;cases O with
       | true =>
        go_wp2_with fail
        refine ez d t fun u=>?_
        refine aP 0 8 u ?_;refine aR 8 fun K hK=>?_
        go_simp;refine (X.o _ t).mono ?_;rintro e wk1 ⟨rfl,f⟩;have k1:Bl wr wk1:=t.trans (f.mono t.size);go_wp2_with fail
        refine hK.o _ _ (d.o _ k1) fun u=>?_
        (try go_frame);refine aP 9 1 u ?_;refine dN ?_;have KY:CG (Bl x wk1):=s.o.trans (k1.mono s.o.size);clear t k1 f d X u;go_wp2;go_roundw
        case rel=>exact ⟨k+1,by omega,by omega,by go_num,KY.o,AQ N.o C.o⟩
        case measure=>simp [intOf];omega
       | false =>
        go_wp2_with fail
        refine ez d t fun u=>?_
        refine aP 0 8 u ?_;refine aR 8 fun K hK=>?_
        go_simp;refine (X.o _ t).mono ?_;rintro e wk1 ⟨rfl,f⟩;have k1:Bl wr wk1:=t.trans (f.mono t.size);go_wp2_with fail
        refine hK.o _ _ (d.o _ k1) fun u=>?_
        (try go_frame);refine aP 9 1 u ?_;refine dN ?_;have KY:CG (Bl x wk1):=s.o.trans (k1.mono s.o.size);clear t k1 f d X u;go_wp2;go_ret;exact ⟨ah (AP a3 a2.o C.o).symm,Y.o.trans (KY.o.mono Y.o.size)⟩
     · have U:¬(k:Int)<(n:Int):=by omega
       have HN:CG (mw P (i+1)):=by
        have h1:=N.o;have h2:k=P.length:=by rw [D.o];omega
        rw [h2] at h1;exact AO HW.o h1
       go_wp2;go_roundw
       case rel=>exact ⟨i+1,by omega,by go_num,s.o,HN.o⟩
       case measure=>simp [intOf];omega
  · have T:¬(i:Int)<(n:Int):=by omega
    have HC:CG (ip P=true):=by
     have hw:=HW.o;have af:i=P.length:=by rw [D.o];omega
     rw [af] at hw;exact Ab hw
    go_wp2;go_ret;exact ⟨ah HC.o.symm,Y.o.trans (HB.o.mono Y.o.size)⟩
end Go.Proofs.YtpobkmjicbobdaaGreat
