/- Walks. -/
import Derived.Test.YtpobkmjicbobdaaGreatBW02
import Derived.Maps.AppendAt
namespace Go.Proofs.YtpobkmjicbobdaaGreat
set_option maxRecDepth 100000
set_option maxHeartbeats 40000000
open Go.RowKit
variable {A L:List ac} {P:List (List ac)} {a:Option Addr} {ap:Bool} {b base c cap g i j k n off:Nat} {most q:Int} {r:af} {row y:Option Nat} {vs xs:List Value} {w w':World}
def bj (L:List ac):ByteArray:=match L[0]? with | some e=>e.1 | none=>⟨#[]⟩
def aT (L:List ac):ByteArray:=match L[L.length - 1]? with | some e=>e.1 | none=>⟨#[]⟩
def oX (A B:List ac):Bool:=Op.bytesLess (aT A).toList (bj B).toList
def iQ (B:List af) (r:af) (i:Nat):Bool:=match i with | 0=>true | j+1=>match B[j]? with | none=>true | some p=>oX p.1 r.1
def fw (B:List af) (ap:Bool) (q:Int) (i:Nat):Bool :=
 match B[i]? with
 | none=>true
 | some r=>cU r.1 r.2 && (b6 r.1 q && (!ap || iQ B r i))
def u6 (B:List af) (ap:Bool) (q:Int) (k:Nat):Prop:=∀j,j<k→fw B ap q j=true
def dK (B:List af) (most:Int) (ap:Bool) (q:Int):Bool:=decide ((B.length:Int)≤most) && (List.range B.length).all (fw B ap q)
theorem Az {B:List af} (h:most<(B.length:Int)):dK B most ap q=false:=by
 unfold dK;rw [decide_eq_false (by omega)];rfl
theorem uq {B:List af} (hk:k<B.length) (h:fw B ap q k=false):dK B most ap q=false:=by
 unfold dK;rw [Jm];right
 rw [IL];intro h1;rw [Hf] at h1;rw [h1 k (Ia.2 hk)] at h;cases h
theorem Cz {B:List af} (h:u6 B ap q B.length) (hm:(B.length:Int)≤most):dK B most ap q=true:=by
 unfold dK;rw [decide_eq_true hm,Bool.true_and,Hf];intro j d;exact h j (Ia.1 d)
theorem ou {B:List af} (h:u6 B ap q k) (hk:fw B ap q k=true):u6 B ap q (k+1):=by
 intro j d;by_cases e:j=k
 · subst e;exact hk
 · exact h j (by omega)
theorem dY {B:List af} (h:B[i]?=some r):fw B ap q i=(cU r.1 r.2 && (b6 r.1 q && (!ap || iQ B r i))):=by
 unfold fw;simp only [h]
theorem xZ {B:List af} {p:af} (h:B[i]?=some r) (hi:0<i) (hp:B[i - 1]?=some p):fw B ap q i=(cU r.1 r.2 && (b6 r.1 q && (!ap || oX p.1 r.1))):=by
 obtain ⟨j,rfl⟩:∃j,i=j+1:=⟨i - 1,by omega⟩;simp only [Is] at hp;rw [dY h];unfold iQ;simp only [hp]
theorem m9 (h:1≤L.length):∃e,L[0]?=some e∧bj L=e.1:=by
 have hg:L[0]?=some L[0]:=j' (by omega);exact ⟨_,hg,by unfold bj;rw [hg]⟩
theorem ji (h:1≤L.length):∃e,L[L.length - 1]?=some e∧aT L=e.1:=by
 have hg:L[L.length - 1]?=some (L[L.length - 1]'(by omega)):=j' (by omega);exact ⟨_,hg,by unfold aT;rw [hg]⟩
theorem qn (lo:Nat) (a:Option Addr) (n c:Nat) (B:List af) (most:Int) (ap:Bool) (q:Int) (w:World) (h:aw lo w a n c B) :
 Calls Tryz.prog 90 #[.slice a n c,iT most,.bool ap,iT q] w fun e w'=>e=.returned (.bool (dK B most ap q))∧Bl w w':=by
 have I:=az h.length;have hr:=h.room;have an:=h.big;unfold maxLen at an;have H:=az h;by_cases hm:most<(n:Int)
 · go_enter Tryz.func90,Tryz.ntmps90
   go_wp2;go_ret;exact ⟨aj (Az (by rw [I.o];exact hm)).symm,Below.refl _ _⟩
 go_enter Tryz.func90,Tryz.ntmps90
 go_wp2;go_loopw [9] (fun iv wr=>∃i:Nat,i≤n∧iv=iT i∧Bl w wr∧u6 B ap q i) (fun iv _=>n - (intOf iv).toNat)
 case atStart=>exact ⟨0,GQ _,rfl,Below.refl _ _,fun j hj=>absurd hj (H7 _)⟩
 case round =>
  obtain ⟨i,hi,rfl,hb,hw⟩:=hrel;have HW:=az hw;have HB:=az hb;by_cases a6:i<n
  · have a5:(i:Int)<(n:Int):=by omega
    have Y:Eq (i<B.length):=by show i<B.length;rw [I.o];exact a6
    obtain ⟨b,off,rfl,am⟩:=H.o.form (by omega);obtain ⟨L,m,s,ns,cs,hg,_,g0,g1,hE⟩:=H.o.run hb i a6;have HG:=az hg;have HE:=az hE;have zb:=E' am hb.size;obtain ⟨O,hO⟩:=aG (cU L m);go_wp2_with fail
    refine (Ar _ _ _ L m wr HE.o.1).mono ?_;rw [← hO];rintro e w1 ⟨rfl,E⟩;have g0:=cell_later E g0;have g1:=cell_later E g1;have zb:=E' zb E.size;have J:=az (HB.o.trans (E.mono HB.o.size));have E1:=az (HE.o.1.keep E);cases hOv:O with
    | false =>
     have D:Eq (fw B ap q i=false):=by show fw B ap q i=false;rw [dY HG.o,← hO,hOv];rfl
     go_wp2;go_ret;exact ⟨aj (uq Y.o D.o).symm,J.o⟩
    | true =>
     have C:Eq (cU L m=true):=by rw [← hO];exact hOv
     obtain ⟨T,hT⟩:=aG (b6 L q);go_wp2_with fail
     refine (ql _ _ _ L q w1 E1.o).mono ?_;rw [← hT];rintro e t ⟨rfl,rfl⟩;cases hTv:T with
     | false =>
      have D:Eq (fw B ap q i=false):=by show fw B ap q i=false;rw [dY HG.o,C.o,← hT,hTv];rfl
      go_wp2;go_ret;exact ⟨aj (uq Y.o D.o).symm,J.o⟩
     | true =>
      have X:Eq (b6 L q=true):=by rw [← hT];exact hTv
      have f:Bl t t.drew:=(Below.refl _ t).drew;have KZ:=az (J.o.trans (f.mono J.o.size));have x:Eq (∀w',Bl t w'→(b<w'.heap.size)):=fun w' W=>E' zb W.size
      cases ap with
      | false =>
      have D:Eq (fw B false q i=true):=by show fw B false q i=true;rw [dY HG.o,C.o,X.o];rfl
      go_wp2_with fail
      refine eJ x f fun d=>?_
      refine aR 0 11 d ?_;refine aR 12 4 d ?_;refine aV 11 fun K hK=>?_
      go_simp;refine hK.o _ _ (x.o _ f) fun d=>?_
      refine aV 16 fun K hK=>?_
      go_simp;refine hK.o _ _ (x.o _ f) fun d=>?_
      refine aR 17 2 d ?_;refine dN ?_;go_wp2;go_roundw
      case rel=>exact ⟨i+1,by omega,by go_num,KZ.o,ou HW.o D.o⟩
      case measure=>simp [intOf];omega
      | true =>
       by_cases au:i=0
       · subst au;have D:Eq (fw B true q 0=true):=by show fw B true q 0=true;rw [dY HG.o,C.o,X.o];rfl
         go_wp2_with fail
         refine eJ x f fun d=>?_
         refine aR 0 11 d ?_;refine aR 12 4 d ?_;refine aV 11 fun K hK=>?_
         go_simp;refine hK.o _ _ (x.o _ f) fun d=>?_
         refine aV 16 fun K hK=>?_
         go_simp;refine hK.o _ _ (x.o _ f) fun d=>?_
         refine aR 17 2 d ?_;refine dN ?_;go_wp2;go_roundw
         case rel=>exact ⟨0+1,by omega,by go_num,KZ.o,ou HW.o D.o⟩
         case measure=>simp [intOf];omega
       · have aP:(0:Int)<(i:Int):=by omega
         have R:0<i:=by omega
         have aN:=decide_eq_true R;have aT:(0:Int)≤(i:Int) - 1:=by omega
         have b2:(i:Int) - 1<(n:Int):=by omega
         have b1:(1:Int)≤(i:Int):=by omega
         have aU:((i:Int) - 1).toNat=i - 1:=by omega
         have wj:IntKind.i64.wrap ((i:Int) - 1)=(i:Int) - 1:=by rw [G4];unfold wrap64;omega
         obtain ⟨Lp,mp,sp,np,cp,hp,_,p0,p1,a0⟩:=H.o.run J.o (i - 1) (by omega);have aH:cU Lp mp=true:=by
          have h1:=HW.o (i - 1) (by omega);rw [dY hp] at h1;simp only [G2] at h1;exact h1.1
         have l1:=(bE C.o).1;have l2:=(bE aH).1;obtain ⟨el,al,a3⟩:=m9 l1;obtain ⟨eh,a8,a1⟩:=ji l2;have hns:=E1.o.length;have aK:=a0.1.length;obtain ⟨bs,os,rfl,_⟩:=E1.o.form (by omega);obtain ⟨bp,op,rfl,_⟩:=a0.1.form (by omega);rw [aK] at a8;have CH:Eq (∀w',Bl t w'→Calls Tryz.prog 146 #[.agg #[sO bp op np cp,iT mp]] w' fun r Z=>r=.returned (.string eh.1)∧Bl w' Z):=fun w' k=>vz mp bp op np cp Lp w' (a0.1.keep k) eh a8 (by omega)
         have U:Eq (∀w',Bl t w'→Calls Tryz.prog 147 #[.agg #[sO bs os ns cs,iT m]] w' fun r Z=>r=.returned (.string el.1)∧Bl w' Z):=fun w' k=>zm m bs os ns cs L w' (E1.o.keep k) el al
         have Q:Eq (fw B true q i=Op.bytesLess eh.1.toList el.1.toList):=by
          show fw B true q i=_
          rw [xZ HG.o R hp,C.o,X.o];simp only [Bool.true_and,Bool.not_true,Bool.false_or];unfold oX;rw [a3,a1]
         have u:Eq (∀w',Bl t w'→(w'.cell? ⟨b,off+i*2,none⟩=some (sO bs os ns cs)∧w'.cell? ⟨b,off+i*2+1,none⟩=some (iT m)∧w'.cell? ⟨b,off+(i - 1)*2,none⟩=some (sO bp op np cp)∧w'.cell? ⟨b,off+(i - 1)*2+1,none⟩=some (iT mp)∧b<w'.heap.size)):=fun w' W=>⟨cell_later W g0,cell_later W g1,cell_later W p0,cell_later W p1,E' zb W.size⟩
         obtain ⟨sh,a9⟩:=aG eh.1;obtain ⟨sl,hsl⟩:=aG el.1;rw [← a9] at CH Q;rw [← hsl] at U Q;clear a9 hsl;cases hcmp:Op.bytesLess sh.toList sl.toList with
         | true =>
          have D:Eq (fw B true q i=true):=by show fw B true q i=true;rw [Q.o];exact hcmp
          go_wp2_with fail
          refine eJ u f fun d=>?_
          refine aR 0 11 d ?_;refine aR 12 4 d ?_;refine aV 11 fun K hK=>?_
          go_simp;refine (CH.o _ f).mono ?_;rintro e av ⟨rfl,F⟩;have k1:=f.trans (F.mono f.size);go_wp2_with fail
          refine hK.o _ _ (u.o _ k1) fun d=>?_
          refine aV 16 fun K hK=>?_
          go_simp;refine (U.o _ k1).mono ?_;rintro e ar ⟨rfl,N⟩;have k2:=k1.trans (N.mono k1.size);go_wp2_with fail
          refine hK.o _ _ (u.o _ k2) fun d=>?_
          refine aR 17 2 d ?_;refine dN ?_;have KY:=az (J.o.trans (k2.mono J.o.size));clear f k1 k2 F N u d;go_wp2;go_roundw
          case rel=>exact ⟨i+1,by omega,by go_num,KY.o,ou HW.o D.o⟩
          case measure=>simp [intOf];omega
         | false =>
          have D:Eq (fw B true q i=false):=by show fw B true q i=false;rw [Q.o];exact hcmp
          go_wp2_with fail
          refine eJ u f fun d=>?_
          refine aR 0 11 d ?_;refine aR 12 4 d ?_;refine aV 11 fun K hK=>?_
          go_simp;refine (CH.o _ f).mono ?_;rintro e av ⟨rfl,F⟩;have k1:=f.trans (F.mono f.size);go_wp2_with fail
          refine hK.o _ _ (u.o _ k1) fun d=>?_
          refine aV 16 fun K hK=>?_
          go_simp;refine (U.o _ k1).mono ?_;rintro e ar ⟨rfl,N⟩;have k2:=k1.trans (N.mono k1.size);go_wp2_with fail
          refine hK.o _ _ (u.o _ k2) fun d=>?_
          refine aR 17 2 d ?_;refine dN ?_;have KY:=az (J.o.trans (k2.mono J.o.size));go_wp2;go_ret;exact ⟨aj (uq Y.o D.o).symm,KY.o⟩
  · have a5:¬(i:Int)<(n:Int):=by omega
    have HC:Eq (dK B most ap q=true):=by
     have hw:=HW.o;have aI:i=B.length:=by rw [I.o];omega
     rw [aI] at hw;exact Cz hw (by rw [I.o];omega)
    go_wp2;go_ret;exact ⟨aj HC.o.symm,HB.o⟩
theorem Tryz.infoEnt:(Tryz.prog.info? 50).map (fun i=>(i.zero,i.size,i.bytes))=some (some (.agg #[.string ByteArray.empty,iT 0,iT 0,.string ByteArray.empty,iT 0]),5,56):=by kernel_rfl
def jQ (xs:List Value) (j:Nat) (l:ac):Prop:=xs[j*5]?=some (.string l.1)∧xs[j*5+1]?=some (iT l.2.1)∧xs[j*5+2]?=some (iT l.2.2.1)∧xs[j*5+3]?=some (.string l.2.2.2.1)∧xs[j*5+4]?=some (iT l.2.2.2.2)
theorem jy {l:ac} (h:jQ xs j l) (d:j≠k) (u0 u1 u2 u3 u4:Value):jQ (((((xs.set (k*5) u0).set (k*5+1) u1).set (k*5+2) u2).set (k*5+3) u3).set (k*5+4) u4) j l:=by
 obtain ⟨h0,h1,h2,h3,h4⟩:=h;refine ⟨?_,?_,?_,?_,?_⟩ <;> (repeat rw [G9 (by omega)]) <;> assumption
theorem kF (s t:ByteArray) (q d n:Int) (h:k*5+4<xs.length):jQ (((((xs.set (k*5) (.string s)).set (k*5+1) (iT q)).set (k*5+2) (iT d)).set (k*5+3) (.string t)).set (k*5+4) (iT n)) k (s,q,d,t,n):=by
 refine ⟨?_,?_,?_,?_,?_⟩
 · rw [G9 (by omega),G9 (by omega),G9 (by omega),G9 (by omega),Hp (by omega)]
 · rw [G9 (by omega),G9 (by omega),G9 (by omega),Hp (by simp;omega)]
 · rw [G9 (by omega),G9 (by omega),Hp (by simp;omega)]
 · rw [G9 (by omega),Hp (by simp;omega)]
 · rw [Hp (by simp;omega)]
theorem sR (h:w.ownsRow base 50 5 (sL g n cap) n xs) (hn:L.length=n) (hw:∀l ∈ L,d9 l)
 (hh:∀j l,L[j]?=some l→jQ xs j l):ah w (pT g) n cap L:=by
 have f:=(h.lt g rfl).2;have d:n≤cap∧cap≤maxLen:=by
  rcases h.2 with ⟨h',_⟩ | ⟨C,s,t,h',_,_,o,m,_,_⟩
  · simp at h'
  · simp only [Jn,Ix,Addr.mk.injEq,and_true,true_and] at h';obtain ⟨rfl,rfl⟩:=h';exact ⟨o,m⟩
 refine ⟨hn,d.1,d.2,hw,(fun e=>by cases e),?_,?_⟩
 · rintro x e _;cases e;exact ⟨f,rfl⟩
 · rintro x e i hi;cases e;obtain ⟨B,u,r2,r3,r4⟩:=hh i L[i] (j' hi);rw [hn] at hi;simp only [GT];exact ⟨(h.cellAt _ (by omega)).trans B,(h.cellAt _ (by omega)).trans u,(h.cellAt _ (by omega)).trans r2,(h.cellAt _ (by omega)).trans r3,(h.cellAt _ (by omega)).trans r4⟩
def bi (e:ac):List Value:=[.string e.1,iT e.2.1,iT e.2.2.1,.string e.2.2.2.1,iT e.2.2.2.2]
def aF (L:List ac):List Value:=L.flatMap bi
theorem bC (A B:List ac):aF (A++B)=aF A++aF B:=by simp [aF]
theorem aX (L:List ac):(aF L).length=L.length*5:=by
 induction L with
 | nil=>rfl
 | cons l r d=>simp [aF,bi] at d ⊢;omega
theorem yW (l:ac) (r:List ac):aF (l :: r)=.string l.1 :: iT l.2.1 :: iT l.2.2.1 :: .string l.2.2.2.1 :: iT l.2.2.2.2 :: aF r:=rfl
theorem fP (L:List ac) (j:Nat) (l:ac) (h:L[j]?=some l):jQ (aF L) j l:=by
 induction L generalizing j with
 | nil=>simp at h
 | cons a r d =>
  rw [yW];cases j with
  | zero=>simp at h;subst h;exact ⟨rfl,rfl,rfl,rfl,rfl⟩
  | succ j =>
   simp at h;obtain ⟨h0,h1,h2,h3,h4⟩:=d j h;refine ⟨?_,?_,?_,?_,?_⟩
   · rw [show (j+1)*5=j*5+1+1+1+1+1 by omega];simpa using h0
   · rw [show (j+1)*5+1=j*5+1+1+1+1+1+1 by omega];simpa using h1
   · rw [show (j+1)*5+2=j*5+2+1+1+1+1+1 by omega];simpa using h2
   · rw [show (j+1)*5+3=j*5+3+1+1+1+1+1 by omega];simpa using h3
   · rw [show (j+1)*5+4=j*5+4+1+1+1+1+1 by omega];simpa using h4
theorem qA (hx:xs.length=L.length*5) (hh:∀j l,L[j]?=some l→jQ xs j l):xs=aF L:=by
 apply List.ext_getElem?;intro i;by_cases hi:i<L.length*5
 · have d:i / 5<L.length:=by omega
   obtain ⟨a0,a1,a2,a3,a4⟩:=hh (i / 5) L[i / 5] (j' d);obtain ⟨b0,b1,b2,b3,b4⟩:=fP L (i / 5) L[i / 5] (j' d);have:i=i / 5*5∨i=i / 5*5+1∨i=i / 5*5+2∨i=i / 5*5+3∨i=i / 5*5+4:=by omega
   rcases this with e | e | e | e | e
   · rw [e,a0,b0]
   · rw [e,a1,b1]
   · rw [e,a2,b2]
   · rw [e,a3,b3]
   · rw [e,a4,b4]
 · rw [IK (by omega),IK (by rw [aX];omega)]
theorem bf (L:List ac):∀u ∈ aF L,u.oneCell'=true:=by
 intro u d;simp only [aF,IR,bi,GZ,Hs,or_false] at d;obtain ⟨l,_,rfl | rfl | rfl | rfl | rfl⟩:=d <;> rfl
structure ag (w:World) (base b n cap:Nat) (L:List ac):Prop where
 owns:w.ownsRow base 50 5 (sL b n cap) n (aF L)
 len:L.length=n
 ents:∀l ∈ L,d9 l
theorem ag.entsAt (h:ag w base b n cap L):ah w (pT b) n cap L :=
 sR h.owns h.len h.ents (fun j l hl=>fP L j l hl)
theorem ag.lt (h:ag w base b n cap L):base≤b∧b<w.heap.size:=h.owns.lt b rfl
theorem ag.grown (h:ag w base b n cap L) (hg:w.grownBy w' row) (d:some b≠row):ag w' base b n cap L :=
 ⟨h.owns.kept hg (.inr d),h.len,h.ents⟩
theorem ag.below (h:ag w base b n cap L) (hb:Bl w w'):ag w' base b n cap L:=h.grown (row:=none) ⟨hb.os,hb.tape,hb.output,hb.size,fun k hk _=>hb.block k hk⟩ (by simp)
theorem ag.setCell (h:ag w base b n cap L) {p:Addr} (hp:p.block≠b) (u:Value):ag (w.setCell p u) base b n cap L :=
 h.grown (row:=some p.block) ⟨rfl,rfl,rfl,by simp [World.setCell],fun k _ hk=>Below.heap_setCell _ _ _ _ (fun e=>hk (by rw [e]))⟩ (fun e=>hp (by cases e;rfl))
theorem ag.mono {base':Nat} (h:ag w base b n cap L) (hb:base'≤base):ag w base' b n cap L:=by
 refine ⟨⟨h.owns.1,?_⟩,h.len,h.ents⟩;rcases h.owns.2 with h2 | ⟨g,cap,d,hv,hg,r⟩
 · exact Or.inl h2
 · exact Or.inr ⟨g,cap,d,hv,GU hb hg,r⟩
theorem ah.sub {len:Nat} (h:ah w (some ⟨b,off,none⟩) len cap L) (f:i≤j) (m:j≤len):ah w (some ⟨b,off+i*5,none⟩) (j - i) (cap - i) ((L.drop i).take (j - i)) where
 length:=by have:=h.length;simp;omega
 room:=by have:=h.room;omega
 big:=by have:=h.big;omega
 ents:=fun l hl=>h.ents l (H8 (Hq hl))
 nil:=fun e=>by cases e
 lies:=fun x e hp=>by cases e;exact h.lies ⟨b,off,none⟩ rfl (by omega)
 cells:=fun x e k hk=>by
  cases e
  have d:i+k<L.length:=by simp at hk;omega
  have h1:=h.cells ⟨b,off,none⟩ rfl (i+k) d
  have e1:off+(i+k)*5=off+i*5+k*5:=by omega
  simp only [e1] at h1
  simpa using h1
structure cZ (w:World) (a:Option Addr) (n c:Nat) (P:List (List ac)):Prop where
 length:P.length=n
 room:n≤c
 big:c≤maxLen
 nil:a=none→n=0
 lies:∀x,a=some x→0<n→x.block<w.heap.size∧x.spot=none
 lists:∀x,a=some x→∀i (h:i<P.length),∃s m d,w.cell? ⟨x.block,x.off+i,none⟩=some (.slice s m d)∧ah w s m d P[i]
theorem cZ.keep (h:cZ w a n c P) (hb:Bl w w'):cZ w' a n c P where
 length:=h.length
 room:=h.room
 big:=h.big
 nil:=h.nil
 lies:=fun x e hp=>⟨E' (h.lies x e hp).1 hb.size,(h.lies x e hp).2⟩
 lists:=fun x e i hi=>by
  obtain ⟨s,m,d,c0,hL⟩:=h.lists x e i hi
  exact ⟨s,m,d,cell_later hb c0,hL.keep hb⟩
theorem cZ.form (h:cZ w a n c P) (hl:1≤n):∃b off,a=some ⟨b,off,none⟩∧b<w.heap.size:=by
 cases a with
 | none=>have:=h.nil rfl;omega
 | some x =>
  obtain ⟨b,off,d⟩:=x;obtain ⟨h1,h2⟩:=h.lies _ rfl (by omega);simp only at h1 h2;subst h2;exact ⟨b,off,rfl,h1⟩
theorem cZ.list {wr:World} (h:cZ w (some ⟨b,off,none⟩) n c P) (hb:Bl w wr) (k:Nat) (hk:k<n) :
 ∃A s m d,P[k]?=some A∧wr.cell? ⟨b,off+k,none⟩=some (.slice s m d)∧ah wr s m d A:=by
 have e:k<P.length:=by rw [h.length];exact hk
 obtain ⟨s,m,d,c0,hL⟩:=(h.keep hb).lists _ rfl k e;exact ⟨P[k],s,m,d,j' e,c0,hL⟩
theorem Tryz.infoEntS:(Tryz.prog.info? 28).map (fun i=>(i.zero,i.size,i.bytes))=some (some nZ,1,24):=by kernel_rfl
structure aY (w:World) (base g n c:Nat) (P:List (List ac)) (vs:List Value) (y:Option Nat):Prop where
 owns:w.ownsRow base 28 1 (sL g n c) n vs
 len:P.length=n
 ne:some g≠y
 lists:∀(i:Nat) A,P[i]?=some A→∃s m d,vs[i]?=some (.slice s m d)∧ah w s m d A∧∀x,s=some x→0<m→x.block≠g∧some x.block≠y
theorem ah.grownB {s:Option Addr} {m d:Nat} (h:ah w s m d A) (hg:w.grownBy w' row) (f:∀x,s=some x→0<m→some x.block≠row):ah w' s m d A :=
 h.moved hg.size (fun x e hp o=>Hz (a:=⟨x.block,o,none⟩) (hg.block x.block (h.lies x e hp).1 (f x e hp)))
theorem aY.partsAt (h:aY w base g n c P vs y):cZ w (pT g) n c P:=by
 have o:=(h.owns.lt g rfl).2;have f:n≤c∧c≤maxLen:=by
  rcases h.owns.2 with ⟨h',_⟩ | ⟨D,B,C,h',_,_,u,t,_,_⟩
  · simp at h'
  · simp only [Jn,Ix,Addr.mk.injEq,and_true,true_and] at h';obtain ⟨rfl,rfl⟩:=h';exact ⟨u,t⟩
 refine ⟨h.len,f.1,f.2,(fun e=>by cases e),?_,?_⟩
 · rintro x e _;cases e;exact ⟨o,rfl⟩
 · rintro x e i hi;cases e;obtain ⟨s,m,d,hv,hE,_⟩:=h.lists i _ (j' hi);refine ⟨s,m,d,?_,hE⟩;have:=h.owns.cellAt i (by rw [← h.len];omega);rw [hv] at this;simpa using this
theorem aY.grown (h:aY w base g n c P vs y) (hg:w.grownBy w' row) (hr:∀k,row=some k→y=some k):aY w' base g n c P vs y where
 owns:=h.owns.kept hg (.inr (fun e=>h.ne (by rw [hr g e.symm])))
 len:=h.len
 ne:=h.ne
 lists:=fun i A hA=>by
  obtain ⟨s,m,d,hv,hE,hx⟩:=h.lists i A hA
  exact ⟨s,m,d,hv,hE.grownB hg (fun x e hp f=>(hx x e hp).2 (hr _ f.symm).symm),hx⟩
theorem d4 (hb:Bl w w'):w.grownBy w' none:=⟨hb.os,hb.tape,hb.output,hb.size,fun k hk _=>hb.block k hk⟩
theorem aY.below (h:aY w base g n c P vs y) (hb:Bl w w'):aY w' base g n c P vs y:=h.grown (d4 hb) (fun k e=>by cases e)
theorem aY.turn (h:aY w base g n c P vs y) {y':Option Nat} (hy:y'=y∨y'=none∨y'=some w.heap.size):aY w base g n c P vs y' where
 owns:=h.owns
 len:=h.len
 ne:=by
  rcases hy with rfl | rfl | rfl
  · exact h.ne
  · exact fun e=>by cases e
  · intro e;have h1:=(h.owns.lt g rfl).2;have h2:=GN e;omega
 lists:=fun i A hA=>by
  obtain ⟨s,m,d,hv,hE,hx⟩:=h.lists i A hA;refine ⟨s,m,d,hv,hE,fun x e hp=>⟨(hx x e hp).1,?_⟩⟩;rcases hy with rfl | rfl | rfl
  · exact (hx x e hp).2
  · exact fun e=>by cases e
  · intro f;have h1:=(hE.lies x e hp).1;have h2:=GN f;omega
theorem aY.push {g2 c2:Nat} (h:aY w base g n c P vs y) {s:Option Addr} {m d:Nat} {A:List ac}
 (ho:w'.ownsRow base 28 1 (sL g2 (n+1) c2) (n+1) (vs++[.slice s m d])) (hg:w.grownBy w' (some g)) (h2:g2=g∨g2=w.heap.size)
 (hE:ah w s m d A) (hx:∀x,s=some x→0<m→x.block≠g):aY w' base g2 (n+1) c2 (P++[A]) (vs++[.slice s m d]) none where
 owns:=ho
 len:=by rw [GO,h.len];rfl
 ne:=fun e=>by cases e
 lists:=fun i B hB=>by
  have f:vs.length=n:=by have:=h.owns.1;omega
  by_cases hi:i<n
  · rw [GW (by rw [h.len];exact hi)] at hB
    obtain ⟨D,F,E,hv,t,o⟩:=h.lists i B hB
    refine ⟨D,F,E,by rw [GW (by rw [f];exact hi)];exact hv,t.grownB hg (fun x e hp C=>(o x e hp).1 (by cases C;rfl)),fun x e hp=>⟨?_,fun e=>by cases e⟩⟩
    rcases h2 with rfl | rfl
    · exact (o x e hp).1
    · have:=(t.lies x e hp).1;omega
  · rw [GR (by rw [h.len];omega),h.len] at hB
    have u:i - n=0:=by
     by_cases e:i - n=0
     · exact e
     · rw [IK (by simp;omega)] at hB;cases hB
    rw [u] at hB
    simp at hB
    subst hB
    refine ⟨s,m,d,by rw [GR (by rw [f];omega),f,u];rfl,hE.grownB hg (fun x e hp C=>hx x e hp (by cases C;rfl)),fun x e hp=>⟨?_,fun e=>by cases e⟩⟩
    rcases h2 with rfl | rfl
    · exact hx x e hp
    · have:=(hE.lies x e hp).1;omega
def mF (P:List (List ac)) (i k:Nat):Bool:=match P[i]? with | none=>true | some A=>match P[k]? with | none=>true | some B=>lc A B
theorem oY {B:List ac} (h:P[i]?=some A) (h':P[k]?=some B):mF P i k=lc A B:=by
 unfold mF;simp only [h,h']
def sC (P:List (List ac)) (i:Nat):Prop:=∀j k,j<i→j<k→k<P.length→mF P j k=true
def vc (P:List (List ac)) (i k:Nat):Prop:=∀j,i<j→j<k→mF P i j=true
def jp (P:List (List ac)):Bool:=(List.range P.length).all fun i=>(List.range P.length).all fun k=>!decide (i<k) || mF P i k
theorem E8 (hi:i<k) (hk:k<P.length) (h:mF P i k=false):jp P=false:=by
 rw [IL];intro h1;unfold jp at h1;rw [Hf] at h1;have h2:=h1 i (Ia.2 (by omega));rw [Hf] at h2;have h3:=h2 k (Ia.2 hk);rw [h,decide_eq_true hi] at h3;cases h3
theorem Eh (h:sC P P.length):jp P=true:=by
 unfold jp;rw [Hf];intro i hi;rw [Hf];intro k hk;by_cases e:i<k
 · rw [h i k (Ia.1 hi) e (Ia.1 hk)];simp
 · rw [decide_eq_false e];rfl
theorem E9 (h:vc P i k) (hk:mF P i k=true):vc P i (k+1):=by
 intro j h1 h2;by_cases e:j=k
 · subst e;exact hk
 · exact h j h1 (by omega)
theorem E7 (h:sC P i) (hi:vc P i P.length):sC P (i+1):=by
 intro j k h1 h2 h3;by_cases e:j=i
 · subst e;exact hi k h2 h3
 · exact h j k (by omega) h2 h3
theorem Ct (sq:Int) (am av ak:Option Addr) (nm cm nv cv nk ck:Nat) (P:List (List ac)) (w:World)
 (hp:∀w1,Bl w w1→Calls Tryz.prog 110 #[.agg #[iT sq,.slice am nm cm,.slice av nv cv,.slice ak nk ck]] w1 fun e w'=>∃a n c,e=.returned (.slice a n c)∧cZ w' a n c P∧Bl w1 w') :
 Calls Tryz.prog 91 #[.agg #[iT sq,.slice am nm cm,.slice av nv cv,.slice ak nk ck]] w fun e w'=>e=.returned (.bool (jp P))∧Bl w w':=by
 go_enter Tryz.func91,Tryz.ntmps91
 go_wp2_with fail
 refine (hp _ bZ).mono ?_;rintro e w2 ⟨a,n,c,rfl,Q,a9⟩;have K1:∀o,Bl w (w.alloc o):=fun o=>(Below.refl _ _).alloc (GL _) o
 have N:Eq (Bl w w2):=(K1 _).trans (a9.mono (K1 _).size);have u:=az Q.length;have hr:=Q.room;have W:=Q.big;unfold maxLen at W;have H:=az Q;go_wp2;go_loopw [4] (fun iv wr=>∃i:Nat,i≤n∧iv=iT i∧Bl w2 wr∧sC P i) (fun iv _=>n - (intOf iv).toNat)
 case atStart=>exact ⟨0,GQ _,rfl,Below.refl _ _,fun j k hj=>absurd hj (H7 _)⟩
 case round =>
  obtain ⟨i,hi,rfl,hb,hw⟩:=hrel;have HW:=az hw;have HB:=az hb;by_cases a7:i<n
  · have I:(i:Int)<(n:Int):=by omega
    obtain ⟨b,off,rfl,T⟩:=H.o.form (by omega);go_wp2;go_loopw [5] (fun kv wq=>∃k:Nat,i<k∧k≤n∧kv=iT k∧Bl w2 wq∧vc P i k) (fun kv _=>n - (intOf kv).toNat)
    case atStart=>exact ⟨i+1,by omega,by omega,by go_num,HB.o,fun j h1 h2=>absurd h2 (by omega)⟩
    case round =>
     obtain ⟨k,a6,hk,rfl,m,U⟩:=hrel;have J:=az U;have d:=az m;by_cases E:k<n
     · have F:(k:Int)<(n:Int):=by omega
       obtain ⟨A,Y,n1,c1,hA,g1,a3⟩:=H.o.list m i a7;obtain ⟨B,s2,n2,R,hB,g2,ad⟩:=H.o.list m k E;have x:=az (oY hA hB);have X:Eq (k<P.length):=by show k<P.length;rw [u.o];exact E
       have zb:=E' T m.size;have CA:Eq (∀w',Bl wr w'→Calls Tryz.prog 148 #[.slice Y n1 c1,.slice s2 n2 R] w' fun e Z=>e=.returned (.bool (lc A B))∧Bl w' Z):=fun w' D=>Av Y s2 n1 c1 n2 R A B w' (a3.keep D) (ad.keep D)
       have f:Eq (∀w',Bl wr w'→(w'.cell? ⟨b,off+i,none⟩=some (.slice Y n1 c1)∧w'.cell? ⟨b,off+k,none⟩=some (.slice s2 n2 R)∧b<w'.heap.size)):=fun w' D=>⟨cell_later D g1,cell_later D g2,E' zb D.size⟩
       have s:Bl wr wr.drew:=(Below.refl _ wr).drew;obtain ⟨O,hO⟩:=aG (lc A B);rw [← hO] at CA x;clear hO;cases O with
       | true =>
        go_wp2_with fail
        refine eJ f s fun C=>?_
        refine aR 0 8 C ?_;refine aV 8 fun K hK=>?_
        go_simp;refine (CA.o _ s).mono ?_;rintro e a2 ⟨rfl,t⟩;have k1:=s.trans (t.mono s.size);go_wp2_with fail
        refine hK.o _ _ (f.o _ k1) fun C=>?_
        refine aR 9 1 C ?_;refine dN ?_;have KY:=az (d.o.trans (k1.mono d.o.size));go_wp2;go_roundw
        case rel=>exact ⟨k+1,by omega,by omega,by go_num,KY.o,E9 J.o x.o⟩
        case measure=>simp [intOf];omega
       | false =>
        go_wp2_with fail
        refine eJ f s fun C=>?_
        refine aR 0 8 C ?_;refine aV 8 fun K hK=>?_
        go_simp;refine (CA.o _ s).mono ?_;rintro e a2 ⟨rfl,t⟩;have k1:=s.trans (t.mono s.size);go_wp2_with fail
        refine hK.o _ _ (f.o _ k1) fun C=>?_
        refine aR 9 1 C ?_;refine dN ?_;have KY:=az (d.o.trans (k1.mono d.o.size));go_wp2;go_ret;exact ⟨aj (E8 a6 X.o x.o).symm,N.o.trans (KY.o.mono N.o.size)⟩
     · have F:¬(k:Int)<(n:Int):=by omega
       have HN:Eq (sC P (i+1)):=by
        have h1:=J.o;have h2:k=P.length:=by rw [u.o];omega
        rw [h2] at h1;exact E7 HW.o h1
       go_wp2;go_roundw
       case rel=>exact ⟨i+1,by omega,by go_num,d.o,HN.o⟩
       case measure=>simp [intOf];omega
  · have I:¬(i:Int)<(n:Int):=by omega
    have HC:Eq (jp P=true):=by
     have hw:=HW.o;have a8:i=P.length:=by rw [u.o];omega
     rw [a8] at hw;exact Eh hw
    go_wp2;go_ret;exact ⟨aj HC.o.symm,N.o.trans (HB.o.mono N.o.size)⟩
end Go.Proofs.YtpobkmjicbobdaaGreat
