/- Walks. -/
import Derived.Test.YtpobkmjicbobdaaGreatBD36
import Derived.Deep.DeepAppendWide
import Derived.Ground.SlgnProg
import Derived.Shelf.SlicesE.Clone
import Derived.Shelf.SlSortCmp.WholeK
namespace Go.Proofs.YtpobkmjicbobdaaGreat
set_option maxRecDepth 100000
set_option maxHeartbeats 40000000
open Go.RowKit Go.Shelf Go.Sort
variable {C E b c' h i j n':Nat} {D L:List ac} {V:List (List af)} {W w w' wi:World} {a':Option Addr} {d m q seq:Int} {key s t:ByteArray} {v0 v1 v2:Value}
section
attribute [local go_sem] Hc
theorem cX.row {base:Nat} {a:Option Addr} {n c:Nat} (h:cX w base a n c L):w.ownsRow base 50 5 (.slice a n c) n (aG L):=by
 cases a with
 | none =>
  obtain ⟨rfl,rfl,rfl⟩:=h.nil rfl;exact ⟨rfl,Or.inl ⟨rfl,rfl⟩⟩
 | some x =>
  obtain ⟨g,rfl,hO⟩:=h.own x rfl;exact hO.owns
theorem yA (w:World):aj w none 0 0 []:=⟨rfl,Gg _,Gl _,(fun e h=>by cases h),(fun _=>rfl),(fun x e=>by cases e),(fun x e=>by cases e)⟩
theorem Fb (g:Value) (w:World):Calls Tryz.prog 213 #[nZ,iT 0,iT 0,g] w fun e w'=>e=.returned (.tuple #[])∧w'=w:=by
 go_enter Tryz.func213,Tryz.ntmps213
 go_wp2;go_loopw [8] (fun f wr=>f=iT 1∧wr=w) (fun _ _=>0)
 case atStart=>exact ⟨rfl,rfl⟩
 case round =>
  obtain ⟨rfl,rfl⟩:=hrel;go_wp2;go_end0;exact ⟨rfl,rfl⟩
theorem zN (g:Value) (w:World):Calls Tryz.prog 169 #[nZ,iT 0,g] w fun e w'=>e=.returned (.tuple #[])∧w'=w:=by
 go_enter Tryz.func169,Tryz.ntmps169
 go_wp2;go_loopw [7,8] (fun f o wr=>f=iT 0∧o=iT 20∧wr=w) (fun _ _ _=>0)
 case atStart=>exact ⟨rfl,rfl,rfl⟩
 case round =>
  obtain ⟨rfl,rfl,rfl⟩:=hrel;go_wp2_with fail
  refine (Fb g _).mono ?_;rintro e n ⟨rfl,rfl⟩;go_wp2;go_loopw [6] (fun f r=>f=iT 20∧r=n) (fun _ _=>0)
  case atStart=>exact ⟨rfl,rfl⟩
  case round =>
   obtain ⟨rfl,rfl⟩:=hrel;go_wp2;go_end0;exact ⟨rfl,rfl⟩
def EL (F:List ac) (a:Option Addr) (n c base:Nat) (w:World) (e:Ending) (w':World):Prop :=
 e=.returned (.tuple #[])∧aj w' a n c (bK F)∧(∀B,B≤base→B≤w.heap.size→Below B w w')
theorem r6 {g B:Nat} (h:w.grownBy w' (some g)) (hB:B≤w.heap.size) (hg:B≤g):Below B w w' :=
 (Below.refl _ _).grown h hB (fun k e=>by cases e;exact hg)
theorem xq (a:Option Addr) (n c base:Nat) (F:List ac) (w:World) (hO:cX w base a n c F) (hn:n≤1048576) :
 Calls Tryz.prog 111 #[.slice a n c,.func (.func 112) #[] #[]] w (EL F a n c base w):=by
 cases a with
 | none =>
  obtain ⟨rfl,rfl,rfl⟩:=hO.nil rfl;go_enter Tryz.func111,Tryz.ntmps111
  go_wp2_with fail
  refine (zN _ _).mono ?_;rintro e H ⟨rfl,rfl⟩;go_wp2;go_end0;exact ⟨rfl,yA _,fun B _ _=>Below.refl _ _⟩
 | some x =>
  obtain ⟨g,rfl,hE⟩:=hO.own x rfl;have A:=az hE;go_enter Tryz.func111,Tryz.ntmps111
  go_wp2_with fail
  refine (zO base g n c F _ A.o hn).mono ?_;rintro e H ⟨rfl,f,y⟩;have u:=az f.entsAt;have r:=az y;go_wp2;go_end0;exact ⟨rfl,u.o,fun B hB hw=>r6 r.o hw (Gq hB A.o.lt.1)⟩
structure r8 (W wi:World) (E C:Nat) (s t:ByteArray) (q d n:Int) (v0 v1 v2:Value) (a':Option Addr) (n' c':Nat) (D:List ac):Prop where
 low:Bl W wi
 be:cq wi E (.string s) (iT q) (iT d) (.string t) (iT n)
 bc:fV wi C v0 v1 v2
 en:aj wi a' n' c' D
theorem r8.below {e:World} {n:Int} (h:r8 W wi E C s t q d n v0 v1 v2 a' n' c' D) (hb:Bl wi e):r8 W e E C s t q d n v0 v1 v2 a' n' c' D :=
 ⟨h.low.trans (hb.mono h.low.size),h.be.below hb,h.bc.below hb,h.en.keep hb⟩
theorem r8.set {n:Int} (h:r8 W wi E C s t q d n v0 v1 v2 a' n' c' D) (hC:W.heap.size≤C) (hE:E≠C) (hA:∀x,a'=some x→0<n'→x.block≠C) (u0 u1 u2:Value) :
 r8 W (((wi.setCell ⟨C,0,none⟩ u0).setCell ⟨C,1,none⟩ u1).setCell ⟨C,2,none⟩ u2) E C s t q d n u0 u1 u2 a' n' c' D :=
 ⟨((h.low.setCell (p:=⟨C,0,none⟩) hC _).setCell (p:=⟨C,1,none⟩) hC _).setCell (p:=⟨C,2,none⟩) hC _,((h.be.other hE 0 _).other hE 1 _).other hE 2 _,h.bc.setAll _ _ _,((h.en.setCell ⟨C,0,none⟩ _ hA).setCell ⟨C,1,none⟩ _ hA).setCell ⟨C,2,none⟩ _ hA⟩
theorem vL (a:Option Addr) (len R:Nat) (L:List ac) (key:ByteArray) (seq:Int) (w:World) (hL:aj w a len R L) (hlen:len≤1048576) (aq:∀e ∈ L,e.2.2.2.1.size≤281474976710656) :
 Calls Tryz.prog 43 #[.slice a len R,.string key,iT seq] w fun e w'=>e=.returned (iD (vZ L key seq))∧Bl w w':=by
 obtain ⟨F,hF⟩:=aF (cF L key seq);have av:Eq (F=cF L key seq):=hF;have aH:Eq (L.length=len):=hL.length;have a2:Eq (∀l ∈ L,eG l):=hL.ents;have b5:=az aq;have aK:Eq (F.length≤1048576):=by rw [hF];exact Gq (mK L key seq) (by rw [hL.length];exact hlen)
 have bE:=hL.room;have b0:=hL.big;unfold maxLen at b0;have HL:=az hL;obtain ⟨RC,ai⟩:=aF (vZ L key seq);have b9:Eq (RC=oX (bK F)):=by rw [ai,hF];rfl
 rw [← ai];clear hL hF aq ai;obtain ⟨i0,hi,b6,bj,bf⟩:=info_parts Tryz.infoEnt;obtain ⟨X,hX⟩:=aF w.heap.size;obtain ⟨W,hW⟩:=aF (w.alloc (.cells #[.bool false,.string ⟨#[]⟩,iT 0] 57));have bi:Eq (fV W X (.bool false) (.string ⟨#[]⟩) (iT 0)):=by rw [hW,hX];exact fV.new _ _ _ _ _
 have ae:Eq (Bl w W):=by rw [hW];exact bZ
 have b2:Eq (X=w.heap.size):=hX;have bG:Eq (W.heap.size=X+1):=by show W.heap.size=X+1;rw [hW,hX];simp
 have aE:Eq (aj W a len R L):=HL.o.keep ae.o;go_enter Tryz.func43,Tryz.ntmps43
 go_wp2;rw [← hW,← hX];clear hW hX;go_loopw [7,15] (fun dv iv wr=>∃(k n' c':Nat) (a':Option Addr),k≤len∧n'≤k∧iv=iT k∧dv=.slice a' n' c'∧cX wr W.heap.size a' n' c' (cF (L.take k) key seq)∧Bl W wr) (fun _ iv _=>len - (intOf iv).toNat)
 case atStart=>exact ⟨0,0,0,none,Gl _,Gl _,rfl,rfl,cX.none _ _,Below.refl _ _⟩
 case round =>
  obtain ⟨k,n',c',a',hk,bI,rfl,rfl,hO,hb⟩:=hrel;have HO:Eq (cX wr W.heap.size a' n' c' (cF (L.take k) key seq)):=hO;clear hO;by_cases b4:k<len
  · obtain ⟨b,a7,rfl,a1⟩:=aE.o.form (by omega);obtain ⟨s,q,d,t,n,hg,ah,g0,g1,g2,g3,g4⟩:=aE.o.ent hb a1 k b4;have HG:Eq (L[k]?=some (s,q,d,t,n)):=hg;clear hg ah;have bC:b<wr.heap.size:=E' a1 hb.size;by_cases a9:s=key
    · subst a9;by_cases hq:q≤seq
      · have HF:Eq (cF (L.take (k+1)) s seq=cF (L.take k) s seq++[(s,q,d,t,n)]):=rV HG.o rfl hq;go_wp2_with (at_builtin;refine wpList_append_own _ rfl _ _ 28 rfl W.heap.size 50 i0 _ 5 56 Tryz.underlying28 hi b6 bj bf rfl (by decide) _ _ _ rfl ((HO.o.row.alloc _).alloc _) ⟨wr.heap.size+1,0,none⟩ 1 1 (aG [(s,q,d,t,n)]) rfl rfl ?c1 (aY _) ?c3 ?c4 ?c5 ?_)
        case c1 =>
         have he:=eR (wr.alloc (.cells #[.string s,iT q,iT d,.string t,iT n] 50)) s t q d n (a2.o _ (Gk HG.o));simp only [Gu] at he;exact b7 he
        case c3=>unfold maxLen;omega
        case c4=>omega
        case c5=>have:=hb.size;simp;omega
        intro v' w2 U hgrow hnil;obtain ⟨g2,a3,rfl⟩:∃g R,v'=sL g (n'+1) R:=by
         rcases U.2 with ⟨hv,h0⟩ | ⟨g,R,bz,hv,_⟩
         · omega
         · exact ⟨g,R,hv⟩
        have Y:Bl W w2:=((hb.alloc hb.size _).alloc (by have:=hb.size;simp;omega) _).grown hgrow (by have:=hb.size;simp;omega) (fun q hq=>(HO.o.row.lt q hq).1);have au:cX w2 W.heap.size (pT g2) (n'+1) a3 (cF (L.take (k+1)) s seq):=by
         refine cX.some ⟨?_,?_,fun l hl=>a2.o l (GX (vQ hl))⟩
         · rw [HF.o,bw];exact U
         · rw [HF.o,Gj,HO.o.len];rfl
        have b8:Eq (cX w2 W.heap.size (pT g2) (n'+1) a3 (cF (L.take (k+1)) s seq)):=au;clear U hgrow hnil au;go_wp2;go_roundw
        case rel=>exact ⟨k+1,n'+1,a3,_,by omega,by omega,by go_num,rfl,b8.o,Y⟩
        case measure=>simp [intOf];omega
      · have HF:Eq (cF (L.take (k+1)) s seq=cF (L.take k) s seq):=mJ HG.o (by simp;omega);go_wp2;go_roundw
        case rel=>exact ⟨k+1,n',c',a',by omega,by omega,by go_num,rfl,by rw [HF.o];exact HO.o.below bZ,hb.alloc hb.size _⟩
        case measure=>simp [intOf];omega
    · have HF:Eq (cF (L.take (k+1)) key seq=cF (L.take k) key seq):=mJ HG.o (fun h=>a9 h.1);have aZ:¬s.toList=key.toList:=by
       rw [GS,GS];intro h;exact a9 (Io (Il.1 h))
      have bm:(s.toList == key.toList)=false:=by simpa using aZ
      clear a9;go_wp2;go_roundw
      case rel=>exact ⟨k+1,n',c',a',by omega,by omega,by go_num,rfl,by rw [HF.o];exact HO.o.below bZ,hb.alloc hb.size _⟩
      case measure=>simp [intOf];omega
  · have af:Eq (cX wr W.heap.size a' n' c' F):=by
     have:=HO.o;rw [Gr (by rw [aH.o];omega),← av.o] at this;exact this
    have aP:n'≤1048576:=by rw [← af.o.len];exact aK.o
    have aJ:Eq (∀e ∈ bK F,e.2.2.2.1.size≤281474976710656):=fun e he=>b5.o e (vQ (by rw [← av.o];exact DB.1 he))
    clear HO;go_wp2_with fail
    refine (xq a' n' c' W.heap.size F _ af.o aP).mono ?_;rintro e w2 ⟨rfl,Z,aA⟩;have Y:Bl W w2:=hb.trans (aA _ (Gg _) hb.size);obtain ⟨C,hC⟩:=aF w2.heap.size;obtain ⟨w3,a8⟩:=aF (w2.alloc (.cells #[.bool false,.string ⟨#[]⟩,iT 0] 57));have k3:Bl w2 w3:=by rw [a8];exact bZ
    have aw:Eq (fV w3 C (.bool false) (.string ⟨#[]⟩) (iT 0)):=by rw [a8,hC];exact fV.new _ _ _ _ _
    have aL:Eq (aj w3 a' n' c' (bK F)):=Z.keep k3;have aI:Eq (Bl W w3):=Y.trans (k3.mono Y.size);have aW:Eq (W.heap.size≤C):=by rw [hC];exact Y.size
    have aM:Eq (∀x,a'=some x→0<n'→x.block≠C):=fun x hx hp=>by have:=(Z.lies x hx hp).1;rw [hC];omega
    have ba:Eq ((bK F).length=n'):=Z.length;have hroom:=Z.room;have hbig:=Z.big;unfold maxLen at hbig;go_wp2;rw [← a8,← hC];clear a8 hC k3 Z aA Y hb af;go_loopw [39] (fun iv wq=>∃(k:Nat) (y:fp),k≤n'∧iv=iT k∧y=oX ((bK F).take k)∧Bl W wq∧fV wq C (.bool y.1) (.string y.2.1) (iT y.2.2)∧aj wq a' n' c' (bK F)∧y.2.1.size≤281474976710656) (fun iv _=>n' - (intOf iv).toNat)
    case atStart=>exact ⟨0,(false,⟨#[]⟩,0),Gl _,rfl,rfl,aI.o,aw.o,aL.o,Gl _⟩
    case round =>
    obtain ⟨k,y,hk,rfl,aQ,hb,ay,aU,aB⟩:=hrel;clear aI aw aL;have a6:Eq (aj wr a' n' c' (bK F)):=aU;have aD:Eq (y=oX ((bK F).take k)):=aQ;have A:Eq (fV wr C (.bool y.1) (.string y.2.1) (iT y.2.2)):=ay;have aN:Eq (y.2.1.size≤281474976710656):=aB;clear aU aQ ay aB;by_cases aV:k<n'
    · obtain ⟨b,a7,rfl,a1⟩:=a6.o.form (by omega);obtain ⟨s,q,d,t,n,hg,ah,g0,g1,g2,g3,g4⟩:=a6.o.ent (Below.refl wr.heap.size wr) a1 k aV;have HG:Eq ((bK F)[k]?=some (s,q,d,t,n)):=hg;clear hg ah;obtain ⟨T,G,H,hm,eg,a0⟩:=Cx y.1 y.2.1 s t y.2.2 q d n;obtain ⟨I,a5⟩:=aF (gV y.1 y.2.1 y.2.2 d t n);rw [← a5] at a0;have ar:Eq (I=Dy (oX ((bK F).take k)) (s,q,d,t,n)):=by rw [a5,← aD.o];rfl
      have aC:Eq (I.2.1.size≤281474976710656):=by rw [a5];exact yH aN.o (aJ.o _ (Gk HG.o))
      clear a5;go_upto_region 13 with fail
      obtain ⟨E,hE⟩:=aF wr.heap.size;obtain ⟨wq,ab⟩:=aF (wr.alloc (.cells #[.string s,iT q,iT d,.string t,iT n] 50));have kq:Bl wr wq:=by rw [ab];exact bZ
      have ax:Eq (E≠C):=by have:=A.o.lt;show E≠C;omega
      have J:r8 W wq.drew E C s t q d n (.bool y.1) (.string y.2.1) (iT y.2.2) (some ⟨b,a7,none⟩) n' c' (bK F) :=
       r8.below ⟨hb.trans (kq.mono hb.size),by rw [ab,hE];exact cq.new _ _ _ _ _ _ _,A.o.below kq,a6.o.keep kq⟩ (Below.refl _ _).drew
      rw [← ab,← hE];clear ab hE kq g0 g1 g2 g3 g4 a6 A hb a1;refine wp_region_held_drew (S:=(fun w'=>w'.cell? ⟨E,0,none⟩=some (.string s)∧w'.cell? ⟨E,1,none⟩=some (iT q)∧w'.cell? ⟨E,2,none⟩=some (iT d)∧w'.cell? ⟨E,3,none⟩=some (.string t)∧w'.cell? ⟨E,4,none⟩=some (iT n)∧E<w'.heap.size)) (by kernel_rfl) (⟨J.be.c0,J.be.c1,J.be.c2,J.be.c3,J.be.c4,J.be.lt⟩) (fun aa=>?_);generalize wq.drew=wd at J aa ⊢;refine aO 0 1 aa ?_;refine aO 3 1 aa ?_;refine lI 1 2 (fun K hK=>?_) fun K hK=>?_
      · go_simp;refine (H _).mono ?_;rintro e bD ⟨rfl,bh⟩;have f:=J.below bh;go_wp2_with fail
        refine hK.o _ _ (⟨f.be.c0,f.be.c1,f.be.c2,f.be.c3,f.be.c4,f.be.lt⟩) fun aa=>?_
        (try go_frame);refine aS 2 fun K hK=>?_
        have c0:=f.bc.all;go_simp;clear c0;refine hK.o _ _ (⟨f.be.c0,f.be.c1,f.be.c2,f.be.c3,f.be.c4,f.be.lt⟩) fun aa=>?_
        (try go_frame);refine aS 4 fun K hK=>?_
        go_simp;refine (a0 _).mono ?_;rintro e bv ⟨rfl,b3⟩;have u:=f.below b3;unfold iD;go_wp2_with fail
        refine hK.o _ _ (⟨u.be.c0,u.be.c1,u.be.c2,u.be.c3,u.be.c4,u.be.lt⟩) fun aa=>?_
        (try go_frame);refine aS 5 fun K hK=>?_
        have c0:=u.bc.all;have f0:=u.bc.fr 0;have f1:=u.bc.fr 1;have f2:=u.bc.fr 2;go_simp;have O:=u.set aW.o ax.o aM.o (.bool I.1) (.string I.2.1) (iT I.2.2);clear c0 f0 f1 f2;refine hK.o _ _ (⟨O.be.c0,O.be.c1,O.be.c2,O.be.c3,O.be.c4,O.be.lt⟩) fun aa=>?_
        (try go_frame);refine dN ?_;have HK:Eq (r8 W _ E C s t q d n (.bool I.1) (.string I.2.1) (iT I.2.2) (some ⟨b,a7,none⟩) n' c' (bK F)):=O;clear H hm eg a0;go_wp2;go_roundw
        case rel=>exact ⟨k+1,I,by omega,by go_num,ar.o.trans (qH HG.o).symm,HK.o.low,HK.o.bc,HK.o.en,aC.o⟩
        case measure=>simp [intOf];omega
      · have c0:=J.bc.all;go_simp;clear c0;refine hK.o _ _ (⟨J.be.c0,J.be.c1,J.be.c2,J.be.c3,J.be.c4,J.be.lt⟩) fun aa=>?_
        (try go_frame);refine aS 1 fun K hK=>?_
        go_simp;refine (H _).mono ?_;rintro e bA ⟨rfl,bb⟩;have Q:=J.below bb;go_wp2_with fail
        refine hK.o _ _ (⟨Q.be.c0,Q.be.c1,Q.be.c2,Q.be.c3,Q.be.c4,Q.be.lt⟩) fun aa=>?_
        (try go_frame);refine aS 4 fun K hK=>?_
        go_simp;refine (a0 _).mono ?_;rintro e bL ⟨rfl,b1⟩;have B:=Q.below b1;unfold iD;go_wp2_with fail
        refine hK.o _ _ (⟨B.be.c0,B.be.c1,B.be.c2,B.be.c3,B.be.c4,B.be.lt⟩) fun aa=>?_
        (try go_frame);refine aS 5 fun K hK=>?_
        have c0:=B.bc.all;have f0:=B.bc.fr 0;have f1:=B.bc.fr 1;have f2:=B.bc.fr 2;go_simp;have N:=B.set aW.o ax.o aM.o (.bool I.1) (.string I.2.1) (iT I.2.2);clear c0 f0 f1 f2;refine hK.o _ _ (⟨N.be.c0,N.be.c1,N.be.c2,N.be.c3,N.be.c4,N.be.lt⟩) fun aa=>?_
        (try go_frame);refine dN ?_;have HK:Eq (r8 W _ E C s t q d n (.bool I.1) (.string I.2.1) (iT I.2.2) (some ⟨b,a7,none⟩) n' c' (bK F)):=N;clear H hm eg a0;go_wp2;go_roundw
        case rel=>exact ⟨k+1,I,by omega,by go_num,ar.o.trans (qH HG.o).symm,HK.o.low,HK.o.bc,HK.o.en,aC.o⟩
        case measure=>simp [intOf];omega
    · have bd:Eq (RC=y):=by show RC=y;rw [b9.o,aD.o,Gr (by rw [ba.o];omega)]
      have c0:=A.o.c0;have c1:=A.o.c1;have c2:=A.o.c2;have cl:=A.o.lt;obtain ⟨cb,ct,cn⟩:=y;simp only at c0 c1 c2;go_wp2_with fail
      refine (rY (cb,ct,cn) _ aN.o).mono ?_;rintro e w4 ⟨rfl,an⟩;have r:fV w4 X (.bool false) (.string ⟨#[]⟩) (iT 0):=(bi.o.below hb).below an;have x0:=r.c0;have x1:=r.c1;have x2:=r.c2;have xl:=r.lt;have f0:=r.fr 0;have f1:=r.fr 1;have f2:=r.fr 2;have K4:Eq (Bl w w4):=ae.o.trans ((hb.trans (an.mono hb.size)).mono ae.o.size);have am:Eq (w.heap.size≤X):=by show w.heap.size≤X;rw [b2.o];exact Gg _
      clear r an c0 c1 c2 cl hb;unfold iD;simp only;go_wp2;refine bodyPost_ret (v:=.agg #[.bool cb,.string ct,iT cn]) (by simp [results,Tryz.results43,go_sem,x0,x1,x2]) rfl ⟨by rw [bd.o];rfl,?_⟩;exact ((K4.o.setCell (p:=⟨X,0,none⟩) am.o _).setCell (p:=⟨X,1,none⟩) am.o _).setCell (p:=⟨X,2,none⟩) am.o _
end
def gQ (L:List ac) (m:Int) (key:ByteArray) (seq:Int):List ac:=if cP L m=true then cF L key seq else []
theorem Dm (h:cP L m=false):gQ L m key seq=[]:=by simp [gQ,h]
theorem ln (h:cP L m=true):gQ L m key seq=cF L key seq:=by simp [gQ,h]
def jy (L:List ac) (key:ByteArray) (q:Int) (i j:Nat):Prop:=(∀p e,L[p]?=some e→p<i→bF e.1 e.2.1 key q=true)∧(∀p e,L[p]?=some e→j≤p→bF e.1 e.2.1 key q=false)
theorem tP (L:List ac) (key:ByteArray) (q:Int) (n:Nat) (h:L.length=n):jy L key q 0 n :=
 ⟨fun p e _ hp=>absurd hp (G2 _),fun p e f hp=>by have:=(F'.1 f).1;omega⟩
theorem Ah (hr:aI L=true) (P:jy L key q i j) {e:ac} (f:L[h]?=some e) (hl:bF e.1 e.2.1 key q=true):jy L key q (h+1) j :=
 ⟨fun p d hd hp=>by
  by_cases e1:p=h
  · subst e1;rw [f] at hd;cases hd;exact hl
  · exact fC (fu hr (by omega) hd f) hl,P.2⟩
theorem vp {L:List ac} {key:ByteArray} {q:Int} {i j h:Nat} (hr:aI L=true) (P:jy L key q i j) {e:ac} (f:L[h]?=some e) (hl:bF e.1 e.2.1 key q=false):jy L key q i h :=
 ⟨P.1,fun p d hd hp=>by
  by_cases e1:p=h
  · subst e1;rw [f] at hd;cases hd;exact hl
  · cases hx:bF d.1 d.2.1 key q with
    | false=>rfl
    | true=>rw [fC (fu hr (by omega) f hd) hx] at hl;cases hl⟩
def EM (L:List ac) (key:ByteArray) (q:Int) (len:Nat) (w:World) (e:Ending) (w':World):Prop :=
 ∃(i:Nat) (B:Bool),e=.returned (.tuple #[iT (i:Int),.bool B])∧i≤len∧jy L key q i i∧Bl w w'
theorem Ea (b g len a3:Nat) (L:List ac) (key t:ByteArray) (q d n:Int) (w:World) (hL:aj w (some ⟨b,g,none⟩) len a3 L) (hr:aI L=true) (hlen:len≤1048576) (ai:1≤len) :
 Calls Tryz.prog 238 #[sO b g len a3,.agg #[.string key,iT q,iT d,.string t,iT n],.func (.func 218) #[] #[]] w (EM L key q len w):=by
 have a6:Eq (L.length=len):=hL.length;have HR:=az hr;have Z:=(hL.lies _ rfl (by omega)).1;simp only at Z;obtain ⟨X,U⟩:=aF w.heap.size;obtain ⟨W,R⟩:=aF (w.alloc (.cells #[.string key,iT q,iT d,.string t,iT n] 50));have x0:W.cell? ⟨X,0,none⟩=some (.string key):=by rw [R,U];simp
 have x1:W.cell? ⟨X,1,none⟩=some (iT q):=by rw [R,U];simp
 have x2:W.cell? ⟨X,2,none⟩=some (iT d):=by rw [R,U];simp
 have x3:W.cell? ⟨X,3,none⟩=some (.string t):=by rw [R,U];simp
 have x4:W.cell? ⟨X,4,none⟩=some (iT n):=by rw [R,U];simp
 have kW:Bl w W:=by rw [R];exact bZ
 have HL:Eq (aj W (some ⟨b,g,none⟩) len a3 L):=hL.keep kW;have a9:b<W.heap.size:=E' Z kW.size;have I:Eq (Bl w W):=kW;go_enter Tryz.func238,Tryz.ntmps238
 go_wp2;rw [← R,← U];clear R U kW hL hr Z;go_loopw [9,10] (fun iv jv wr=>∃i j:Nat,iv=iT i∧jv=iT j∧i≤j∧j≤len∧Bl W wr∧jy L key q i j) (fun iv jv _=>(intOf jv).toNat - (intOf iv).toNat)
 case atStart=>exact ⟨0,len,rfl,rfl,Gl _,Gg _,Below.refl _ _,tP _ _ _ _ a6.o⟩
 case round =>
  obtain ⟨i,j,rfl,rfl,aC,a0,hb,hP⟩:=hrel;have HP:Eq (jy L key q i j):=hP;clear hP;by_cases aB:i<j
  · obtain ⟨H,hH⟩:=aF ((i+j) / 2);have ap:i≤H:=by omega
    have aE:H<j:=by omega
    have eH:((i:Int)+(j:Int)) / 2=(H:Int):=by omega
    obtain ⟨x,u,Q,N,n',J,A,y,a1,a4,a5,Y⟩:=HL.o.ent hb a9 H (by omega);have HG:Eq (L[H]?=some (x,u,Q,N,n')):=J;clear J A hH;obtain ⟨O,hO⟩:=aF (jP x u key q);have CO:Eq (∀w,Calls Tryz.prog 218 #[.agg #[.string x,iT u,iT Q,.string N,iT n'],.agg #[.string key,iT q,iT d,.string t,iT n]] w fun e w'=>e=.returned (iT O)∧Bl w w'):=by rw [hO];exact fun w=>ll x N key t u Q n' q d n w
    have HO:Eq (decide (O<0)=bF x u key q):=by show decide (O<0)=_;rw [hO];exact ii _ _ _ _
    clear hO;have aA:(H:Int)<(len:Int):=by omega
    go_wp2_with fail
    have y0:=cell_later hb x0;have y1:=cell_later hb x1;have y2:=cell_later hb x2;have y3:=cell_later hb x3;have y4:=cell_later hb x4;have B:Bl wr wr.drew:=(Below.refl _ wr).drew;have r:Eq (∀w',Bl wr w'→(w'.cell? ⟨X,0,none⟩=some (.string key)∧w'.cell? ⟨X,1,none⟩=some (iT q)∧w'.cell? ⟨X,2,none⟩=some (iT d)∧w'.cell? ⟨X,3,none⟩=some (.string t)∧w'.cell? ⟨X,4,none⟩=some (iT n)∧X<w'.heap.size∧w'.cell? ⟨b,g+H*5,none⟩=some (.string x)∧w'.cell? ⟨b,g+H*5+1,none⟩=some (iT u)∧w'.cell? ⟨b,g+H*5+2,none⟩=some (iT Q)∧w'.cell? ⟨b,g+H*5+3,none⟩=some (.string N)∧w'.cell? ⟨b,g+H*5+4,none⟩=some (iT n')∧b<w'.heap.size)):=fun w' f=>⟨cell_later f y0,cell_later f y1,cell_later f y2,cell_later f y3,cell_later f y4,Gf _ _ (cell_later f y0),cell_later f y,cell_later f a1,cell_later f a4,cell_later f a5,cell_later f Y,Gf _ _ (cell_later f y)⟩
    refine eJ r B fun F=>?_
    refine aO 0 6 F ?_;refine aS 6 fun K hK=>?_
    go_simp;refine (CO.o _).mono ?_;rintro e w1 ⟨rfl,b1⟩;have k1:Bl wr w1:=B.trans (b1.mono B.size);go_wp2_with fail
    refine hK.o _ _ (r.o _ k1) fun F=>?_
    (try go_frame);refine aO 7 1 F ?_;refine dN ?_;by_cases a8:O<0
    · have a2:Eq (bF x u key q=true):=by show bF x u key q=true;rw [← HO.o];exact decide_eq_true a8
      go_wp2;go_roundw
      case rel=>exact ⟨H+1,j,by go_num,rfl,by omega,a0,hb.trans (k1.mono hb.size),Ah HR.o HP.o HG.o a2.o⟩
      case measure=>simp [intOf];omega
    · have a2:Eq (bF x u key q=false):=by show bF x u key q=false;rw [← HO.o];exact decide_eq_false a8
      go_wp2;go_roundw
      case rel=>exact ⟨i,H,rfl,rfl,ap,by omega,hb.trans (k1.mono hb.size),vp HR.o HP.o HG.o a2.o⟩
      case measure=>simp [intOf];omega
  · have ab:i=j:=by omega
    subst ab;by_cases aq:i<len
    · obtain ⟨x,u,Q,N,n',J,A,y,a1,a4,a5,Y⟩:=HL.o.ent hb a9 i aq;clear J A;obtain ⟨O,hO⟩:=aF (jP x u key q);have CO:Eq (∀w,Calls Tryz.prog 218 #[.agg #[.string x,iT u,iT Q,.string N,iT n'],.agg #[.string key,iT q,iT d,.string t,iT n]] w fun e w'=>e=.returned (iT O)∧Bl w w'):=by rw [hO];exact fun w=>ll x N key t u Q n' q d n w
      clear hO;have T:(i:Int)<(len:Int):=by omega
      go_wp2_with fail
      have y0:=cell_later hb x0;have y1:=cell_later hb x1;have y2:=cell_later hb x2;have y3:=cell_later hb x3;have y4:=cell_later hb x4;have B:Bl wr wr.drew:=(Below.refl _ wr).drew;have r:Eq (∀w',Bl wr w'→(w'.cell? ⟨X,0,none⟩=some (.string key)∧w'.cell? ⟨X,1,none⟩=some (iT q)∧w'.cell? ⟨X,2,none⟩=some (iT d)∧w'.cell? ⟨X,3,none⟩=some (.string t)∧w'.cell? ⟨X,4,none⟩=some (iT n)∧X<w'.heap.size∧w'.cell? ⟨b,g+i*5,none⟩=some (.string x)∧w'.cell? ⟨b,g+i*5+1,none⟩=some (iT u)∧w'.cell? ⟨b,g+i*5+2,none⟩=some (iT Q)∧w'.cell? ⟨b,g+i*5+3,none⟩=some (.string N)∧w'.cell? ⟨b,g+i*5+4,none⟩=some (iT n')∧b<w'.heap.size)):=fun w' f=>⟨cell_later f y0,cell_later f y1,cell_later f y2,cell_later f y3,cell_later f y4,Gf _ _ (cell_later f y0),cell_later f y,cell_later f a1,cell_later f a4,cell_later f a5,cell_later f Y,Gf _ _ (cell_later f y)⟩
      refine eJ r B fun F=>?_
      refine aO 0 11 F ?_;refine aS 11 fun K hK=>?_
      go_simp;refine (CO.o _).mono ?_;rintro e w1 ⟨rfl,b1⟩;have k1:Bl wr w1:=B.trans (b1.mono B.size);go_wp2_with fail
      refine hK.o _ _ (r.o _ k1) fun F=>?_
      (try go_frame);refine aO 12 4 F ?_;refine dN ?_;go_wp2;refine bodyPost_ret (v:=.tuple #[iT (i:Int),.bool (O == 0)]) (by simp [results,Tryz.results238,go_sem]) rfl ⟨i,O == 0,rfl,a0,HP.o,I.o.trans ((hb.trans (k1.mono hb.size)).mono I.o.size)⟩
    · have T:¬(i:Int)<(len:Int):=by omega
      have aw:decide ((i:Int)<(len:Int))=false:=decide_eq_false T;go_wp2_with fail
      have y0:=cell_later hb x0;have y1:=cell_later hb x1;have y2:=cell_later hb x2;have y3:=cell_later hb x3;have y4:=cell_later hb x4;have B:Bl wr wr.drew:=(Below.refl _ wr).drew;have r:Eq (∀w',Bl wr w'→(w'.cell? ⟨X,0,none⟩=some (.string key)∧w'.cell? ⟨X,1,none⟩=some (iT q)∧w'.cell? ⟨X,2,none⟩=some (iT d)∧w'.cell? ⟨X,3,none⟩=some (.string t)∧w'.cell? ⟨X,4,none⟩=some (iT n)∧X<w'.heap.size)):=fun w' f=>⟨cell_later f y0,cell_later f y1,cell_later f y2,cell_later f y3,cell_later f y4,Gf _ _ (cell_later f y0)⟩
      refine eJ r B fun F=>?_
      refine aO 0 11 F ?_;refine aS 11 fun K hK=>?_
      go_simp;refine hK.o _ _ (r.o _ B) fun F=>?_
      (try go_frame);refine aO 12 4 F ?_;refine dN ?_;go_wp2;refine bodyPost_ret (v:=.tuple #[iT (i:Int),.bool false]) (by simp [results,Tryz.results238,go_sem]) rfl ⟨i,false,rfl,a0,HP.o,I.o.trans ((hb.trans (B.mono hb.size)).mono I.o.size)⟩
def Fq (L:List ac) (key:ByteArray) (q:Int) (len:Nat) (w:World) (e:Ending) (w':World):Prop :=
 ∃(i:Nat),e=.returned (iT (i:Int))∧i≤len∧jy L key q i i∧Bl w w'
theorem s6 (b f len n:Nat) (L:List ac) (key:ByteArray) (q:Int) (w:World) (hL:aj w (some ⟨b,f,none⟩) len n L) (hr:aI L=true) (hlen:len≤1048576) (g:1≤len) :
 Calls Tryz.prog 210 #[sO b f len n,.string key,iT q] w (Fq L key q len w):=by
 go_enter Tryz.func210,Tryz.ntmps210
 go_wp2_with fail
 refine (Ea b f len n L key _ q _ _ w hL hr hlen g).mono ?_;rintro e y ⟨i,B,rfl,hi,u,r⟩;have x:=az u;go_wp2;go_ret;exact ⟨i,rfl,hi,x.o,r⟩
def rx (F:List ac) (w:World) (e:Ending) (w':World):Prop :=
 ((e=.returned nZ∧F=[])∨∃g n c,e=.returned (sL g n c)∧ah w' w.heap.size g n c F)∧Bl w w'
theorem qx (a:Option Addr) (len f:Nat) (L:List ac) (m:Int) (key:ByteArray) (seq:Int) (w:World) (hL:aj w a len f L) (hlen:len≤1048576) :
 Calls Tryz.prog 166 #[.agg #[.slice a len f,iT m],.string key,iT seq] w (rx (gQ L m key seq) w):=by
 obtain ⟨F,A⟩:=aF (gQ L m key seq);rw [← A];have kA:Bl w (w.alloc (.cells #[.slice a len f,iT m] 63)):=bZ;have n:=az hL.length;have a9:=hL.room;have T:=hL.big;unfold maxLen at T;go_enter Tryz.func166,Tryz.ntmps166
 go_wp2_with fail
 refine (s5 _ _ _ L _ _ (hL.keep kA)).mono ?_;rintro e w1 ⟨rfl,Q⟩;have x0:w1.cell? ⟨w.heap.size,0,none⟩=some (.slice a len f):=cell_later Q (by simp);have r:Bl w w1:=kA.trans (Q.mono (by simp));cases hr:cP L m with
 | false =>
  have y:Eq (F=[]):=by rw [A];exact Dm hr
  go_wp2;go_ret;exact ⟨Or.inl ⟨rfl,y.o⟩,r⟩
 | true =>
  obtain ⟨p1,p2,p3,p4⟩:=bD hr;have h1:1≤len:=by have:=n.o;omega
  obtain ⟨b,B,rfl,aa⟩:=hL.form h1;have U:=az hL;have u:=az p3;have y:Eq (F=cF L key seq):=by rw [A];exact ln hr
  go_wp2_with fail
  refine (s6 b B len f L key seq _ (U.o.keep r) u.o hlen h1).mono ?_;rintro e w2 ⟨i,rfl,hi,Z,O⟩;have y0:=cell_later O x0;have H:=r.trans (O.mono r.size);have K:=az Z;go_wp2_with fail
  refine (s6 b B len f L key 0 _ (U.o.keep H) u.o hlen h1).mono ?_;rintro e w3 ⟨j,rfl,hj,N,R⟩;have z0:=cell_later R y0;have g:=H.trans (R.mono H.size);have hF:=uj u.o (L:=L) (key:=key) (seq:=seq) (i:=i) (j:=j) (by rw [n.o];exact hi) (by rw [n.o];exact hj) K.o.1 K.o.2 N.1 N.2;obtain ⟨a0,hF⟩:=hF;have HF:=az hF;have hsz:=vc u.o i (j - i);have J:=az hsz;by_cases a2:f=i
  · subst a2;have hE:aj w3 (some ⟨b,B,none⟩) (j - f) 0 ((L.drop f).take (j - f)):=by
     have X:j - f=0:=by omega
     rw [X];exact ⟨rfl,Gg _,Gl _,by simp,(fun e=>by cases e),(fun x e hp=>absurd hp (G2 _)),fun x e k hk=>by simp at hk⟩
    have HE:=az hE;go_wp2_with fail
    with_reducible refine (iq _ _ _ _ _ HE.o (by omega) J.o).mono ?_
    rintro e w4 ⟨rfl,hO,Y,I⟩;have HO:=az hO;go_wp2;go_ret;exact ⟨Or.inr ⟨_,_,_,rfl,by rw [y.o,HF.o];exact HO.o.mono g.size⟩,g.trans (I.mono g.size)⟩
  · have hE:=(U.o.keep g).sub a0 hj;have HE:=az hE;go_wp2_with fail
    all_goals
     refine (iq _ _ _ _ _ HE.o (by omega) J.o).mono ?_;rintro e w4 ⟨rfl,hO,Y,I⟩;have HO:=az hO;go_wp2;go_ret;exact ⟨Or.inr ⟨_,_,_,rfl,by rw [y.o,HF.o];exact HO.o.mono g.size⟩,g.trans (I.mono g.size)⟩
theorem l6 {F:List ac} {e:Ending} (h:rx F w e w'):∃a n c,e=.returned (.slice a n c)∧cX w' w.heap.size a n c F∧Bl w w':=by
 obtain ⟨h1 | ⟨g,n,c,rfl,hO⟩,hb⟩:=h
 · obtain ⟨rfl,rfl⟩:=h1;exact ⟨none,0,0,rfl,cX.none _ _,hb⟩
 · exact ⟨_,n,c,rfl,cX.some hO,hb⟩
def Tryz.cloneL_ren : Go.Shelf.Ren := ⟨fun | 41 => 165 | n => n, fun | 22 => 28 | 23 => 50 | 4 => 4 | n => n, fun | n => n⟩
theorem Tryz.cloneL : Go.Proofs.SlLaysE0.n41 Tryz.prog Tryz.cloneL_ren := {
  mixed := by kernel_rfl
  f41 := ⟨Tryz.f165.name, by decide, Tryz.func165.trans (congrArg some (by kernel_rfl))⟩
  t4 := Tryz.underlying4
  a4 := Tryz.isAgg4
  z4 := Tryz.sizeOf4
  v4 := Tryz.zeroValue4
  t22 := Tryz.underlying28
  a22 := Tryz.isAgg28
  z22 := Tryz.sizeOf28
  v22 := Tryz.zeroValue28 }
theorem DD (b n c:Nat) (L:List ac) (w:World) (hL:aj w (pT b) n c L) (hn:n≤1048576) :
 Calls Tryz.prog 165 #[sL b n c] w fun e w'=>∃g c',e=.returned (sL g n c')∧ah w' w.heap.size g n c' L∧Bl w w':=by
 obtain ⟨i0,hi,r,x,f⟩:=info_parts Tryz.infoEnt;have h:=AnyE.slices_Clone Tryz.cloneL i0 _ 5 56 hi r x f rfl (by decide) Tryz.sizeOf50 b 0 n c (aG L) w (by rw [aW,hL.length]) (by unfold maxLen;omega) (by omega) (fun j u B=>by have:=b7 hL j u B;rwa [WideShapes.add_plain] at this) (aY _);have h':=h
 refine h'.mono ?_;rintro e w' ⟨A,rfl,ho,o,hb⟩;obtain ⟨g,c',rfl⟩:∃g cap,A=sL g n cap:=by
  rcases ho.2 with ⟨hv,h0⟩ | ⟨g,cap,y,hv,_⟩
  · exact absurd hv o
  · exact ⟨g,cap,hv⟩
 exact ⟨g,c',rfl,⟨ho,hL.length,hL.ents⟩,hb⟩
def jC (w:World) (b:Nat) (V:List (List af)):Prop:=∀(i:Nat) (B:List af),V[i]?=some B→∃e n c,w.cell? ⟨b,i,none⟩=some (sL e n c)
theorem jC.keep (h:jC w b V) (hb:Bl w w'):jC w' b V:=fun i B hB=>by
 obtain ⟨e,n,c,h1⟩:=h i B hB
 exact ⟨e,n,c,cell_later hb h1⟩
theorem bn.shareN {lo:Nat} {O:Int} {g H:Option Addr} {n o U R F u:Nat} {M:List ac} {S:List Int} (f:bn lo w g n o (pT b) U R H F u M V S) (K:aT O M V S=true) (Y:jC w b V):∃A B C e0 r c0 e1 I c1 e2 n2 y,U=3∧V=[A,B,C]∧ow w g n o (pT e0) r c0 (pT e1) I c1 (pT e2) n2 y H F u M A B C S∧(∀w',Bl w w'→Calls Tryz.prog 86 #[.agg #[iT O,.slice g n o,sL b 3 R,.slice H F u]] w' fun e X=>e=.returned (.tuple #[.agg #[iT O,.slice g n o,sL e0 r c0,sL e1 I c1,sL e2 n2 y,.slice H F u],.bool true])∧Bl w' X):=by
 obtain ⟨A,B,C,T⟩:=gH K;subst T;have Q:U=3:=f.levels.length.symm;subst Q;obtain ⟨A',a0,r,c0,hA,l0,x⟩:=f.levels.level (Below.refl _ w) 0 (by omega);obtain ⟨B',a1,I,c1,hB,l1,N⟩:=f.levels.level (Below.refl _ w) 1 (by omega);obtain ⟨Z,a2,n2,y,hC,l2,J⟩:=f.levels.level (Below.refl _ w) 2 (by omega);simp only [Ic,Hg,Hy] at hA hB hC;subst hA hB hC;rw [Gp] at l0 l1 l2;obtain ⟨e0,_,_,f0⟩:=Y 0 A rfl;obtain ⟨e1,_,_,f1⟩:=Y 1 B rfl;obtain ⟨e2,_,_,f2⟩:=Y 2 C rfl;rw [l0] at f0;rw [l1] at f1;rw [l2] at f2;cases f0;cases f1;cases f2;refine ⟨A,B,C,e0,r,c0,e1,I,c1,e2,n2,y,rfl,rfl,⟨f.mem.1,x.mono (Gl _),N.mono (Gl _),J.mono (Gl _),f.snaps.lower (Gl _)⟩,fun w' k=>?_⟩;have:=iU lo O g H n o b 0 R F u M A B C S _ _ _ r c0 I c1 n2 y w' (f.mem.1.keep k) (f.snaps.keep k) (x.keep k) (N.keep k) (J.keep k) (cell_later k l0) (cell_later k l1) (cell_later k l2);rw [K] at this;exact this
end Go.Proofs.YtpobkmjicbobdaaGreat
