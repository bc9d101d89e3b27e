/- Walks. -/
import Derived.Test.YtpobkmjicbobdaaGreatBW39
import Derived.Deep.DeepAppendWide
import Derived.Ground.SlgnProg
import Derived.Shelf.SlicesE.Clone
import Derived.Shelf.SlSortCmp.WholeK
namespace Go.Proofs.YtpobkmjicbobdaaGreat
set_option maxRecDepth 100000
set_option maxHeartbeats 40000000
open Go.RowKit Go.Shelf Go.Sort
variable {C E N b c' h i j n':Nat} {D L:List ac} {V:List (List af)} {W w w' wi:World} {a':Option Addr} {d m q seq:Int} {key s t:ByteArray} {v0 v1 v2:Value}
section
attribute [local go_sem] Ic
theorem cE.row {base:Nat} {a:Option Addr} {n c:Nat} (h:cE w base a n c L):w.ownsRow base 50 5 (.slice a n c) n (aF L):=by
 cases a with
 | none =>
  obtain ⟨rfl,rfl,rfl⟩:=h.nil rfl;exact ⟨rfl,Or.inl ⟨rfl,rfl⟩⟩
 | some x =>
  obtain ⟨g,rfl,hO⟩:=h.own x rfl;exact hO.owns
theorem yZ (w:World):ah w none 0 0 []:=⟨rfl,GL _,GQ _,(fun e h=>by cases h),(fun _=>rfl),(fun x e=>by cases e),(fun x e=>by cases e)⟩
theorem FC (g:Value) (w:World):Calls Tryz.prog 213 #[nZ,iT 0,iT 0,g] w fun e w'=>e=.returned (.tuple #[])∧w'=w:=by
 go_enter Tryz.func213,Tryz.ntmps213
 go_wp2;go_loopw [8] (fun f wr=>f=iT 1∧wr=w) (fun _ _=>0)
 case atStart=>exact ⟨rfl,rfl⟩
 case round =>
  obtain ⟨rfl,rfl⟩:=hrel;go_wp2;go_end0;exact ⟨rfl,rfl⟩
theorem Ak (g:Value) (w:World):Calls Tryz.prog 169 #[nZ,iT 0,g] w fun e w'=>e=.returned (.tuple #[])∧w'=w:=by
 go_enter Tryz.func169,Tryz.ntmps169
 go_wp2;go_loopw [7,8] (fun f o wr=>f=iT 0∧o=iT 20∧wr=w) (fun _ _ _=>0)
 case atStart=>exact ⟨rfl,rfl,rfl⟩
 case round =>
  obtain ⟨rfl,rfl,rfl⟩:=hrel;go_wp2_with fail
  refine (FC g _).mono ?_;rintro e n ⟨rfl,rfl⟩;go_wp2;go_loopw [6] (fun f r=>f=iT 20∧r=n) (fun _ _=>0)
  case atStart=>exact ⟨rfl,rfl⟩
  case round =>
   obtain ⟨rfl,rfl⟩:=hrel;go_wp2;go_end0;exact ⟨rfl,rfl⟩
def Fb (F:List ac) (a:Option Addr) (n c base:Nat) (w:World) (e:Ending) (w':World):Prop :=
 e=.returned (.tuple #[])∧ah w' a n c (bH F)∧(∀B,B≤base→B≤w.heap.size→Below B w w')
theorem sU {g B:Nat} (h:w.grownBy w' (some g)) (hB:B≤w.heap.size) (hg:B≤g):Below B w w' :=
 (Below.refl _ _).grown h hB (fun k e=>by cases e;exact hg)
theorem xS (a:Option Addr) (n c base:Nat) (F:List ac) (w:World) (hO:cE w base a n c F) (hn:n≤1048576) :
 Calls Tryz.prog 111 #[.slice a n c,.func (.func 112) #[] #[]] w (Fb F a n c base w):=by
 cases a with
 | none =>
  obtain ⟨rfl,rfl,rfl⟩:=hO.nil rfl;go_enter Tryz.func111,Tryz.ntmps111
  go_wp2_with fail
  refine (Ak _ _).mono ?_;rintro e H ⟨rfl,rfl⟩;go_wp2;go_end0;exact ⟨rfl,yZ _,fun B _ _=>Below.refl _ _⟩
 | some x =>
  obtain ⟨g,rfl,hE⟩:=hO.own x rfl;have A:=az hE;go_enter Tryz.func111,Tryz.ntmps111
  go_wp2_with fail
  refine (Al base g n c F _ A.o hn).mono ?_;rintro e H ⟨rfl,f,y⟩;have u:=az f.entsAt;have r:=az y;go_wp2;go_end0;exact ⟨rfl,u.o,fun B hB hw=>sU r.o hw (GU hB A.o.lt.1)⟩
structure sV (W wi:World) (E C:Nat) (s t:ByteArray) (q d n:Int) (v0 v1 v2:Value) (a':Option Addr) (n' c':Nat) (D:List ac):Prop where
 low:Bl W wi
 be:cw wi E (.string s) (iT q) (iT d) (.string t) (iT n)
 bc:f8 wi C v0 v1 v2
 en:ah wi a' n' c' D
theorem sV.below {e:World} {n:Int} (h:sV W wi E C s t q d n v0 v1 v2 a' n' c' D) (hb:Bl wi e):sV W e E C s t q d n v0 v1 v2 a' n' c' D :=
 ⟨h.low.trans (hb.mono h.low.size),h.be.below hb,h.bc.below hb,h.en.keep hb⟩
theorem sV.set {n:Int} (h:sV W wi E C s t q d n v0 v1 v2 a' n' c' D) (hC:W.heap.size≤C) (hE:E≠C) (hA:∀x,a'=some x→0<n'→x.block≠C) (u0 u1 u2:Value) :
 sV W (((wi.setCell ⟨C,0,none⟩ u0).setCell ⟨C,1,none⟩ u1).setCell ⟨C,2,none⟩ u2) E C s t q d n u0 u1 u2 a' n' c' D :=
 ⟨((h.low.setCell (p:=⟨C,0,none⟩) hC _).setCell (p:=⟨C,1,none⟩) hC _).setCell (p:=⟨C,2,none⟩) hC _,((h.be.other hE 0 _).other hE 1 _).other hE 2 _,h.bc.setAll _ _ _,((h.en.setCell ⟨C,0,none⟩ _ hA).setCell ⟨C,1,none⟩ _ hA).setCell ⟨C,2,none⟩ _ hA⟩
theorem DW {c:dE} {e:ac} (h:c.2.1.size≤N) (h':e.2.2.2.1.size≤N):(sS c e).2.1.size≤N:=jO h h'
theorem rk {N:Nat}:∀(D:List ac) (c:dE),c.2.1.size≤N→(∀e ∈ D,e.2.2.2.1.size≤N)→(D.foldl sS c).2.1.size≤N
 | [],_,h,_=>h
 | e :: r,c,h,hD=>rk r (sS c e) (DW h (hD e Ha)) (fun x hx=>hD x (He _ hx))
theorem ze (h:∀e ∈ L,e.2.2.2.1.size≤N):(eX L key seq).2.1.size≤N :=
 rk _ _ (GQ _) (fun e f=>h e (rG (rW.1 f)))
theorem wK (a:Option Addr) (len U:Nat) (L:List ac) (key:ByteArray) (seq:Int) (w:World) (hL:ah w a len U L) (hlen:len≤1048576) (ar:∀e ∈ L,e.2.2.2.1.size≤281474976710656) :
 Calls Tryz.prog 43 #[.slice a len U,.string key,iT seq] w fun e w'=>e=.returned (f5 (eX L key seq))∧Bl w w':=by
 obtain ⟨F,hF⟩:=aG (bw L key seq);have aw:Eq (F=bw L key seq):=hF;have aI:Eq (L.length=len):=hL.length;have a3:Eq (∀l ∈ L,d9 l):=hL.ents;have b5:=az ar;have aL:Eq (F.length≤1048576):=by rw [hF];exact GU (nE L key seq) (by rw [hL.length];exact hlen)
 have bF:=hL.room;have b0:=hL.big;unfold maxLen at b0;have HL:=az hL;obtain ⟨RC,ak⟩:=aG (eX L key seq);have b8:Eq (RC=nq (bH F)):=by rw [ak,hF];rfl
 rw [← ak];clear hL hF ar ak;obtain ⟨i0,hi,b6,bj,bd⟩:=info_parts Tryz.infoEnt;obtain ⟨X,hX⟩:=aG w.heap.size;obtain ⟨W,hW⟩:=aG (w.alloc (.cells #[.bool false,.string ⟨#[]⟩,iT 0] 57));have bi:Eq (f8 W X (.bool false) (.string ⟨#[]⟩) (iT 0)):=by rw [hW,hX];exact f8.new _ _ _ _ _
 have af:Eq (Bl w W):=by rw [hW];exact bZ
 have b2:Eq (X=w.heap.size):=hX;have bI:Eq (W.heap.size=X+1):=by show W.heap.size=X+1;rw [hW,hX];simp
 have aH:Eq (ah W a len U L):=HL.o.keep af.o;go_enter Tryz.func43,Tryz.ntmps43
 go_wp2;rw [← hW,← hX];clear hW hX;go_loopw [7,15] (fun dv iv wr=>∃(k n' c':Nat) (a':Option Addr),k≤len∧n'≤k∧iv=iT k∧dv=.slice a' n' c'∧cE wr W.heap.size a' n' c' (bw (L.take k) key seq)∧Bl W wr) (fun _ iv _=>len - (intOf iv).toNat)
 case atStart=>exact ⟨0,0,0,none,GQ _,GQ _,rfl,rfl,cE.none _ _,Below.refl _ _⟩
 case round =>
  obtain ⟨k,n',c',a',hk,bK,rfl,rfl,hO,hb⟩:=hrel;have HO:Eq (cE wr W.heap.size a' n' c' (bw (L.take k) key seq)):=hO;clear hO;by_cases b4:k<len
  · obtain ⟨b,a8,rfl,a2⟩:=aH.o.form (by omega);obtain ⟨s,q,d,t,n,hg,aj,g0,g1,g2,g3,g4⟩:=aH.o.ent hb a2 k b4;have HG:Eq (L[k]?=some (s,q,d,t,n)):=hg;clear hg aj;have bD:b<wr.heap.size:=E' a2 hb.size;by_cases ab:s=key
    · subst ab;by_cases hq:q≤seq
      · have HF:Eq (bw (L.take (k+1)) s seq=bw (L.take k) s seq++[(s,q,d,t,n)]):=sP HG.o rfl hq;go_wp2_with (at_builtin;refine wpList_append_own _ rfl _ _ 28 rfl W.heap.size 50 i0 _ 5 56 Tryz.underlying28 hi b6 bj bd rfl (by decide) _ _ _ rfl ((HO.o.row.alloc _).alloc _) ⟨wr.heap.size+1,0,none⟩ 1 1 (aF [(s,q,d,t,n)]) rfl rfl ?c1 (bf _) ?c3 ?c4 ?c5 ?_)
        case c1 =>
         have he:=eW (wr.alloc (.cells #[.string s,iT q,iT d,.string t,iT n] 50)) s t q d n (a3.o _ (GP HG.o));simp only [GY] at he;exact ch he
        case c3=>unfold maxLen;omega
        case c4=>omega
        case c5=>have:=hb.size;simp;omega
        intro v' w2 Y hgrow hnil;obtain ⟨g2,a4,rfl⟩:∃g U,v'=sL g (n'+1) U:=by
         rcases Y.2 with ⟨hv,h0⟩ | ⟨g,U,bz,hv,_⟩
         · omega
         · exact ⟨g,U,hv⟩
        have Z:Bl W w2:=((hb.alloc hb.size _).alloc (by have:=hb.size;simp;omega) _).grown hgrow (by have:=hb.size;simp;omega) (fun q hq=>(HO.o.row.lt q hq).1);have av:cE w2 W.heap.size (pT g2) (n'+1) a4 (bw (L.take (k+1)) s seq):=by
         refine cE.some ⟨?_,?_,fun l hl=>a3.o l (Hq (rG hl))⟩
         · rw [HF.o,bC];exact Y
         · rw [HF.o,GO,HO.o.len];rfl
        have b7:Eq (cE w2 W.heap.size (pT g2) (n'+1) a4 (bw (L.take (k+1)) s seq)):=av;clear Y hgrow hnil av;go_wp2;go_roundw
        case rel=>exact ⟨k+1,n'+1,a4,_,by omega,by omega,by go_num,rfl,b7.o,Z⟩
        case measure=>simp [intOf];omega
      · have HF:Eq (bw (L.take (k+1)) s seq=bw (L.take k) s seq):=nz HG.o (by simp;omega);go_wp2;go_roundw
        case rel=>exact ⟨k+1,n',c',a',by omega,by omega,by go_num,rfl,by rw [HF.o];exact HO.o.below bZ,hb.alloc hb.size _⟩
        case measure=>simp [intOf];omega
    · have HF:Eq (bw (L.take (k+1)) key seq=bw (L.take k) key seq):=nz HG.o (fun h=>ab h.1);have aZ:¬s.toList=key.toList:=by
       rw [Hk,Hk];intro h;exact ab (IP (II.1 h))
      have bm:(s.toList == key.toList)=false:=by simpa using aZ
      clear ab;go_wp2;go_roundw
      case rel=>exact ⟨k+1,n',c',a',by omega,by omega,by go_num,rfl,by rw [HF.o];exact HO.o.below bZ,hb.alloc hb.size _⟩
      case measure=>simp [intOf];omega
  · have ag:Eq (cE wr W.heap.size a' n' c' F):=by
     have:=HO.o;rw [GV (by rw [aI.o];omega),← aw.o] at this;exact this
    have aP:n'≤1048576:=by rw [← ag.o.len];exact aL.o
    have aK:Eq (∀e ∈ bH F,e.2.2.2.1.size≤281474976710656):=fun e he=>b5.o e (rG (by rw [← aw.o];exact rW.1 he))
    clear HO;go_wp2_with fail
    refine (xS a' n' c' W.heap.size F _ ag.o aP).mono ?_;rintro e w2 ⟨rfl,a0,aB⟩;have Z:Bl W w2:=hb.trans (aB _ (GL _) hb.size);obtain ⟨C,hC⟩:=aG w2.heap.size;obtain ⟨w3,a9⟩:=aG (w2.alloc (.cells #[.bool false,.string ⟨#[]⟩,iT 0] 57));have k3:Bl w2 w3:=by rw [a9];exact bZ
    have ax:Eq (f8 w3 C (.bool false) (.string ⟨#[]⟩) (iT 0)):=by rw [a9,hC];exact f8.new _ _ _ _ _
    have aM:Eq (ah w3 a' n' c' (bH F)):=a0.keep k3;have aJ:Eq (Bl W w3):=Z.trans (k3.mono Z.size);have aX:Eq (W.heap.size≤C):=by rw [hC];exact Z.size
    have aN:Eq (∀x,a'=some x→0<n'→x.block≠C):=fun x hx hp=>by have:=(a0.lies x hx hp).1;rw [hC];omega
    have b9:Eq ((bH F).length=n'):=a0.length;have hroom:=a0.room;have hbig:=a0.big;unfold maxLen at hbig;go_wp2;rw [← a9,← hC];clear a9 hC k3 a0 aB Z hb ag;go_loopw [39] (fun iv wq=>∃(k:Nat) (y:dE),k≤n'∧iv=iT k∧y=nq ((bH F).take k)∧Bl W wq∧f8 wq C (.bool y.1) (.string y.2.1) (iT y.2.2)∧ah wq a' n' c' (bH F)∧y.2.1.size≤281474976710656) (fun iv _=>n' - (intOf iv).toNat)
    case atStart=>exact ⟨0,(false,⟨#[]⟩,0),GQ _,rfl,rfl,aJ.o,ax.o,aM.o,GQ _⟩
    case round =>
    obtain ⟨k,y,hk,rfl,aQ,hb,aA,aU,aC⟩:=hrel;clear aJ ax aM;have a7:Eq (ah wr a' n' c' (bH F)):=aU;have aE:Eq (y=nq ((bH F).take k)):=aQ;have A:Eq (f8 wr C (.bool y.1) (.string y.2.1) (iT y.2.2)):=aA;have aO:Eq (y.2.1.size≤281474976710656):=aC;clear aU aQ aA aC;by_cases aW:k<n'
    · obtain ⟨b,a8,rfl,a2⟩:=a7.o.form (by omega);obtain ⟨s,q,d,t,n,hg,aj,g0,g1,g2,g3,g4⟩:=a7.o.ent (Below.refl wr.heap.size wr) a2 k aW;have HG:Eq ((bH F)[k]?=some (s,q,d,t,n)):=hg;clear hg aj;obtain ⟨T,G,H,hm,eg,a1⟩:=Dp y.1 y.2.1 s t y.2.2 q d n;obtain ⟨I,a6⟩:=aG (fh y.1 y.2.1 y.2.2 d t n);rw [← a6] at a1;have au:Eq (I=sS (nq ((bH F).take k)) (s,q,d,t,n)):=by rw [a6,← aE.o];rfl
      have aD:Eq (I.2.1.size≤281474976710656):=by rw [a6];exact jO aO.o (aK.o _ (GP HG.o))
      clear a6;go_upto_region 13 with fail
      obtain ⟨E,hE⟩:=aG wr.heap.size;obtain ⟨wq,ad⟩:=aG (wr.alloc (.cells #[.string s,iT q,iT d,.string t,iT n] 50));have kq:Bl wr wq:=by rw [ad];exact bZ
      have ay:Eq (E≠C):=by have:=A.o.lt;show E≠C;omega
      have J:sV W wq.drew E C s t q d n (.bool y.1) (.string y.2.1) (iT y.2.2) (some ⟨b,a8,none⟩) n' c' (bH F) :=
       sV.below ⟨hb.trans (kq.mono hb.size),by rw [ad,hE];exact cw.new _ _ _ _ _ _ _,A.o.below kq,a7.o.keep kq⟩ (Below.refl _ _).drew
      rw [← ad,← hE];clear ad hE kq g0 g1 g2 g3 g4 a7 A hb a2;refine wp_region_held_drew (S:=(fun w'=>w'.cell? ⟨E,0,none⟩=some (.string s)∧w'.cell? ⟨E,1,none⟩=some (iT q)∧w'.cell? ⟨E,2,none⟩=some (iT d)∧w'.cell? ⟨E,3,none⟩=some (.string t)∧w'.cell? ⟨E,4,none⟩=some (iT n)∧E<w'.heap.size)) (by kernel_rfl) (⟨J.be.c0,J.be.c1,J.be.c2,J.be.c3,J.be.c4,J.be.lt⟩) (fun aa=>?_);generalize wq.drew=wd at J aa ⊢;refine aR 0 1 aa ?_;refine aR 3 1 aa ?_;refine mK 1 2 (fun K hK=>?_) fun K hK=>?_
      · go_simp;refine (H _).mono ?_;rintro e bE ⟨rfl,bh⟩;have f:=J.below bh;go_wp2_with fail
        refine hK.o _ _ (⟨f.be.c0,f.be.c1,f.be.c2,f.be.c3,f.be.c4,f.be.lt⟩) fun aa=>?_
        (try go_frame);refine aV 2 fun K hK=>?_
        have c0:=f.bc.all;go_simp;clear c0;refine hK.o _ _ (⟨f.be.c0,f.be.c1,f.be.c2,f.be.c3,f.be.c4,f.be.lt⟩) fun aa=>?_
        (try go_frame);refine aV 4 fun K hK=>?_
        go_simp;refine (a1 _).mono ?_;rintro e bv ⟨rfl,b3⟩;have u:=f.below b3;unfold f5;go_wp2_with fail
        refine hK.o _ _ (⟨u.be.c0,u.be.c1,u.be.c2,u.be.c3,u.be.c4,u.be.lt⟩) fun aa=>?_
        (try go_frame);refine aV 5 fun K hK=>?_
        have c0:=u.bc.all;have f0:=u.bc.fr 0;have f1:=u.bc.fr 1;have f2:=u.bc.fr 2;go_simp;have Q:=u.set aX.o ay.o aN.o (.bool I.1) (.string I.2.1) (iT I.2.2);clear c0 f0 f1 f2;refine hK.o _ _ (⟨Q.be.c0,Q.be.c1,Q.be.c2,Q.be.c3,Q.be.c4,Q.be.lt⟩) fun aa=>?_
        (try go_frame);refine dN ?_;have HK:Eq (sV W _ E C s t q d n (.bool I.1) (.string I.2.1) (iT I.2.2) (some ⟨b,a8,none⟩) n' c' (bH F)):=Q;clear H hm eg a1;go_wp2;go_roundw
        case rel=>exact ⟨k+1,I,by omega,by go_num,au.o.trans (rj HG.o).symm,HK.o.low,HK.o.bc,HK.o.en,aD.o⟩
        case measure=>simp [intOf];omega
      · have c0:=J.bc.all;go_simp;clear c0;refine hK.o _ _ (⟨J.be.c0,J.be.c1,J.be.c2,J.be.c3,J.be.c4,J.be.lt⟩) fun aa=>?_
        (try go_frame);refine aV 1 fun K hK=>?_
        go_simp;refine (H _).mono ?_;rintro e bA ⟨rfl,ba⟩;have R:=J.below ba;go_wp2_with fail
        refine hK.o _ _ (⟨R.be.c0,R.be.c1,R.be.c2,R.be.c3,R.be.c4,R.be.lt⟩) fun aa=>?_
        (try go_frame);refine aV 4 fun K hK=>?_
        go_simp;refine (a1 _).mono ?_;rintro e bM ⟨rfl,b1⟩;have B:=R.below b1;unfold f5;go_wp2_with fail
        refine hK.o _ _ (⟨B.be.c0,B.be.c1,B.be.c2,B.be.c3,B.be.c4,B.be.lt⟩) fun aa=>?_
        (try go_frame);refine aV 5 fun K hK=>?_
        have c0:=B.bc.all;have f0:=B.bc.fr 0;have f1:=B.bc.fr 1;have f2:=B.bc.fr 2;go_simp;have O:=B.set aX.o ay.o aN.o (.bool I.1) (.string I.2.1) (iT I.2.2);clear c0 f0 f1 f2;refine hK.o _ _ (⟨O.be.c0,O.be.c1,O.be.c2,O.be.c3,O.be.c4,O.be.lt⟩) fun aa=>?_
        (try go_frame);refine dN ?_;have HK:Eq (sV W _ E C s t q d n (.bool I.1) (.string I.2.1) (iT I.2.2) (some ⟨b,a8,none⟩) n' c' (bH F)):=O;clear H hm eg a1;go_wp2;go_roundw
        case rel=>exact ⟨k+1,I,by omega,by go_num,au.o.trans (rj HG.o).symm,HK.o.low,HK.o.bc,HK.o.en,aD.o⟩
        case measure=>simp [intOf];omega
    · have bb:Eq (RC=y):=by show RC=y;rw [b8.o,aE.o,GV (by rw [b9.o];omega)]
      have c0:=A.o.c0;have c1:=A.o.c1;have c2:=A.o.c2;have cl:=A.o.lt;obtain ⟨cb,ct,cn⟩:=y;simp only at c0 c1 c2;go_wp2_with fail
      refine (l8 (cb,ct,cn) _ aO.o).mono ?_;rintro e w4 ⟨rfl,ao⟩;have r:f8 w4 X (.bool false) (.string ⟨#[]⟩) (iT 0):=(bi.o.below hb).below ao;have x0:=r.c0;have x1:=r.c1;have x2:=r.c2;have xl:=r.lt;have f0:=r.fr 0;have f1:=r.fr 1;have f2:=r.fr 2;have K4:Eq (Bl w w4):=af.o.trans ((hb.trans (ao.mono hb.size)).mono af.o.size);have an:Eq (w.heap.size≤X):=by show w.heap.size≤X;rw [b2.o];exact GL _
      clear r ao c0 c1 c2 cl hb;unfold f5;simp only;go_wp2;refine bodyPost_ret (v:=.agg #[.bool cb,.string ct,iT cn]) (by simp [results,Tryz.results43,go_sem,x0,x1,x2]) rfl ⟨by rw [bb.o];rfl,?_⟩;exact ((K4.o.setCell (p:=⟨X,0,none⟩) an.o _).setCell (p:=⟨X,1,none⟩) an.o _).setCell (p:=⟨X,2,none⟩) an.o _
end
def ia (L:List ac) (m:Int) (key:ByteArray) (seq:Int):List ac:=if cU L m=true then bw L key seq else []
theorem DK (h:cU L m=false):ia L m key seq=[]:=by simp [ia,h]
theorem lN (h:cU L m=true):ia L m key seq=bw L key seq:=by simp [ia,h]
def jS (L:List ac) (key:ByteArray) (q:Int) (i j:Nat):Prop:=(∀p e,L[p]?=some e→p<i→bI e.1 e.2.1 key q=true)∧(∀p e,L[p]?=some e→j≤p→bI e.1 e.2.1 key q=false)
theorem ut (L:List ac) (key:ByteArray) (q:Int) (n:Nat) (h:L.length=n):jS L key q 0 n :=
 ⟨fun p e _ hp=>absurd hp (H7 _),fun p e f hp=>by have:=(F'.1 f).1;omega⟩
theorem AE (hr:aI L=true) (P:jS L key q i j) {e:ac} (f:L[h]?=some e) (hl:bI e.1 e.2.1 key q=true):jS L key q (h+1) j :=
 ⟨fun p d hd hp=>by
  by_cases e1:p=h
  · subst e1;rw [f] at hd;cases hd;exact hl
  · exact fJ (fF hr (by omega) hd f) hl,P.2⟩
theorem vW {L:List ac} {key:ByteArray} {q:Int} {i j h:Nat} (hr:aI L=true) (P:jS L key q i j) {e:ac} (f:L[h]?=some e) (hl:bI e.1 e.2.1 key q=false):jS L key q i h :=
 ⟨P.1,fun p d hd hp=>by
  by_cases e1:p=h
  · subst e1;rw [f] at hd;cases hd;exact hl
  · cases hx:bI d.1 d.2.1 key q with
    | false=>rfl
    | true=>rw [fJ (fF hr (by omega) f hd) hx] at hl;cases hl⟩
def Fc (L:List ac) (key:ByteArray) (q:Int) (len:Nat) (w:World) (e:Ending) (w':World):Prop :=
 ∃(i:Nat) (B:Bool),e=.returned (.tuple #[iT (i:Int),.bool B])∧i≤len∧jS L key q i i∧Bl w w'
theorem EC (b g len a4:Nat) (L:List ac) (key t:ByteArray) (q d n:Int) (w:World) (hL:ah w (some ⟨b,g,none⟩) len a4 L) (hr:aI L=true) (hlen:len≤1048576) (ak:1≤len) :
 Calls Tryz.prog 238 #[sO b g len a4,.agg #[.string key,iT q,iT d,.string t,iT n],.func (.func 218) #[] #[]] w (Fc L key q len w):=by
 have a7:Eq (L.length=len):=hL.length;have HR:=az hr;have a0:=(hL.lies _ rfl (by omega)).1;simp only at a0;obtain ⟨X,Y⟩:=aG w.heap.size;obtain ⟨W,T⟩:=aG (w.alloc (.cells #[.string key,iT q,iT d,.string t,iT n] 50));have x0:W.cell? ⟨X,0,none⟩=some (.string key):=by rw [T,Y];simp
 have x1:W.cell? ⟨X,1,none⟩=some (iT q):=by rw [T,Y];simp
 have x2:W.cell? ⟨X,2,none⟩=some (iT d):=by rw [T,Y];simp
 have x3:W.cell? ⟨X,3,none⟩=some (.string t):=by rw [T,Y];simp
 have x4:W.cell? ⟨X,4,none⟩=some (iT n):=by rw [T,Y];simp
 have kW:Bl w W:=by rw [T];exact bZ
 have HL:Eq (ah W (some ⟨b,g,none⟩) len a4 L):=hL.keep kW;have ab:b<W.heap.size:=E' a0 kW.size;have I:Eq (Bl w W):=kW;go_enter Tryz.func238,Tryz.ntmps238
 go_wp2;rw [← T,← Y];clear T Y kW hL hr a0;go_loopw [9,10] (fun iv jv wr=>∃i j:Nat,iv=iT i∧jv=iT j∧i≤j∧j≤len∧Bl W wr∧jS L key q i j) (fun iv jv _=>(intOf jv).toNat - (intOf iv).toNat)
 case atStart=>exact ⟨0,len,rfl,rfl,GQ _,GL _,Below.refl _ _,ut _ _ _ _ a7.o⟩
 case round =>
  obtain ⟨i,j,rfl,rfl,aD,a1,hb,hP⟩:=hrel;have HP:Eq (jS L key q i j):=hP;clear hP;by_cases aC:i<j
  · obtain ⟨H,hH⟩:=aG ((i+j) / 2);have aq:i≤H:=by omega
    have aF:H<j:=by omega
    have eH:((i:Int)+(j:Int)) / 2=(H:Int):=by omega
    obtain ⟨x,u,R,Q,n',J,A,y,a2,a5,a6,Z⟩:=HL.o.ent hb ab H (by omega);have HG:Eq (L[H]?=some (x,u,R,Q,n')):=J;clear J A hH;obtain ⟨O,hO⟩:=aG (kK x u key q);have CO:Eq (∀w,Calls Tryz.prog 218 #[.agg #[.string x,iT u,iT R,.string Q,iT n'],.agg #[.string key,iT q,iT d,.string t,iT n]] w fun e w'=>e=.returned (iT O)∧Bl w w'):=by rw [hO];exact fun w=>lK x Q key t u R n' q d n w
    have HO:Eq (decide (O<0)=bI x u key q):=by show decide (O<0)=_;rw [hO];exact iu _ _ _ _
    clear hO;have aB:(H:Int)<(len:Int):=by omega
    go_wp2_with fail
    have y0:=cell_later hb x0;have y1:=cell_later hb x1;have y2:=cell_later hb x2;have y3:=cell_later hb x3;have y4:=cell_later hb x4;have B:Bl wr wr.drew:=(Below.refl _ wr).drew;have r:Eq (∀w',Bl wr w'→(w'.cell? ⟨X,0,none⟩=some (.string key)∧w'.cell? ⟨X,1,none⟩=some (iT q)∧w'.cell? ⟨X,2,none⟩=some (iT d)∧w'.cell? ⟨X,3,none⟩=some (.string t)∧w'.cell? ⟨X,4,none⟩=some (iT n)∧X<w'.heap.size∧w'.cell? ⟨b,g+H*5,none⟩=some (.string x)∧w'.cell? ⟨b,g+H*5+1,none⟩=some (iT u)∧w'.cell? ⟨b,g+H*5+2,none⟩=some (iT R)∧w'.cell? ⟨b,g+H*5+3,none⟩=some (.string Q)∧w'.cell? ⟨b,g+H*5+4,none⟩=some (iT n')∧b<w'.heap.size)):=fun w' f=>⟨cell_later f y0,cell_later f y1,cell_later f y2,cell_later f y3,cell_later f y4,GK _ _ (cell_later f y0),cell_later f y,cell_later f a2,cell_later f a5,cell_later f a6,cell_later f Z,GK _ _ (cell_later f y)⟩
    refine eJ r B fun F=>?_
    refine aR 0 6 F ?_;refine aV 6 fun K hK=>?_
    go_simp;refine (CO.o _).mono ?_;rintro e w1 ⟨rfl,b1⟩;have k1:Bl wr w1:=B.trans (b1.mono B.size);go_wp2_with fail
    refine hK.o _ _ (r.o _ k1) fun F=>?_
    (try go_frame);refine aR 7 1 F ?_;refine dN ?_;by_cases a9:O<0
    · have a3:Eq (bI x u key q=true):=by show bI x u key q=true;rw [← HO.o];exact decide_eq_true a9
      go_wp2;go_roundw
      case rel=>exact ⟨H+1,j,by go_num,rfl,by omega,a1,hb.trans (k1.mono hb.size),AE HR.o HP.o HG.o a3.o⟩
      case measure=>simp [intOf];omega
    · have a3:Eq (bI x u key q=false):=by show bI x u key q=false;rw [← HO.o];exact decide_eq_false a9
      go_wp2;go_roundw
      case rel=>exact ⟨i,H,rfl,rfl,aq,by omega,hb.trans (k1.mono hb.size),vW HR.o HP.o HG.o a3.o⟩
      case measure=>simp [intOf];omega
  · have ad:i=j:=by omega
    subst ad;by_cases ar:i<len
    · obtain ⟨x,u,R,Q,n',J,A,y,a2,a5,a6,Z⟩:=HL.o.ent hb ab i ar;clear J A;obtain ⟨O,hO⟩:=aG (kK x u key q);have CO:Eq (∀w,Calls Tryz.prog 218 #[.agg #[.string x,iT u,iT R,.string Q,iT n'],.agg #[.string key,iT q,iT d,.string t,iT n]] w fun e w'=>e=.returned (iT O)∧Bl w w'):=by rw [hO];exact fun w=>lK x Q key t u R n' q d n w
      clear hO;have U:(i:Int)<(len:Int):=by omega
      go_wp2_with fail
      have y0:=cell_later hb x0;have y1:=cell_later hb x1;have y2:=cell_later hb x2;have y3:=cell_later hb x3;have y4:=cell_later hb x4;have B:Bl wr wr.drew:=(Below.refl _ wr).drew;have r:Eq (∀w',Bl wr w'→(w'.cell? ⟨X,0,none⟩=some (.string key)∧w'.cell? ⟨X,1,none⟩=some (iT q)∧w'.cell? ⟨X,2,none⟩=some (iT d)∧w'.cell? ⟨X,3,none⟩=some (.string t)∧w'.cell? ⟨X,4,none⟩=some (iT n)∧X<w'.heap.size∧w'.cell? ⟨b,g+i*5,none⟩=some (.string x)∧w'.cell? ⟨b,g+i*5+1,none⟩=some (iT u)∧w'.cell? ⟨b,g+i*5+2,none⟩=some (iT R)∧w'.cell? ⟨b,g+i*5+3,none⟩=some (.string Q)∧w'.cell? ⟨b,g+i*5+4,none⟩=some (iT n')∧b<w'.heap.size)):=fun w' f=>⟨cell_later f y0,cell_later f y1,cell_later f y2,cell_later f y3,cell_later f y4,GK _ _ (cell_later f y0),cell_later f y,cell_later f a2,cell_later f a5,cell_later f a6,cell_later f Z,GK _ _ (cell_later f y)⟩
      refine eJ r B fun F=>?_
      refine aR 0 11 F ?_;refine aV 11 fun K hK=>?_
      go_simp;refine (CO.o _).mono ?_;rintro e w1 ⟨rfl,b1⟩;have k1:Bl wr w1:=B.trans (b1.mono B.size);go_wp2_with fail
      refine hK.o _ _ (r.o _ k1) fun F=>?_
      (try go_frame);refine aR 12 4 F ?_;refine dN ?_;go_wp2;refine bodyPost_ret (v:=.tuple #[iT (i:Int),.bool (O == 0)]) (by simp [results,Tryz.results238,go_sem]) rfl ⟨i,O == 0,rfl,a1,HP.o,I.o.trans ((hb.trans (k1.mono hb.size)).mono I.o.size)⟩
    · have U:¬(i:Int)<(len:Int):=by omega
      have ax:decide ((i:Int)<(len:Int))=false:=decide_eq_false U;go_wp2_with fail
      have y0:=cell_later hb x0;have y1:=cell_later hb x1;have y2:=cell_later hb x2;have y3:=cell_later hb x3;have y4:=cell_later hb x4;have B:Bl wr wr.drew:=(Below.refl _ wr).drew;have r:Eq (∀w',Bl wr w'→(w'.cell? ⟨X,0,none⟩=some (.string key)∧w'.cell? ⟨X,1,none⟩=some (iT q)∧w'.cell? ⟨X,2,none⟩=some (iT d)∧w'.cell? ⟨X,3,none⟩=some (.string t)∧w'.cell? ⟨X,4,none⟩=some (iT n)∧X<w'.heap.size)):=fun w' f=>⟨cell_later f y0,cell_later f y1,cell_later f y2,cell_later f y3,cell_later f y4,GK _ _ (cell_later f y0)⟩
      refine eJ r B fun F=>?_
      refine aR 0 11 F ?_;refine aV 11 fun K hK=>?_
      go_simp;refine hK.o _ _ (r.o _ B) fun F=>?_
      (try go_frame);refine aR 12 4 F ?_;refine dN ?_;go_wp2;refine bodyPost_ret (v:=.tuple #[iT (i:Int),.bool false]) (by simp [results,Tryz.results238,go_sem]) rfl ⟨i,false,rfl,a1,HP.o,I.o.trans ((hb.trans (B.mono hb.size)).mono I.o.size)⟩
def FQ (L:List ac) (key:ByteArray) (q:Int) (len:Nat) (w:World) (e:Ending) (w':World):Prop :=
 ∃(i:Nat),e=.returned (iT (i:Int))∧i≤len∧jS L key q i i∧Bl w w'
theorem tG (b f len n:Nat) (L:List ac) (key:ByteArray) (q:Int) (w:World) (hL:ah w (some ⟨b,f,none⟩) len n L) (hr:aI L=true) (hlen:len≤1048576) (g:1≤len) :
 Calls Tryz.prog 210 #[sO b f len n,.string key,iT q] w (FQ L key q len w):=by
 go_enter Tryz.func210,Tryz.ntmps210
 go_wp2_with fail
 refine (EC b f len n L key _ q _ _ w hL hr hlen g).mono ?_;rintro e y ⟨i,B,rfl,hi,u,r⟩;have x:=az u;go_wp2;go_ret;exact ⟨i,rfl,hi,x.o,r⟩
def sy (F:List ac) (w:World) (e:Ending) (w':World):Prop :=
 ((e=.returned nZ∧F=[])∨∃g n c,e=.returned (sL g n c)∧ag w' w.heap.size g n c F)∧Bl w w'
theorem qX (a:Option Addr) (len f:Nat) (L:List ac) (m:Int) (key:ByteArray) (seq:Int) (w:World) (hL:ah w a len f L) (hlen:len≤1048576) :
 Calls Tryz.prog 166 #[.agg #[.slice a len f,iT m],.string key,iT seq] w (sy (ia L m key seq) w):=by
 obtain ⟨F,A⟩:=aG (ia L m key seq);rw [← A];have kA:Bl w (w.alloc (.cells #[.slice a len f,iT m] 63)):=bZ;have n:=az hL.length;have aa:=hL.room;have U:=hL.big;unfold maxLen at U;go_enter Tryz.func166,Tryz.ntmps166
 go_wp2_with fail
 refine (tF _ _ _ L _ _ (hL.keep kA)).mono ?_;rintro e w1 ⟨rfl,R⟩;have x0:w1.cell? ⟨w.heap.size,0,none⟩=some (.slice a len f):=cell_later R (by simp);have r:Bl w w1:=kA.trans (R.mono (by simp));cases hr:cU L m with
 | false =>
  have y:Eq (F=[]):=by rw [A];exact DK hr
  go_wp2;go_ret;exact ⟨Or.inl ⟨rfl,y.o⟩,r⟩
 | true =>
  obtain ⟨p1,p2,p3,p4⟩:=bE hr;have h1:1≤len:=by have:=n.o;omega
  obtain ⟨b,B,rfl,ab⟩:=hL.form h1;have X:=az hL;have u:=az p3;have y:Eq (F=bw L key seq):=by rw [A];exact lN hr
  go_wp2_with fail
  refine (tG b B len f L key seq _ (X.o.keep r) u.o hlen h1).mono ?_;rintro e w2 ⟨i,rfl,hi,a0,Q⟩;have y0:=cell_later Q x0;have H:=r.trans (Q.mono r.size);have K:=az a0;go_wp2_with fail
  refine (tG b B len f L key 0 _ (X.o.keep H) u.o hlen h1).mono ?_;rintro e w3 ⟨j,rfl,hj,O,T⟩;have z0:=cell_later T y0;have g:=H.trans (T.mono H.size);have hF:=uO u.o (L:=L) (key:=key) (seq:=seq) (i:=i) (j:=j) (by rw [n.o];exact hi) (by rw [n.o];exact hj) K.o.1 K.o.2 O.1 O.2;obtain ⟨a1,hF⟩:=hF;have HF:=az hF;have hsz:=vK u.o i (j - i);have J:=az hsz;by_cases a3:f=i
  · subst a3;have hE:ah w3 (some ⟨b,B,none⟩) (j - f) 0 ((L.drop f).take (j - f)):=by
     have Y:j - f=0:=by omega
     rw [Y];exact ⟨rfl,GL _,GQ _,by simp,(fun e=>by cases e),(fun x e hp=>absurd hp (H7 _)),fun x e k hk=>by simp at hk⟩
    have HE:=az hE;go_wp2_with fail
    with_reducible refine (iE _ _ _ _ _ HE.o (by omega) J.o).mono ?_
    rintro e w4 ⟨rfl,hO,Z,I⟩;have HO:=az hO;go_wp2;go_ret;exact ⟨Or.inr ⟨_,_,_,rfl,by rw [y.o,HF.o];exact HO.o.mono g.size⟩,g.trans (I.mono g.size)⟩
  · have hE:=(X.o.keep g).sub a1 hj;have HE:=az hE;go_wp2_with fail
    all_goals
     refine (iE _ _ _ _ _ HE.o (by omega) J.o).mono ?_;rintro e w4 ⟨rfl,hO,Z,I⟩;have HO:=az hO;go_wp2;go_ret;exact ⟨Or.inr ⟨_,_,_,rfl,by rw [y.o,HF.o];exact HO.o.mono g.size⟩,g.trans (I.mono g.size)⟩
theorem my {F:List ac} {e:Ending} (h:sy F w e w'):∃a n c,e=.returned (.slice a n c)∧cE w' w.heap.size a n c F∧Bl w w':=by
 obtain ⟨h1 | ⟨g,n,c,rfl,hO⟩,hb⟩:=h
 · obtain ⟨rfl,rfl⟩:=h1;exact ⟨none,0,0,rfl,cE.none _ _,hb⟩
 · exact ⟨_,n,c,rfl,cE.some hO,hb⟩
def Tryz.cloneL_ren : Go.Shelf.Ren := ⟨fun | 41 => 165 | n => n, fun | 22 => 28 | 23 => 50 | 4 => 4 | n => n, fun | n => n⟩
theorem Tryz.cloneL : Go.Proofs.SlLaysE0.n41 Tryz.prog Tryz.cloneL_ren := {
  mixed := by kernel_rfl
  f41 := ⟨Tryz.f165.name, by decide, Tryz.func165.trans (congrArg some (by kernel_rfl))⟩
  t4 := Tryz.underlying4
  a4 := Tryz.isAgg4
  z4 := Tryz.sizeOf4
  v4 := Tryz.zeroValue4
  t22 := Tryz.underlying28
  a22 := Tryz.isAgg28
  z22 := Tryz.sizeOf28
  v22 := Tryz.zeroValue28 }
theorem D3 (b n c:Nat) (L:List ac) (w:World) (hL:ah w (pT b) n c L) (hn:n≤1048576) :
 Calls Tryz.prog 165 #[sL b n c] w fun e w'=>∃g c',e=.returned (sL g n c')∧ag w' w.heap.size g n c' L∧Bl w w':=by
 obtain ⟨i0,hi,r,x,f⟩:=info_parts Tryz.infoEnt;have h:=AnyE.slices_Clone Tryz.cloneL i0 _ 5 56 hi r x f rfl (by decide) Tryz.sizeOf50 b 0 n c (aF L) w (by rw [aX,hL.length]) (by unfold maxLen;omega) (by omega) (fun j u B=>by have:=ch hL j u B;rwa [WideShapes.add_plain] at this) (bf _);have h':=h
 refine h'.mono ?_;rintro e w' ⟨A,rfl,ho,o,hb⟩;obtain ⟨g,c',rfl⟩:∃g cap,A=sL g n cap:=by
  rcases ho.2 with ⟨hv,h0⟩ | ⟨g,cap,y,hv,_⟩
  · exact absurd hv o
  · exact ⟨g,cap,hv⟩
 exact ⟨g,c',rfl,⟨ho,hL.length,hL.ents⟩,hb⟩
def ig (w:World) (b:Nat) (V:List (List af)):Prop:=∀(i:Nat) (B:List af),V[i]?=some B→∃e n c,w.cell? ⟨b,i,none⟩=some (sL e n c)
theorem ig.keep (h:ig w b V) (hb:Bl w w'):ig w' b V:=fun i B hB=>by
 obtain ⟨e,n,c,h1⟩:=h i B hB
 exact ⟨e,n,c,cell_later hb h1⟩
theorem aZ.shareN {lo:Nat} {Q:Int} {g H:Option Addr} {n o X T F u:Nat} {M:List ac} {S:List Int} (f:aZ lo w g n o (pT b) X T H F u M V S) (K:aP Q M V S=true) (Z:ig w b V):∃A B C e0 r c0 e1 I c1 e2 n2 y,X=3∧V=[A,B,C]∧pD w g n o (pT e0) r c0 (pT e1) I c1 (pT e2) n2 y H F u M A B C S∧(∀w',Bl w w'→Calls Tryz.prog 86 #[.agg #[iT Q,.slice g n o,sL b 3 T,.slice H F u]] w' fun e Y=>e=.returned (.tuple #[.agg #[iT Q,.slice g n o,sL e0 r c0,sL e1 I c1,sL e2 n2 y,.slice H F u],.bool true])∧Bl w' Y):=by
 obtain ⟨A,B,C,U⟩:=dX K;subst U;have R:X=3:=f.levels.length.symm;subst R;obtain ⟨A',a0,r,c0,hA,l0,x⟩:=f.levels.level (Below.refl _ w) 0 (by omega);obtain ⟨B',a1,I,c1,hB,l1,O⟩:=f.levels.level (Below.refl _ w) 1 (by omega);obtain ⟨C',a2,n2,y,hC,l2,J⟩:=f.levels.level (Below.refl _ w) 2 (by omega);simp only [IF,Ig,Ix] at hA hB hC;subst hA hB hC;rw [GT] at l0 l1 l2;obtain ⟨e0,_,_,f0⟩:=Z 0 A rfl;obtain ⟨e1,_,_,f1⟩:=Z 1 B rfl;obtain ⟨e2,_,_,f2⟩:=Z 2 C rfl;rw [l0] at f0;rw [l1] at f1;rw [l2] at f2;cases f0;cases f1;cases f2;refine ⟨A,B,C,e0,r,c0,e1,I,c1,e2,n2,y,rfl,rfl,⟨f.mem.1,x.mono (GQ _),O.mono (GQ _),J.mono (GQ _),f.snaps.lower (GQ _)⟩,fun w' k=>?_⟩;have:=jh lo Q g H n o b 0 T F u M A B C S _ _ _ r c0 I c1 n2 y w' (f.mem.1.keep k) (f.snaps.keep k) (x.keep k) (O.keep k) (J.keep k) (cell_later k l0) (cell_later k l1) (cell_later k l2);rw [K] at this;exact this
end Go.Proofs.YtpobkmjicbobdaaGreat
