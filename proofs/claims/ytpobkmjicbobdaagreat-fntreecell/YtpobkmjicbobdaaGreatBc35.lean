/- Walks. -/
import Derived.Test.YtpobkmjicbobdaaGreatBc34
import Derived.Deep.DeepAppendWide
import Derived.Ground.SlgnProg
import Derived.Shelf.SlicesE.Clone
import Derived.Shelf.SlSortCmp.WholeK
namespace Go.Proofs.YtpobkmjicbobdaaGreat
set_option maxRecDepth 100000
set_option maxHeartbeats 40000000
open Go.RowKit Go.Shelf Go.Sort
variable {C E b c' h i j n':Nat} {D L:List ae} {V:List (List aj)} {W w w' wi:World} {a':Option Addr} {d m q seq:Int} {key s t:ByteArray} {v0 v1 v2:Value}
section
attribute [local go_sem] Gi
theorem cT.row {base:Nat} {a:Option Addr} {n c:Nat} (h:cT w base a n c L):w.ownsRow base 50 5 (.slice a n c) n (aC L):=by
 cases a with
 | none =>
  obtain ⟨rfl,rfl,rfl⟩:=h.nil rfl;exact ⟨rfl,Or.inl ⟨rfl,rfl⟩⟩
 | some x =>
  obtain ⟨g,rfl,hO⟩:=h.own x rfl;exact hO.owns
theorem xK (w:World):ah w none 0 0 []:=⟨rfl,Fv _,FB _,(fun e h=>by cases h),(fun _=>rfl),(fun x e=>by cases e),(fun x e=>by cases e)⟩
theorem Eo (f:Value) (w:World):Calls Tryz.prog 213 #[nZ,iT 0,iT 0,f] w fun e w'=>e=.returned (.tuple #[])∧w'=w:=by
 go_enter Tryz.func213,Tryz.ntmps213
 go_wp2;go_loopw [8] (fun g wr=>g=iT 1∧wr=w) (fun _ _=>0)
 case atStart=>exact ⟨rfl,rfl⟩
 case round =>
  obtain ⟨rfl,rfl⟩:=hrel;go_wp2;go_end0;exact ⟨rfl,rfl⟩
theorem yZ (g:Value) (w:World):Calls Tryz.prog 169 #[nZ,iT 0,g] w fun e w'=>e=.returned (.tuple #[])∧w'=w:=by
 go_enter Tryz.func169,Tryz.ntmps169
 go_wp2;go_loopw [7,8] (fun f r wr=>f=iT 0∧r=iT 20∧wr=w) (fun _ _ _=>0)
 case atStart=>exact ⟨rfl,rfl,rfl⟩
 case round =>
  obtain ⟨rfl,rfl,rfl⟩:=hrel;go_wp2_with fail
  refine (Eo g _).mono ?_;rintro e o ⟨rfl,rfl⟩;go_wp2;go_loopw [6] (fun f n=>f=iT 20∧n=o) (fun _ _=>0)
  case atStart=>exact ⟨rfl,rfl⟩
  case round =>
   obtain ⟨rfl,rfl⟩:=hrel;go_wp2;go_end0;exact ⟨rfl,rfl⟩
def DS (F:List ae) (a:Option Addr) (n c base:Nat) (w:World) (e:Ending) (w':World):Prop :=
 e=.returned (.tuple #[])∧ah w' a n c (bE F)∧(∀B,B≤base→B≤w.heap.size→Below B w w')
theorem rj {g B:Nat} (h:w.grownBy w' (some g)) (hB:B≤w.heap.size) (hg:B≤g):Below B w w' :=
 (Below.refl _ _).grown h hB (fun k e=>by cases e;exact hg)
theorem we (a:Option Addr) (n c base:Nat) (F:List ae) (w:World) (hO:cT w base a n c F) (hn:n≤1048576) :
 Calls Tryz.prog 111 #[.slice a n c,.func (.func 112) #[] #[]] w (DS F a n c base w):=by
 cases a with
 | none =>
  obtain ⟨rfl,rfl,rfl⟩:=hO.nil rfl;clear hO;go_enter Tryz.func111,Tryz.ntmps111
  go_wp2_with fail
  refine (yZ _ _).mono ?_;rintro e y ⟨rfl,rfl⟩;go_wp2;go_end0;exact ⟨rfl,xK _,fun B _ _=>Below.refl _ _⟩
 | some x =>
  obtain ⟨g,rfl,hE⟩:=hO.own x rfl;have H:Eq (ag w base g n c F):=hE;clear hO hE;go_enter Tryz.func111,Tryz.ntmps111
  go_wp2_with fail
  refine (y6 base g n c F _ H.o hn).mono ?_;rintro e y ⟨rfl,f,r⟩;have A:Eq (ah y (pT g) n c (bE F)):=f.entsAt;have u:Eq (w.grownBy y (some g)):=r;clear f r;go_wp2;go_end0;exact ⟨rfl,A.o,fun B hB hw=>rj u.o hw (FK hB H.o.lt.1)⟩
structure rl (W wi:World) (E C:Nat) (s t:ByteArray) (q d n:Int) (v0 v1 v2:Value) (a':Option Addr) (n' c':Nat) (D:List ae):Prop where
 low:Bl W wi
 be:cq wi E (.string s) (iT q) (iT d) (.string t) (iT n)
 bc:eR wi C v0 v1 v2
 en:ah wi a' n' c' D
theorem rl.below {e:World} {n:Int} (h:rl W wi E C s t q d n v0 v1 v2 a' n' c' D) (hb:Bl wi e):rl W e E C s t q d n v0 v1 v2 a' n' c' D :=
 ⟨h.low.trans (hb.mono h.low.size),h.be.below hb,h.bc.below hb,h.en.keep hb⟩
theorem rl.set {n:Int} (h:rl W wi E C s t q d n v0 v1 v2 a' n' c' D) (hC:W.heap.size≤C) (hE:E≠C) (hA:∀x,a'=some x→0<n'→x.block≠C) (u0 u1 u2:Value) :
 rl W (((wi.setCell ⟨C,0,none⟩ u0).setCell ⟨C,1,none⟩ u1).setCell ⟨C,2,none⟩ u2) E C s t q d n u0 u1 u2 a' n' c' D :=
 ⟨((h.low.setCell (p:=⟨C,0,none⟩) hC _).setCell (p:=⟨C,1,none⟩) hC _).setCell (p:=⟨C,2,none⟩) hC _,((h.be.other hE 0 _).other hE 1 _).other hE 2 _,h.bc.setAll _ _ _,((h.en.setCell ⟨C,0,none⟩ _ hA).setCell ⟨C,1,none⟩ _ hA).setCell ⟨C,2,none⟩ _ hA⟩
theorem ow (a:Option Addr) (len U:Nat) (L:List ae) (key:ByteArray) (seq:Int) (w:World) (hL:ah w a len U L) (hlen:len≤1048576) (aU:∀e ∈ L,e.2.2.2.1.size≤281474976710656) :
 Calls Tryz.prog 43 #[.slice a len U,.string key,iT seq] w fun e w'=>e=.returned (eW (gH L key seq))∧Bl w w':=by
 obtain ⟨F,hF⟩:=aG (aR L key seq);have aY:Eq (F=aR L key seq):=hF;have av:Eq (L.length=len):=hL.length;have a0:Eq (∀l ∈ L,dR l):=hL.ents;have bi:=bT aU;have aW:Eq (F.length≤1048576):=by rw [hF];exact FK (iU L key seq) (by rw [hL.length];exact hlen)
 have bG:=hL.room;have b1:=hL.big;unfold maxLen at b1;have HL:=bT hL;obtain ⟨RC,aj⟩:=aG (gH L key seq);have bd:Eq (RC=jz (bE F)):=by rw [aj,hF];rfl
 rw [← aj];clear hL hF aU aj;obtain ⟨i0,hi,bb,ba,bk⟩:=info_parts Tryz.infoEnt;obtain ⟨X,hX⟩:=aG w.heap.size;obtain ⟨W,hW⟩:=aG (w.alloc (.cells #[.bool false,.string ⟨#[]⟩,iT 0] 57));have b5:Eq (eR W X (.bool false) (.string ⟨#[]⟩) (iT 0)):=by rw [hW,hX];exact eR.new _ _ _ _ _
 have al:Eq (Bl w W):=by rw [hW];exact bZ
 have b3:Eq (X=w.heap.size):=hX;have bD:Eq (W.heap.size=X+1):=by show W.heap.size=X+1;rw [hW,hX];simp
 have aS:Eq (ah W a len U L):=HL.o.keep al.o;go_enter Tryz.func43,Tryz.ntmps43
 go_wp2;rw [← hW,← hX];clear hW hX;go_loopw [7,15] (fun dv iv wr=>∃(k n' c':Nat) (a':Option Addr),k≤len∧n'≤k∧iv=iT k∧dv=.slice a' n' c'∧cT wr W.heap.size a' n' c' (aR (L.take k) key seq)∧Bl W wr) (fun _ iv _=>len - (intOf iv).toNat)
 case atStart=>exact ⟨0,0,0,none,FB _,FB _,rfl,rfl,cT.none _ _,Below.refl _ _⟩
 case round =>
  obtain ⟨k,n',c',a',hk,bK,rfl,rfl,hO,hb⟩:=hrel;have HO:Eq (cT wr W.heap.size a' n' c' (aR (L.take k) key seq)):=hO;clear hO;by_cases b6:k<len
  · obtain ⟨b,aa,rfl,a3⟩:=aS.o.form (by omega);obtain ⟨s,q,d,t,n,hg,am,g0,g1,g2,g3,g4⟩:=aS.o.ent hb a3 k b6;have HG:Eq (L[k]?=some (s,q,d,t,n)):=hg;clear hg am;have bI:b<wr.heap.size:=u' a3 hb.size;by_cases a5:s=key
    · subst a5;by_cases hq:q≤seq
      · have HF:Eq (aR (L.take (k+1)) s seq=aR (L.take k) s seq++[(s,q,d,t,n)]):=iH HG.o rfl hq;go_wp2_with (at_builtin;refine wpList_append_own _ rfl _ _ 28 rfl W.heap.size 50 i0 _ 5 56 Tryz.underlying28 hi bb ba bk rfl (by decide) _ _ _ rfl ((HO.o.row.alloc _).alloc _) ⟨wr.heap.size+1,0,none⟩ 1 1 (aC [(s,q,d,t,n)]) rfl rfl ?c1 (aO _) ?c3 ?c4 ?c5 ?_)
        case c1 =>
         have he:=df (wr.alloc (.cells #[.string s,iT q,iT d,.string t,iT n] 50)) s t q d n (a0.o _ (Fw HG.o));simp only [FP] at he;exact bC he
        case c3=>unfold maxLen;omega
        case c4=>omega
        case c5=>have:=hb.size;simp;omega
        intro v' w2 O hgrow hnil;obtain ⟨g2,a1,rfl⟩:∃g U,v'=sL g (n'+1) U:=by
         rcases O.2 with ⟨hv,h0⟩ | ⟨g,U,bF,hv,_⟩
         · omega
         · exact ⟨g,U,hv⟩
        have Z:Bl W w2:=((hb.alloc hb.size _).alloc (by have:=hb.size;simp;omega) _).grown hgrow (by have:=hb.size;simp;omega) (fun q hq=>(HO.o.row.lt q hq).1);have au:cT w2 W.heap.size (pT g2) (n'+1) a1 (aR (L.take (k+1)) s seq):=by
         refine cT.some ⟨?_,?_,fun l hl=>a0.o l (F9 (qr hl))⟩
         · rw [HF.o,aL];exact O
         · rw [HF.o,Fy,HO.o.len];rfl
        have bh:Eq (cT w2 W.heap.size (pT g2) (n'+1) a1 (aR (L.take (k+1)) s seq)):=au;clear O hgrow hnil au;go_wp2;go_roundw
        case rel=>exact ⟨k+1,n'+1,a1,_,by omega,by omega,by go_num,rfl,bh.o,Z⟩
        case measure=>simp [intOf];omega
      · have HF:Eq (aR (L.take (k+1)) s seq=aR (L.take k) s seq):=fj HG.o (by simp;omega);go_wp2;go_roundw
        case rel=>exact ⟨k+1,n',c',a',by omega,by omega,by go_num,rfl,by rw [HF.o];exact HO.o.below bZ,hb.alloc hb.size _⟩
        case measure=>simp [intOf];omega
    · have HF:Eq (aR (L.take (k+1)) key seq=aR (L.take k) key seq):=fj HG.o (fun h=>a5 h.1);have bf:¬s.toList=key.toList:=by
       rw [F1,F1];intro h;exact a5 (GX (GS.1 h))
      have bt:(s.toList == key.toList)=false:=by simpa using bf
      clear a5;go_wp2;go_roundw
      case rel=>exact ⟨k+1,n',c',a',by omega,by omega,by go_num,rfl,by rw [HF.o];exact HO.o.below bZ,hb.alloc hb.size _⟩
      case measure=>simp [intOf];omega
  · have ak:Eq (cT wr W.heap.size a' n' c' F):=by
     have:=HO.o;rw [FH (by rw [av.o];omega),← aY.o] at this;exact this
    have aD:n'≤1048576:=by rw [← ak.o.len];exact aW.o
    have ar:Eq (∀e ∈ bE F,e.2.2.2.1.size≤281474976710656):=fun e he=>bi.o e (qr (by rw [← aY.o];exact Cv.1 he))
    clear HO;go_wp2_with fail
    refine (we a' n' c' W.heap.size F _ ak.o aD).mono ?_;rintro e w2 ⟨rfl,Y,aZ⟩;have Z:Bl W w2:=hb.trans (aZ _ (Fv _) hb.size);obtain ⟨C,hC⟩:=aG w2.heap.size;obtain ⟨w3,a9⟩:=aG (w2.alloc (.cells #[.bool false,.string ⟨#[]⟩,iT 0] 57));have k3:Bl w2 w3:=by rw [a9];exact bZ
    have aF:Eq (eR w3 C (.bool false) (.string ⟨#[]⟩) (iT 0)):=by rw [a9,hC];exact eR.new _ _ _ _ _
    have aN:Eq (ah w3 a' n' c' (bE F)):=Y.keep k3;have aE:Eq (Bl W w3):=Z.trans (k3.mono Z.size);have aH:Eq (W.heap.size≤C):=by rw [hC];exact Z.size
    have aM:Eq (∀x,a'=some x→0<n'→x.block≠C):=fun x hx hp=>by have:=(Y.lies x hx hp).1;rw [hC];omega
    have bj:Eq ((bE F).length=n'):=Y.length;have hroom:=Y.room;have hbig:=Y.big;unfold maxLen at hbig;go_wp2;rw [← a9,← hC];clear a9 hC k3 Y aZ Z hb ak;go_loopw [39] (fun iv wq=>∃(k:Nat) (u:fe),k≤n'∧iv=iT k∧u=jz ((bE F).take k)∧Bl W wq∧eR wq C (.bool u.1) (.string u.2.1) (iT u.2.2)∧ah wq a' n' c' (bE F)∧u.2.1.size≤281474976710656) (fun iv _=>n' - (intOf iv).toNat)
    case atStart=>exact ⟨0,(false,⟨#[]⟩,0),FB _,rfl,rfl,aE.o,aF.o,aN.o,FB _⟩
    case round =>
    obtain ⟨k,u,hk,rfl,aV,hb,aw,aX,aq⟩:=hrel;clear aE aF aN;have a7:Eq (ah wr a' n' c' (bE F)):=aX;have ap:Eq (u=jz ((bE F).take k)):=aV;have y:Eq (eR wr C (.bool u.1) (.string u.2.1) (iT u.2.2)):=aw;have aB:Eq (u.2.1.size≤281474976710656):=aq;clear aX aV aw aq;by_cases aK:k<n'
    · obtain ⟨b,aa,rfl,a3⟩:=a7.o.form (by omega);obtain ⟨s,q,d,t,n,hg,am,g0,g1,g2,g3,g4⟩:=a7.o.ent (Below.refl wr.heap.size wr) a3 k aK;have HG:Eq ((bE F)[k]?=some (s,q,d,t,n)):=hg;clear hg am;obtain ⟨T,G,H,hm,eg,a2⟩:=BQ u.1 u.2.1 s t u.2.2 q d n;obtain ⟨J,a8⟩:=aG (fY u.1 u.2.1 u.2.2 d t n);rw [← a8] at a2;have aA:Eq (J=AK (jz ((bE F).take k)) (s,q,d,t,n)):=by rw [a8,← ap.o];rfl
      have ay:Eq (J.2.1.size≤281474976710656):=by rw [a8];exact xQ aB.o (ar.o _ (Fw HG.o))
      clear a8;go_upto_region 13 with fail
      obtain ⟨E,hE⟩:=aG wr.heap.size;obtain ⟨wq,a6⟩:=aG (wr.alloc (.cells #[.string s,iT q,iT d,.string t,iT n] 50));have kq:Bl wr wq:=by rw [a6];exact bZ
      have az:Eq (E≠C):=by have:=y.o.lt;show E≠C;omega
      have I:rl W wq.drew E C s t q d n (.bool u.1) (.string u.2.1) (iT u.2.2) (some ⟨b,aa,none⟩) n' c' (bE F) :=
       rl.below ⟨hb.trans (kq.mono hb.size),by rw [a6,hE];exact cq.new _ _ _ _ _ _ _,y.o.below kq,a7.o.keep kq⟩ (Below.refl _ _).drew
      rw [← a6,← hE];clear a6 hE kq g0 g1 g2 g3 g4 a7 y hb a3;refine wp_region_held_drew (S:=(fun w'=>w'.cell? ⟨E,0,none⟩=some (.string s)∧w'.cell? ⟨E,1,none⟩=some (iT q)∧w'.cell? ⟨E,2,none⟩=some (iT d)∧w'.cell? ⟨E,3,none⟩=some (.string t)∧w'.cell? ⟨E,4,none⟩=some (iT n)∧E<w'.heap.size)) (by kernel_rfl) (⟨I.be.c0,I.be.c1,I.be.c2,I.be.c3,I.be.c4,I.be.lt⟩) (fun ac=>?_);generalize wq.drew=wd at I ac ⊢;refine aP 0 1 ac ?_;refine aP 3 1 ac ?_;refine lg 1 2 (fun K hK=>?_) fun K hK=>?_
      · go_simp;refine (H _).mono ?_;rintro e bz ⟨rfl,b2⟩;have f:=I.below b2;go_wp2_with fail
        refine hK.o _ _ (⟨f.be.c0,f.be.c1,f.be.c2,f.be.c3,f.be.c4,f.be.lt⟩) fun ac=>?_
        (try go_frame);refine aQ 2 fun K hK=>?_
        have c0:=f.bc.all;go_simp;clear c0;refine hK.o _ _ (⟨f.be.c0,f.be.c1,f.be.c2,f.be.c3,f.be.c4,f.be.lt⟩) fun ac=>?_
        (try go_frame);refine aQ 4 fun K hK=>?_
        go_simp;refine (a2 _).mono ?_;rintro e bJ ⟨rfl,bg⟩;have B:=f.below bg;unfold eW;go_wp2_with fail
        refine hK.o _ _ (⟨B.be.c0,B.be.c1,B.be.c2,B.be.c3,B.be.c4,B.be.lt⟩) fun ac=>?_
        (try go_frame);refine aQ 5 fun K hK=>?_
        have c0:=B.bc.all;have f0:=B.bc.fr 0;have f1:=B.bc.fr 1;have f2:=B.bc.fr 2;go_simp;have N:=B.set aH.o az.o aM.o (.bool J.1) (.string J.2.1) (iT J.2.2);clear c0 f0 f1 f2;refine hK.o _ _ (⟨N.be.c0,N.be.c1,N.be.c2,N.be.c3,N.be.c4,N.be.lt⟩) fun ac=>?_
        (try go_frame);refine dN ?_;have HK:Eq (rl W _ E C s t q d n (.bool J.1) (.string J.2.1) (iT J.2.2) (some ⟨b,aa,none⟩) n' c' (bE F)):=N;clear H hm eg a2;go_wp2;go_roundw
        case rel=>exact ⟨k+1,J,by omega,by go_num,aA.o.trans (lJ HG.o).symm,HK.o.low,HK.o.bc,HK.o.en,ay.o⟩
        case measure=>simp [intOf];omega
      · have c0:=I.bc.all;go_simp;clear c0;refine hK.o _ _ (⟨I.be.c0,I.be.c1,I.be.c2,I.be.c3,I.be.c4,I.be.lt⟩) fun ac=>?_
        (try go_frame);refine aQ 1 fun K hK=>?_
        go_simp;refine (H _).mono ?_;rintro e bv ⟨rfl,b7⟩;have Q:=I.below b7;go_wp2_with fail
        refine hK.o _ _ (⟨Q.be.c0,Q.be.c1,Q.be.c2,Q.be.c3,Q.be.c4,Q.be.lt⟩) fun ac=>?_
        (try go_frame);refine aQ 4 fun K hK=>?_
        go_simp;refine (a2 _).mono ?_;rintro e bB ⟨rfl,b8⟩;have A:=Q.below b8;unfold eW;go_wp2_with fail
        refine hK.o _ _ (⟨A.be.c0,A.be.c1,A.be.c2,A.be.c3,A.be.c4,A.be.lt⟩) fun ac=>?_
        (try go_frame);refine aQ 5 fun K hK=>?_
        have c0:=A.bc.all;have f0:=A.bc.fr 0;have f1:=A.bc.fr 1;have f2:=A.bc.fr 2;go_simp;have R:=A.set aH.o az.o aM.o (.bool J.1) (.string J.2.1) (iT J.2.2);clear c0 f0 f1 f2;refine hK.o _ _ (⟨R.be.c0,R.be.c1,R.be.c2,R.be.c3,R.be.c4,R.be.lt⟩) fun ac=>?_
        (try go_frame);refine dN ?_;have HK:Eq (rl W _ E C s t q d n (.bool J.1) (.string J.2.1) (iT J.2.2) (some ⟨b,aa,none⟩) n' c' (bE F)):=R;clear H hm eg a2;go_wp2;go_roundw
        case rel=>exact ⟨k+1,J,by omega,by go_num,aA.o.trans (lJ HG.o).symm,HK.o.low,HK.o.bc,HK.o.en,ay.o⟩
        case measure=>simp [intOf];omega
    · have b9:Eq (RC=u):=by show RC=u;rw [bd.o,ap.o,FH (by rw [bj.o];omega)]
      have c0:=y.o.c0;have c1:=y.o.c1;have c2:=y.o.c2;have cl:=y.o.lt;obtain ⟨cb,ct,cn⟩:=u;simp only at c0 c1 c2;go_wp2_with fail
      refine (rh (cb,ct,cn) _ aB.o).mono ?_;rintro e w4 ⟨rfl,ad⟩;have r:eR w4 X (.bool false) (.string ⟨#[]⟩) (iT 0):=(b5.o.below hb).below ad;have x0:=r.c0;have x1:=r.c1;have x2:=r.c2;have xl:=r.lt;have f0:=r.fr 0;have f1:=r.fr 1;have f2:=r.fr 2;have K4:Eq (Bl w w4):=al.o.trans ((hb.trans (ad.mono hb.size)).mono al.o.size);have an:Eq (w.heap.size≤X):=by show w.heap.size≤X;rw [b3.o];exact Fv _
      clear r ad c0 c1 c2 cl hb;unfold eW;simp only;go_wp2;refine bodyPost_ret (v:=.agg #[.bool cb,.string ct,iT cn]) (by simp [results,Tryz.results43,go_sem,x0,x1,x2]) rfl ⟨by rw [b9.o];rfl,?_⟩;exact ((K4.o.setCell (p:=⟨X,0,none⟩) an.o _).setCell (p:=⟨X,1,none⟩) an.o _).setCell (p:=⟨X,2,none⟩) an.o _
end
theorem rG (a:Option Addr) (len y:Nat) (L:List ae) (key:ByteArray) (seq:Int) (w:World) (hL:ah w a len y L) (hlen:len≤1048576) :
 Calls Tryz.prog 167 #[.slice a len y,.string key,iT seq] w fun e w'=>∃g n c,e=.returned (sL g n c)∧ag w' w.heap.size g n c (aR L key seq)∧Bl w w':=by
 have J:Eq (L.length=len):=hL.length;have I:Eq (∀l ∈ L,dR l):=hL.ents;have a8:=hL.room;have T:=hL.big;unfold maxLen at T;have HL:=bT hL;clear hL;obtain ⟨i0,hi,R,Q,a1⟩:=info_parts Tryz.infoEnt;have K:(w.alloc (.cells #[] 50)).ownsRow w.heap.size 50 5 (sL (w.heap.size) 0 0) 0 (aC (aR (L.take 0) key seq)):=by
  have:=F6 (base:=w.heap.size) (e:=50) (size:=5) w #[] 0 (by simp) (by simp) (by simp);simpa [aC,aR] using this
 have O:Bl w (w.alloc (.cells #[] 50)):=bZ;go_enter Tryz.func167,Tryz.ntmps167
 go_wp2;go_loopw [7,8] (fun o i wr=>∃(k g n c:Nat),k≤len∧n≤k∧i=iT k∧o=sL g n c∧wr.ownsRow w.heap.size 50 5 (sL g n c) n (aC (aR (L.take k) key seq))∧Bl w wr) (fun _ i _=>len - (intOf i).toNat)
 case atStart=>exact ⟨0,w.heap.size,0,0,FB _,FB _,rfl,rfl,K,O⟩
 case round =>
  obtain ⟨k,g,n',c,hk,aa,rfl,rfl,hrow,hb⟩:=hrel;have f:Eq (wr.ownsRow w.heap.size 50 5 (sL g n' c) n' (aC (aR (L.take k) key seq))):=hrow;clear hrow K O;by_cases a2:k<len
  · obtain ⟨b,ab,rfl,N⟩:=HL.o.form (by omega);obtain ⟨s,q,d,t,n,hg,X,g0,g1,Y,g3,g4⟩:=HL.o.ent hb N k a2;have HG:Eq (L[k]?=some (s,q,d,t,n)):=hg;clear hg X;have a9:b<wr.heap.size:=u' N hb.size;by_cases A:s=key
    · subst A;by_cases hq:q≤seq
      · have B:Eq (aR (L.take (k+1)) s seq=aR (L.take k) s seq++[(s,q,d,t,n)]):=iH HG.o rfl hq;go_wp2_with (at_builtin;refine wpList_append_own _ rfl _ _ 28 rfl w.heap.size 50 i0 _ 5 56 Tryz.underlying28 hi R Q a1 rfl (by decide) _ _ _ rfl (f.o.alloc _) ⟨wr.heap.size,0,none⟩ 1 1 (aX (s,q,d,t,n)) rfl rfl ?c1 ?c2 ?c3 ?c4 ?c5 ?_)
        case c1 =>
         intro j u r;match j,r with
         | 0,r=>simp [aX] at r;subst r;simp [Addr.add]
         | 1,r=>simp [aX] at r;subst r;simp [Addr.add]
         | 2,r=>simp [aX] at r;subst r;simp [Addr.add]
         | 3,r=>simp [aX] at r;subst r;simp [Addr.add]
         | 4,r=>simp [aX] at r;subst r;simp [Addr.add]
         | j+5,r=>simp [aX] at r
        case c2=>intro u hu;simp [aX] at hu;rcases hu with rfl | rfl | rfl | rfl | rfl <;> rfl
        case c3=>unfold maxLen;omega
        case c4=>omega
        case c5=>have:=hb.size;simp;omega
        intro v' w2 x hgrow hnil;obtain ⟨Y,F,rfl⟩:∃g y,v'=sL g (n'+1) y:=by
         rcases x.2 with ⟨hv,h0⟩ | ⟨g,y,a7,hv,_⟩
         · omega
         · exact ⟨g,y,hv⟩
        have Z:Bl w w2:=(hb.alloc hb.size _).grown hgrow (by have:=hb.size;simp;omega) (fun q hq=>(f.o.lt q hq).1);have H:w2.ownsRow w.heap.size 50 5 (sL Y (n'+1) F) (n'+1) (aC (aR (L.take (k+1)) s seq)):=by
         rw [B.o,aL];exact x
        clear x hgrow hnil;go_wp2;go_roundw
        case rel=>exact ⟨k+1,Y,n'+1,F,by omega,by omega,by go_num,rfl,H,Z⟩
        case measure=>simp [intOf];omega
      · have B:Eq (aR (L.take (k+1)) s seq=aR (L.take k) s seq):=fj HG.o (by simp;omega);go_wp2;go_roundw
        case rel=>exact ⟨k+1,g,n',c,by omega,by omega,by go_num,rfl,by rw [B.o];exact f.o,hb⟩
        case measure=>simp [intOf];omega
    · have B:Eq (aR (L.take (k+1)) key seq=aR (L.take k) key seq):=fj HG.o (fun h=>A h.1);have U:¬s.toList=key.toList:=by
       rw [F1,F1];intro h;exact A (GX (GS.1 h))
      have a3:(s.toList == key.toList)=false:=by simpa using U
      clear A;go_wp2;go_roundw
      case rel=>exact ⟨k+1,g,n',c,by omega,by omega,by go_num,rfl,by rw [B.o];exact f.o,hb⟩
      case measure=>simp [intOf];omega
  · have B:Eq (aR (L.take k) key seq=aR L key seq):=by show aR (L.take k) key seq=_;rw [FH (by rw [J.o];omega)]
    go_wp2;go_ret;refine ⟨g,n',c,rfl,⟨by rw [← B.o];exact f.o,?_,fun l hl=>I.o l (qr hl)⟩,hb⟩;have:=f.o.1;rw [aV,B.o] at this;omega
def gM (L:List ae) (m:Int) (key:ByteArray) (seq:Int):List ae:=if cF L m=true then aR L key seq else []
theorem Ci (h:cF L m=false):gM L m key seq=[]:=by simp [gM,h]
theorem kT (h:cF L m=true):gM L m key seq=aR L key seq:=by simp [gM,h]
theorem lM {k:ByteArray} {n:Int} (h:dm k q d t n=true):k.size≤281474976710656∧t.size≤281474976710656:=by
 simp [dm,fV] at h;omega
theorem uF (h:aJ L=true) (i k:Nat):∀e ∈ (L.drop i).take k,e.1.size≤281474976710656∧e.2.2.2.1.size≤281474976710656:=by
 intro e f;obtain ⟨p,hp,rfl⟩:=F7 (Gf (F9 f));exact lM (d9 h (j' hp))
theorem nY (h:aJ L=true):∀e ∈ L,e.1.size≤281474976710656∧e.2.2.2.1.size≤281474976710656:=fun e f=>by
 obtain ⟨j,g,rfl⟩:=F7 f
 exact lM (d9 h (j' g))
def il (L:List ae) (key:ByteArray) (q:Int) (i j:Nat):Prop:=(∀p e,L[p]?=some e→p<i→bI e.1 e.2.1 key q=true)∧(∀p e,L[p]?=some e→j≤p→bI e.1 e.2.1 key q=false)
theorem tq (L:List ae) (key:ByteArray) (q:Int) (n:Nat) (h:L.length=n):il L key q 0 n :=
 ⟨fun p e _ hp=>absurd hp (Gy _),fun p e f hp=>by have:=(E'.1 f).1;omega⟩
theorem zC (hr:aJ L=true) (P:il L key q i j) {e:ae} (f:L[h]?=some e) (hl:bI e.1 e.2.1 key q=true):il L key q (h+1) j :=
 ⟨fun p d hd hp=>by
  by_cases e1:p=h
  · subst e1;rw [f] at hd;cases hd;exact hl
  · exact fw (ft hr (by omega) hd f) hl,P.2⟩
theorem uR {L:List ae} {key:ByteArray} {q:Int} {i j h:Nat} (hr:aJ L=true) (P:il L key q i j) {e:ae} (f:L[h]?=some e) (hl:bI e.1 e.2.1 key q=false):il L key q i h :=
 ⟨P.1,fun p d hd hp=>by
  by_cases e1:p=h
  · subst e1;rw [f] at hd;cases hd;exact hl
  · cases hx:bI d.1 d.2.1 key q with
    | false=>rfl
    | true=>rw [fw (ft hr (by omega) f hd) hx] at hl;cases hl⟩
def DT (L:List ae) (key:ByteArray) (q:Int) (len:Nat) (w:World) (e:Ending) (w':World):Prop :=
 ∃(i:Nat) (B:Bool),e=.returned (.tuple #[iT (i:Int),.bool B])∧i≤len∧il L key q i i∧Bl w w'
theorem Do (b g len a3:Nat) (L:List ae) (key t:ByteArray) (q d n:Int) (w:World) (hL:ah w (some ⟨b,g,none⟩) len a3 L) (hr:aJ L=true) (hlen:len≤1048576) (ao:1≤len) :
 Calls Tryz.prog 238 #[sO b g len a3,.agg #[.string key,iT q,iT d,.string t,iT n],.func (.func 218) #[] #[]] w (DT L key q len w):=by
 have a9:Eq (L.length=len):=hL.length;have HR:=bT hr;have a4:=(hL.lies _ rfl (by omega)).1;simp only at a4;obtain ⟨X,Z⟩:=aG w.heap.size;obtain ⟨W,N⟩:=aG (w.alloc (.cells #[.string key,iT q,iT d,.string t,iT n] 50));have x0:W.cell? ⟨X,0,none⟩=some (.string key):=by rw [N,Z];simp
 have x1:W.cell? ⟨X,1,none⟩=some (iT q):=by rw [N,Z];simp
 have x2:W.cell? ⟨X,2,none⟩=some (iT d):=by rw [N,Z];simp
 have x3:W.cell? ⟨X,3,none⟩=some (.string t):=by rw [N,Z];simp
 have x4:W.cell? ⟨X,4,none⟩=some (iT n):=by rw [N,Z];simp
 have kW:Bl w W:=by rw [N];exact bZ
 have HL:Eq (ah W (some ⟨b,g,none⟩) len a3 L):=hL.keep kW;have a8:b<W.heap.size:=u' a4 kW.size;have J:Eq (Bl w W):=kW;go_enter Tryz.func238,Tryz.ntmps238
 go_wp2;rw [← N,← Z];clear N Z kW hL hr a4;go_loopw [9,10] (fun iv jv wr=>∃i j:Nat,iv=iT i∧jv=iT j∧i≤j∧j≤len∧Bl W wr∧il L key q i j) (fun iv jv _=>(intOf jv).toNat - (intOf iv).toNat)
 case atStart=>exact ⟨0,len,rfl,rfl,FB _,Fv _,Below.refl _ _,tq _ _ _ _ a9.o⟩
 case round =>
  obtain ⟨i,j,rfl,rfl,aB,a5,hb,hP⟩:=hrel;have HP:Eq (il L key q i j):=hP;clear hP;by_cases aD:i<j
  · obtain ⟨H,hH⟩:=aG ((i+j) / 2);have al:i≤H:=by omega
    have az:H<j:=by omega
    have eH:((i:Int)+(j:Int)) / 2=(H:Int):=by omega
    obtain ⟨u,x,T,R,n',I,B,y,a1,Y,U,a0⟩:=HL.o.ent hb a8 H (by omega);have HG:Eq (L[H]?=some (u,x,T,R,n')):=I;clear I B hH;obtain ⟨O,hO⟩:=aG (jM u x key q);have CO:Eq (∀w,Calls Tryz.prog 218 #[.agg #[.string u,iT x,iT T,.string R,iT n'],.agg #[.string key,iT q,iT d,.string t,iT n]] w fun e w'=>e=.returned (iT O)∧Bl w w'):=by rw [hO];exact fun w=>kP u R key t x T n' q d n w
    have HO:Eq (decide (O<0)=bI u x key q):=by show decide (O<0)=_;rw [hO];exact ib _ _ _ _
    clear hO;have aC:(H:Int)<(len:Int):=by omega
    go_wp2_with fail
    have y0:=cell_later hb x0;have y1:=cell_later hb x1;have y2:=cell_later hb x2;have y3:=cell_later hb x3;have y4:=cell_later hb x4;have A:Bl wr wr.drew:=(Below.refl _ wr).drew;have r:Eq (∀w',Bl wr w'→(w'.cell? ⟨X,0,none⟩=some (.string key)∧w'.cell? ⟨X,1,none⟩=some (iT q)∧w'.cell? ⟨X,2,none⟩=some (iT d)∧w'.cell? ⟨X,3,none⟩=some (.string t)∧w'.cell? ⟨X,4,none⟩=some (iT n)∧X<w'.heap.size∧w'.cell? ⟨b,g+H*5,none⟩=some (.string u)∧w'.cell? ⟨b,g+H*5+1,none⟩=some (iT x)∧w'.cell? ⟨b,g+H*5+2,none⟩=some (iT T)∧w'.cell? ⟨b,g+H*5+3,none⟩=some (.string R)∧w'.cell? ⟨b,g+H*5+4,none⟩=some (iT n')∧b<w'.heap.size)):=fun w' f=>⟨cell_later f y0,cell_later f y1,cell_later f y2,cell_later f y3,cell_later f y4,Fu _ _ (cell_later f y0),cell_later f y,cell_later f a1,cell_later f Y,cell_later f U,cell_later f a0,Fu _ _ (cell_later f y)⟩
    refine eJ r A fun F=>?_
    refine aP 0 6 F ?_;refine aQ 6 fun K hK=>?_
    go_simp;refine (CO.o _).mono ?_;rintro e w1 ⟨rfl,b1⟩;have k1:Bl wr w1:=A.trans (b1.mono A.size);go_wp2_with fail
    refine hK.o _ _ (r.o _ k1) fun F=>?_
    (try go_frame);refine aP 7 1 F ?_;refine dN ?_;by_cases ab:O<0
    · have a2:Eq (bI u x key q=true):=by show bI u x key q=true;rw [← HO.o];exact decide_eq_true ab
      go_wp2;go_roundw
      case rel=>exact ⟨H+1,j,by go_num,rfl,by omega,a5,hb.trans (k1.mono hb.size),zC HR.o HP.o HG.o a2.o⟩
      case measure=>simp [intOf];omega
    · have a2:Eq (bI u x key q=false):=by show bI u x key q=false;rw [← HO.o];exact decide_eq_false ab
      go_wp2;go_roundw
      case rel=>exact ⟨i,H,rfl,rfl,al,by omega,hb.trans (k1.mono hb.size),uR HR.o HP.o HG.o a2.o⟩
      case measure=>simp [intOf];omega
  · have ad:i=j:=by omega
    subst ad;by_cases ap:i<len
    · obtain ⟨u,x,T,R,n',I,B,y,a1,Y,U,a0⟩:=HL.o.ent hb a8 i ap;clear I B;obtain ⟨O,hO⟩:=aG (jM u x key q);have CO:Eq (∀w,Calls Tryz.prog 218 #[.agg #[.string u,iT x,iT T,.string R,iT n'],.agg #[.string key,iT q,iT d,.string t,iT n]] w fun e w'=>e=.returned (iT O)∧Bl w w'):=by rw [hO];exact fun w=>kP u R key t x T n' q d n w
      clear hO;have Q:(i:Int)<(len:Int):=by omega
      go_wp2_with fail
      have y0:=cell_later hb x0;have y1:=cell_later hb x1;have y2:=cell_later hb x2;have y3:=cell_later hb x3;have y4:=cell_later hb x4;have A:Bl wr wr.drew:=(Below.refl _ wr).drew;have r:Eq (∀w',Bl wr w'→(w'.cell? ⟨X,0,none⟩=some (.string key)∧w'.cell? ⟨X,1,none⟩=some (iT q)∧w'.cell? ⟨X,2,none⟩=some (iT d)∧w'.cell? ⟨X,3,none⟩=some (.string t)∧w'.cell? ⟨X,4,none⟩=some (iT n)∧X<w'.heap.size∧w'.cell? ⟨b,g+i*5,none⟩=some (.string u)∧w'.cell? ⟨b,g+i*5+1,none⟩=some (iT x)∧w'.cell? ⟨b,g+i*5+2,none⟩=some (iT T)∧w'.cell? ⟨b,g+i*5+3,none⟩=some (.string R)∧w'.cell? ⟨b,g+i*5+4,none⟩=some (iT n')∧b<w'.heap.size)):=fun w' f=>⟨cell_later f y0,cell_later f y1,cell_later f y2,cell_later f y3,cell_later f y4,Fu _ _ (cell_later f y0),cell_later f y,cell_later f a1,cell_later f Y,cell_later f U,cell_later f a0,Fu _ _ (cell_later f y)⟩
      refine eJ r A fun F=>?_
      refine aP 0 11 F ?_;refine aQ 11 fun K hK=>?_
      go_simp;refine (CO.o _).mono ?_;rintro e w1 ⟨rfl,b1⟩;have k1:Bl wr w1:=A.trans (b1.mono A.size);go_wp2_with fail
      refine hK.o _ _ (r.o _ k1) fun F=>?_
      (try go_frame);refine aP 12 4 F ?_;refine dN ?_;go_wp2;refine bodyPost_ret (v:=.tuple #[iT (i:Int),.bool (O == 0)]) (by simp [results,Tryz.results238,go_sem]) rfl ⟨i,O == 0,rfl,a5,HP.o,J.o.trans ((hb.trans (k1.mono hb.size)).mono J.o.size)⟩
    · have Q:¬(i:Int)<(len:Int):=by omega
      have ar:decide ((i:Int)<(len:Int))=false:=decide_eq_false Q;go_wp2_with fail
      have y0:=cell_later hb x0;have y1:=cell_later hb x1;have y2:=cell_later hb x2;have y3:=cell_later hb x3;have y4:=cell_later hb x4;have A:Bl wr wr.drew:=(Below.refl _ wr).drew;have r:Eq (∀w',Bl wr w'→(w'.cell? ⟨X,0,none⟩=some (.string key)∧w'.cell? ⟨X,1,none⟩=some (iT q)∧w'.cell? ⟨X,2,none⟩=some (iT d)∧w'.cell? ⟨X,3,none⟩=some (.string t)∧w'.cell? ⟨X,4,none⟩=some (iT n)∧X<w'.heap.size)):=fun w' f=>⟨cell_later f y0,cell_later f y1,cell_later f y2,cell_later f y3,cell_later f y4,Fu _ _ (cell_later f y0)⟩
      refine eJ r A fun F=>?_
      refine aP 0 11 F ?_;refine aQ 11 fun K hK=>?_
      go_simp;refine hK.o _ _ (r.o _ A) fun F=>?_
      (try go_frame);refine aP 12 4 F ?_;refine dN ?_;go_wp2;refine bodyPost_ret (v:=.tuple #[iT (i:Int),.bool false]) (by simp [results,Tryz.results238,go_sem]) rfl ⟨i,false,rfl,a5,HP.o,J.o.trans ((hb.trans (A.mono hb.size)).mono J.o.size)⟩
def EF (L:List ae) (key:ByteArray) (q:Int) (len:Nat) (w:World) (e:Ending) (w':World):Prop :=
 ∃(i:Nat),e=.returned (iT (i:Int))∧i≤len∧il L key q i i∧Bl w w'
theorem sm (b n len g:Nat) (L:List ae) (key:ByteArray) (q:Int) (w:World) (hL:ah w (some ⟨b,n,none⟩) len g L) (hr:aJ L=true) (hlen:len≤1048576) (f:1≤len) :
 Calls Tryz.prog 210 #[sO b n len g,.string key,iT q] w (EF L key q len w):=by
 go_enter Tryz.func210,Tryz.ntmps210
 go_wp2_with fail
 refine (Do b n len g L key _ q _ _ w hL hr hlen f).mono ?_;rintro e y ⟨i,B,rfl,hi,u,r⟩;have x:Eq (il L key q i i):=u;clear u hL;go_wp2;go_ret;exact ⟨i,rfl,hi,x.o,r⟩
def qQ (F:List ae) (w:World) (e:Ending) (w':World):Prop :=
 ((e=.returned nZ∧F=[])∨∃g n c,e=.returned (sL g n c)∧ag w' w.heap.size g n c F)∧Bl w w'
theorem p6 (a:Option Addr) (len f:Nat) (L:List ae) (m:Int) (key:ByteArray) (seq:Int) (w:World) (hL:ah w a len f L) (hlen:len≤1048576) :
 Calls Tryz.prog 166 #[.agg #[.slice a len f,iT m],.string key,iT seq] w (qQ (gM L m key seq) w):=by
 obtain ⟨F,r⟩:=aG (gM L m key seq);rw [← r];have kA:Bl w (w.alloc (.cells #[.slice a len f,iT m] 63)):=bZ;have u:Eq (L.length=len):=hL.length;have ac:=hL.room;have Y:=hL.big;unfold maxLen at Y;go_enter Tryz.func166,Tryz.ntmps166
 go_wp2_with fail
 refine (sj _ _ _ L _ _ (hL.keep kA)).mono ?_;rintro e w1 ⟨rfl,O⟩;have x0:w1.cell? ⟨w.heap.size,0,none⟩=some (.slice a len f):=cell_later O (by simp);have y:Bl w w1:=kA.trans (O.mono (by simp));clear O kA;cases hr:cF L m with
 | false =>
  have A:Eq (F=[]):=by rw [r];exact Ci hr
  clear hL r hr;go_wp2;go_ret;exact ⟨Or.inl ⟨rfl,A.o⟩,y⟩
 | true =>
  obtain ⟨p1,p2,p3,p4⟩:=bF hr;have h1:1≤len:=by have:=u.o;omega
  obtain ⟨b,n,rfl,ad⟩:=hL.form h1;have HL:Eq (ah w (some ⟨b,n,none⟩) len f L):=hL;have B:Eq (aJ L=true):=p3;have A:Eq (F=aR L key seq):=by rw [r];exact kT hr
  clear hL p1 p2 p3 p4 hr r;go_wp2_with fail
  refine (sm b n len f L key seq _ (HL.o.keep y) B.o hlen h1).mono ?_;rintro e w2 ⟨i,rfl,hi,U,R⟩;have y0:=cell_later R x0;have H:=y.trans (R.mono y.size);have Q:Eq (il L key seq i i):=U;clear R U x0 y;go_wp2_with fail
  refine (sm b n len f L key 0 _ (HL.o.keep H) B.o hlen h1).mono ?_;rintro e I ⟨j,rfl,hj,N,K⟩;have z0:=cell_later K y0;have g:=H.trans (K.mono H.size);have hF:=tL B.o (L:=L) (key:=key) (seq:=seq) (i:=i) (j:=j) (by rw [u.o];exact hi) (by rw [u.o];exact hj) Q.o.1 Q.o.2 N.1 N.2;obtain ⟨Z,hF⟩:=hF;have HF:Eq (aR L key seq=(L.drop i).take (j - i)):=hF;clear K N y0 H hF Q;have hsz:=uF B.o i (j - i);have T:Eq (∀e ∈ (L.drop i).take (j - i),e.1.size≤281474976710656∧e.2.2.2.1.size≤281474976710656):=hsz;clear hsz;by_cases a0:f=i
  · subst a0;have hE:ah I (some ⟨b,n,none⟩) (j - f) 0 ((L.drop f).take (j - f)):=by
     have a3:j - f=0:=by omega
     rw [a3];exact ⟨rfl,Fv _,FB _,by simp,(fun e=>by cases e),(fun x e hp=>absurd hp (Gy _)),fun x e k hk=>by simp at hk⟩
    have HE:Eq (ah I (some ⟨b,n,none⟩) (j - f) 0 ((L.drop f).take (j - f))):=hE;clear hE;go_wp2_with fail
    with_reducible refine (lO _ _ _ _ _ HE.o (by omega) T.o).mono ?_
    rintro e w4 ⟨rfl,hO,a6,J⟩;have X:Eq (ag w4 I.heap.size I.heap.size (j - f) (j - f) ((L.drop f).take (j - f))):=hO;clear hO;go_wp2;go_ret;exact ⟨Or.inr ⟨_,_,_,rfl,by rw [A.o,HF.o];exact X.o.mono g.size⟩,g.trans (J.mono g.size)⟩
  · have hE:ah I (some ⟨b,n+i*5,none⟩) (j - i) (f - i) ((L.drop i).take (j - i)):=(HL.o.keep g).sub Z hj;have HE:Eq (ah I (some ⟨b,n+i*5,none⟩) (j - i) (f - i) ((L.drop i).take (j - i))):=hE;clear hE;go_wp2_with fail
    all_goals
     refine (lO _ _ _ _ _ HE.o (by omega) T.o).mono ?_;rintro e w4 ⟨rfl,hO,a6,J⟩;have X:Eq (ag w4 I.heap.size I.heap.size (j - i) (j - i) ((L.drop i).take (j - i))):=hO;clear hO;go_wp2;go_ret;exact ⟨Or.inr ⟨_,_,_,rfl,by rw [A.o,HF.o];exact X.o.mono g.size⟩,g.trans (J.mono g.size)⟩
theorem lI {F:List ae} {e:Ending} (h:qQ F w e w'):∃a n c,e=.returned (.slice a n c)∧cT w' w.heap.size a n c F∧Bl w w':=by
 obtain ⟨h1 | ⟨g,n,c,rfl,hO⟩,hb⟩:=h
 · obtain ⟨rfl,rfl⟩:=h1;exact ⟨none,0,0,rfl,cT.none _ _,hb⟩
 · exact ⟨_,n,c,rfl,cT.some hO,hb⟩
def Tryz.cloneL_ren : Go.Shelf.Ren := ⟨fun | 41 => 165 | n => n, fun | 22 => 28 | 23 => 50 | 4 => 4 | n => n, fun | n => n⟩
theorem Tryz.cloneL : Go.Proofs.SlLaysE0.n41 Tryz.prog Tryz.cloneL_ren := {
  mixed := by kernel_rfl
  f41 := ⟨Tryz.f165.name, by decide, Tryz.func165.trans (congrArg some (by kernel_rfl))⟩
  t4 := Tryz.underlying4
  a4 := Tryz.isAgg4
  z4 := Tryz.sizeOf4
  v4 := Tryz.zeroValue4
  t22 := Tryz.underlying28
  a22 := Tryz.isAgg28
  z22 := Tryz.sizeOf28
  v22 := Tryz.zeroValue28 }
theorem Cx (b n c:Nat) (L:List ae) (w:World) (hL:ah w (pT b) n c L) (hn:n≤1048576) :
 Calls Tryz.prog 165 #[sL b n c] w fun e w'=>∃g c',e=.returned (sL g n c')∧ag w' w.heap.size g n c' L∧Bl w w':=by
 obtain ⟨i0,hi,y,x,o⟩:=info_parts Tryz.infoEnt;have h:=AnyE.slices_Clone Tryz.cloneL i0 _ 5 56 hi y x o rfl (by decide) Tryz.sizeOf50 b 0 n c (aC L) w (by rw [aV,hL.length]) (by unfold maxLen;omega) (by omega) (fun j u B=>by have:=bC hL j u B;rwa [WideShapes.add_plain] at this) (aO _);have h':Calls Tryz.prog 165 #[sL b n c] w fun e w'=>∃f,e=.returned f∧w'.ownsRow w.heap.size 50 5 f n (aC L)∧f≠nZ∧Bl w w':=h
 refine h'.mono ?_;rintro e w' ⟨f,rfl,ho,r,hb⟩;obtain ⟨g,c',rfl⟩:∃g cap,f=sL g n cap:=by
  rcases ho.2 with ⟨hv,h0⟩ | ⟨g,cap,A,hv,_⟩
  · exact absurd hv r
  · exact ⟨g,cap,hv⟩
 exact ⟨g,c',rfl,⟨ho,hL.length,hL.ents⟩,hb⟩
def sZ (w:World) (b:Nat) (V:List (List aj)):Prop:=∀(i:Nat) (B:List aj),V[i]?=some B→∃e n c,w.cell? ⟨b,i,none⟩=some (sL e n c)
theorem sZ.keep (h:sZ w b V) (hb:Bl w w'):sZ w' b V:=fun i B hB=>by
 obtain ⟨e,n,c,h1⟩:=h i B hB
 exact ⟨e,n,c,cell_later hb h1⟩
theorem cj.shareN {X:Nat} {K:Int} {g y:Option Addr} {J F R O H r:Nat} {M:List ae} {S:List Int} (f:cj X w g J F (pT b) R O y H r M V S) (htb:aY K M V S=true) (U:sZ w b V):∃A B C e0 o c0 e1 x c1 e2 n2 c2,R=3∧V=[A,B,C]∧C8 w g J F (pT e0) o c0 (pT e1) x c1 (pT e2) n2 c2 y H r M A B C S∧(∀w',Bl w w'→Calls Tryz.prog 86 #[.agg #[iT K,.slice g J F,sL b 3 O,.slice y H r]] w' fun e Q=>e=.returned (.tuple #[.agg #[iT K,.slice g J F,sL e0 o c0,sL e1 x c1,sL e2 n2 c2,.slice y H r],.bool true])∧Bl w' Q):=by
 obtain ⟨A,B,C,T⟩:=eS htb;subst T;have N:R=3:=f.levels.length.symm;subst N;obtain ⟨Y,a0,o,c0,hA,l0,n⟩:=f.levels.level (Below.refl _ w) 0 (by omega);obtain ⟨Z,a1,x,c1,hB,l1,u⟩:=f.levels.level (Below.refl _ w) 1 (by omega);obtain ⟨C',a2,n2,c2,hC,l2,I⟩:=f.levels.level (Below.refl _ w) 2 (by omega);simp only [G6,Gw,G2] at hA hB hC;subst hA hB hC;rw [FG] at l0 l1 l2;obtain ⟨e0,_,_,f0⟩:=U 0 A rfl;obtain ⟨e1,_,_,f1⟩:=U 1 B rfl;obtain ⟨e2,_,_,f2⟩:=U 2 C rfl;rw [l0] at f0;rw [l1] at f1;rw [l2] at f2;cases f0;cases f1;cases f2;refine ⟨A,B,C,e0,o,c0,e1,x,c1,e2,n2,c2,rfl,rfl,⟨f.mem.1,n.mono (FB _),u.mono (FB _),I.mono (FB _),f.snaps.lower (FB _)⟩,fun w' k=>?_⟩;have:=nd X K g y J F b 0 O H r M A B C S _ _ _ o c0 x c1 n2 c2 w' (f.mem.1.keep k) (f.snaps.keep k) (n.keep k) (u.keep k) (I.keep k) (cell_later k l0) (cell_later k l1) (cell_later k l2);rw [htb] at this;exact this
end Go.Proofs.YtpobkmjicbobdaaGreat
