/- Walks. -/
import Derived.Test.YtpobkmjicbobdaaGreatBl38
import Derived.Deep.DeepAppendWide
namespace Go.Proofs.YtpobkmjicbobdaaGreat
open Go.RowKit
set_option maxRecDepth 100000
set_option maxHeartbeats 1000000
attribute [local go_sem] DN
theorem pE (c:eN) (w:World) (h:c.2.1.size≤281474976710656) :
 Calls Tryz.prog 113 #[eK c] w fun e w'=>e=.returned (eK c)∧Bl w w':=by
 obtain ⟨b,t,n⟩:=c;simp only at h;unfold eK;simp only;have r:Bl w ((w.alloc (.cells #[.bool b,.string t,iT n] 57)).alloc (.cells #[.bool false,.string ⟨#[]⟩,iT 0] 57)):=bZ.alloc (by simp) _;go_enter Tryz.func113,Tryz.ntmps113
 go_wp2_with fail
 refine (nJ _ _ h).mono ?_;rintro e w1 ⟨rfl,o⟩;obtain ⟨f,g⟩:=wg o;have k1:Bl w w1:=r.trans (o.mono (by simp;omega));have u:w.heap.size+1<w1.heap.size:=by have:=o.size;simp at this;omega
 have x0:w1.cell? ⟨w.heap.size,0,none⟩=some (.bool b):=(f _ _ (by simp only [Dc];omega)).trans (by simp);have x1:w1.cell? ⟨w.heap.size,1,none⟩=some (.string t):=(f _ _ (by simp only [Dc];omega)).trans (by simp);have A:w1.cell? ⟨w.heap.size,2,none⟩=some (iT n):=(f _ _ (by simp only [Dc];omega)).trans (by simp);have f1:w1.frozen? ⟨w.heap.size,1,none⟩=false:=(g _ _ (by simp only [Dc];omega)).trans (by simp);have y0:w1.cell? ⟨w.heap.size+1,0,none⟩=some (.bool false):=(f _ _ (by simp only [Dc];omega)).trans (by simp);have y1:w1.cell? ⟨w.heap.size+1,1,none⟩=some (.string ⟨#[]⟩):=(f _ _ (by simp only [Dc];omega)).trans (by simp);have x:w1.cell? ⟨w.heap.size+1,2,none⟩=some (iT 0):=(f _ _ (by simp only [Dc];omega)).trans (by simp);have y:w1.frozen? ⟨w.heap.size+1,0,none⟩=false:=(g _ _ (by simp only [Dc];omega)).trans (by simp);have F:w1.frozen? ⟨w.heap.size+1,1,none⟩=false:=(g _ _ (by simp only [Dc];omega)).trans (by simp);have B:w1.frozen? ⟨w.heap.size+1,2,none⟩=false:=(g _ _ (by simp only [Dc];omega)).trans (by simp);clear f g o r;go_wp2;refine bodyPost_ret (v:=.agg #[.bool b,.string t,iT n]) (by simp [results,Tryz.results113,go_sem,y0,y1,x]) rfl ⟨rfl,?_⟩;exact (((k1.setCell (p:=⟨w.heap.size,1,none⟩) (Cy _) _).setCell (p:=⟨w.heap.size+1,0,none⟩) (Nat.le_succ _) _).setCell (p:=⟨w.heap.size+1,1,none⟩) (Nat.le_succ _) _).setCell (p:=⟨w.heap.size+1,2,none⟩) (Nat.le_succ _) _
theorem vn {b:Bool} {t g:ByteArray} {n d n':Int} {L:Nat} (f:t.size≤L) (e:g.size≤L):(fA b t n d g n').2.1.size≤L:=by
 unfold fA;split
 · exact e
 · split
   · exact C3 _
   · split
     · exact f
     · exact f
end Go.Proofs.YtpobkmjicbobdaaGreat
namespace Go.Proofs.YtpobkmjicbobdaaGreat
open Go.RowKit
set_option maxRecDepth 100000
set_option maxHeartbeats 1000000
theorem zl (b:Bool) (t k f:ByteArray) (n q d n':Int):∃T F:Nat,
 (∀w,Calls Tryz.prog 100 #[.agg #[.string k,iT q,iT d,.string f,iT n']] w fun e w'=>e=.returned (.iface T (.agg #[]))∧Bl w w') ∧
 (∀ w : World, (method 400 T (.agg #[]) "loop.example/comptoir/impl.do").run Tryz.prog w = .ok (F, .agg #[]) w) ∧
 (∀(args:Array Value) (w:World),(callFunc F args).run Tryz.prog w=.ok (.enter F args) w) ∧
 (∀w,Calls Tryz.prog F #[.agg #[],.agg #[.bool b,.string t,iT n],.agg #[.string k,iT q,iT d,.string f,iT n']] w fun e w'=>e=.returned (eK (fA b t n d f n'))∧Bl w w'):=by
 by_cases g:d=1
 · subst g;exact ⟨176,311,fun w=>jh k f q n' w,fun _=>by kernel_rfl,enters_of Tryz.func311 (by kernel_rfl) rfl,fun w=>by rw [vZ];exact vj b t k f n q 1 n' w⟩
 by_cases o:d=2
 · subst o;exact ⟨177,313,fun w=>ji k f q n' w,fun _=>by kernel_rfl,enters_of Tryz.func313 (by kernel_rfl) rfl,fun w=>by rw [vY];exact vk b t k f n q 2 n' w⟩
 by_cases r:d=3
 · subst r;exact ⟨178,315,fun w=>jk k f q n' w,fun _=>by kernel_rfl,enters_of Tryz.func315 (by kernel_rfl) rfl,fun w=>by rw [vX];exact vl b t k f n q 3 n' w⟩
 exact ⟨179,317,fun w=>jP k f q d n' w g o r,fun _=>by kernel_rfl,enters_of Tryz.func317 (by kernel_rfl) rfl,fun w=>by rw [v6 g o r];exact xX b t k f n q d n' w⟩
end Go.Proofs.YtpobkmjicbobdaaGreat
namespace Go.Proofs.YtpobkmjicbobdaaGreat
set_option maxRecDepth 100000
set_option maxHeartbeats 40000000
open Go.RowKit
variable {C E c' h i j n':Nat} {D L:List ac} {W w wi:World} {a':Option Addr} {d m q seq:Int} {key s t:ByteArray} {v0 v1 v2:Value}
section
attribute [local go_sem] DN
theorem cH.row {base:Nat} {a:Option Addr} {n c:Nat} (h:cH w base a n c L):w.ownsRow base 50 5 (.slice a n c) n (aC L):=by
 cases a with
 | none =>
  obtain ⟨rfl,rfl,rfl⟩:=h.nil rfl;exact ⟨rfl,Or.inl ⟨rfl,rfl⟩⟩
 | some x =>
  obtain ⟨g,rfl,hO⟩:=h.own x rfl;exact hO.owns
theorem vg (w:World):ag w none 0 0 []:=⟨rfl,Cy _,C3 _,(fun e h=>by cases h),(fun _=>rfl),(fun x e=>by cases e),(fun x e=>by cases e)⟩
theorem Bn (f:Value) (w:World):Calls Tryz.prog 213 #[nZ,iT 0,iT 0,f] w fun e w'=>e=.returned (.tuple #[])∧w'=w:=by
 go_enter Tryz.func213,Tryz.ntmps213
 go_wp2;go_loopw [8] (fun b wr=>b=iT 1∧wr=w) (fun _ _=>0)
 case atStart=>exact ⟨rfl,rfl⟩
 case round =>
  obtain ⟨rfl,rfl⟩:=hrel;go_wp2;go_end0;exact ⟨rfl,rfl⟩
theorem wK (f:Value) (w:World):Calls Tryz.prog 169 #[nZ,iT 0,f] w fun e w'=>e=.returned (.tuple #[])∧w'=w:=by
 go_enter Tryz.func169,Tryz.ntmps169
 go_wp2;go_loopw [7,8] (fun b g wr=>b=iT 0∧g=iT 20∧wr=w) (fun _ _ _=>0)
 case atStart=>exact ⟨rfl,rfl,rfl⟩
 case round =>
  obtain ⟨rfl,rfl,rfl⟩:=hrel;go_wp2_with fail
  refine (Bn f _).mono ?_;rintro e n ⟨rfl,rfl⟩;go_wp2;go_loopw [6] (fun b o=>b=iT 20∧o=n) (fun _ _=>0)
  case atStart=>exact ⟨rfl,rfl⟩
  case round =>
   obtain ⟨rfl,rfl⟩:=hrel;go_wp2;go_end0;exact ⟨rfl,rfl⟩
def AR (F:List ac) (a:Option Addr) (n c base:Nat) (w:World) (e:Ending) (w':World):Prop :=
 e=.returned (.tuple #[])∧ag w' a n c (bk F)∧(∀B,B≤base→B≤w.heap.size→Below B w w')
theorem pG {w':World} {g B:Nat} (h:w.grownBy w' (some g)) (hB:B≤w.heap.size) (hg:B≤g):Below B w w' :=
 (Below.refl _ _).grown h hB (fun k e=>by cases e;exact hg)
theorem uo (a:Option Addr) (n c base:Nat) (F:List ac) (w:World) (hO:cH w base a n c F) (hn:n≤1048576) :
 Calls Tryz.prog 111 #[.slice a n c,.func (.func 112) #[] #[]] w (AR F a n c base w):=by
 cases a with
 | none =>
  obtain ⟨rfl,rfl,rfl⟩:=hO.nil rfl;clear hO;go_enter Tryz.func111,Tryz.ntmps111
  go_wp2_with fail
  refine (wK _ _).mono ?_;rintro e r ⟨rfl,rfl⟩;go_wp2;go_end0;exact ⟨rfl,vg _,fun B _ _=>Below.refl _ _⟩
 | some x =>
  obtain ⟨g,rfl,hE⟩:=hO.own x rfl;have A:CG (af w base g n c F):=hE;clear hO hE;go_enter Tryz.func111,Tryz.ntmps111
  go_wp2_with fail
  refine (wL base g n c F _ A.o hn).mono ?_;rintro e r ⟨rfl,f,b⟩;have y:CG (ag r (pT g) n c (bk F)):=f.entsAt;have u:CG (w.grownBy r (some g)):=b;clear f b;go_wp2;go_end0;exact ⟨rfl,y.o,fun B hB hw=>pG u.o hw (C8 hB A.o.lt.1)⟩
structure pI (W wi:World) (E C:Nat) (s t:ByteArray) (q d n:Int) (v0 v1 v2:Value) (a':Option Addr) (n' c':Nat) (D:List ac):Prop where
 low:Bl W wi
 be:bW wi E (.string s) (iT q) (iT d) (.string t) (iT n)
 bc:ew wi C v0 v1 v2
 en:ag wi a' n' c' D
theorem pI.below {b:World} {n:Int} (h:pI W wi E C s t q d n v0 v1 v2 a' n' c' D) (hb:Bl wi b):pI W b E C s t q d n v0 v1 v2 a' n' c' D :=
 ⟨h.low.trans (hb.mono h.low.size),h.be.below hb,h.bc.below hb,h.en.keep hb⟩
theorem pI.set {n:Int} (h:pI W wi E C s t q d n v0 v1 v2 a' n' c' D) (hC:W.heap.size≤C) (hE:E≠C) (hA:∀x,a'=some x→0<n'→x.block≠C) (u0 u1 u2:Value) :
 pI W (((wi.setCell ⟨C,0,none⟩ u0).setCell ⟨C,1,none⟩ u1).setCell ⟨C,2,none⟩ u2) E C s t q d n u0 u1 u2 a' n' c' D :=
 ⟨((h.low.setCell (p:=⟨C,0,none⟩) hC _).setCell (p:=⟨C,1,none⟩) hC _).setCell (p:=⟨C,2,none⟩) hC _,((h.be.other hE 0 _).other hE 1 _).other hE 2 _,h.bc.setAll _ _ _,((h.en.setCell ⟨C,0,none⟩ _ hA).setCell ⟨C,1,none⟩ _ hA).setCell ⟨C,2,none⟩ _ hA⟩
theorem tz (a:Option Addr) (len N:Nat) (L:List ac) (key:ByteArray) (seq:Int) (w:World) (hL:ag w a len N L) (au:len≤1048576) (aD:∀e ∈ L,e.2.2.2.1.size≤281474976710656) :
 Calls Tryz.prog 43 #[.slice a len N,.string key,iT seq] w fun e w'=>e=.returned (eK (gT L key seq))∧Bl w w':=by
 obtain ⟨F,hF⟩:=aH (aQ L key seq);have aV:CG (F=aQ L key seq):=hF;have aZ:CG (L.length=len):=hL.length;have a1:CG (∀l ∈ L,dR l):=hL.ents;have b9:=bO aD;have aE:CG (F.length≤1048576):=by rw [hF];exact C8 (io L key seq) (by rw [hL.length];exact au)
 have bN:=hL.room;have b4:=hL.big;unfold maxLen at b4;have HL:=bO hL;obtain ⟨RC,ak⟩:=aH (gT L key seq);have bd:CG (RC=iU (bk F)):=by rw [ak,hF];rfl
 rw [← ak];clear hL hF aD ak;obtain ⟨i0,hi,bj,b7,b8⟩:=info_parts Tryz.infoEnt;obtain ⟨X,hX⟩:=aH w.heap.size;obtain ⟨W,hW⟩:=aH (w.alloc (.cells #[.bool false,.string ⟨#[]⟩,iT 0] 57));have bb:CG (ew W X (.bool false) (.string ⟨#[]⟩) (iT 0)):=by rw [hW,hX];exact ew.new _ _ _ _ _
 have aj:CG (Bl w W):=by rw [hW];exact bZ
 have bf:CG (X=w.heap.size):=hX;have bI:CG (W.heap.size=X+1):=by show W.heap.size=X+1;rw [hW,hX];simp
 have aK:CG (ag W a len N L):=HL.o.keep aj.o;go_enter Tryz.func43,Tryz.ntmps43
 go_wp2;rw [← hW,← hX];clear hW hX;go_loopw [7,15] (fun dv iv wr=>∃(k n' c':Nat) (a':Option Addr),k≤len∧n'≤k∧iv=iT k∧dv=.slice a' n' c'∧cH wr W.heap.size a' n' c' (aQ (L.take k) key seq)∧Bl W wr) (fun _ iv _=>len - (intOf iv).toNat)
 case atStart=>exact ⟨0,0,0,none,C3 _,C3 _,rfl,rfl,cH.none _ _,Below.refl _ _⟩
 case round =>
  obtain ⟨k,n',c',a',hk,bD,rfl,rfl,hO,hb⟩:=hrel;have HO:CG (cH wr W.heap.size a' n' c' (aQ (L.take k) key seq)):=hO;clear hO;by_cases bg:k<len
  · obtain ⟨b,a5,rfl,a4⟩:=aK.o.form (by omega);obtain ⟨s,q,d,t,n,hg,ae,g0,g1,g2,g3,g4⟩:=aK.o.ent hb a4 k bg;have HG:CG (L[k]?=some (s,q,d,t,n)):=hg;clear hg ae;have bJ:b<wr.heap.size:=l' a4 hb.size;by_cases ab:s=key
    · subst ab;by_cases hq:q≤seq
      · have HF:CG (aQ (L.take (k+1)) s seq=aQ (L.take k) s seq++[(s,q,d,t,n)]):=gY HG.o rfl hq;go_wp2_with (at_builtin;refine wpList_append_own _ rfl _ _ 28 rfl W.heap.size 50 i0 _ 5 56 Tryz.underlying28 hi bj b7 b8 rfl (by decide) _ _ _ rfl ((HO.o.row.alloc _).alloc _) ⟨wr.heap.size+1,0,none⟩ 1 1 (aC [(s,q,d,t,n)]) rfl rfl ?c1 (aL _) ?c3 ?c4 ?c5 ?_)
        case c1 =>
         have he:=cK (wr.alloc (.cells #[.string s,iT q,iT d,.string t,iT n] 50)) s t q d n (a1.o _ (CV HG.o));simp only [Dc] at he;exact bi he
        case c3=>unfold maxLen;omega
        case c4=>omega
        case c5=>have:=hb.size;simp;omega
        intro v' w2 O hgrow hnil;obtain ⟨g2,a2,rfl⟩:∃g N,v'=sL g (n'+1) N:=by
         rcases O.2 with ⟨hv,h0⟩ | ⟨g,N,bH,hv,_⟩
         · omega
         · exact ⟨g,N,hv⟩
        have Y:Bl W w2:=((hb.alloc hb.size _).alloc (by have:=hb.size;simp;omega) _).grown hgrow (by have:=hb.size;simp;omega) (fun q hq=>(HO.o.row.lt q hq).1);have aF:cH w2 W.heap.size (pT g2) (n'+1) a2 (aQ (L.take (k+1)) s seq):=by
         refine cH.some ⟨?_,?_,fun l hl=>a1.o l (Dw (oX hl))⟩
         · rw [HF.o,aJ];exact O
         · rw [HF.o,CW,HO.o.len];rfl
        have bm:CG (cH w2 W.heap.size (pT g2) (n'+1) a2 (aQ (L.take (k+1)) s seq)):=aF;clear O hgrow hnil aF;go_wp2;go_roundw
        case rel=>exact ⟨k+1,n'+1,a2,_,by omega,by omega,by go_num,rfl,bm.o,Y⟩
        case measure=>simp [intOf];omega
      · have HF:CG (aQ (L.take (k+1)) s seq=aQ (L.take k) s seq):=eR HG.o (by simp;omega);go_wp2;go_roundw
        case rel=>exact ⟨k+1,n',c',a',by omega,by omega,by go_num,rfl,by rw [HF.o];exact HO.o.below bZ,hb.alloc hb.size _⟩
        case measure=>simp [intOf];omega
    · have HF:CG (aQ (L.take (k+1)) key seq=aQ (L.take k) key seq):=eR HG.o (fun h=>ab h.1);have bo:¬s.toList=key.toList:=by
       rw [Dp,Dp];intro h;exact ab (Ef (Ed.1 h))
      have bA:(s.toList == key.toList)=false:=by simpa using bo
      clear ab;go_wp2;go_roundw
      case rel=>exact ⟨k+1,n',c',a',by omega,by omega,by go_num,rfl,by rw [HF.o];exact HO.o.below bZ,hb.alloc hb.size _⟩
      case measure=>simp [intOf];omega
  · have al:CG (cH wr W.heap.size a' n' c' F):=by
     have:=HO.o;rw [C9 (by rw [aZ.o];omega),← aV.o] at this;exact this
    have aM:n'≤1048576:=by rw [← al.o.len];exact aE.o
    have aU:CG (∀e ∈ bk F,e.2.2.2.1.size≤281474976710656):=fun e he=>b9.o e (oX (by rw [← aV.o];exact zR.1 he))
    clear HO;go_wp2_with fail
    refine (uo a' n' c' W.heap.size F _ al.o aM).mono ?_;rintro e w2 ⟨rfl,Z,aT⟩;have Y:Bl W w2:=hb.trans (aT _ (Cy _) hb.size);obtain ⟨C,hC⟩:=aH w2.heap.size;obtain ⟨w3,a7⟩:=aH (w2.alloc (.cells #[.bool false,.string ⟨#[]⟩,iT 0] 57));have k3:Bl w2 w3:=by rw [a7];exact bZ
    have aG:CG (ew w3 C (.bool false) (.string ⟨#[]⟩) (iT 0)):=by rw [a7,hC];exact ew.new _ _ _ _ _
    have az:CG (ag w3 a' n' c' (bk F)):=Z.keep k3;have ax:CG (Bl W w3):=Y.trans (k3.mono Y.size);have aq:CG (W.heap.size≤C):=by rw [hC];exact Y.size
    have aI:CG (∀x,a'=some x→0<n'→x.block≠C):=fun x hx hp=>by have:=(Z.lies x hx hp).1;rw [hC];omega
    have bn:CG ((bk F).length=n'):=Z.length;have hroom:=Z.room;have hbig:=Z.big;unfold maxLen at hbig;go_wp2;rw [← a7,← hC];clear a7 hC k3 Z aT Y hb al;go_loopw [39] (fun iv wq=>∃(k:Nat) (A:eN),k≤n'∧iv=iT k∧A=iU ((bk F).take k)∧Bl W wq∧ew wq C (.bool A.1) (.string A.2.1) (iT A.2.2)∧ag wq a' n' c' (bk F)∧A.2.1.size≤281474976710656) (fun iv _=>n' - (intOf iv).toNat)
    case atStart=>exact ⟨0,(false,⟨#[]⟩,0),C3 _,rfl,rfl,ax.o,aG.o,az.o,C3 _⟩
    case round =>
    obtain ⟨k,A,hk,rfl,ar,hb,aS,ay,aW⟩:=hrel;clear ax aG az;have a8:CG (ag wr a' n' c' (bk F)):=ay;have ap:CG (A=iU ((bk F).take k)):=ar;have y:CG (ew wr C (.bool A.1) (.string A.2.1) (iT A.2.2)):=aS;have aw:CG (A.2.1.size≤281474976710656):=aW;clear ay ar aS aW;by_cases av:k<n'
    · obtain ⟨b,a5,rfl,a4⟩:=a8.o.form (by omega);obtain ⟨s,q,d,t,n,hg,ae,g0,g1,g2,g3,g4⟩:=a8.o.ent (Below.refl wr.heap.size wr) a4 k av;have HG:CG ((bk F)[k]?=some (s,q,d,t,n)):=hg;clear hg ae;obtain ⟨T,G,H,hm,eg,a0⟩:=zl A.1 A.2.1 s t A.2.2 q d n;obtain ⟨J,a6⟩:=aH (fA A.1 A.2.1 A.2.2 d t n);rw [← a6] at a0;have aN:CG (J=yk (iU ((bk F).take k)) (s,q,d,t,n)):=by rw [a6,← ap.o];rfl
      have aB:CG (J.2.1.size≤281474976710656):=by rw [a6];exact vn aw.o (aU.o _ (CV HG.o))
      clear a6;go_upto_region 13 with fail
      obtain ⟨E,hE⟩:=aH wr.heap.size;obtain ⟨wq,a9⟩:=aH (wr.alloc (.cells #[.string s,iT q,iT d,.string t,iT n] 50));have kq:Bl wr wq:=by rw [a9];exact bZ
      have aO:CG (E≠C):=by have:=y.o.lt;show E≠C;omega
      have I:pI W wq.drew E C s t q d n (.bool A.1) (.string A.2.1) (iT A.2.2) (some ⟨b,a5,none⟩) n' c' (bk F) :=
       pI.below ⟨hb.trans (kq.mono hb.size),by rw [a9,hE];exact bW.new _ _ _ _ _ _ _,y.o.below kq,a8.o.keep kq⟩ (Below.refl _ _).drew
      rw [← a9,← hE];clear a9 hE kq g0 g1 g2 g3 g4 a8 y hb a4;refine wp_region_held_drew (S:=(fun w'=>w'.cell? ⟨E,0,none⟩=some (.string s)∧w'.cell? ⟨E,1,none⟩=some (iT q)∧w'.cell? ⟨E,2,none⟩=some (iT d)∧w'.cell? ⟨E,3,none⟩=some (.string t)∧w'.cell? ⟨E,4,none⟩=some (iT n)∧E<w'.heap.size)) (by kernel_rfl) (⟨I.be.c0,I.be.c1,I.be.c2,I.be.c3,I.be.c4,I.be.lt⟩) (fun aa=>?_);generalize wq.drew=wd at I aa ⊢;refine aP 0 1 aa ?_;refine aP 3 1 aa ?_;refine jX 1 2 (fun K hK=>?_) fun K hK=>?_
      · go_simp;refine (H _).mono ?_;rintro e bG ⟨rfl,bp⟩;have f:=I.below bp;go_wp2_with fail
        refine hK.o _ _ (⟨f.be.c0,f.be.c1,f.be.c2,f.be.c3,f.be.c4,f.be.lt⟩) fun aa=>?_
        (try go_frame);refine aR 2 fun K hK=>?_
        have c0:=f.bc.all;go_simp;clear c0;refine hK.o _ _ (⟨f.be.c0,f.be.c1,f.be.c2,f.be.c3,f.be.c4,f.be.lt⟩) fun aa=>?_
        (try go_frame);refine aR 4 fun K hK=>?_
        go_simp;refine (a0 _).mono ?_;rintro e bC ⟨rfl,b5⟩;have u:=f.below b5;unfold eK;go_wp2_with fail
        refine hK.o _ _ (⟨u.be.c0,u.be.c1,u.be.c2,u.be.c3,u.be.c4,u.be.lt⟩) fun aa=>?_
        (try go_frame);refine aR 5 fun K hK=>?_
        have c0:=u.bc.all;have f0:=u.bc.fr 0;have f1:=u.bc.fr 1;have f2:=u.bc.fr 2;go_simp;have R:=u.set aq.o aO.o aI.o (.bool J.1) (.string J.2.1) (iT J.2.2);clear c0 f0 f1 f2;refine hK.o _ _ (⟨R.be.c0,R.be.c1,R.be.c2,R.be.c3,R.be.c4,R.be.lt⟩) fun aa=>?_
        (try go_frame);refine dN ?_;have HK:CG (pI W _ E C s t q d n (.bool J.1) (.string J.2.1) (iT J.2.2) (some ⟨b,a5,none⟩) n' c' (bk F)):=R;clear H hm eg a0;go_wp2;go_roundw
        case rel=>exact ⟨k+1,J,by omega,by go_num,aN.o.trans (ku HG.o).symm,HK.o.low,HK.o.bc,HK.o.en,aB.o⟩
        case measure=>simp [intOf];omega
      · have c0:=I.bc.all;go_simp;clear c0;refine hK.o _ _ (⟨I.be.c0,I.be.c1,I.be.c2,I.be.c3,I.be.c4,I.be.lt⟩) fun aa=>?_
        (try go_frame);refine aR 1 fun K hK=>?_
        go_simp;refine (H _).mono ?_;rintro e bE ⟨rfl,ba⟩;have Q:=I.below ba;go_wp2_with fail
        refine hK.o _ _ (⟨Q.be.c0,Q.be.c1,Q.be.c2,Q.be.c3,Q.be.c4,Q.be.lt⟩) fun aa=>?_
        (try go_frame);refine aR 4 fun K hK=>?_
        go_simp;refine (a0 _).mono ?_;rintro e bB ⟨rfl,bl⟩;have B:=Q.below bl;unfold eK;go_wp2_with fail
        refine hK.o _ _ (⟨B.be.c0,B.be.c1,B.be.c2,B.be.c3,B.be.c4,B.be.lt⟩) fun aa=>?_
        (try go_frame);refine aR 5 fun K hK=>?_
        have c0:=B.bc.all;have f0:=B.bc.fr 0;have f1:=B.bc.fr 1;have f2:=B.bc.fr 2;go_simp;have U:=B.set aq.o aO.o aI.o (.bool J.1) (.string J.2.1) (iT J.2.2);clear c0 f0 f1 f2;refine hK.o _ _ (⟨U.be.c0,U.be.c1,U.be.c2,U.be.c3,U.be.c4,U.be.lt⟩) fun aa=>?_
        (try go_frame);refine dN ?_;have HK:CG (pI W _ E C s t q d n (.bool J.1) (.string J.2.1) (iT J.2.2) (some ⟨b,a5,none⟩) n' c' (bk F)):=U;clear H hm eg a0;go_wp2;go_roundw
        case rel=>exact ⟨k+1,J,by omega,by go_num,aN.o.trans (ku HG.o).symm,HK.o.low,HK.o.bc,HK.o.en,aB.o⟩
        case measure=>simp [intOf];omega
    · have b6:CG (RC=A):=by show RC=A;rw [bd.o,ap.o,C9 (by rw [bn.o];omega)]
      have c0:=y.o.c0;have c1:=y.o.c1;have c2:=y.o.c2;have cl:=y.o.lt;obtain ⟨cb,ct,cn⟩:=A;simp only at c0 c1 c2;go_wp2_with fail
      refine (pE (cb,ct,cn) _ aw.o).mono ?_;rintro e w4 ⟨rfl,af⟩;have r:ew w4 X (.bool false) (.string ⟨#[]⟩) (iT 0):=(bb.o.below hb).below af;have x0:=r.c0;have x1:=r.c1;have x2:=r.c2;have xl:=r.lt;have f0:=r.fr 0;have f1:=r.fr 1;have f2:=r.fr 2;have K4:CG (Bl w w4):=aj.o.trans ((hb.trans (af.mono hb.size)).mono aj.o.size);have ai:CG (w.heap.size≤X):=by show w.heap.size≤X;rw [bf.o];exact Cy _
      clear r af c0 c1 c2 cl hb;unfold eK;simp only;go_wp2;refine bodyPost_ret (v:=.agg #[.bool cb,.string ct,iT cn]) (by simp [results,Tryz.results43,go_sem,x0,x1,x2]) rfl ⟨by rw [b6.o];rfl,?_⟩;exact ((K4.o.setCell (p:=⟨X,0,none⟩) ai.o _).setCell (p:=⟨X,1,none⟩) ai.o _).setCell (p:=⟨X,2,none⟩) ai.o _
end
theorem pQ (a:Option Addr) (len y:Nat) (L:List ac) (key:ByteArray) (seq:Int) (w:World) (hL:ag w a len y L) (a5:len≤1048576) :
 Calls Tryz.prog 167 #[.slice a len y,.string key,iT seq] w fun e w'=>∃g n c,e=.returned (sL g n c)∧af w' w.heap.size g n c (aQ L key seq)∧Bl w w':=by
 have O:CG (L.length=len):=hL.length;have J:CG (∀l ∈ L,dR l):=hL.ents;have ae:=hL.room;have R:=hL.big;unfold maxLen at R;have HL:=bO hL;clear hL;obtain ⟨i0,hi,a1,Z,a0⟩:=info_parts Tryz.infoEnt;have Q:(w.alloc (.cells #[] 50)).ownsRow w.heap.size 50 5 (sL (w.heap.size) 0 0) 0 (aC (aQ (L.take 0) key seq)):=by
  have:=Do (base:=w.heap.size) (e:=50) (size:=5) w #[] 0 (by simp) (by simp) (by simp);simpa [aC,aQ] using this
 have K:Bl w (w.alloc (.cells #[] 50)):=bZ;go_enter Tryz.func167,Tryz.ntmps167
 go_wp2;go_loopw [7,8] (fun o i wr=>∃(k g n c:Nat),k≤len∧n≤k∧i=iT k∧o=sL g n c∧wr.ownsRow w.heap.size 50 5 (sL g n c) n (aC (aQ (L.take k) key seq))∧Bl w wr) (fun _ i _=>len - (intOf i).toNat)
 case atStart=>exact ⟨0,w.heap.size,0,0,C3 _,C3 _,rfl,rfl,Q,K⟩
 case round =>
  obtain ⟨k,g,n',c,hk,ad,rfl,rfl,F,hb⟩:=hrel;have f:CG (wr.ownsRow w.heap.size 50 5 (sL g n' c) n' (aC (aQ (L.take k) key seq))):=F;clear F Q K;by_cases Y:k<len
  · obtain ⟨b,a8,rfl,N⟩:=HL.o.form (by omega);obtain ⟨s,q,d,t,n,hg,T,g0,g1,g2,g3,g4⟩:=HL.o.ent hb N k Y;have X:CG (L[k]?=some (s,q,d,t,n)):=hg;clear hg T;have aa:b<wr.heap.size:=l' N hb.size;by_cases A:s=key
    · subst A;by_cases hq:q≤seq
      · have B:CG (aQ (L.take (k+1)) s seq=aQ (L.take k) s seq++[(s,q,d,t,n)]):=gY X.o rfl hq;go_wp2_with (at_builtin;refine wpList_append_own _ rfl _ _ 28 rfl w.heap.size 50 i0 _ 5 56 Tryz.underlying28 hi a1 Z a0 rfl (by decide) _ _ _ rfl (f.o.alloc _) ⟨wr.heap.size,0,none⟩ 1 1 (bD (s,q,d,t,n)) rfl rfl ?c1 ?c2 ?c3 ?c4 ?c5 ?_)
        case c1 =>
         intro j u r;match j,r with
         | 0,r=>simp [bD] at r;subst r;simp [Addr.add]
         | 1,r=>simp [bD] at r;subst r;simp [Addr.add]
         | 2,r=>simp [bD] at r;subst r;simp [Addr.add]
         | 3,r=>simp [bD] at r;subst r;simp [Addr.add]
         | 4,r=>simp [bD] at r;subst r;simp [Addr.add]
         | j+5,r=>simp [bD] at r
        case c2=>intro u hu;simp [bD] at hu;rcases hu with rfl | rfl | rfl | rfl | rfl <;> rfl
        case c3=>unfold maxLen;omega
        case c4=>omega
        case c5=>have:=hb.size;simp;omega
        intro v' w2 x hgrow hnil;obtain ⟨g2,H,rfl⟩:∃g y,v'=sL g (n'+1) y:=by
         rcases x.2 with ⟨hv,h0⟩ | ⟨g,y,a9,hv,_⟩
         · omega
         · exact ⟨g,y,hv⟩
        have U:Bl w w2:=(hb.alloc hb.size _).grown hgrow (by have:=hb.size;simp;omega) (fun q hq=>(f.o.lt q hq).1);have I:w2.ownsRow w.heap.size 50 5 (sL g2 (n'+1) H) (n'+1) (aC (aQ (L.take (k+1)) s seq)):=by
         rw [B.o,aJ];exact x
        clear x hgrow hnil;go_wp2;go_roundw
        case rel=>exact ⟨k+1,g2,n'+1,H,by omega,by omega,by go_num,rfl,I,U⟩
        case measure=>simp [intOf];omega
      · have B:CG (aQ (L.take (k+1)) s seq=aQ (L.take k) s seq):=eR X.o (by simp;omega);go_wp2;go_roundw
        case rel=>exact ⟨k+1,g,n',c,by omega,by omega,by go_num,rfl,by rw [B.o];exact f.o,hb⟩
        case measure=>simp [intOf];omega
    · have B:CG (aQ (L.take (k+1)) key seq=aQ (L.take k) key seq):=eR X.o (fun h=>A h.1);have a3:¬s.toList=key.toList:=by
       rw [Dp,Dp];intro h;exact A (Ef (Ed.1 h))
      have a7:(s.toList == key.toList)=false:=by simpa using a3
      clear A;go_wp2;go_roundw
      case rel=>exact ⟨k+1,g,n',c,by omega,by omega,by go_num,rfl,by rw [B.o];exact f.o,hb⟩
      case measure=>simp [intOf];omega
  · have B:CG (aQ (L.take k) key seq=aQ L key seq):=by show aQ (L.take k) key seq=_;rw [C9 (by rw [O.o];omega)]
    go_wp2;go_ret;refine ⟨g,n',c,rfl,⟨by rw [← B.o];exact f.o,?_,fun l hl=>J.o l (oX hl)⟩,hb⟩;have:=f.o.1;rw [aU,B.o] at this;omega
def fV (L:List ac) (m:Int) (key:ByteArray) (seq:Int):List ac:=if ch L m=true then aQ L key seq else []
theorem zG (h:ch L m=false):fV L m key seq=[]:=by simp [fV,h]
theorem jI (h:ch L m=true):fV L m key seq=aQ L key seq:=by simp [fV,h]
theorem oZ {k:ByteArray} {n:Int} (h:cT k q d t n=true):k.size≤281474976710656∧t.size≤281474976710656:=by
 simp [cT,fu] at h;omega
theorem sS (h:aI L=true) (i k:Nat):∀e ∈ (L.drop i).take k,e.1.size≤281474976710656∧e.2.2.2.1.size≤281474976710656:=by
 intro e b;obtain ⟨p,hp,rfl⟩:=Du (DE (Dw b));exact oZ (d4 h (j' hp))
theorem mA (h:aI L=true):∀e ∈ L,e.1.size≤281474976710656∧e.2.2.2.1.size≤281474976710656:=fun e b=>by
 obtain ⟨j,f,rfl⟩:=Du b
 exact oZ (d4 h (j' f))
def gE (L:List ac) (key:ByteArray) (q:Int) (i j:Nat):Prop:=(∀p e,L[p]?=some e→p<i→bo e.1 e.2.1 key q=true)∧(∀p e,L[p]?=some e→j≤p→bo e.1 e.2.1 key q=false)
theorem re (L:List ac) (key:ByteArray) (q:Int) (n:Nat) (h:L.length=n):gE L key q 0 n :=
 ⟨fun p e _ hp=>absurd hp (DP _),fun p e b hp=>by have:=(Cx.1 b).1;omega⟩
theorem xh (hr:aI L=true) (P:gE L key q i j) {e:ac} (b:L[h]?=some e) (hl:bo e.1 e.2.1 key q=true):gE L key q (h+1) j :=
 ⟨fun p d hd hp=>by
  by_cases f:p=h
  · subst f;rw [b] at hd;cases hd;exact hl
  · exact fO (e9 hr (by omega) hd b) hl,P.2⟩
theorem te {L:List ac} {key:ByteArray} {q:Int} {i j h:Nat} (hr:aI L=true) (P:gE L key q i j) {e:ac} (b:L[h]?=some e) (hl:bo e.1 e.2.1 key q=false):gE L key q i h :=
 ⟨P.1,fun p d hd hp=>by
  by_cases f:p=h
  · subst f;rw [b] at hd;cases hd;exact hl
  · cases hx:bo d.1 d.2.1 key q with
    | false=>rfl
    | true=>rw [fO (e9 hr (by omega) b hd) hx] at hl;cases hl⟩
def AS (L:List ac) (key:ByteArray) (q:Int) (len:Nat) (w:World) (e:Ending) (w':World):Prop :=
 ∃(i:Nat) (B:Bool),e=.returned (.tuple #[iT (i:Int),.bool B])∧i≤len∧gE L key q i i∧Bl w w'
theorem Ar (b g len U:Nat) (L:List ac) (key t:ByteArray) (q d n:Int) (w:World) (hL:ag w (some ⟨b,g,none⟩) len U L) (hr:aI L=true) (ar:len≤1048576) (an:1≤len) :
 Calls Tryz.prog 238 #[sO b g len U,.agg #[.string key,iT q,iT d,.string t,iT n],.func (.func 218) #[] #[]] w (AS L key q len w):=by
 have ae:CG (L.length=len):=hL.length;have HR:=bO hr;have a1:=(hL.lies _ rfl (by omega)).1;simp only at a1;obtain ⟨X,hX⟩:=aH w.heap.size;obtain ⟨W,R⟩:=aH (w.alloc (.cells #[.string key,iT q,iT d,.string t,iT n] 50));have x0:W.cell? ⟨X,0,none⟩=some (.string key):=by rw [R,hX];simp
 have x1:W.cell? ⟨X,1,none⟩=some (iT q):=by rw [R,hX];simp
 have x2:W.cell? ⟨X,2,none⟩=some (iT d):=by rw [R,hX];simp
 have x3:W.cell? ⟨X,3,none⟩=some (.string t):=by rw [R,hX];simp
 have x4:W.cell? ⟨X,4,none⟩=some (iT n):=by rw [R,hX];simp
 have kW:Bl w W:=by rw [R];exact bZ
 have HL:CG (ag W (some ⟨b,g,none⟩) len U L):=hL.keep kW;have ab:b<W.heap.size:=l' a1 kW.size;have J:CG (Bl w W):=kW;go_enter Tryz.func238,Tryz.ntmps238
 go_wp2;rw [← R,← hX];clear R hX kW hL hr a1;go_loopw [9,10] (fun iv jv wr=>∃i j:Nat,iv=iT i∧jv=iT j∧i≤j∧j≤len∧Bl W wr∧gE L key q i j) (fun iv jv _=>(intOf jv).toNat - (intOf iv).toNat)
 case atStart=>exact ⟨0,len,rfl,rfl,C3 _,Cy _,Below.refl _ _,re _ _ _ _ ae.o⟩
 case round =>
  obtain ⟨i,j,rfl,rfl,aE,a3,hb,hP⟩:=hrel;have HP:CG (gE L key q i j):=hP;clear hP;by_cases aB:i<j
  · obtain ⟨H,hH⟩:=aH ((i+j) / 2);have am:i≤H:=by omega
    have aA:H<j:=by omega
    have eH:((i:Int)+(j:Int)) / 2=(H:Int):=by omega
    obtain ⟨u,x,T,N,n',I,F,A,Y,a4,a0,a2⟩:=HL.o.ent hb ab H (by omega);have HG:CG (L[H]?=some (u,x,T,N,n')):=I;clear I F hH;obtain ⟨O,hO⟩:=aH (tg u x key q);have CO:CG (∀w,Calls Tryz.prog 218 #[.agg #[.string u,iT x,iT T,.string N,iT n'],.agg #[.string key,iT q,iT d,.string t,iT n]] w fun e w'=>e=.returned (iT O)∧Bl w w'):=by rw [hO];exact fun w=>mg u N key t x T n' q d n w
    have HO:CG (decide (O<0)=bo u x key q):=by show decide (O<0)=_;rw [hO];exact j9 _ _ _ _
    clear hO;have aC:(H:Int)<(len:Int):=by omega
    go_wp2_with fail
    have y0:=cell_later hb x0;have y1:=cell_later hb x1;have y2:=cell_later hb x2;have y3:=cell_later hb x3;have y4:=cell_later hb x4;have B:Bl wr wr.drew:=(Below.refl _ wr).drew;have r:CG (∀w',Bl wr w'→(w'.cell? ⟨X,0,none⟩=some (.string key)∧w'.cell? ⟨X,1,none⟩=some (iT q)∧w'.cell? ⟨X,2,none⟩=some (iT d)∧w'.cell? ⟨X,3,none⟩=some (.string t)∧w'.cell? ⟨X,4,none⟩=some (iT n)∧X<w'.heap.size∧w'.cell? ⟨b,g+H*5,none⟩=some (.string u)∧w'.cell? ⟨b,g+H*5+1,none⟩=some (iT x)∧w'.cell? ⟨b,g+H*5+2,none⟩=some (iT T)∧w'.cell? ⟨b,g+H*5+3,none⟩=some (.string N)∧w'.cell? ⟨b,g+H*5+4,none⟩=some (iT n')∧b<w'.heap.size)):=fun w' f=>⟨cell_later f y0,cell_later f y1,cell_later f y2,cell_later f y3,cell_later f y4,Cz _ _ (cell_later f y0),cell_later f A,cell_later f Y,cell_later f a4,cell_later f a0,cell_later f a2,Cz _ _ (cell_later f A)⟩
    refine ez r B fun y=>?_
    refine aP 0 6 y ?_;refine aR 6 fun K hK=>?_
    go_simp;refine (CO.o _).mono ?_;rintro e w1 ⟨rfl,b1⟩;have k1:Bl wr w1:=B.trans (b1.mono B.size);go_wp2_with fail
    refine hK.o _ _ (r.o _ k1) fun y=>?_
    (try go_frame);refine aP 7 1 y ?_;refine dN ?_;by_cases a6:O<0
    · have Z:CG (bo u x key q=true):=by show bo u x key q=true;rw [← HO.o];exact decide_eq_true a6
      go_wp2;go_roundw
      case rel=>exact ⟨H+1,j,by go_num,rfl,by omega,a3,hb.trans (k1.mono hb.size),xh HR.o HP.o HG.o Z.o⟩
      case measure=>simp [intOf];omega
    · have Z:CG (bo u x key q=false):=by show bo u x key q=false;rw [← HO.o];exact decide_eq_false a6
      go_wp2;go_roundw
      case rel=>exact ⟨i,H,rfl,rfl,am,by omega,hb.trans (k1.mono hb.size),te HR.o HP.o HG.o Z.o⟩
      case measure=>simp [intOf];omega
  · have a9:i=j:=by omega
    subst a9;by_cases ai:i<len
    · obtain ⟨u,x,T,N,n',I,F,A,Y,a4,a0,a2⟩:=HL.o.ent hb ab i ai;clear I F;obtain ⟨O,hO⟩:=aH (tg u x key q);have CO:CG (∀w,Calls Tryz.prog 218 #[.agg #[.string u,iT x,iT T,.string N,iT n'],.agg #[.string key,iT q,iT d,.string t,iT n]] w fun e w'=>e=.returned (iT O)∧Bl w w'):=by rw [hO];exact fun w=>mg u N key t x T n' q d n w
      clear hO;have Q:(i:Int)<(len:Int):=by omega
      go_wp2_with fail
      have y0:=cell_later hb x0;have y1:=cell_later hb x1;have y2:=cell_later hb x2;have y3:=cell_later hb x3;have y4:=cell_later hb x4;have B:Bl wr wr.drew:=(Below.refl _ wr).drew;have r:CG (∀w',Bl wr w'→(w'.cell? ⟨X,0,none⟩=some (.string key)∧w'.cell? ⟨X,1,none⟩=some (iT q)∧w'.cell? ⟨X,2,none⟩=some (iT d)∧w'.cell? ⟨X,3,none⟩=some (.string t)∧w'.cell? ⟨X,4,none⟩=some (iT n)∧X<w'.heap.size∧w'.cell? ⟨b,g+i*5,none⟩=some (.string u)∧w'.cell? ⟨b,g+i*5+1,none⟩=some (iT x)∧w'.cell? ⟨b,g+i*5+2,none⟩=some (iT T)∧w'.cell? ⟨b,g+i*5+3,none⟩=some (.string N)∧w'.cell? ⟨b,g+i*5+4,none⟩=some (iT n')∧b<w'.heap.size)):=fun w' f=>⟨cell_later f y0,cell_later f y1,cell_later f y2,cell_later f y3,cell_later f y4,Cz _ _ (cell_later f y0),cell_later f A,cell_later f Y,cell_later f a4,cell_later f a0,cell_later f a2,Cz _ _ (cell_later f A)⟩
      refine ez r B fun y=>?_
      refine aP 0 11 y ?_;refine aR 11 fun K hK=>?_
      go_simp;refine (CO.o _).mono ?_;rintro e w1 ⟨rfl,b1⟩;have k1:Bl wr w1:=B.trans (b1.mono B.size);go_wp2_with fail
      refine hK.o _ _ (r.o _ k1) fun y=>?_
      (try go_frame);refine aP 12 4 y ?_;refine dN ?_;go_wp2;refine bodyPost_ret (v:=.tuple #[iT (i:Int),.bool (O == 0)]) (by simp [results,Tryz.results238,go_sem]) rfl ⟨i,O == 0,rfl,a3,HP.o,J.o.trans ((hb.trans (k1.mono hb.size)).mono J.o.size)⟩
    · have Q:¬(i:Int)<(len:Int):=by omega
      have aw:decide ((i:Int)<(len:Int))=false:=decide_eq_false Q;go_wp2_with fail
      have y0:=cell_later hb x0;have y1:=cell_later hb x1;have y2:=cell_later hb x2;have y3:=cell_later hb x3;have y4:=cell_later hb x4;have B:Bl wr wr.drew:=(Below.refl _ wr).drew;have r:CG (∀w',Bl wr w'→(w'.cell? ⟨X,0,none⟩=some (.string key)∧w'.cell? ⟨X,1,none⟩=some (iT q)∧w'.cell? ⟨X,2,none⟩=some (iT d)∧w'.cell? ⟨X,3,none⟩=some (.string t)∧w'.cell? ⟨X,4,none⟩=some (iT n)∧X<w'.heap.size)):=fun w' f=>⟨cell_later f y0,cell_later f y1,cell_later f y2,cell_later f y3,cell_later f y4,Cz _ _ (cell_later f y0)⟩
      refine ez r B fun y=>?_
      refine aP 0 11 y ?_;refine aR 11 fun K hK=>?_
      go_simp;refine hK.o _ _ (r.o _ B) fun y=>?_
      (try go_frame);refine aP 12 4 y ?_;refine dN ?_;go_wp2;refine bodyPost_ret (v:=.tuple #[iT (i:Int),.bool false]) (by simp [results,Tryz.results238,go_sem]) rfl ⟨i,false,rfl,a3,HP.o,J.o.trans ((hb.trans (B.mono hb.size)).mono J.o.size)⟩
end Go.Proofs.YtpobkmjicbobdaaGreat
