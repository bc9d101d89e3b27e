/- Walks. -/
import Derived.Laws.Cover1
import Derived.Test.YtpobkmjicbobdaaGreatBc06
namespace Go.Proofs.YtpobkmjicbobdaaGreat
set_option maxRecDepth 100000
set_option maxHeartbeats 40000000
open Go.RowKit
variable {G T T' X b base base' c c' c1 c3 cap d e g g' g1 g3 m' n n' nm ns nv o size size' sz t:Nat} {L M:List ae} {S:List Int} {V:List (List aj)} {u0 u1 u2 u3:Value} {w w':World} {xs xs':List Value}
theorem l7 (m:Int) (s:Option Addr) (n c:Nat) (L:List ae) (w:World) (h:ah w s n c L) (hn:1≤n) :
 Calls Tryz.prog 147 #[.agg #[.slice s n c,iT m]] w fun r w'=>r=.returned (.string (bn L))∧Bl w w':=by
 obtain ⟨b,f,rfl,_⟩:=h.form hn;have hg:=j' (show 0<L.length by have:=h.length;omega);have:=x6 m b f n c L w h _ hg;unfold bn;rw [hg];exact this
theorem rF (m:Int) (s:Option Addr) (n c:Nat) (L:List ae) (w:World) (h:ah w s n c L) (hn:1≤n) :
 Calls Tryz.prog 146 #[.agg #[.slice s n c,iT m]] w fun r w'=>r=.returned (.string (aU L))∧Bl w w':=by
 obtain ⟨b,f,rfl,_⟩:=h.form hn;have hl:=h.length;have hg:=j' (show L.length - 1<L.length by omega);have:=ut m b f n c L w h _ (by rw [← hl];exact hg) hn;unfold aU;rw [hg];exact this
theorem Ba (m:Int) (s:Option Addr) (n c:Nat) (L:List ae) (low f:ByteArray) (w:World) (h:ah w s n c L) (hn:1≤n) :
 Calls Tryz.prog 222 #[.agg #[.slice s n c,iT m],.string low,.string f] w fun e w'=>e=.returned (.bool (eD low f (L,m)))∧Bl w w':=by
 obtain ⟨X,E⟩:=aG w.heap.size;obtain ⟨W,D⟩:=aG (w.alloc (.cells #[.slice s n c,iT m] 63));have K:Bl w W:=by rw [D];exact bZ
 have x0:W.cell? ⟨X,0,none⟩=some (.slice s n c):=by rw [D,E];simp
 have x1:W.cell? ⟨X,1,none⟩=some (iT m):=by rw [D,E];simp
 have I:X<W.heap.size:=Fu _ _ x0;have H:Eq (Bl w W):=K;have HE:=bT h;obtain ⟨B,A⟩:=aG (bn L);obtain ⟨hi,y⟩:=aG (aU L);have U:Eq (∀w',Bl w w'→Calls Tryz.prog 147 #[.agg #[.slice s n c,iT m]] w' fun r x=>r=.returned (.string B)∧Bl w' x):=by rw [A];exact fun w' k=>l7 m s n c L w' (h.keep k) hn
 have Q:Eq (∀w',Bl w w'→Calls Tryz.prog 146 #[.agg #[.slice s n c,iT m]] w' fun r x=>r=.returned (.string hi)∧Bl w' x):=by rw [y];exact fun w' k=>rF m s n c L w' (h.keep k) hn
 have J:Eq (eD low f (L,m)=(fH B f && fH low hi)):=by rw [A,y];rfl
 clear h K A y;go_enter Tryz.func222,Tryz.ntmps222
 go_wp2_with fail
 rw [← D];clear D;refine (U.o _ H.o).mono ?_;rintro e Z ⟨rfl,u⟩;have F:Eq (Bl w Z):=H.o.trans (u.mono H.o.size);have x0:=cell_later u x0;have x1:=cell_later u x1;have I:=u' I u.size;rw [← E];clear u E;cases h1:(Op.bytesLess B.toList f.toList || B.toList == f.toList) with
 | false =>
  have R:Eq (fH B f=false):=h1;go_wp2;go_ret;exact ⟨by rw [J.o,R.o];rfl,F.o⟩
 | true =>
  have Y:Eq (fH B f=true):=h1;go_wp2_with fail
  refine (Q.o _ F.o).mono ?_;rintro e N ⟨rfl,C⟩;have O:Eq (Bl w N):=F.o.trans (C.mono F.o.size);clear C;go_wp2;go_ret;exact ⟨by rw [J.o,Y.o];simp [fH],O.o⟩
theorem uu (a:Option Addr) (n c:Nat) (B:List aj) (w:World) (h:az 0 w a n c B) (hn:n≤1048576) :
 Calls Tryz.prog 182 #[.slice a n c] w fun e w'=>e=.returned (.bool (ik B && decide (n≤8)))∧Bl w w':=by
 have U:=bT h;have Z:Eq (B.length=n):=h.length;obtain ⟨F,hF⟩:=aG ((ik B && decide (n≤8)));have H:Eq (F=(ik B && decide (n≤8))):=hF;rw [← hF];clear h hF;go_enter Tryz.func182,Tryz.ntmps182
 go_wp2;go_loopw [3] (fun E wr=>∃i:Nat,i≤n∧E=iT i∧(∀j r,j<i→B[j]?=some r→r.1.length≤150)∧wr=w) (fun E _=>n - (intOf E).toNat)
 case atStart=>exact ⟨0,FB _,rfl,(fun j r I _=>absurd I (Gy _)),rfl⟩
 case round =>
  obtain ⟨i,W,rfl,A,rfl⟩:=hrel;have C:Eq (∀j r,j<i→B[j]?=some r→r.1.length≤150):=A;clear A;by_cases N:i<n
  · have D:(i:Int)<(n:Int):=by omega
    obtain ⟨b,a0,rfl,Y⟩:=U.o.form (by omega);obtain ⟨L,m,s,len,cap,hg,_,c0,_,hE⟩:=U.o.run (Below.refl _ wr) i N;have Q:Eq (B[i]?=some (L,m)):=hg;have y:Eq (L.length=len):=hE.1.length;have hbig:=hE.1.big;have hroom:=hE.1.room;unfold maxLen at hbig;clear hg hE;by_cases O:150<len
    · have x:(len:Int) > 150:=by omega
      have u:(150:Int)<(len:Int):=by omega
      go_wp2;go_ret;exact ⟨by rw [H.o,DF Q.o (by have:=y.o;show 150<L.length;omega)];rfl,Below.refl _ _⟩
    · have x:¬(len:Int) > 150:=by omega
      have u:¬(150:Int)<(len:Int):=by omega
      go_wp2;go_roundw
      case rel =>
       refine ⟨i+1,by omega,by go_num,fun j r I hr=>?_,by first | rfl | trivial⟩;by_cases K:j<i
       · exact C.o j r K hr
       · have:j=i:=by omega
         subst this;rw [Q.o] at hr;cases hr;have:=y.o;show L.length≤150
         omega
      case measure=>simp [intOf];omega
  · have D:¬(i:Int)<(n:Int):=by omega
    have f:Eq (ik B=true):=Cl Z.o (fun j r I hr=>C.o j r (by omega) hr);by_cases R:n≤8
    · have J:(n:Int)≤8:=by omega
      go_wp2;go_ret;exact ⟨by rw [H.o,f.o,decide_eq_true R];rfl,Below.refl _ _⟩
    · have J:¬(n:Int)≤8:=by omega
      go_wp2;go_ret;exact ⟨by rw [H.o,f.o,decide_eq_false R];rfl,Below.refl _ _⟩
theorem mL (b Y n c:Nat) (B:List aj) (r0:aj) (w:World) (h:az 0 w (some ⟨b,Y,none⟩) n c B) (h0:B[0]?=some r0) (a8:∀r ∈ B,1≤r.1.length) (hn:n≤1048576) :
 Calls Tryz.prog 176 #[sO b Y n c] w fun e w'=>e=.returned (.tuple #[.string (fG (bn r0.1) B),.string (dw (aU r0.1) B)])∧Bl w w':=by
 have HB:=bT h;have HL:Eq (B.length=n):=h.length;have al:=bT a8;have am:1≤n:=by have:=(E'.1 h0).1;have:=h.length;omega
 have aB:(0:Int)<(n:Int):=by omega
 have ad:=(h.lies _ rfl (by omega)).1;simp only at ad;have ac:Eq (∀(i:Nat) (w':World),Bl w w'→i<n→∃L m s len cap,B[i]?=some (L,m)∧w'.cell? ⟨b,Y+i*2,none⟩=some (.slice s len cap)∧w'.cell? ⟨b,Y+i*2+1,none⟩=some (iT m)∧b<w'.heap.size ∧
  (∀C,Bl w' C→Calls Tryz.prog 147 #[.agg #[.slice s len cap,iT m]] C fun r N=>r=.returned (.string (bn L))∧Bl C N) ∧
  (∀C,Bl w' C→Calls Tryz.prog 146 #[.agg #[.slice s len cap,iT m]] C fun r N=>r=.returned (.string (aU L))∧Bl C N)):=fun i w' k hi=>by
  obtain ⟨L,m,s,len,cap,hg,_,c0,c1,hE⟩:=HB.o.run k i hi;have hl:1≤len:=by have h1:=al.o _ (Fw hg);have h2:=hE.1.length;simp only at h1;omega
  exact ⟨L,m,s,len,cap,hg,c0,c1,u' ad k.size,fun C k'=>l7 m s len cap L C (hE.1.keep k') hl,fun C k'=>rF m s len cap L C (hE.1.keep k') hl⟩
 have aa:=bT h0;clear h h0 a8 HB;go_enter Tryz.func176,Tryz.ntmps176
 obtain ⟨L,m,s,len,cap,hg,c0,c1,hz,CL,CH⟩:=ac.o 0 w (Below.refl _ _) (by omega);rw [aa.o] at hg;cases hg;simp only [G4,Gv] at c0 c1;go_wp2_with fail
 refine (CL _ (Below.refl _ _)).mono ?_;rintro e w1 ⟨rfl,y⟩;have R:Eq (Bl w w1):=y;have c0:=cell_later y c0;have c1:=cell_later y c1;have hz:=u' hz y.size;clear y;go_wp2_with fail
 refine (CH _ R.o).mono ?_;rintro e w2 ⟨rfl,D⟩;have Q:Eq (Bl w w2):=R.o.trans (D.mono R.o.size);clear c0 c1 hz D CL CH R;go_wp2;go_loopw [4,5,6] (fun lv hv iv wr=>∃(i:Nat) (J hi:ByteArray),1≤i∧i≤n∧iv=iT i∧lv=.string J∧hv=.string hi∧J=fG (bn L) (B.take i)∧hi=dw (aU L) (B.take i)∧Bl w wr) (fun _ _ iv _=>n - (intOf iv).toNat)
 case atStart =>
  have e1:B.take 1=[(L,m)]:=by rw [FU,aa.o];simp
  refine ⟨1,bn L,aU L,Fv _,am,rfl,rfl,rfl,?_,?_,Q.o⟩
  · rw [e1];simp [fG,b9]
  · rw [e1];simp [dw,nq]
 case round =>
  obtain ⟨i,J,hi,av,ay,rfl,rfl,rfl,af,ab,hb⟩:=hrel;have a0:Eq (J=fG (bn L) (B.take i)):=af;have E:Eq (hi=dw (aU L) (B.take i)):=ab;have u:Eq (Bl w wr):=hb;clear af ab Q;by_cases ap:i<n
  · have a9:(i:Int)<(n:Int):=by omega
    obtain ⟨L',m',s',aq,ar,hg,c0,c1,hz,CL,CH⟩:=ac.o i wr hb ap;have Z:Eq (B[i]?=some (L',m')):=hg;obtain ⟨kl,a2⟩:=aG (bn L');obtain ⟨W,a1⟩:=aG (aU L');have ae:Eq (kl=bn L'):=a2;have F:Eq (W=aU L'):=a1;rw [← a2] at CL;rw [← a1] at CH;have a6:=bT CL;have U:=bT CH;clear hg hb a2 a1 CL CH;go_wp2_with fail
    refine (a6.o _ (Below.refl _ _)).mono ?_;rintro e w1 ⟨rfl,y⟩;have R:Eq (Bl wr w1):=y;have c0:=cell_later y c0;have c1:=cell_later y c1;have hz:=u' hz y.size;clear y;cases h1:Op.bytesLess kl.toList J.toList with
    | true =>
     have A:Eq (kl=fG (bn L) (B.take (i+1))):=by show _=_;rw [rZ _ Z.o,← a0.o,← ae.o,h1];rfl
     go_wp2_with fail
     refine (a6.o _ R.o).mono ?_;rintro e w2 ⟨rfl,D⟩;have Q:Eq (Bl wr w2):=R.o.trans (D.mono R.o.size);have c0:=cell_later D c0;have c1:=cell_later D c1;have hz:=u' hz D.size;clear D;go_wp2_with fail
     refine (U.o _ Q.o).mono ?_;rintro e N ⟨rfl,x⟩;have K:Eq (Bl wr N):=Q.o.trans (x.mono Q.o.size);have c0:=cell_later x c0;have c1:=cell_later x c1;have hz:=u' hz x.size;clear x;cases ha:Op.bytesLess W.toList hi.toList with
     | true =>
      have f:Eq (hi=dw (aU L) (B.take (i+1))):=by show _=_;rw [gg _ Z.o,← E.o,← F.o];simp [nq,ha]
      have I:Eq (Bl w N):=u.o.trans (K.o.mono u.o.size);clear c0 c1 hz;go_wp2;go_roundw
      case rel=>exact ⟨i+1,kl,hi,by omega,by omega,by go_num,rfl,rfl,A.o,f.o,I.o⟩
      case measure=>simp [intOf];omega
     | false =>
      cases hb:(W.toList == hi.toList) with
      | true =>
       have f:Eq (hi=dw (aU L) (B.take (i+1))):=by show _=_;rw [gg _ Z.o,← E.o,← F.o];simp [nq,hb]
       have I:Eq (Bl w N):=u.o.trans (K.o.mono u.o.size);clear c0 c1 hz;go_wp2;go_roundw
       case rel=>exact ⟨i+1,kl,hi,by omega,by omega,by go_num,rfl,rfl,A.o,f.o,I.o⟩
       case measure=>simp [intOf];omega
      | false =>
       have f:Eq (W=dw (aU L) (B.take (i+1))):=by show _=_;rw [gg _ Z.o,← E.o,← F.o];simp [nq,ha,hb]
       go_wp2_with fail
       refine (U.o _ K.o).mono ?_;rintro e w4 ⟨rfl,H⟩;have I:Eq (Bl w w4):=u.o.trans ((K.o.trans (H.mono K.o.size)).mono u.o.size);clear H c0 c1 hz;go_wp2;go_roundw
       case rel=>exact ⟨i+1,kl,W,by omega,by omega,by go_num,rfl,rfl,A.o,f.o,I.o⟩
       case measure=>simp [intOf];omega
    | false =>
     have A:Eq (J=fG (bn L) (B.take (i+1))):=by show _=_;rw [rZ _ Z.o,← a0.o,← ae.o,h1];rfl
     have Q:Eq (Bl wr w1):=R.o;go_wp2_with fail
     refine (U.o _ Q.o).mono ?_;rintro e N ⟨rfl,x⟩;have K:Eq (Bl wr N):=Q.o.trans (x.mono Q.o.size);have c0:=cell_later x c0;have c1:=cell_later x c1;have hz:=u' hz x.size;clear x;cases ha:Op.bytesLess W.toList hi.toList with
     | true =>
      have f:Eq (hi=dw (aU L) (B.take (i+1))):=by show _=_;rw [gg _ Z.o,← E.o,← F.o];simp [nq,ha]
      have I:Eq (Bl w N):=u.o.trans (K.o.mono u.o.size);clear c0 c1 hz;go_wp2;go_roundw
      case rel=>exact ⟨i+1,J,hi,by omega,by omega,by go_num,rfl,rfl,A.o,f.o,I.o⟩
      case measure=>simp [intOf];omega
     | false =>
      cases hb:(W.toList == hi.toList) with
      | true =>
       have f:Eq (hi=dw (aU L) (B.take (i+1))):=by show _=_;rw [gg _ Z.o,← E.o,← F.o];simp [nq,hb]
       have I:Eq (Bl w N):=u.o.trans (K.o.mono u.o.size);clear c0 c1 hz;go_wp2;go_roundw
       case rel=>exact ⟨i+1,J,hi,by omega,by omega,by go_num,rfl,rfl,A.o,f.o,I.o⟩
       case measure=>simp [intOf];omega
      | false =>
       have f:Eq (W=dw (aU L) (B.take (i+1))):=by show _=_;rw [gg _ Z.o,← E.o,← F.o];simp [nq,ha,hb]
       go_wp2_with fail
       refine (U.o _ K.o).mono ?_;rintro e w4 ⟨rfl,H⟩;have I:Eq (Bl w w4):=u.o.trans ((K.o.trans (H.mono K.o.size)).mono u.o.size);clear H c0 c1 hz;go_wp2;go_roundw
       case rel=>exact ⟨i+1,J,W,by omega,by omega,by go_num,rfl,rfl,A.o,f.o,I.o⟩
       case measure=>simp [intOf];omega
  · have a9:¬(i:Int)<(n:Int):=by omega
    have O:B.take i=B:=FH (by rw [HL.o];omega);have h1:=a0.o;have h2:=E.o;rw [O] at h1 h2;have H1:Eq (J=fG (bn L) B):=h1;have H2:Eq (hi=dw (aU L) B):=h2;clear h1 h2 O;go_wp2;exact bodyPost_ret (v:=.tuple #[.string J,.string hi]) (by simp [results,Tryz.results176,go_sem]) rfl ⟨by rw [H1.o,H2.o],u.o⟩
theorem Tryz.infoRun:(Tryz.prog.info? 63).map (fun i=>(i.zero,i.size,i.bytes))=some (some (.agg #[nZ,iT 0]),2,32):=by kernel_rfl
theorem Tryz.infoRunL:(Tryz.prog.info? 61).map (fun i=>(i.zero,i.size,i.bytes))=some (some nZ,1,24):=by kernel_rfl
def tV (B:List aj):Prop:=B.length≤1048576∧∀p ∈ B,p.1.length≤1048576
theorem cZ {K:Nat} {T:TypeId} (h:w.ownsRow base T K (sL g n cap) n xs):n≤cap∧cap≤maxLen:=by
 rcases h.2 with ⟨h',_⟩ | ⟨g',r,s,h',_,_,m,f,_,_⟩
 · simp at h'
 · simp only [Value.slice.injEq,G2,Addr.mk.injEq,and_true,true_and] at h';obtain ⟨rfl,rfl⟩:=h';exact ⟨m,f⟩
def ay (w:World) (g t sz:Nat):Prop:=∃cur:Array Value,w.heap[g]?=some (.cells cur t (0,0))∧cur.size=sz
theorem ay.lt (h:ay w g t sz):g<w.heap.size:=by
 obtain ⟨f,h,_⟩:=h;exact (Gm.1 h).1
theorem ay.cell (h:ay w g t sz) {o:Nat} (ho:o<sz):∃v,w.cell? ⟨g,o,none⟩=some v:=by
 obtain ⟨f,h,hs⟩:=h;exact ⟨f[o]'(by omega),by simp [World.cell?,h,Array.getElem?_eq_getElem (show o<f.size by omega)]⟩
theorem ay.frozen (h:ay w g t sz) (o:Nat):w.frozen? ⟨g,o,none⟩=false:=by
 obtain ⟨f,h,hs⟩:=h;simp [World.frozen?,h]
theorem ay.setCell (h:ay w g t sz) {b o:Nat} (v:Value) (_:True:=trivial):ay (w.setCell ⟨b,o,none⟩ v) g t sz:=by
 obtain ⟨f,h,hs⟩:=h;by_cases e:g=b
 · subst e;exact ⟨_,heap_setCell_same w g o f t v h,by simp [hs]⟩
 · exact ⟨f,(Below.heap_setCell _ _ _ _ e).trans h,hs⟩
theorem ay.below (h:ay w g t sz) (hb:Bl w w'):ay w' g t sz:=by
 obtain ⟨f,h',hs⟩:=h;exact ⟨f,(hb.block g (Gm.1 h').1).trans h',hs⟩
theorem ay.kind {t' f:Nat} (h:ay w g t sz) (h':ay w g t' f):t=t':=by
 obtain ⟨r,h1,_⟩:=h;obtain ⟨m,h2,_⟩:=h';rw [h1] at h2;cases h2;rfl
theorem bW (w:World) (x y:Value) (t:TypeId):∀j u,[x,y][j]?=some u→(w.alloc (.cells #[x,y] t)).cell? ((⟨w.heap.size,0,none⟩:Addr).add j)=some u:=by
 intro j u f;rw [FO,FG];match j,f with
 | 0,f=>simp at f;subst f;simp
 | 1,f=>simp at f;subst f;simp
theorem ew (w:World) (x:Value) (t:TypeId):∀j u,[x][j]?=some u→(w.alloc (.cells #[x] t)).cell? ((⟨w.heap.size,0,none⟩:Addr).add j)=some u:=by
 intro j u f;rw [FO,FG];match j,f with
 | 0,f=>simp at f;subst f;simp
theorem eV {v:Value} (h:w.ownsRow base T size v n xs) (hb:base'≤base):w.ownsRow base' T size v n xs:=by
 refine ⟨h.1,?_⟩;rcases h.2 with h2 | ⟨g,cap,f,hv,hg,r⟩
 · exact Or.inl h2
 · exact Or.inr ⟨g,cap,f,hv,FK hb hg,r⟩
theorem aS {m:Nat} (h:w.ownsRow base e size (sL g m cap) n xs):∃sz,ay w g e sz:=by
 rcases h.2 with ⟨h',_⟩ | ⟨g',r,f,h',_,hg,_,_,hs,_⟩
 · simp at h'
 · simp only [Value.slice.injEq,G2,Addr.mk.injEq,and_true] at h';obtain ⟨rfl,_⟩:=h';exact ⟨_,f,hg,rfl⟩
def bw (base:Nat) (w:World) (g n c:Nat) (B:List aj):Prop :=
 B.length=n∧(∀p ∈ B,(Lit.int .i64 p.2).wf=true)∧∃xs,w.ownsRow base 63 2 (sL g n c) n xs∧∀(i:Nat) (p:aj),B[i]?=some p→∃e d,xs[i*2]?=some (sL e p.1.length d)∧xs[i*2+1]?=some (iT p.2)∧ag w base e p.1.length d p.1
theorem bw.below {B:List aj} (h:bw base w g n c B) (hb:Bl w w'):bw base w' g n c B:=by
 obtain ⟨h1,h2,xs,h3,h4⟩:=h;exact ⟨h1,h2,xs,h3.kept (row:=none) ⟨hb.os,hb.tape,hb.output,hb.size,fun k hk _=>hb.block k hk⟩ (.inr (by simp [Value.ownBlock])),fun i p hp=>by obtain ⟨e,d,a1,a2,a3⟩:=h4 i p hp;exact ⟨e,d,a1,a2,a3.below hb⟩⟩
theorem bw.mono {B:List aj} (h:bw base w g n c B) (hb:base'≤base):bw base' w g n c B:=by
 obtain ⟨h1,h2,xs,h3,h4⟩:=h;exact ⟨h1,h2,xs,eV h3 hb,fun i p hp=>by obtain ⟨e,d,a1,a2,a3⟩:=h4 i p hp;exact ⟨e,d,a1,a2,a3.mono hb⟩⟩
theorem bw.lt {B:List aj} (h:bw base w g n c B):base≤g∧g<w.heap.size:=by
 obtain ⟨_,_,xs,h3,_⟩:=h;exact h3.lt g rfl
theorem bw.grown {B:List aj} (h:bw base w g n c B) (hG:ay w G T sz) (s:T≠63) (r:T≠50) (hg:w.grownBy w' (some G)):bw base w' g n c B:=by
 obtain ⟨h1,h2,xs,h3,h4⟩:=h;obtain ⟨y,k3⟩:=aS h3;refine ⟨h1,h2,xs,h3.kept hg (.inr ?_),fun i p hp=>?_⟩
 · intro e;have f:g=G:=by simpa [Value.ownBlock] using e
   subst f;exact s (hG.kind k3)
 · obtain ⟨e,d,a1,a2,a3⟩:=h4 i p hp;obtain ⟨x,u⟩:=aS a3.owns;refine ⟨e,d,a1,a2,a3.grown hg (fun f=>?_)⟩;have m:e=G:=Fx f;subst m;exact r (hG.kind u)
theorem ia {B:List aj} {m:Int} (h1:B.length=n) (h2:∀p ∈ B,(Lit.int .i64 p.2).wf=true) (h3:w.ownsRow base 63 2 (sL g n c) n xs)
 (h4:∀(i:Nat) (p:aj),B[i]?=some p→∃e d,xs[i*2]?=some (sL e p.1.length d)∧xs[i*2+1]?=some (iT p.2)∧ag w base e p.1.length d p.1)
 (hL:ag w base e L.length d L) (hm:(Lit.int .i64 m).wf=true) (hg:w.grownBy w' (some g)) (ho:w'.ownsRow base 63 2 (sL g' (n+1) c') (n+1) (xs++[sL e L.length d,iT m])):bw base w' g' (n+1) c' (B++[(L,m)]):=by
 obtain ⟨E,k3⟩:=aS h3;have f:∀{e d:Nat} {L:List ae},ag w base e L.length d L→ag w' base e L.length d L:=fun {e d L} hO=>by
  obtain ⟨D,A⟩:=aS hO.owns;refine hO.grown hg (fun y=>?_);have u:e=g:=Fx y;subst u;exact absurd (k3.kind A) (by decide)
 have x:=h3.1;refine ⟨by rw [Fy,h1];rfl,fun p hp=>?_,_,ho,fun i p hp=>?_⟩
 · rcases FI.1 hp with h | h
   · exact h2 p h
   · rw [FL] at h;subst h;exact hm
 · by_cases hi:i<B.length
   · rw [FE hi] at hp;obtain ⟨e0,C,a1,a2,a3⟩:=h4 i p hp;exact ⟨e0,C,by rw [FE (by omega)];exact a1,by rw [FE (by omega)];exact a2,f a3⟩
   · have s:=(E'.1 hp).1;rw [Fy] at s;have r:i=B.length:=by have:[(L,m)].length=1:=rfl;omega
     subst r;rw [Fz (Fv _),G5] at hp;cases hp;refine ⟨e,d,?_,?_,f hL⟩
     · rw [Fz (by omega),show B.length*2 - xs.length=0 by omega];rfl
     · rw [Fz (by omega),show B.length*2+1 - xs.length=1 by omega];rfl
theorem bw.runsIn {B:List aj} (h:bw base w g n c B):az base w (pT g) n c B:=by
 obtain ⟨h1,h2,xs,h3,h4⟩:=h;have f:=cZ h3;refine ⟨h1,f.1,f.2,(fun e=>by cases e),?_,?_⟩
 · rintro x e _;cases e;exact ⟨(h3.lt g rfl).2,rfl,(h3.lt g rfl).1⟩
 · rintro x e i hi;cases e;obtain ⟨e0,m,a1,a2,a3⟩:=h4 i _ (j' hi);refine ⟨h2 _ (F8 hi),_,_,_,?_,?_,a3.entsAt,fun x e _=>by cases e;exact a3.lt.1⟩
   · simp only [FG];exact (h3.cellAt _ (by omega)).trans a1
   · simp only [FG];exact (h3.cellAt _ (by omega)).trans a2
def vM (xs:List Value):Prop:=∀(i j gi ni di gj nj dj:Nat),i<j→xs[i]?=some (sL gi ni di)→xs[j]?=some (sL gj nj dj)→gi≠gj
theorem xP (h:vM xs) (hl:∀(i f r s:Nat),xs[i]?=some (sL f r s)→f≠g):vM (xs++[sL g n d]):=by
 intro i j f r s A B C x hi m;have y:=(E'.1 m).1;rw [Fy] at y;have h1:([sL g n d]:List Value).length=1:=rfl;rw [FE (by omega)] at hi;by_cases hx:j<xs.length
 · rw [FE hx] at m;exact h i j f r s A B C x hi m
 · have u:j=xs.length:=by omega
   subst u;rw [Fz (Fv _),G5] at m;cases m;exact hl i f r s hi
def ep (base:Nat) (w:World) (G n c:Nat) (V:List (List aj)):Prop :=
 V.length=n∧∃xs,w.ownsRow base 61 1 (sL G n c) n xs∧(∀(i:Nat) (B:List aj),V[i]?=some B→∃g d,xs[i]?=some (sL g B.length d)∧bw base w g B.length d B)∧vM xs
theorem ep.below (h:ep base w g n c V) (hb:Bl w w'):ep base w' g n c V:=by
 obtain ⟨h1,xs,h3,h4,h5⟩:=h;exact ⟨h1,xs,h3.kept (row:=none) ⟨hb.os,hb.tape,hb.output,hb.size,fun k hk _=>hb.block k hk⟩ (.inr (by simp [Value.ownBlock])),(fun i p hp=>by obtain ⟨e,d,a1,a3⟩:=h4 i p hp;exact ⟨e,d,a1,a3.below hb⟩),h5⟩
theorem xd {B:List aj} (h1:V.length=n) (h3:w.ownsRow base 61 1 (sL g n c) n xs)
 (h4:∀(i:Nat) (B:List aj),V[i]?=some B→∃g d,xs[i]?=some (sL g B.length d)∧bw base w g B.length d B)
 (hL:bw base w e B.length d B) (hg:w.grownBy w' (some g)) (ho:w'.ownsRow base 61 1 (sL g' (n+1) c') (n+1) (xs++[sL e B.length d])) (hd:vM xs) (hl:∀(i r s x:Nat),xs[i]?=some (sL r s x)→r≠e):ep base w' g' (n+1) c' (V++[B]):=by
 obtain ⟨A,k3⟩:=aS h3;have u:=h3.1;refine ⟨by rw [Fy,h1];rfl,_,ho,fun i p hp=>?_,xP hd hl⟩;by_cases hi:i<V.length
 · rw [FE hi] at hp;obtain ⟨e0,y,a1,a3⟩:=h4 i p hp;exact ⟨e0,y,by rw [FE (by omega)];exact a1,a3.grown k3 (by decide) (by decide) hg⟩
 · have m:=(E'.1 hp).1;rw [Fy] at m;have f:i=V.length:=by have:[B].length=1:=rfl;omega
   subst f;rw [Fz (Fv _),G5] at hp;cases hp;exact ⟨e,d,by rw [Fz (by omega),show V.length - xs.length=0 by omega];rfl,hL.grown k3 (by decide) (by decide) hg⟩
theorem ep.grown (h:ep base w g n c V) (hG:ay w G T sz) (t0:T≠61) (r:T≠63) (f:T≠50) (hg:w.grownBy w' (some G)):ep base w' g n c V:=by
 obtain ⟨h1,xs,h3,h4,h5⟩:=h;obtain ⟨s,k3⟩:=aS h3;refine ⟨h1,xs,h3.kept hg (.inr ?_),(fun i p hp=>by obtain ⟨e,d,a1,a3⟩:=h4 i p hp;exact ⟨e,d,a1,a3.grown hG r f hg⟩),h5⟩;intro e;have m:g=G:=by simpa [Value.ownBlock] using e
 subst m;exact t0 (hG.kind k3)
theorem ep.mono (h:ep base w g n c V) (hb:base'≤base):ep base' w g n c V:=by
 obtain ⟨h1,xs,h3,h4,h5⟩:=h;exact ⟨h1,xs,eV h3 hb,(fun i p hp=>by obtain ⟨e,d,a1,a3⟩:=h4 i p hp;exact ⟨e,d,a1,a3.mono hb⟩),h5⟩
theorem ep.levelsIn (h:ep base w g n c V):cX base w (pT g) n c V:=by
 obtain ⟨h1,xs,h3,h4,_⟩:=h;have f:=cZ h3;refine ⟨h1,f.1,f.2,(fun e=>by cases e),?_,?_⟩
 · rintro x e _;cases e;exact ⟨(h3.lt g rfl).2,rfl,(h3.lt g rfl).1⟩
 · rintro x e i hi;cases e;obtain ⟨e0,m,a1,a3⟩:=h4 i _ (j' hi);refine ⟨_,_,_,?_,a3.runsIn⟩;simp only [FG];exact (h3.cellAt _ (by omega)).trans a1
theorem pr (lo:Nat) (a:Option Addr) (nv cv:Nat) (V:List (List aj)) (w:World) (hV:cX lo w a nv cv V) (ce:nv≤100) (hS:∀B ∈ V,B.length≤100∧∀r ∈ B,1≤r.1.length∧r.1.length≤10000) :
 Calls Tryz.prog 120 #[.slice a nv cv] w fun e w'=>∃G c,e=.returned (sL G nv c)∧ep w.heap.size w' G nv c V∧Bl w w':=by
 have bl:Eq (V.length=nv):=hV.length;have HV:=bT hV;have HS:=bT hS;clear hV hS;obtain ⟨i0,hi,bH,bG,bP⟩:=info_parts Tryz.infoEnt;obtain ⟨j0,hj,bi,bI,bn⟩:=info_parts Tryz.infoRun;obtain ⟨l0,hl,bz,bo,a0⟩:=info_parts Tryz.infoRunL;have b3:Eq (ep w.heap.size (w.alloc (.cells #[] 61)) w.heap.size 0 0 (V.take 0)):=by
  have:=F6 (base:=w.heap.size) (e:=61) (size:=1) w #[] 0 (Fv _) (by simp) (by simp);exact ⟨by simp,_,this,(fun i B hB=>by simp at hB),fun i j gi ni di gj nj dj _ hi _=>by simp at hi⟩
 have aS:Bl w (w.alloc (.cells #[] 61)):=bZ;go_enter Tryz.func120,Tryz.ntmps120
 go_wp2;go_loopw [3,4] (fun o iv wr=>∃(i G c:Nat),i≤nv∧iv=iT i∧o=sL G i c∧ep w.heap.size wr G i c (V.take i)∧Bl w wr) (fun _ iv _=>nv - (intOf iv).toNat)
 case atStart=>exact ⟨0,_,0,FB _,rfl,rfl,b3.o,aS⟩
 case round =>
  clear b3 aS;obtain ⟨i,G,c0,cf,rfl,rfl,b9,Z⟩:=hrel;have Y:Eq (ep w.heap.size wr G i c0 (V.take i)):=b9;have F:Eq (Bl w wr):=Z;clear b9;by_cases bA:i<nv
  · have b2:(i:Int)<(nv:Int):=by omega
    obtain ⟨b,ax,rfl,b6⟩:=HV.o.form (by omega);obtain ⟨B,aB,nB,cB,hB,gB,ae⟩:=HV.o.level (Below.refl _ w) i bA;have bs:Eq (V[i]?=some B):=hB;have b7:Eq (B.length≤100∧∀r ∈ B,1≤r.1.length∧r.1.length≤10000):=HS.o B (Fw hB);have a9:Eq (B.length=nB):=ae.length;have b5:Eq (az lo w aB nB cB B):=ae;have bC:Eq (w.cell? ⟨b,ax+i,none⟩=some (.slice aB nB cB)):=gB;have cg:nB≤100:=by have:=b7.o.1;have:=a9.o;omega
    clear hB gB ae Z;go_upto_region 6 with fail
    obtain ⟨f,D⟩:=aG wr.heap.size;obtain ⟨wq,Q⟩:=aG (wr.alloc (.cells #[] 63));have kq:Bl wr wq:=by rw [Q];exact bZ
    have aI:Eq (bw f wq f 0 0 (B.take 0)):=by
     have:=F6 (base:=wr.heap.size) (e:=63) (size:=2) wr #[] 0 (Fv _) (by simp) (by simp);rw [Q,D];exact ⟨by simp,fun p hp=>by simp at hp,_,this,fun i B hB=>by simp at hB⟩
    have au:Eq (Below f wr wq):=by rw [D];exact kq
    have u:Eq (w.heap.size≤f∧f=wr.heap.size):=⟨by rw [D];exact F.o.size,D⟩;rw [← Q,← D];clear Q D kq;obtain ⟨Wq,aU⟩:=aG wr;rw [← aU] at Y F au u;clear aU;go_wp2;go_loopw [5,6] (fun o kv wr=>∃(j g c:Nat),j≤nB∧kv=iT j∧o=sL g j c∧bw f wr g j c (B.take j)∧Below f Wq wr) (fun _ kv _=>nB - (intOf kv).toNat)
    case atStart=>exact ⟨0,_,0,FB _,rfl,rfl,aI.o,au.o⟩
    case round =>
     clear aI au;obtain ⟨j,g,c,ck,rfl,rfl,af,a2⟩:=hrel;have ad:Eq (bw f wr g j c (B.take j)):=af;have aF:Eq (Below f Wq wr):=a2;have ap:Eq (f≤g):=af.lt.1;have y:Bl w wr:=F.o.trans (a2.mono u.o.1);have R:Eq (f≤wr.heap.size):=by have h1:=u.o.2;have h2:=a2.size;show f≤_;omega
     have tl:=cell_later y bC.o;have zb:=u' b6 y.size;clear af a2;by_cases bD:j<nB
     · have aW:(j:Int)<(nB:Int):=by omega
       obtain ⟨rb,ro,rfl,aa⟩:=b5.o.form (by omega);obtain ⟨L,mm,s,m,d,ao,aN,r0,r1,O⟩:=b5.o.run y j bD;have bm:Eq (B[j]?=some (L,mm)):=ao;have bL:Eq ((Lit.int .i64 mm).wf=true):=aN;have hsz:=b7.o.2 _ (Fw ao);simp only at hsz;have I:Eq (L.length=m):=O.1.length;have hm:1≤m∧m≤10000:=by have:=I.o;omega
       obtain ⟨sb,so,rfl,bM⟩:=O.1.form (by omega);have aL:Eq (ah wr (some ⟨sb,so,none⟩) m d L):=O.1;have zr:=u' aa y.size;have k0:Bl wr wr.drew:=(Below.refl _ wr).drew;have a4:Eq (∀w',Bl wr w'→(fun w'=>w'.cell? ⟨b,ax+i,none⟩=some (sO rb ro nB cB)∧w'.cell? ⟨rb,ro+j*2,none⟩=some (sO sb so m d)∧w'.cell? ⟨rb,ro+j*2+1,none⟩=some (iT mm)∧b<w'.heap.size∧rb<w'.heap.size) w'):=fun w' E=>⟨cell_later E tl,cell_later E r0,cell_later E r1,u' zb E.size,u' zr E.size⟩
       have aX:Eq (∀(wb w':World),wb.grownBy w' (some g)→Bl wr wb→(fun w'=>w'.cell? ⟨b,ax+i,none⟩=some (sO rb ro nB cB)∧w'.cell? ⟨rb,ro+j*2,none⟩=some (sO sb so m d)∧w'.cell? ⟨rb,ro+j*2+1,none⟩=some (iT mm)∧b<w'.heap.size∧rb<w'.heap.size) w'):=fun wb w' hg E=>by
        have cp:=ap.o;have ca:=u.o;have Z:=F.o.size;have an:∀{x:Nat},x<w.heap.size→some x≠some g:=fun {x} hx e=>by have:=Fx e;omega
        exact ⟨hg.cell (cell_later E tl) (an b6),hg.cell (cell_later E r0) (an aa),hg.cell (cell_later E r1) (an aa),u' zb (FK E.size hg.size),u' zr (FK E.size hg.size)⟩
       clear ao aN O hsz bM;go_wp2_with fail
       clear tl r0 r1 zr zb;refine eJ a4 k0 fun J=>?_
       generalize wr.drew=wd at k0 J ⊢;refine aP 0 1 J ?_;refine aP 2 8 J ?_;refine aP 11 8 J ?_;refine aQ 1 fun K hK=>?_
       go_simp;have aR:Bl wd (wd.alloc (.cells #[] 50)):=bZ;have oa:=bV wd wr.heap.size k0.size;have N:=k0.trans (aR.mono k0.size);have aq:wr.heap.size≤wd.heap.size:=k0.size;generalize wd.heap.size=ga at oa aq ⊢;generalize wd.alloc (.cells #[] 50)=wa at oa N ⊢;clear aR;refine hK.o _ _ (a4.o _ N) fun J=>?_
       (try go_frame);refine aQ 10 fun K hK=>?_
       refine aw rfl (.tmp 25) (.tmp 33) 28 rfl wr.heap.size 50 i0 _ 5 56 Tryz.underlying28 hi bH bG bP rfl (Ga 4) _ _ _ rfl oa.owns ⟨sb,so,none⟩ m d (aC L) rfl (by rw [aV,I.o]) (jq (aL.o.keep N)) (aO _) ?_ ?_ ?_ ?_
       · unfold maxLen;omega
       · omega
       · exact N.size
       intro v1 w1 av aM aZ;obtain ⟨e1,d1,rfl⟩:=aH av aZ;have a6:wa.grownBy w1 (some ga):=aM;have k1:Bl wr w1:=N.grown a6 N.size (fun k e=>by cases e;exact aq);have o1:ag w1 wr.heap.size e1 m d1 L:=⟨by have h1:=av;rw [FG] at h1;simpa [aC] using h1,I.o,aL.o.ents⟩;rw [FG];clear av aM aZ a6 oa aq N;refine hK.o _ _ (a4.o _ k1) fun J=>?_
       (try go_frame);refine aP 19 1 J ?_;refine aQ 20 fun K hK=>?_
       go_simp;have ak:Bl w1 (w1.alloc (.cells #[sL e1 m d1,iT mm] 63)):=bZ;have kb:=k1.trans (ak.mono k1.size);have ob:=o1.below ak;have nw:=bW w1 (sL e1 m d1) (iT mm) 63;generalize w1.heap.size=gb at nw ⊢;generalize w1.alloc (.cells #[sL e1 m d1,iT mm] 63)=wb at kb ob nw ⊢;clear ak;refine hK.o _ _ (a4.o _ kb) fun J=>?_
       (try go_frame);refine aQ 21 fun K hK=>?_
       obtain ⟨hl2,aJ,cj,ar,a0⟩:=ad.o.below kb;refine aw rfl (.tmp 24) (.tmp 44) 61 rfl f 63 j0 _ 2 32 Tryz.underlying61 hj bi bI bn rfl (Ga 1) _ _ _ rfl ar ⟨gb,0,none⟩ 1 1 [sL e1 m d1,iT mm] rfl rfl nw (by simp [Value.oneCell']) ?_ ?_ ?_ ?_
       · unfold maxLen;omega
       · omega
       · have h1:=kb.size;have h2:=R.o;omega
       intro v2 w2 am C b8;obtain ⟨g2,c2,rfl⟩:=aH am b8;have C:wb.grownBy w2 (some g):=C;have b4:=ia (L:=L) hl2 aJ ar a0 (by rw [I.o];exact ob.mono R.o) bL.o C (by rw [I.o];exact am);have k2:=(aF.o.trans (kb.mono R.o)).grown C (FK R.o kb.size) (fun k e=>by cases e;exact ap.o);refine hK.o _ _ (aX.o _ w2 C kb) fun J=>?_
       (try go_frame);refine aP 22 1 J ?_;refine dN ?_;have bR:Eq (bw f w2 g2 (j+1) c2 (B.take (j+1))):=by rw [FU,bm.o];exact b4
       have bS:Eq (Below f Wq w2):=k2;clear J b4 k2 am C b8 hl2 aJ ar a0 kb ob nw k1 o1 k0;go_wp2;go_roundw
       case rel=>exact ⟨j+1,g2,c2,by omega,by go_num,rfl,bR.o,bS.o⟩
       case measure=>simp [intOf];omega
     · have aW:¬(j:Int)<(nB:Int):=by omega
       obtain rfl:j=nB:=by omega
       have kx:Bl Wq wr:=by have h1:=aF.o;rw [u.o.2] at h1;exact h1
       obtain ⟨q1,xs,p2,p3,p4⟩:=Y.o;have aY:Eq (∀(W gi ni di:Nat),xs[W]?=some (sL gi ni di)→gi≠g):=fun W gi ni di hx=>by
        have cd:=(E'.1 hx).1;have cc:=p2.1;obtain ⟨B',bq⟩:∃B',(V.take i)[W]?=some B':=⟨_,j' (by rw [q1];omega)⟩;obtain ⟨g',d',a1,a3⟩:=p3 W B' bq;rw [hx] at a1;cases a1;have h1:=a3.lt.2;have h2:=ap.o;have h3:=u.o.2;omega
       have bu:Eq (bw w.heap.size wr g j c B):=by
        have h1:=ad.o.mono u.o.1;rw [FH (by rw [a9.o];omega)] at h1;exact h1
       have aE:Eq (Bl w wr):=y;have wi:IntKind.i64.wrap ((i:Int)+1)=((i+1:Nat):Int):=by rw [FQ];unfold wrap64;omega
       clear Y ad;have bO:Eq (vM xs):=p4;have N:Bl wr (wr.alloc (.cells #[sL g j c] 61)):=bZ;have A:=kx.trans (N.mono kx.size);have q2:=p2.kept (row:=none) ⟨A.os,A.tape,A.output,A.size,fun k hk _=>A.block k hk⟩ (.inr (by simp [Value.ownBlock]));have q3:∀(W:Nat) (B:List aj),(V.take i)[W]?=some B→∃e d,xs[W]?=some (sL e B.length d)∧bw w.heap.size (wr.alloc (.cells #[sL g j c] 61)) e B.length d B:=fun W B hB=>by obtain ⟨g',d',a1,a3⟩:=p3 W B hB;exact ⟨g',d',a1,a3.below A⟩
       clear p2 p3 p4 kx A;have HQ:Eq (_∧_):=⟨q2,q3⟩;have cm:=y.size;clear y;go_wp2_with (at_builtin;refine wpList_append_own _ rfl _ _ 29 rfl w.heap.size 61 l0 _ 1 24 Tryz.underlying29 hl bz bo a0 rfl (by decide) _ _ _ rfl HQ.o.1 ⟨wr.heap.size,0,none⟩ 1 1 [sL g j c] rfl rfl (ew _ _ _) (by simp [Value.oneCell']) (by unfold maxLen;omega) (by omega) (by simp;omega) ?_;intro v2 w2 H U ai;obtain ⟨g2,c2,rfl⟩:=aH H ai)
       go_roundw
       case rel =>
        have b0:(wr.alloc (.cells #[sL g j c] 61)).grownBy w2 (some G):=U;have b1:=a9.o;have al:=xd (B:=B) q1 HQ.o.1 HQ.o.2 (by rw [b1];exact bu.o.below N) b0 (by rw [b1];exact H) bO.o aY.o;refine ⟨i+1,g2,c2,by omega,by go_num,rfl,by rw [FU,bs.o];exact al,?_⟩;exact (aE.o.alloc aE.o.size _).grown b0 (by simp;omega) (fun k e=>by cases e;exact (HQ.o.1.lt G rfl).1)
       case measure=>simp [intOf];omega
  · have b2:¬(i:Int)<(nv:Int):=by omega
    obtain rfl:i=nv:=by omega
    have bJ:Eq (ep w.heap.size wr G i c0 V):=by
     have:=Y.o;rw [FH (by rw [bl.o];omega)] at this;exact this
    clear Z;go_wp2;go_ret;exact ⟨G,c0,rfl,bJ.o,F.o⟩
structure aE (w:World) (b:Nat) (u0 u1 u2 u3:Value):Prop where
 c0:w.cell? ⟨b,0,none⟩=some u0
 c1:w.cell? ⟨b,1,none⟩=some u1
 c2:w.cell? ⟨b,2,none⟩=some u2
 c3:w.cell? ⟨b,3,none⟩=some u3
 fz:∀o,w.frozen? ⟨b,o,none⟩=false
theorem aE.lt (h:aE w b u0 u1 u2 u3):b<w.heap.size:=Fu w _ h.c0
theorem aE.all(h:aE w b u0 u1 u2 u3):w.cell? ⟨b,0,none⟩=some u0∧w.cell? ⟨b,1,none⟩=some u1∧w.cell? ⟨b,2,none⟩=some u2∧w.cell? ⟨b,3,none⟩=some u3∧(∀o,w.frozen? ⟨b,o,none⟩=false)∧b<w.heap.size:=⟨h.c0,h.c1,h.c2,h.c3,h.fz,h.lt⟩
theorem aE.new (w:World) (t:TypeId) (u0 u1 u2 u3:Value):aE (w.alloc (.cells #[u0,u1,u2,u3] t)) w.heap.size u0 u1 u2 u3:=⟨by simp,by simp,by simp,by simp,fun o=>by simp⟩
theorem aE.below {B:Nat} (h:aE w b u0 u1 u2 u3) (hb:Below B w w') (hB:b<B):aE w' b u0 u1 u2 u3 :=
 ⟨(hb.cell (p:=⟨b,0,none⟩) hB).trans h.c0,(hb.cell (p:=⟨b,1,none⟩) hB).trans h.c1,(hb.cell (p:=⟨b,2,none⟩) hB).trans h.c2,(hb.cell (p:=⟨b,3,none⟩) hB).trans h.c3,fun o=>(hb.frozen (p:=⟨b,o,none⟩) hB).trans (h.fz o)⟩
theorem aE.keep (h:aE w b u0 u1 u2 u3) (hb:Bl w w'):aE w' b u0 u1 u2 u3:=h.below hb h.lt
theorem aE.alloc (h:aE w b u0 u1 u2 u3) (o:Obj):aE (w.alloc o) b u0 u1 u2 u3:=h.keep bZ
theorem au {b' f:Nat} (x:Value) (h:¬(b=b'∧o=f)):(w.setCell ⟨b',f,none⟩ x).cell? ⟨b,o,none⟩=w.cell? ⟨b,o,none⟩ :=
 Ft _ _ _ _ (fun e=>h (by cases e;exact ⟨rfl,rfl⟩))
theorem aE.other (h:aE w b u0 u1 u2 u3) {b' o:Nat} (hp:b'≠b) (x:Value):aE (w.setCell ⟨b',o,none⟩ x) b u0 u1 u2 u3 :=
 ⟨(au x (fun e=>hp e.1.symm)).trans h.c0,(au x (fun e=>hp e.1.symm)).trans h.c1,(au x (fun e=>hp e.1.symm)).trans h.c2,(au x (fun e=>hp e.1.symm)).trans h.c3,fun o=>by rw [FS];exact h.fz o⟩
theorem aE.set0 (h:aE w b u0 u1 u2 u3) (x:Value):aE (w.setCell ⟨b,0,none⟩ x) b x u1 u2 u3 :=
 ⟨FD _ _ _ (by rw [h.c0];rfl),(au x (by simp)).trans h.c1,(au x (by simp)).trans h.c2,(au x (by simp)).trans h.c3,fun o=>by rw [FS];exact h.fz o⟩
theorem aE.set1 (h:aE w b u0 u1 u2 u3) (x:Value):aE (w.setCell ⟨b,1,none⟩ x) b u0 x u2 u3 :=
 ⟨(au x (by simp)).trans h.c0,FD _ _ _ (by rw [h.c1];rfl),(au x (by simp)).trans h.c2,(au x (by simp)).trans h.c3,fun o=>by rw [FS];exact h.fz o⟩
theorem aE.set2 (h:aE w b u0 u1 u2 u3) (x:Value):aE (w.setCell ⟨b,2,none⟩ x) b u0 u1 x u3 :=
 ⟨(au x (by simp)).trans h.c0,(au x (by simp)).trans h.c1,FD _ _ _ (by rw [h.c2];rfl),(au x (by simp)).trans h.c3,fun o=>by rw [FS];exact h.fz o⟩
theorem aE.set3 (h:aE w b u0 u1 u2 u3) (x:Value):aE (w.setCell ⟨b,3,none⟩ x) b u0 u1 u2 x :=
 ⟨(au x (by simp)).trans h.c0,(au x (by simp)).trans h.c1,(au x (by simp)).trans h.c2,FD _ _ _ (by rw [h.c3];rfl),fun o=>by rw [FS];exact h.fz o⟩
theorem dO {m:Nat} (h:w.ownsRow base T size (sL g m c) n xs) (hb:Bl w w'):w'.ownsRow base T size (sL g m c) n xs:=h.kept (row:=none) ⟨hb.os,hb.tape,hb.output,hb.size,fun k hk _=>hb.block k hk⟩ (.inr (by simp [Value.ownBlock]))
theorem cH {m:Nat} (h:w.ownsRow base T size (sL g m c) n xs) (h':w.ownsRow base' T' size' (sL g' m' c') n' xs') (r:T≠T') (hg:w.grownBy w' (some g')):w'.ownsRow base T size (sL g m c) n xs:=by
 refine h.kept hg (.inr fun e=>?_);have f:g=g':=by simpa [Value.ownBlock] using e
 subst f;obtain ⟨_,k1⟩:=aS h;obtain ⟨_,k2⟩:=aS h';exact r (k1.kind k2)
theorem dP (h:ag w base g n c L) (h':w.ownsRow base' T' size' (sL g' m' c') n' xs') (f:50≠T') (hg:w.grownBy w' (some g')):ag w' base g n c L:=⟨cH h.owns h' f hg,h.len,h.ents⟩
theorem ie (h:ep base w g n c V) (h':w.ownsRow base' T' size' (sL g' m' c') n' xs') (t0:T'≠61) (f:T'≠63) (m:T'≠50) (hg:w.grownBy w' (some g')):ep base w' g n c V:=by
 obtain ⟨_,k⟩:=aS h';exact h.grown k t0 f m hg
theorem zR {s:Nat} (h:b6 s w (some ⟨b,o,none⟩) n c S):∀j u,(S.map iT)[j]?=some u→w.cell? ((⟨b,o,none⟩:Addr).add j)=some u:=by
 intro j u m;rw [FO];rw [Hs] at m;cases hx:S[j]? with
 | none=>rw [hx] at m;cases m
 | some z =>
  rw [hx] at m;cases m;have r:j<n:=by rw [← h.length];exact (E'.1 hx).1
  obtain ⟨y,f,_,x⟩:=h.num (Below.refl _ w) j r;rw [hx] at f;cases f;exact x
structure cU (base:Nat) (w:World) (g1 nm c1 G nv c g3 ns c3:Nat) (M:List ae) (V:List (List aj)) (S:List Int):Prop where
 mem:ag w base g1 nm c1 M
 levs:ep base w G nv c V
 slen:S.length=ns
 swf:∀z ∈ S,(Lit.int .i64 z).wf=true
 sn:w.ownsRow base 3 1 (sL g3 ns c3) ns (S.map iT)
theorem cU.below (h:cU base w g1 nm c1 G nv c g3 ns c3 M V S) (hb:Bl w w'):cU base w' g1 nm c1 G nv c g3 ns c3 M V S:=⟨h.mem.below hb,h.levs.below hb,h.slen,h.swf,dO h.sn hb⟩
theorem cU.mono (h:cU base w g1 nm c1 G nv c g3 ns c3 M V S) (hb:base'≤base):cU base' w g1 nm c1 G nv c g3 ns c3 M V S:=⟨h.mem.mono hb,h.levs.mono hb,h.slen,h.swf,eV h.sn hb⟩
theorem bw.low {B:List aj} (h:bw base w g n c B) (m:X<base) (hg:w.grownBy w' (some X)):bw base w' g n c B:=by
 obtain ⟨h1,h2,xs,h3,h4⟩:=h;refine ⟨h1,h2,xs,h3.kept hg (.inr fun e=>?_),fun i p hp=>?_⟩
 · have f:g=X:=by simpa [Value.ownBlock] using e
   have:=(h3.lt g rfl).1;omega
 · obtain ⟨e,d,a1,a2,a3⟩:=h4 i p hp;exact ⟨e,d,a1,a2,a3.grown hg (fun f=>by have h5:e=X:=Fx f;have:=a3.lt.1;omega)⟩
theorem cU.low (h:cU base w g1 nm c1 G nv c g3 ns c3 M V S) (f:X<base) (hg:w.grownBy w' (some X)):cU base w' g1 nm c1 G nv c g3 ns c3 M V S:=by
 have hk:∀{T size n m g c:Nat} {xs:List Value},w.ownsRow base T size (sL g m c) n xs→w'.ownsRow base T size (sL g m c) n xs:=fun {T size n m g c xs} h3=>h3.kept hg (.inr fun e=>by
  have r:g=X:=by simpa [Value.ownBlock] using e
  have:=(h3.lt g rfl).1;omega)
 obtain ⟨h1,xs,h3,h4,h5⟩:=h.levs;exact ⟨⟨hk h.mem.owns,h.mem.len,h.mem.ents⟩,⟨h1,xs,hk h3,(fun i p hp=>by obtain ⟨e,d,a1,a3⟩:=h4 i p hp;exact ⟨e,d,a1,a3.low f hg⟩),h5⟩,h.slen,h.swf,hk h.sn⟩
theorem cJ (w:World) (g o:Nat) (u:Value):w.grownBy (w.setCell ⟨g,o,none⟩ u) (some g):=⟨rfl,rfl,rfl,by simp [World.setCell],fun k _ hk=>Below.heap_setCell _ _ _ _ (fun e=>hk (by rw [e]))⟩
theorem cU.four (h:cU base w g1 nm c1 G nv c g3 ns c3 M V S) (f:X<base) (u0 u1 u2 u3:Value):cU base ((((w.setCell ⟨X,0,none⟩ u0).setCell ⟨X,1,none⟩ u1).setCell ⟨X,2,none⟩ u2).setCell ⟨X,3,none⟩ u3) g1 nm c1 G nv c g3 ns c3 M V S :=
 (((h.low f (cJ _ _ _ _)).low f (cJ _ _ _ _)).low f (cJ _ _ _ _)).low f (cJ _ _ _ _)
theorem cU.treeIn (h:cU base w g1 nm c1 G nv c g3 ns c3 M V S):cj base w (pT g1) nm c1 (pT G) nv c (pT g3) ns c3 M V S:=by
 have f:=cZ h.sn;have hl:=h.slen;refine ⟨⟨h.mem.entsAt,fun x e _=>by cases e;exact h.mem.lt.1⟩,h.levs.levelsIn,⟨h.slen,f.1,f.2,h.swf,(fun e=>by cases e),?_,?_⟩⟩
 · rintro x e _;cases e;exact ⟨(h.sn.lt g3 rfl).2,rfl,(h.sn.lt g3 rfl).1⟩
 · rintro x e i hi;cases e;simp only [FG];have h1:=h.sn.cellAt i (by omega);rw [Hs,j' hi] at h1;exact h1
end Go.Proofs.YtpobkmjicbobdaaGreat
