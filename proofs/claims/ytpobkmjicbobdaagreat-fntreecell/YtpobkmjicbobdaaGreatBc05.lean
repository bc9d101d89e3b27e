/- Walks. -/
import Derived.Test.YtpobkmjicbobdaaGreatBc04
namespace Go.Proofs.YtpobkmjicbobdaaGreat
set_option maxRecDepth 100000
set_option maxHeartbeats 40000000
open Go.RowKit
variable {L X:List ae} {e:ae} {i j k:Nat} {key:ByteArray} {q seq:Int} {r:aj}
theorem kO (b g n c:Nat) (L:List ae) (w:World) (h:ah w (some ⟨b,g,none⟩) n c L) (hn:1≤n) :
 Calls Tryz.prog 126 #[sO b g n c] w fun r w'=>r=.returned (.agg #[.string (bn L),.string (aU L)])∧Bl w w':=by
 have C:=h.length;have hr:=h.room;have H:=h.big;unfold maxLen at H;obtain ⟨A,u,y⟩:=mn (L:=L) (by omega);obtain ⟨B,f,m⟩:=iR (L:=L) (by omega);rw [C] at f;rw [y,m];have x:=(h.lies _ rfl (by omega)).1;simp only at x;obtain ⟨s,q,d,t,nn,hg,_,J,_⟩:=h.ent (Below.refl _ w) x 0 (by omega);rw [u] at hg;cases hg;obtain ⟨O,Z,d',U,F,D,_,N,_⟩:=h.ent (Below.refl _ w) x (n - 1) (by omega);rw [f] at D;cases D;rw [G4,Gv] at J;have a3:(0:Int)<(n:Int):=by omega
 have W:0<n:=hn;have a2:(1:Int)≤(n:Int):=by omega
 have R:(0:Int)≤(n:Int) - 1:=by omega
 have Y:(n:Int) - 1<(n:Int):=by omega
 have T:((n:Int) - 1).toNat=n - 1:=by omega
 have wj:IntKind.i64.wrap ((n:Int) - 1)=(n:Int) - 1:=by rw [FQ];unfold wrap64;omega
 clear h y m u f C;generalize u:(s,q,d,t,nn)=A;generalize f:(O,Z,d',U,F)=B;have e1:s=A.1:=by rw [← u]
 have e2:O=B.1:=by rw [← f]
 rw [e1] at J;rw [e2] at N;clear e1 e2 u f;have k0:Bl w (w.alloc (.cells #[.string ⟨#[]⟩,.string ⟨#[]⟩] 135)).drew:=bZ.drew;have E:Eq (∀w',Bl w w'→w.heap.size<w'.heap.size→(w'.cell? ⟨b,g,none⟩=some (.string A.1)∧w'.cell? ⟨b,g+(n - 1)*5,none⟩=some (.string B.1)∧b<w'.heap.size∧w.heap.size<w'.heap.size)):=fun w' I z=>⟨cell_later I J,cell_later I N,u' x I.size,z⟩
 go_enter Tryz.func126,Tryz.ntmps126
 go_wp2_with fail
 refine wp_region_held_drew (S:=(fun w'=>w'.cell? ⟨b,g,none⟩=some (.string A.1)∧w'.cell? ⟨b,g+(n - 1)*5,none⟩=some (.string B.1)∧b<w'.heap.size∧w.heap.size<w'.heap.size)) (by kernel_rfl) (E.o _ k0 (by simp [World.drew])) (fun Q=>?_);refine aP 0 12 Q ?_;refine aQ 12 fun K hK=>?_
 go_simp;go_wp2_with fail
 have k1:Bl w (w.alloc (.cells #[.string A.1,.string B.1] 135)).drew:=bZ.drew;refine hK.o _ _ (E.o _ k1 (by simp [World.drew])) fun Q=>?_
 (try go_frame);refine dN ?_;go_wp2;exact bodyPost_ret (v:=.agg #[.string A.1,.string B.1]) (by simp [results,Tryz.results126,go_sem]) rfl ⟨rfl,k1⟩
theorem nh (a b c d:ByteArray) (w:World) :
 Calls Tryz.prog 186 #[.agg #[.string a,.string b],.agg #[.string c,.string d]] w fun e w'=>e=.returned (.bool (Op.bytesLess b.toList c.toList))∧Bl w w':=by
 have k2:∀g f,Bl w ((w.alloc g).alloc f):=fun g f=>((Below.refl _ _).alloc (Fv _) g).alloc (by simp) f
 go_enter Tryz.func186,Tryz.ntmps186
 go_wp2;go_ret;exact ⟨rfl,k2 _ _⟩
def li (B:List aj) (i:Nat):Bool:=match B[i]? with | none=>true | some r=>iE B r i
def bu (B:List aj):Bool:=(List.range B.length).all (li B)
theorem k9 {B:List aj} {p:aj} (h:B[i]?=some r) (hi:1≤i) (hp:B[i - 1]?=some p):li B i=lQ p.1 r.1:=by
 obtain ⟨j,rfl⟩:∃j,i=j+1:=⟨i - 1,by omega⟩;simp only [GG] at hp;unfold li iE;simp only [h,hp]
theorem CZ {B:List aj} (hi:i<B.length) (h:li B i=false):bu B=false:=by
 rw [GU];intro h1;unfold bu at h1;rw [(FZ.1 h1) i (Gh.2 hi)] at h;cases h
theorem AG {B:List aj} (h:∀j,1≤j→j<k→li B j=true) (hk:B.length≤k):bu B=true:=by
 unfold bu;rw [FZ];intro j b;have b:=Gh.1 b;by_cases e:j=0
 · subst e;unfold li iE;cases B[0]? <;> rfl
 · exact h j (by omega) (by omega)
theorem xS {B:List aj} (h:∀j,1≤j→j<k→li B j=true) (hk:li B k=true):∀j,1≤j→j<k+1→li B j=true:=by
 intro j h1 h2;by_cases e:j=k
 · subst e;exact hk
 · exact h j h1 (by omega)
theorem sy (lo:Nat) (a:Option Addr) (n c:Nat) (B:List aj) (w:World) (h:az lo w a n c B) (N:∀r ∈ B,1≤r.1.length) :
 Calls Tryz.prog 234 #[.slice a n c] w fun e w'=>e=.returned (.bool (bu B))∧Bl w w':=by
 have W:Eq (B.length=n):=h.length;have I:=bT N;have hr:=h.room;have a6:=h.big;unfold maxLen at a6;have H:=bT h;clear h N;go_enter Tryz.func234,Tryz.ntmps234
 go_wp2;go_loopw [3] (fun Z wr=>∃i:Nat,1≤i∧i≤n+1∧Z=iT i∧Bl w wr∧(∀j,1≤j→j<i→li B j=true)) (fun Z _=>n - (intOf Z).toNat)
 case atStart=>exact ⟨1,Fv _,by omega,rfl,Below.refl _ _,fun j h1 h2=>absurd h2 (by omega)⟩
 case round =>
  obtain ⟨i,Q,hi,rfl,hb,hw⟩:=hrel;have HW:Eq (∀j,1≤j→j<i→li B j=true):=hw;have U:Eq (Bl w wr):=hb;clear hw;by_cases T:i<n
  · have R:(i:Int)<(n:Int):=by omega
    have aa:Eq (i<B.length):=by show i<B.length;rw [W.o];exact T
    obtain ⟨b,Y,rfl,a9⟩:=H.o.form (by omega);obtain ⟨L,m,s,ns,cs,hg,_,g0,_,hE⟩:=H.o.run hb i T;obtain ⟨y,mp,sp,np,cp,hp,_,p0,_,C⟩:=H.o.run hb (i - 1) (by omega);have l1:=I.o _ (Fw hg);have l2:=I.o _ (Fw hp);have ae:=hE.1.length;have a3:=C.1.length;simp only at l1 l2;obtain ⟨bs,os,rfl,_⟩:=hE.1.form (by omega);obtain ⟨bp,op,rfl,_⟩:=C.1.form (by omega);have D:Eq (li B i=Op.bytesLess (aU y).toList (bn L).toList):=k9 hg Q hp;have zb:=u' a9 hb.size;have J:Eq (∀w',Bl wr w'→Calls Tryz.prog 126 #[sO bp op np cp] w' fun r t=>r=.returned (.agg #[.string (bn y),.string (aU y)])∧Bl w' t):=fun w' k=>kO bp op np cp y w' (C.1.keep k) (by omega)
    have F:Eq (∀w',Bl wr w'→Calls Tryz.prog 126 #[sO bs os ns cs] w' fun r t=>r=.returned (.agg #[.string (bn L),.string (aU L)])∧Bl w' t):=fun w' k=>kO bs os ns cs L w' (hE.1.keep k) (by omega)
    have E:Eq (∀w',Bl wr w'→Calls Tryz.prog 186 #[.agg #[.string (bn y),.string (aU y)],.agg #[.string (bn L),.string (aU L)]] w' fun e t=>e=.returned (.bool (Op.bytesLess (aU y).toList (bn L).toList))∧Bl w' t):=fun w' _=>nh _ _ _ _ w'
    have d:Eq (∀w',Bl wr w'→(w'.cell? ⟨b,Y+i*2,none⟩=some (sO bs os ns cs)∧w'.cell? ⟨b,Y+(i - 1)*2,none⟩=some (sO bp op np cp)∧b<w'.heap.size)):=fun w' kk=>⟨cell_later kk g0,cell_later kk p0,u' zb kk.size⟩
    have A:Bl wr wr.drew:=(Below.refl _ wr).drew;have al:(0:Int)≤(i:Int) - 1:=by omega
    have am:(i:Int) - 1<(n:Int):=by omega
    have an:(1:Int)≤(i:Int):=by omega
    have ak:((i:Int) - 1).toNat=i - 1:=by omega
    have wj:IntKind.i64.wrap ((i:Int) - 1)=(i:Int) - 1:=by rw [FQ];unfold wrap64;omega
    clear hg hp hE C l1 l2 ae a3 g0 p0 zb hb Q;generalize Op.bytesLess (aU y).toList (bn L).toList=O at D E;generalize bn y=x1,aU y=x2,bn L=x3,aU L=x4 at J F E;cases O with
    | true =>
     go_wp2_with fail
     refine eJ d A fun f=>?_
     refine aP 0 6 f ?_;refine aP 7 5 f ?_;refine aQ 6 fun K hK=>?_
     go_simp;refine (J.o _ A).mono ?_;rintro e wk1 ⟨rfl,u⟩;have k1:Bl wr wk1:=A.trans (u.mono A.size);go_wp2_with fail
     refine hK.o _ _ (d.o _ k1) fun f=>?_
     (try go_frame);refine aQ 12 fun K hK=>?_
     go_simp;refine (F.o _ k1).mono ?_;rintro e wk2 ⟨rfl,x⟩;have k2:Bl wr wk2:=k1.trans (x.mono k1.size);go_wp2_with fail
     refine hK.o _ _ (d.o _ k2) fun f=>?_
     (try go_frame);refine aQ 13 fun K hK=>?_
     go_simp;refine (E.o _ k2).mono ?_;rintro e wk3 ⟨rfl,g⟩;have k3:Bl wr wk3:=k2.trans (g.mono k2.size);go_wp2_with fail
     refine hK.o _ _ (d.o _ k3) fun f=>?_
     (try go_frame);refine aP 14 1 f ?_;refine dN ?_;have KY:Eq (Bl w wk3):=U.o.trans (k3.mono U.o.size);clear A k1 k2 k3 u x g d J F E f;go_wp2;go_roundw
     case rel=>exact ⟨i+1,by omega,by omega,by go_num,KY.o,xS HW.o D.o⟩
     case measure=>simp [intOf];omega
    | false =>
     go_wp2_with fail
     refine eJ d A fun f=>?_
     refine aP 0 6 f ?_;refine aP 7 5 f ?_;refine aQ 6 fun K hK=>?_
     go_simp;refine (J.o _ A).mono ?_;rintro e wk1 ⟨rfl,u⟩;have k1:Bl wr wk1:=A.trans (u.mono A.size);go_wp2_with fail
     refine hK.o _ _ (d.o _ k1) fun f=>?_
     (try go_frame);refine aQ 12 fun K hK=>?_
     go_simp;refine (F.o _ k1).mono ?_;rintro e wk2 ⟨rfl,x⟩;have k2:Bl wr wk2:=k1.trans (x.mono k1.size);go_wp2_with fail
     refine hK.o _ _ (d.o _ k2) fun f=>?_
     (try go_frame);refine aQ 13 fun K hK=>?_
     go_simp;refine (E.o _ k2).mono ?_;rintro e wk3 ⟨rfl,g⟩;have k3:Bl wr wk3:=k2.trans (g.mono k2.size);go_wp2_with fail
     refine hK.o _ _ (d.o _ k3) fun f=>?_
     (try go_frame);refine aP 14 1 f ?_;refine dN ?_;have KY:Eq (Bl w wk3):=U.o.trans (k3.mono U.o.size);clear A k1 k2 k3 u x g d J F E f;go_wp2;go_ret;exact ⟨aq (CZ aa.o D.o).symm,KY.o⟩
  · have R:¬(i:Int)<(n:Int):=by omega
    have HC:Eq (bu B=true):=AG HW.o (by rw [W.o];omega);go_wp2;go_ret;exact ⟨aq HC.o.symm,U.o⟩
def eT (B:List aj):Bool:=B.any (fun r=>!cF r.1 r.2)
theorem DM {B:List aj} (h:B[i]?=some r) (hr:cF r.1 r.2=false):eT B=true:=by
 unfold eT;rw [List.any_eq_true];exact ⟨r,Fw h,by rw [hr];rfl⟩
theorem ED {B:List aj} (h:∀j r,j<k→B[j]?=some r→cF r.1 r.2=true) (hk:B.length≤k):eT B=false:=by
 unfold eT;rw [Hc];intro r hr;obtain ⟨j,b,e⟩:=F7 hr;rw [h j r (by omega) (by rw [j' b,e])];simp
theorem mA {B:List aj} (h:eT B=false):∀r ∈ B,cF r.1 r.2=true:=by
 intro r hr;unfold eT at h;rw [Hc] at h;simpa using h r hr
theorem BZ (Q:Nat) (a:Option Addr) (n c:Nat) (B:List aj) (w:World) (h:az Q w a n c B) :
 Calls Tryz.prog 251 #[.slice a n c,.func (.func 233) #[] #[]] w fun e w'=>(∃z:Int,e=.returned (iT z)∧decide (0≤z)=eT B)∧Bl w w':=by
 have A:Eq (B.length=n):=h.length;have hr:=h.room;have t:=h.big;unfold maxLen at t;have H:=bT h;clear h;go_enter Tryz.func251,Tryz.ntmps251
 go_wp2;go_loopw [8] (fun g wr=>∃i:Nat,i≤n∧g=iT i∧Bl w wr∧(∀j r,j<i→B[j]?=some r→cF r.1 r.2=true)) (fun g _=>n - (intOf g).toNat)
 case atStart=>exact ⟨0,FB _,rfl,Below.refl _ _,fun j r E=>absurd E (Gy _)⟩
 case round =>
  obtain ⟨i,hi,rfl,hb,hw⟩:=hrel;have I:Eq (∀j r,j<i→B[j]?=some r→cF r.1 r.2=true):=hw;have y:Eq (Bl w wr):=hb;clear hw;by_cases u:i<n
  · have d:(i:Int)<(n:Int):=by omega
    obtain ⟨b,R,rfl,x⟩:=H.o.form (by omega);obtain ⟨L,m,s,J,cs,hg,_,Y,U,hE⟩:=H.o.run hb i u;have F:Eq (B[i]?=some (L,m)):=hg;have N:Eq (ah wr s J cs L):=hE.1;have W:=u' x hb.size;clear hg hb hE;obtain ⟨O,hO⟩:=aG (cF L m);go_wp2_with fail
    refine (zU m s J cs L wr N.o).mono ?_;rw [← hO];rintro e K ⟨rfl,f⟩;have D:Eq (Bl w K):=y.o.trans (f.mono y.o.size);clear f;cases hOv:O with
    | false =>
     have C:Eq (eT B=true):=DM F.o (by show cF L m=false;rw [← hO,hOv]);go_wp2;go_ret;exact ⟨⟨(i:Int),rfl,by rw [C.o];simp⟩,D.o⟩
    | true =>
     have C:Eq (∀j r,j<i+1→B[j]?=some r→cF r.1 r.2=true):=by
      intro j r E hr;by_cases e:j=i
      · subst e;rw [F.o] at hr;cases hr;show cF L m=true;rw [← hO,hOv]
      · exact I.o j r (by omega) hr
     go_wp2;go_roundw
     case rel=>exact ⟨i+1,by omega,by go_num,D.o,C.o⟩
     case measure=>simp [intOf];omega
  · have d:¬(i:Int)<(n:Int):=by omega
    have T:Eq (eT B=false):=ED I.o (by rw [A.o];omega);go_wp2;go_ret;exact ⟨⟨-1,rfl,by rw [T.o];rfl⟩,y.o⟩
theorem jT (d:Nat) (a:Option Addr) (n c:Nat) (B:List aj) (w:World) (h:az d w a n c B) :
 Calls Tryz.prog 232 #[.slice a n c,.func (.func 233) #[] #[]] w fun e w'=>e=.returned (.bool (eT B))∧Bl w w':=by
 go_enter Tryz.func232,Tryz.ntmps232
 go_wp2_with fail
 refine (BZ d a n c B w h).mono ?_;rintro e g ⟨⟨z,rfl,hz⟩,b⟩;have f:Eq (decide (0≤z)=eT B):=hz;clear hz;go_wp2;go_ret;exact ⟨aq f.o,b⟩
theorem ss (w:World):Calls Tryz.prog 231 #[iT 0] w fun e w'=>e=.returned (iT 4)∧w'=w:=by
 go_enter Tryz.func231,Tryz.ntmps231
 go_wp2;go_ret;exact ⟨rfl,rfl⟩
theorem kQ (k:Nat) (w:World) (h:1≤k):Calls Tryz.prog 231 #[iT (k:Int)] w fun e w'=>e=.returned (iT 8)∧w'=w:=by
 have h1:¬(k:Int)=0:=by omega
 have h2:¬k=0:=by omega
 go_enter Tryz.func231,Tryz.ntmps231
 go_wp2;go_ret;exact ⟨rfl,rfl⟩
def uU (B:List aj):Bool:=decide ((B.length:Int)≤4) && !eT B
def pI (B:List aj):Bool:=decide ((B.length:Int)≤8) && (!eT B && bu B)
def bH (A B C:List aj):Bool:=uU A && (pI B && pI C)
theorem Cc (w:World) (a0 a1 a2:Option Addr) (b c0 d c1 n2 c2:Nat):(Instr.index 80 (.agg #[.slice a0 b c0,.slice a1 d c1,.slice a2 n2 c2]) (iT 0)).run Tryz.prog w=.ok (.slice a0 b c0) w:=by
 simp [Instr.index,run_underlying Tryz.underlying80,asIntOf,go_sem,Tryz.isAgg61,Tryz.sizeOf61,part]
theorem Cb (w:World) (a0 a1 a2:Option Addr) (d c0 b c1 n2 c2:Nat):(Instr.index 80 (.agg #[.slice a0 d c0,.slice a1 b c1,.slice a2 n2 c2]) (iT 1)).run Tryz.prog w=.ok (.slice a1 b c1) w:=by
 simp [Instr.index,run_underlying Tryz.underlying80,asIntOf,go_sem,Tryz.isAgg61,Tryz.sizeOf61,part]
theorem Ca (w:World) (a0 a1 a2:Option Addr) (d c0 b c1 n2 c2:Nat):(Instr.index 80 (.agg #[.slice a0 d c0,.slice a1 b c1,.slice a2 n2 c2]) (iT 2)).run Tryz.prog w=.ok (.slice a2 n2 c2) w:=by
 simp [Instr.index,run_underlying Tryz.underlying80,asIntOf,go_sem,Tryz.isAgg61,Tryz.sizeOf61,part]
theorem xy (u:Nat) (q:Int) (am ak:Option Addr) (nm cm nk ck:Nat) (a0 a1 a2:Option Addr) (y c0 t c1 n2 c2:Nat) (A B C:List aj) (w:World) (h0:az u w a0 y c0 A) (h1:az u w a1 t c1 B) (h2:az u w a2 n2 c2 C) :
 Calls Tryz.prog 197 #[.agg #[iT q,.slice am nm cm,.slice a0 y c0,.slice a1 t c1,.slice a2 n2 c2,.slice ak nk ck]] w fun e w'=>e=.returned (.bool (bH A B C))∧Bl w w':=by
 have a7:=bT h0;have T:=bT h1;have R:=bT h2;have Q:Eq (A.length=y):=h0.length;have J:Eq (B.length=t):=h1.length;have K:Eq (C.length=n2):=h2.length;clear h0 h1 h2;go_enter Tryz.func197,Tryz.ntmps197
 go_upto_region 1 with fail
 obtain ⟨W,F⟩:=aG (w.alloc (.cells #[iT q,.slice am nm cm,.slice a0 y c0,.slice a1 t c1,.slice a2 n2 c2,.slice ak nk ck] 82));have kW:Bl w W:=by rw [F];exact bZ
 have x2:W.cell? ⟨w.heap.size,2,none⟩=some (.slice a0 y c0):=by rw [F];simp
 have x3:W.cell? ⟨w.heap.size,3,none⟩=some (.slice a1 t c1):=by rw [F];simp
 have x4:W.cell? ⟨w.heap.size,4,none⟩=some (.slice a2 n2 c2):=by rw [F];simp
 have zX:=Fu _ _ x2;have b:Eq (∀wr,Bl W wr→Bl w wr):=fun wr k=>kW.trans (k.mono kW.size)
 rw [← F];clear F kW;go_wp2;go_loopw [7] (fun iv wr=>∃i:Nat,i≤3∧iv=iT i∧Bl W wr∧(1≤i→uU A=true)∧(2≤i→pI B=true)∧(3≤i→pI C=true)) (fun iv _=>3 - (intOf iv).toNat)
 case atStart=>exact ⟨0,by omega,rfl,Below.refl _ _,fun h=>absurd h (by omega),fun h=>absurd h (by omega),fun h=>absurd h (by omega)⟩
 case round =>
  obtain ⟨i,hi,rfl,hb,Z,U,I⟩:=hrel;have g:Eq (Bl W wr):=hb;have x:Eq (1≤i→uU A=true):=Z;have a3:Eq (2≤i→pI B=true):=U;have a6:Eq (3≤i→pI C=true):=I;clear hb Z U I;have D:i=0∨i=1∨i=2∨i=3:=by omega
  rcases D with E | E | E | E
  · skip
    subst E;by_cases hl:(4:Int)<(y:Int)
    · have d:Eq (bH A B C=false):=by
       have h1:decide ((A.length:Int)≤4)=false:=decide_eq_false (by have:=Q.o;omega);show bH A B C=false
       unfold bH uU pI;rw [h1];simp
      go_wp2_with fail
      rw [Cc];go_wp2_with fail
      refine (ss wr).mono ?_;rintro e w' ⟨rfl,rfl⟩;go_wp2;go_ret;exact ⟨aq d.o.symm,b.o _ g.o⟩
    have Y:Eq (decide ((A.length:Int)≤4)=true):=decide_eq_true (by have:=Q.o;omega);obtain ⟨O,hO⟩:=aG (eT A);go_wp2_with fail
    rw [Cc];go_wp2_with fail
    refine (ss wr).mono ?_;rintro e w' ⟨rfl,rfl⟩;go_wp2_with fail
    refine (jT u a0 y c0 A _ (a7.o.keep (b.o _ g.o))).mono ?_;rw [← hO];rintro e N ⟨rfl,f⟩;have m:Eq (Bl W N):=g.o.trans (f.mono g.o.size);clear f;cases hOv:O with
    | true =>
     have d:Eq (bH A B C=false):=by
      have h1:eT A=true:=by rw [← hO,hOv]
      show bH A B C=false
      unfold bH uU pI;rw [h1];simp
     go_wp2;go_ret;exact ⟨aq d.o.symm,b.o _ m.o⟩
    | false =>
     have d:Eq (uU A=true):=by
      have h1:eT A=false:=by rw [← hO,hOv]
      show uU A=true
      unfold uU;rw [Y.o,h1];rfl
     go_wp2;go_roundw
     case rel=>exact ⟨1,by omega,rfl,m.o,fun _=>d.o,fun h=>absurd h (by omega),fun h=>absurd h (by omega)⟩
     case measure=>simp [intOf]
  · skip
    subst E;by_cases hl:(8:Int)<(t:Int)
    · have d:Eq (bH A B C=false):=by
       have h1:decide ((B.length:Int)≤8)=false:=decide_eq_false (by have:=J.o;omega);show bH A B C=false
       unfold bH uU pI;rw [h1];simp
      go_wp2_with fail
      rw [Cb];go_wp2_with fail
      refine (kQ 1 wr (by omega)).mono ?_;rintro e w' ⟨rfl,rfl⟩;go_wp2;go_ret;exact ⟨aq d.o.symm,b.o _ g.o⟩
    have Y:Eq (decide ((B.length:Int)≤8)=true):=decide_eq_true (by have:=J.o;omega);obtain ⟨O,hO⟩:=aG (eT B);go_wp2_with fail
    rw [Cb];go_wp2_with fail
    refine (kQ 1 wr (by omega)).mono ?_;rintro e w' ⟨rfl,rfl⟩;go_wp2_with fail
    refine (jT u a1 t c1 B _ (T.o.keep (b.o _ g.o))).mono ?_;rw [← hO];rintro e N ⟨rfl,f⟩;have m:Eq (Bl W N):=g.o.trans (f.mono g.o.size);clear f;cases hOv:O with
    | true =>
     have d:Eq (bH A B C=false):=by
      have h1:eT B=true:=by rw [← hO,hOv]
      show bH A B C=false
      unfold bH uU pI;rw [h1];simp
     go_wp2;go_ret;exact ⟨aq d.o.symm,b.o _ m.o⟩
    | false =>
     have n:Eq (eT B=false):=by show _=_;rw [← hO,hOv]
     obtain ⟨G,hG⟩:=aG (bu B);go_wp2_with fail
     refine (sy u a1 t c1 B _ (T.o.keep (b.o _ m.o)) (fun r hr=>(bF (mA n.o r hr)).1)).mono ?_;rw [← hG];rintro e w2 ⟨rfl,s⟩;have H:Eq (Bl W w2):=m.o.trans (s.mono m.o.size);clear s;cases hGv:G with
     | false =>
      have d:Eq (bH A B C=false):=by
       have h1:bu B=false:=by rw [← hG,hGv]
       show bH A B C=false
       unfold bH uU pI;rw [h1];simp
      go_wp2;go_ret;exact ⟨aq d.o.symm,b.o _ H.o⟩
     | true =>
      have d:Eq (pI B=true):=by
       have h1:bu B=true:=by rw [← hG,hGv]
       show pI B=true
       unfold pI;rw [Y.o,n.o,h1];rfl
      go_wp2;go_roundw
      case rel=>exact ⟨2,by omega,rfl,H.o,fun _=>x.o (by omega),fun _=>d.o,fun h=>absurd h (by omega)⟩
      case measure=>simp [intOf]
  · skip
    subst E;by_cases hl:(8:Int)<(n2:Int)
    · have d:Eq (bH A B C=false):=by
       have h1:decide ((C.length:Int)≤8)=false:=decide_eq_false (by have:=K.o;omega);show bH A B C=false
       unfold bH uU pI;rw [h1];simp
      go_wp2_with fail
      rw [Ca];go_wp2_with fail
      refine (kQ 2 wr (by omega)).mono ?_;rintro e w' ⟨rfl,rfl⟩;go_wp2;go_ret;exact ⟨aq d.o.symm,b.o _ g.o⟩
    have Y:Eq (decide ((C.length:Int)≤8)=true):=decide_eq_true (by have:=K.o;omega);obtain ⟨O,hO⟩:=aG (eT C);go_wp2_with fail
    rw [Ca];go_wp2_with fail
    refine (kQ 2 wr (by omega)).mono ?_;rintro e w' ⟨rfl,rfl⟩;go_wp2_with fail
    refine (jT u a2 n2 c2 C _ (R.o.keep (b.o _ g.o))).mono ?_;rw [← hO];rintro e N ⟨rfl,f⟩;have m:Eq (Bl W N):=g.o.trans (f.mono g.o.size);clear f;cases hOv:O with
    | true =>
     have d:Eq (bH A B C=false):=by
      have h1:eT C=true:=by rw [← hO,hOv]
      show bH A B C=false
      unfold bH uU pI;rw [h1];simp
     go_wp2;go_ret;exact ⟨aq d.o.symm,b.o _ m.o⟩
    | false =>
     have n:Eq (eT C=false):=by show _=_;rw [← hO,hOv]
     obtain ⟨G,hG⟩:=aG (bu C);go_wp2_with fail
     refine (sy u a2 n2 c2 C _ (R.o.keep (b.o _ m.o)) (fun r hr=>(bF (mA n.o r hr)).1)).mono ?_;rw [← hG];rintro e w2 ⟨rfl,s⟩;have H:Eq (Bl W w2):=m.o.trans (s.mono m.o.size);clear s;cases hGv:G with
     | false =>
      have d:Eq (bH A B C=false):=by
       have h1:bu C=false:=by rw [← hG,hGv]
       show bH A B C=false
       unfold bH uU pI;rw [h1];simp
      go_wp2;go_ret;exact ⟨aq d.o.symm,b.o _ H.o⟩
     | true =>
      have d:Eq (pI C=true):=by
       have h1:bu C=true:=by rw [← hG,hGv]
       show pI C=true
       unfold pI;rw [Y.o,n.o,h1];rfl
      go_wp2;go_roundw
      case rel=>exact ⟨3,by omega,rfl,H.o,fun _=>x.o (by omega),fun _=>a3.o (by omega),fun _=>d.o⟩
      case measure=>simp [intOf]
  · subst E;have HC:Eq (bH A B C=true):=by
     show bH A B C=true
     unfold bH;rw [x.o (by omega),a3.o (by omega),a6.o (by omega)];rfl
    go_wp2;go_ret;exact ⟨aq HC.o.symm,b.o _ g.o⟩
def pF (x y:ae):Prop:=x.1=y.1→y.2.1<x.2.1
theorem lC (x y:ae):(!fP x y)=true ↔ pF x y:=by
 unfold fP pF;by_cases h:x.1=y.1
 · simp [h]
 · simp [h]
def Ov (A B:List ae):Prop:=∀x ∈ A,∀y ∈ B,pF x y
theorem vI {A B:List ae}:jt A B=true ↔ Ov A B:=by
 unfold jt Ov;simp only [FZ,lC]
theorem yM {P:List (List ae)}:iX P=true ↔ P.Pairwise Ov:=by
 rw [F2];unfold iX;simp only [FZ,Gh];constructor
 · intro h i j hi d b;have:=h i hi j d;rw [decide_eq_true b,nL (j' hi) (j' d)] at this;exact vI.1 (by simpa using this)
 · intro h i hi j d;by_cases b:i<j
   · rw [decide_eq_true b,nL (j' hi) (j' d),vI.2 (h i j hi d b)];rfl
   · rw [decide_eq_false b];rfl
def dK (q:Int):List ae→Bool
 | []=>true
 | e :: L=>dK q L && (decide (1≤e.2.1) && (decide (e.2.1≤q) && L.all (fun y=>!fP e y)))
theorem kK (q:Int) (L:List ae):dK q L=true ↔ L.Pairwise pF∧∀e ∈ L,1≤e.2.1∧e.2.1≤q:=by
 induction L with
 | nil=>simp [dK]
 | cons e L b =>
  simp only [dK,FJ,b,decide_eq_true_eq,FZ,lC,FR,FF];constructor
  · rintro ⟨⟨h1,h2⟩,h3,h4,h5⟩;refine ⟨⟨h5,h1⟩,?_⟩;rintro x (rfl | hx)
    · exact ⟨h3,h4⟩
    · exact h2 x hx
  · rintro ⟨⟨h5,h1⟩,h2⟩;exact ⟨⟨h1,fun x hx=>h2 x (.inr hx)⟩,(h2 e (.inl rfl)).1,(h2 e (.inl rfl)).2,h5⟩
def oC:List ae→ByteArray→Int
 | [],_=>0
 | e :: L,k=>if e.1=k then e.2.1 else oC L k
theorem ua (e:ae) (L:List ae) (k:ByteArray):oC (e :: L) k=if e.1=k then e.2.1 else oC L k:=rfl
theorem vT {q:Int} (e:ae):∀L:List ae,dK q L=true→(oC L e.1<e.2.1 ↔ (1≤e.2.1∧∀y ∈ L,pF e y))
 | [],_=>by simp [oC];omega
 | f :: L,h=>by
  have hn:=(kK q (f :: L)).1 h
  rw [FR] at hn
  have b:=vT e L (by simp only [dK,FJ] at h;exact h.1)
  rw [ua]
  by_cases hk:f.1=e.1
  · rw [if_pos hk]
    have hf:=(hn.2 f (FV ..)).1
    constructor
    · intro h1
      refine ⟨by omega,?_⟩
      intro y hy
      rw [FF] at hy
      rcases hy with rfl | hy
      · intro _;exact h1
      · intro e1
        have:=hn.1.1 y hy (hk.trans e1)
        omega
    · rintro ⟨_,h2⟩
      exact h2 f (FV ..) hk.symm
  · rw [if_neg hk,b]
    constructor
    · rintro ⟨h1,h2⟩
      refine ⟨h1,?_⟩
      intro y hy
      rw [FF] at hy
      rcases hy with rfl | hy
      · intro e1;exact absurd e1.symm hk
      · exact h2 y hy
    · rintro ⟨h1,h2⟩
      exact ⟨h1,fun y hy=>h2 y (FY _ hy)⟩
theorem wV (h:dK q L=true) (h1:oC L e.1<e.2.1) (h2:e.2.1≤q):dK q (e :: L)=true:=by
 have:=(vT e L h).1 h1;simp only [dK,h,Bool.true_and,FJ,decide_eq_true_eq,FZ,lC];exact ⟨this.1,h2,this.2⟩
theorem wU {A:List ae} (h:¬(oC L e.1<e.2.1∧e.2.1≤q)):dK q (A++e :: L)=false:=by
 induction A with
 | nil =>
  rw [Gb,GU];intro h1;have hL:dK q L=true:=by simp only [dK,FJ] at h1;exact h1.1
  have h3:=(kK q _).1 h1;rw [FR] at h3;have h4:=h3.2 e (FV ..);exact h ⟨(vT e L hL).2 ⟨h4.1,h3.1.1⟩,h4.2⟩
 | cons a A b =>
  rw [Gd,dK,b];rfl
theorem jf (h:aJ L=true):L.Pairwise pF:=by
 rw [F2];intro i j hi d b hk;rcases eu (ft h b (j' hi) (j' d)) with h1 | h1
 · rw [hk,b9] at h1;cases h1
 · exact h1.2
theorem kj (h:aJ L=true):∀e ∈ L,1≤e.2.1:=by
 intro e b;obtain ⟨j,d,rfl⟩:=F7 b;exact (mv (d9 h (j' d))).1
theorem km (h:aJ L=true) {e:ae} (d:e ∈ L):bn L=e.1∨Op.bytesLess (bn L).toList e.1.toList=true:=by
 obtain ⟨j,b,rfl⟩:=F7 d;obtain ⟨f,hf,hl⟩:=mn (L:=L) (by omega);rw [hl];by_cases h0:j=0
 · subst h0;rw [j' b] at hf;cases hf;exact .inl rfl
 · rcases eu (ft h (Nat.pos_of_ne_zero h0) hf (j' b)) with h1 | h1
   · exact .inr (by rw [F1,F1];exact h1)
   · exact .inl h1.1
theorem lA (h:aJ L=true) {e:ae} (d:e ∈ L):e.1=aU L∨Op.bytesLess e.1.toList (aU L).toList=true:=by
 obtain ⟨j,b,rfl⟩:=F7 d;obtain ⟨f,hf,hl⟩:=iR (L:=L) (by omega);rw [hl];by_cases h0:j=L.length - 1
 · subst h0;rw [j' b] at hf;cases hf;exact .inl rfl
 · rcases eu (ft h (by omega:j<L.length - 1) (j' b) hf) with h1 | h1
   · exact .inr (by rw [F1,F1];exact h1)
   · exact .inl h1.1
theorem jg (h:aJ L=true) (hn:1≤L.length):bn L=aU L∨Op.bytesLess (bn L).toList (aU L).toList=true:=by
 obtain ⟨f,hf,hl⟩:=iR hn;rw [hl];exact km h (Fw hf)
theorem vF {B:List aj} (h:bu B=true) {i:Nat} {p r:aj} (hp:B[i]?=some p) (hr:B[i+1]?=some r):lQ p.1 r.1=true:=by
 unfold bu at h;have:=(FZ.1 h) (i+1) (Gh.2 (E'.1 hr).1);unfold li iE at this;simp only [hr,hp] at this;exact this
theorem kV {B:List aj} (h:bu B=true) (b:∀r ∈ B,cF r.1 r.2=true):∀(d i:Nat) {p r:aj},B[i]?=some p→B[i+1+d]?=some r→Op.bytesLess (aU p.1).toList (bn r.1).toList=true
 | 0,i,p,r,hp,hr=>vF h hp hr
 | d+1,i,p,r,hp,hr=>by
  obtain ⟨hl,_⟩:=E'.1 hr
  have hm:B[i+1+d]?=some (B[i+1+d]'(by omega)):=j' _
  have h1:=kV h b d i hp hm
  have h2:lQ (B[i+1+d]'(by omega)).1 r.1=true:=vF h hm hr
  have h3:=bF (b _ (Fw hm))
  unfold lQ at h2
  rcases jg h3.2.2.1 h3.1 with e | e
  · rw [e] at h1;exact cw _ _ _ h1 h2
  · exact cw _ _ _ (cw _ _ _ h1 e) h2
theorem mB {B:List aj} (h:bu B=true) (b:∀r ∈ B,cF r.1 r.2=true):(B.reverse.map (·.1)).Pairwise Ov:=by
 rw [List.pairwise_map,List.pairwise_reverse,F2];intro i j hi g m x hx y hy hk;exfalso
 have h1:=kV h b (j - i - 1) i (j' hi) (by rw [show i+1+(j - i - 1)=j by omega];exact j' g);have d:=(bF (b _ (F8 hi))).2.2.1;have f:=(bF (b _ (F8 g))).2.2.1;have h2:Op.bytesLess y.1.toList (bn B[j].1).toList=true:=by
  rcases lA d hy with e | e
  · rw [e];exact h1
  · exact cw _ _ _ e h1
 have h3:Op.bytesLess y.1.toList x.1.toList=true:=by
  rcases km f hx with e | e
  · rw [← e];exact h2
  · exact cw _ _ _ h2 e
 rw [hk,b9] at h3;cases h3
def dl (M:List ae) (A B C:List aj):List (List ae):=M :: (A.reverse.map (·.1)++(B.reverse.map (·.1)++C.reverse.map (·.1)))
theorem gu {B:List aj}:Ov X (bi B) ↔ ∀b ∈ B.reverse.map (·.1),Ov X b:=by
 unfold Ov bi;simp only [He,Gp,Hm];constructor
 · rintro h b ⟨r,hr,rfl⟩ x hx y hy;exact h x hx y ⟨r,hr,hy⟩
 · rintro h x hx y ⟨r,hr,hy⟩;exact h r.1 ⟨r,hr,rfl⟩ x hx y hy
theorem yu {B:List aj}:Ov (bi B) X ↔ ∀b ∈ B.reverse.map (·.1),Ov b X:=by
 unfold Ov bi;simp only [He,Gp,Hm];constructor
 · rintro h b ⟨r,hr,rfl⟩ x hx y hy;exact h x ⟨r,hr,hx⟩ y hy
 · rintro h x ⟨r,hr,hx⟩ y hy;exact h r.1 ⟨r,hr,rfl⟩ x hx y hy
theorem n8 {M:List ae} {A B C:List aj} (hB:(B.reverse.map (·.1)).Pairwise Ov) (hC:(C.reverse.map (·.1)).Pairwise Ov):(eP M [A,B,C]).Pairwise Ov ↔ (dl M A B C).Pairwise Ov:=by
 unfold eP dl;simp only [List.headD_cons,List.drop_succ_cons,List.drop_zero,Gx,GO,Gd,FR,Gl,FI,FF,F4,or_false,List.Pairwise.nil,and_true,false_implies,implies_true];constructor
 · rintro ⟨h1,h2,h3,h4⟩;have d:=h3 _ rfl;refine ⟨?_,h2,⟨hB,hC,?_⟩,?_⟩
   · rintro a (h | h | h)
     · exact h1 a (.inl h)
     · exact gu.1 (h1 _ (.inr (.inl rfl))) a h
     · exact gu.1 (h1 _ (.inr (.inr rfl))) a h
   · intro b hb c hc;exact gu.1 (yu.1 d b hb) c hc
   · rintro a ha b (hb | hb)
     · exact gu.1 (h4 a ha _ (.inl rfl)) b hb
     · exact gu.1 (h4 a ha _ (.inr rfl)) b hb
 · rintro ⟨h1,h2,⟨_,_,h3⟩,h4⟩;refine ⟨?_,h2,?_,?_⟩
   · rintro a (h | h | h)
     · exact h1 a (.inl h)
     · rw [h];exact gu.2 (fun b hb=>h1 b (.inr (.inl hb)))
     · rw [h];exact gu.2 (fun b hb=>h1 b (.inr (.inr hb)))
   · intro c hc;rw [hc];exact yu.2 (fun b hb=>gu.2 (fun c hc=>h3 b hb c hc))
   · rintro a ha b (hb | hb)
     · rw [hb];exact gu.2 (fun c hc=>h4 a ha c (.inl hc))
     · rw [hb];exact gu.2 (fun c hc=>h4 a ha c (.inr hc))
theorem cE {B:List aj} {d:Int} {f:Bool}:dG B d f q=true ↔ (B.length:Int)≤d∧eT B=false∧(∀r ∈ B,bX r.1 q=true)∧(f=true→bu B=true):=by
 unfold dG eT bu;simp only [FJ,decide_eq_true_eq,FZ,Gh];constructor
 · rintro ⟨h1,h2⟩;refine ⟨h1,?_,?_,?_⟩
   · rw [Hc];intro r hr;obtain ⟨j,b,rfl⟩:=F7 hr;have:=h2 j b;rw [dS (j' b),FJ] at this;simp [this.1]
   · intro r hr;obtain ⟨j,b,rfl⟩:=F7 hr;have:=h2 j b;rw [dS (j' b),FJ,FJ] at this;exact this.2.1
   · intro hap j b;have:=h2 j b;rw [dS (j' b),FJ,FJ,hap] at this;unfold li;rw [j' b];simpa using this.2.2
 · rintro ⟨h1,h2,h3,h4⟩;refine ⟨h1,fun j b=>?_⟩;rw [Hc] at h2;have e1:=h2 B[j] (F8 b);have e2:=h3 B[j] (F8 b);rw [dS (j' b),e2];have g:cF B[j].1 B[j].2=true:=by simpa using e1
   rw [g];cases f with
   | false=>rfl
   | true =>
    have:=h4 rfl j b;unfold li at this;rw [j' b] at this;simpa using this
theorem dt {B:List aj} (h:eT B=false):∀r ∈ B,cF r.1 r.2=true:=by
 unfold eT at h;rw [Hc] at h;intro r hr;simpa using h r hr
theorem jY (q:Int) (M:List ae) (A B C:List aj) (S:List Int) :
 aY q M [A,B,C] S=true ↔ 0≤q∧q≤100000∧cC S q=true∧M.length≤60∧aJ M=true∧bH A B C=true∧dK q (dl M A B C).flatten=true:=by
 have t:bH A B C=true ↔ ((A.length:Int)≤4∧eT A=false)∧((B.length:Int)≤8∧eT B=false∧bu B=true)∧((C.length:Int)≤8∧eT C=false∧bu C=true):=by
  unfold bH uU pI;simp only [FJ,decide_eq_true_eq,Hq]
 have o:aY q M [A,B,C] S=true ↔ 0≤q∧q≤100000∧M.length≤60∧aJ M=true∧bX M q=true∧cC S q=true∧(dG A 4 false q=true∧dG B 8 true q=true∧dG C 8 true q=true)∧iX (eP M [A,B,C])=true:=by
  unfold aY ef;simp only [FJ,decide_eq_true_eq,F5,Gz,Nat.reduceAdd,true_and]
 rw [o,t,cE,cE,cE,kK,yM,List.pairwise_flatten];have n:∀{Z:List aj} {l:List ae},l ∈ Z.reverse.map (·.1)→∃r ∈ Z,r.1=l:=by
  intro Z l hl;rw [Gp] at hl;obtain ⟨r,hr,rfl⟩:=hl;exact ⟨r,Hm.1 hr,rfl⟩
 have f:∀{L:List ae},bX L q=true ↔ ∀e ∈ L,e.2.1≤q:=by
  intro L;unfold bX;simp only [FZ,decide_eq_true_eq]
 have b:∀{l:List ae},l ∈ dl M A B C ↔ l=M∨(∃r ∈ A,r.1=l)∨(∃r ∈ B,r.1=l)∨(∃r ∈ C,r.1=l):=by
  intro l;unfold dl;simp only [FF,FI,Gp,Hm]
 constructor
 · rintro ⟨h1,h2,h3,h4,h5,h6,⟨⟨a1,a2,a3,_⟩,⟨b1,b2,b3,g⟩,⟨c1,c2,c3,c4⟩⟩,m⟩;have hB:=mB (g rfl) (dt b2);have hC:=mB (c4 rfl) (dt c2);refine ⟨h1,h2,h6,h3,h4,⟨⟨a1,a2⟩,⟨b1,b2,g rfl⟩,⟨c1,c2,c4 rfl⟩⟩,⟨?_,(n8 hB hC).1 m⟩,?_⟩
   · intro l hl;rcases b.1 hl with rfl | ⟨r,hr,rfl⟩ | ⟨r,hr,rfl⟩ | ⟨r,hr,rfl⟩
     · exact jf h4
     · exact jf (bF (dt a2 r hr)).2.2.1
     · exact jf (bF (dt b2 r hr)).2.2.1
     · exact jf (bF (dt c2 r hr)).2.2.1
   · intro e d;obtain ⟨l,hl,hx⟩:=GZ.1 d;clear d;have d:=hx;rcases b.1 hl with rfl | ⟨r,hr,rfl⟩ | ⟨r,hr,rfl⟩ | ⟨r,hr,rfl⟩
     · exact ⟨kj h4 e d,f.1 h5 e d⟩
     · exact ⟨kj (bF (dt a2 r hr)).2.2.1 e d,f.1 (a3 r hr) e d⟩
     · exact ⟨kj (bF (dt b2 r hr)).2.2.1 e d,f.1 (b3 r hr) e d⟩
     · exact ⟨kj (bF (dt c2 r hr)).2.2.1 e d,f.1 (c3 r hr) e d⟩
 · rintro ⟨h1,h2,h6,h3,h4,⟨⟨a1,a2⟩,⟨b1,b2,g⟩,⟨c1,c2,c4⟩⟩,⟨_,m⟩,s⟩;have hB:=mB g (dt b2);have hC:=mB c4 (dt c2);have hw:∀l ∈ dl M A B C,bX l q=true:=fun l hl=>f.2 (fun e d=>(s e (GZ.2 ⟨l,hl,d⟩)).2)
   exact ⟨h1,h2,h3,h4,hw M (b.2 (.inl rfl)),h6,⟨⟨a1,a2,fun r hr=>hw _ (b.2 (.inr (.inl ⟨r,hr,rfl⟩))),fun e=>by cases e⟩,⟨b1,b2,fun r hr=>hw _ (b.2 (.inr (.inr (.inl ⟨r,hr,rfl⟩)))),fun _=>g⟩,⟨c1,c2,fun r hr=>hw _ (b.2 (.inr (.inr (.inr ⟨r,hr,rfl⟩)))),fun _=>c4⟩⟩,(n8 hB hC).2 m⟩
def f5 (B:List aj) (k1 k2:ByteArray) (i j:Nat):Prop :=
 i≤B.length∧j≤B.length∧∀t r,B[t]?=some r→(t<i→Op.bytesLess (aU r.1).toList k1.toList=true)∧(i≤t→Op.bytesLess (aU r.1).toList k1.toList=false)∧(t<j→Op.bytesLess k2.toList (bn r.1).toList=false)∧(j≤t→Op.bytesLess k2.toList (bn r.1).toList=true)
theorem qF {a b c:List UInt8} (h1:a=b∨Op.bytesLess a b=true) (h2:Op.bytesLess b c=true):Op.bytesLess a c=true:=by
 rcases h1 with rfl | h1
 · exact h2
 · exact cw _ _ _ h1 h2
theorem d5 (h:cF r.1 r.2=true):aJ r.1=true∧1≤r.1.length∧r.1.length≤150:=by
 simp [cF] at h;exact ⟨h.2.2.1,by omega,by omega⟩
theorem yq {B:List aj} (ha:bu B=true) (b:∀r ∈ B,cF r.1 r.2=true) {s t:Nat} {p r:aj} (hs:B[s]?=some p) (d:B[t]?=some r) (f:s≤t) (k:ByteArray) (h:Op.bytesLess (aU r.1).toList k.toList=true):Op.bytesLess (aU p.1).toList k.toList=true:=by
 by_cases g:s=t
 · subst g;rw [hs] at d;cases d;exact h
 · have h1:=kV ha b (t - s - 1) s hs (by rw [← d];congr 1;omega);obtain ⟨hr,hl,_⟩:=d5 (b r (Fw d));have h2:=jg hr hl;refine cw _ _ _ h1 (qF ?_ h);rcases h2 with h2 | h2
   · exact .inl (by rw [h2])
   · exact .inr h2
theorem BK {B:List aj} (ha:bu B=true) (b:∀r ∈ B,cF r.1 r.2=true) {s t:Nat} {p r:aj} (hs:B[s]?=some p) (d:B[t]?=some r) (f:s≤t) (k:ByteArray) (h:Op.bytesLess k.toList (bn p.1).toList=true):Op.bytesLess k.toList (bn r.1).toList=true:=by
 by_cases g:s=t
 · subst g;rw [hs] at d;cases d;exact h
 · have h1:=kV ha b (t - s - 1) s hs (by rw [← d];congr 1;omega);obtain ⟨hr,hl,_⟩:=d5 (b p (Fw hs));have h2:=jg hr hl;refine cw _ _ _ h (qF ?_ h1);rcases h2 with h2 | h2
   · exact .inl (by rw [h2])
   · exact .inr h2
theorem f5.le {B:List aj} {k1 k2:ByteArray} (h:f5 B k1 k2 i j) (d:∀r ∈ B,cF r.1 r.2=true) (hk:k1=k2∨Op.bytesLess k1.toList k2.toList=true):i≤j:=by
 by_cases b:i≤j
 · exact b
 · exfalso
   have f:j<B.length:=by have:=h.1;omega
   have hp:=j' f;obtain ⟨h1,_,_,h4⟩:=h.2.2 j _ hp;have h1:=h1 (by omega);have h4:=h4 (Fv _);obtain ⟨hr,hl,_⟩:=d5 (d _ (F8 f));have h2:=jg hr hl;have h5:Op.bytesLess (bn B[j].1).toList k1.toList=true:=qF (by rcases h2 with h2 | h2;exact .inl (by rw [h2]);exact .inr h2) h1;have h6:Op.bytesLess (bn B[j].1).toList k2.toList=true:=by
    rcases hk with rfl | hk
    · exact h5
    · exact cw _ _ _ h5 hk
   rw [eK _ _ h6] at h4;cases h4
theorem jR (hr:aJ L=true) (h:Op.bytesLess (aU L).toList key.toList=true):aR L key seq=[]:=by
 unfold aR;rw [GC];intro e b hc;simp only [FJ,decide_eq_true_eq] at hc;rcases lA hr b with h1 | h1
 · rw [← h1,hc.1,b9] at h;cases h
 · rw [hc.1] at h1;rw [eK _ _ h1] at h;cases h
theorem lm (hr:aJ L=true) (h:Op.bytesLess key.toList (bn L).toList=true):aR L key seq=[]:=by
 unfold aR;rw [GC];intro e b hc;simp only [FJ,decide_eq_true_eq] at hc;rcases km hr b with h1 | h1
 · rw [h1,hc.1,b9] at h;cases h
 · rw [hc.1] at h1;rw [eK _ _ h1] at h;cases h
def bf (B:List aj) (key:ByteArray) (seq:Int):List ae:=B.flatMap (fun r=>aR r.1 key seq)
theorem sQ {B:List aj} (h:∀r ∈ B,aR r.1 key seq=[]):bf B key seq=[]:=by
 unfold bf;rw [List.flatMap_eq_nil_iff];exact h
theorem gh (A B:List aj) (key:ByteArray) (seq:Int):bf (A++B) key seq=bf A key seq++bf B key seq:=by
 unfold bf;rw [List.flatMap_append]
theorem rX {B:List aj} (h:f5 B key key i j) (b:∀r ∈ B,cF r.1 r.2=true) (seq:Int):bf ((B.drop i).take (j - i)) key seq=bf B key seq:=by
 have f:=h.le b (.inl rfl);have e1:B=B.take i++((B.drop i).take (j - i)++B.drop j):=by
  have h2:(B.drop i).drop (j - i)=B.drop j:=by rw [GP];congr 1;omega
  rw [← h2,FX,FX]
 have g:bf (B.take i) key seq=[]:=sQ fun r hr=>by
  obtain ⟨t,d,rfl⟩:=F7 hr;rw [FC] at d;rw [Gn];have hp:=j' (show t<B.length by omega);exact jR (d5 (b _ (F8 _))).1 ((h.2.2 t _ hp).1 (by omega))
 have n2:bf (B.drop j) key seq=[]:=sQ fun r hr=>by
  obtain ⟨t,d,rfl⟩:=F7 hr;rw [FN] at d;rw [Gr];have hp:=j' (show j+t<B.length by omega);exact lm (d5 (b _ (F8 _))).1 ((h.2.2 (j+t) _ hp).2.2.2 (by omega))
 conv=>rhs;rw [e1]
 rw [gh,gh,g,n2,Gb,GR]
def fH (a b:ByteArray):Bool:=Op.bytesLess a.toList b.toList || a.toList == b.toList
def eD (low high:ByteArray) (r:aj):Bool:=fH (bn r.1) high && fH low (aU r.1)
def fG (k:ByteArray) (B:List aj):ByteArray:=B.foldl (fun k r=>if Op.bytesLess (bn r.1).toList k.toList then bn r.1 else k) k
def nq (a b:ByteArray):Bool:=!Op.bytesLess a.toList b.toList && !(a.toList == b.toList)
def dw (k:ByteArray) (B:List aj):ByteArray:=B.foldl (fun k r=>if nq (aU r.1) k then aU r.1 else k) k
theorem rZ (k:ByteArray) {B:List aj} {i:Nat} {r:aj} (h:B[i]?=some r):fG k (B.take (i+1))=(if Op.bytesLess (bn r.1).toList (fG k (B.take i)).toList then bn r.1 else fG k (B.take i)):=by
 rw [FU,h];unfold fG;rw [List.foldl_append];rfl
theorem gg (k:ByteArray) {B:List aj} {i:Nat} {r:aj} (h:B[i]?=some r):dw k (B.take (i+1))=(if nq (aU r.1) (dw k (B.take i)) then aU r.1 else dw k (B.take i)):=by
 rw [FU,h];unfold dw;rw [List.foldl_append];rfl
theorem iC {B:List aj} (h:B[i]?=some r) (p:aj→Bool):(B.take (i+1)).filter p=(B.take i).filter p++(if p r then [r] else []):=by
 rw [FU,h,Gt];cases hp:p r <;> simp [hp]
def bG (B:List aj):List (List ae):=B.map (·.1)
theorem uZ {B:List aj} (h:B[i]?=some r):bG (B.take (i+1))=bG (B.take i)++[r.1]:=by
 rw [FU,h];simp [bG]
def ik (B:List aj):Bool:=B.all (fun r=>decide (r.1.length≤150))
theorem DF {B:List aj} (h:B[i]?=some r) (hr:150<r.1.length):ik B=false:=by
 unfold ik;rw [List.all_eq_false];exact ⟨r,Fw h,by simp;omega⟩
theorem Cl {B:List aj} {n:Nat} (hl:B.length=n) (h:∀j r,j<n→B[j]?=some r→r.1.length≤150):ik B=true:=by
 unfold ik;rw [FZ];intro r hr;obtain ⟨j,b,rfl⟩:=F7 hr;exact decide_eq_true (h j _ (by omega) (j' b))
end Go.Proofs.YtpobkmjicbobdaaGreat
