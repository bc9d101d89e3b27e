/- Walks. -/
import Derived.Test.YtpobkmjicbobdaaGreatBl05
namespace Go.Proofs.YtpobkmjicbobdaaGreat
set_option maxRecDepth 100000
set_option maxHeartbeats 40000000
open Go.RowKit
variable {L X:List ac} {e:ac} {i k:Nat} {q:Int} {r:an}
theorem jG (b f n c:Nat) (L:List ac) (w:World) (h:ag w (some ⟨b,f,none⟩) n c L) (hn:1≤n) :
 Calls Tryz.prog 126 #[sO b f n c] w fun r w'=>r=.returned (.agg #[.string (bd L),.string (aT L)])∧Bl w w':=by
 have D:=h.length;have hr:=h.room;have F:=h.big;unfold maxLen at F;obtain ⟨A,u,y⟩:=ls (L:=L) (by omega);obtain ⟨B,g,m⟩:=im (L:=L) (by omega);rw [D] at g;rw [y,m];have x:=(h.lies _ rfl (by omega)).1;simp only at x;obtain ⟨s,q,d,t,nn,hg,_,H,_⟩:=h.ent (Below.refl _ w) x 0 (by omega);rw [u] at hg;cases hg;obtain ⟨O,q',d',t',J,C,_,T,_⟩:=h.ent (Below.refl _ w) x (n - 1) (by omega);rw [g] at C;cases C;rw [EO,DS] at H;have Z:(0:Int)<(n:Int):=by omega
 have a5:0<n:=hn;have Y:(1:Int)≤(n:Int):=by omega
 have a2:(0:Int)≤(n:Int) - 1:=by omega
 have W:(n:Int) - 1<(n:Int):=by omega
 have U:((n:Int) - 1).toNat=n - 1:=by omega
 have wj:IntKind.i64.wrap ((n:Int) - 1)=(n:Int) - 1:=by rw [Dg];unfold wrap64;omega
 clear h y m u g D;generalize u:(s,q,d,t,nn)=A;generalize g:(O,q',d',t',J)=B;have R:s=A.1:=by rw [← u]
 have N:O=B.1:=by rw [← g]
 rw [R] at H;rw [N] at T;clear R N u g;have k0:Bl w (w.alloc (.cells #[.string ⟨#[]⟩,.string ⟨#[]⟩] 135)).drew:=bZ.drew;have E:CG (∀w',Bl w w'→w.heap.size<w'.heap.size→(w'.cell? ⟨b,f,none⟩=some (.string A.1)∧w'.cell? ⟨b,f+(n - 1)*5,none⟩=some (.string B.1)∧b<w'.heap.size∧w.heap.size<w'.heap.size)):=fun w' I z=>⟨cell_later I H,cell_later I T,l' x I.size,z⟩
 go_enter Tryz.func126,Tryz.ntmps126
 go_wp2_with fail
 refine wp_region_held_drew (S:=(fun w'=>w'.cell? ⟨b,f,none⟩=some (.string A.1)∧w'.cell? ⟨b,f+(n - 1)*5,none⟩=some (.string B.1)∧b<w'.heap.size∧w.heap.size<w'.heap.size)) (by kernel_rfl) (E.o _ k0 (by simp [World.drew])) (fun Q=>?_);refine aP 0 12 Q ?_;refine aR 12 fun K hK=>?_
 go_simp;go_wp2_with fail
 have k1:Bl w (w.alloc (.cells #[.string A.1,.string B.1] 135)).drew:=bZ.drew;refine hK.o _ _ (E.o _ k1 (by simp [World.drew])) fun Q=>?_
 (try go_frame);refine dN ?_;go_wp2;exact bodyPost_ret (v:=.agg #[.string A.1,.string B.1]) (by simp [results,Tryz.results126,go_sem]) rfl ⟨rfl,k1⟩
theorem mh (a b c d:ByteArray) (w:World) :
 Calls Tryz.prog 186 #[.agg #[.string a,.string b],.agg #[.string c,.string d]] w fun e w'=>e=.returned (.bool (Op.bytesLess b.toList c.toList))∧Bl w w':=by
 have k2:∀f g,Bl w ((w.alloc f).alloc g):=fun f g=>((Below.refl _ _).alloc (Cy _) f).alloc (by simp) g
 go_enter Tryz.func186,Tryz.ntmps186
 go_wp2;go_ret;exact ⟨rfl,k2 _ _⟩
def jN (B:List an) (i:Nat):Bool:=match B[i]? with | none=>true | some r=>gV B r i
def bg (B:List an):Bool:=(List.range B.length).all (jN B)
theorem jL {B:List an} {p:an} (h:B[i]?=some r) (hi:1≤i) (hp:B[i - 1]?=some p):jN B i=kM p.1 r.1:=by
 obtain ⟨j,rfl⟩:∃j,i=j+1:=⟨i - 1,by omega⟩;simp only [DU] at hp;unfold jN gV;simp only [h,hp]
theorem z6 {B:List an} (hi:i<B.length) (h:jN B i=false):bg B=false:=by
 rw [D7];intro h1;unfold bg at h1;rw [(Dn.1 h1) i (DG.2 hi)] at h;cases h
theorem yg {B:List an} (h:∀j,1≤j→j<k→jN B j=true) (hk:B.length≤k):bg B=true:=by
 unfold bg;rw [Dn];intro j b;have b:=DG.1 b;by_cases e:j=0
 · subst e;unfold jN gV;cases B[0]? <;> rfl
 · exact h j (by omega) (by omega)
theorem vo {B:List an} (h:∀j,1≤j→j<k→jN B j=true) (hk:jN B k=true):∀j,1≤j→j<k+1→jN B j=true:=by
 intro j h1 h2;by_cases e:j=k
 · subst e;exact hk
 · exact h j h1 (by omega)
theorem qv (lo:Nat) (a:Option Addr) (n c:Nat) (B:List an) (w:World) (h:ay lo w a n c B) (W:∀r ∈ B,1≤r.1.length) :
 Calls Tryz.prog 234 #[.slice a n c] w fun e w'=>e=.returned (.bool (bg B))∧Bl w w':=by
 have U:CG (B.length=n):=h.length;have F:=bO W;have hr:=h.room;have Z:=h.big;unfold maxLen at Z;have H:=bO h;clear h W;go_enter Tryz.func234,Tryz.ntmps234
 go_wp2;go_loopw [3] (fun iv wr=>∃i:Nat,1≤i∧i≤n+1∧iv=iT i∧Bl w wr∧(∀j,1≤j→j<i→jN B j=true)) (fun iv _=>n - (intOf iv).toNat)
 case atStart=>exact ⟨1,Cy _,by omega,rfl,Below.refl _ _,fun j h1 h2=>absurd h2 (by omega)⟩
 case round =>
  obtain ⟨i,Y,hi,rfl,hb,hw⟩:=hrel;have HW:CG (∀j,1≤j→j<i→jN B j=true):=hw;have N:CG (Bl w wr):=hb;clear hw;by_cases R:i<n
  · have T:(i:Int)<(n:Int):=by omega
    have a2:CG (i<B.length):=by show i<B.length;rw [U.o];exact R
    obtain ⟨b,J,rfl,ab⟩:=H.o.form (by omega);obtain ⟨L,m,s,ns,cs,hg,_,g0,_,hE⟩:=H.o.run hb i R;obtain ⟨A,mp,sp,np,cp,hp,_,p0,_,C⟩:=H.o.run hb (i - 1) (by omega);have l1:=F.o _ (CV hg);have l2:=F.o _ (CV hp);have ae:=hE.1.length;have a7:=C.1.length;simp only at l1 l2;obtain ⟨bs,os,rfl,_⟩:=hE.1.form (by omega);obtain ⟨bp,op,rfl,_⟩:=C.1.form (by omega);have D:CG (jN B i=Op.bytesLess (aT A).toList (bd L).toList):=jL hg Y hp;have zb:=l' ab hb.size;have Q:CG (∀w',Bl wr w'→Calls Tryz.prog 126 #[sO bp op np cp] w' fun r u=>r=.returned (.agg #[.string (bd A),.string (aT A)])∧Bl w' u):=fun w' k=>jG bp op np cp A w' (C.1.keep k) (by omega)
    have I:CG (∀w',Bl wr w'→Calls Tryz.prog 126 #[sO bs os ns cs] w' fun r u=>r=.returned (.agg #[.string (bd L),.string (aT L)])∧Bl w' u):=fun w' k=>jG bs os ns cs L w' (hE.1.keep k) (by omega)
    have E:CG (∀w',Bl wr w'→Calls Tryz.prog 186 #[.agg #[.string (bd A),.string (aT A)],.agg #[.string (bd L),.string (aT L)]] w' fun e u=>e=.returned (.bool (Op.bytesLess (aT A).toList (bd L).toList))∧Bl w' u):=fun w' _=>mh _ _ _ _ w'
    have d:CG (∀w',Bl wr w'→(w'.cell? ⟨b,J+i*2,none⟩=some (sO bs os ns cs)∧w'.cell? ⟨b,J+(i - 1)*2,none⟩=some (sO bp op np cp)∧b<w'.heap.size)):=fun w' kk=>⟨cell_later kk g0,cell_later kk p0,l' zb kk.size⟩
    have y:Bl wr wr.drew:=(Below.refl _ wr).drew;have aq:(0:Int)≤(i:Int) - 1:=by omega
    have am:(i:Int) - 1<(n:Int):=by omega
    have ap:(1:Int)≤(i:Int):=by omega
    have ak:((i:Int) - 1).toNat=i - 1:=by omega
    have wj:IntKind.i64.wrap ((i:Int) - 1)=(i:Int) - 1:=by rw [Dg];unfold wrap64;omega
    clear hg hp hE C l1 l2 ae a7 g0 p0 zb hb Y;generalize Op.bytesLess (aT A).toList (bd L).toList=O at D E;generalize bd A=x1,aT A=x2,bd L=x3,aT L=x4 at Q I E;cases O with
    | true =>
     go_wp2_with fail
     refine ez d y fun f=>?_
     refine aP 0 6 f ?_;refine aP 7 5 f ?_;refine aR 6 fun K hK=>?_
     go_simp;refine (Q.o _ y).mono ?_;rintro e wk1 ⟨rfl,g⟩;have k1:Bl wr wk1:=y.trans (g.mono y.size);go_wp2_with fail
     refine hK.o _ _ (d.o _ k1) fun f=>?_
     (try go_frame);refine aR 12 fun K hK=>?_
     go_simp;refine (I.o _ k1).mono ?_;rintro e wk2 ⟨rfl,x⟩;have k2:Bl wr wk2:=k1.trans (x.mono k1.size);go_wp2_with fail
     refine hK.o _ _ (d.o _ k2) fun f=>?_
     (try go_frame);refine aR 13 fun K hK=>?_
     go_simp;refine (E.o _ k2).mono ?_;rintro e wk3 ⟨rfl,t⟩;have k3:Bl wr wk3:=k2.trans (t.mono k2.size);go_wp2_with fail
     refine hK.o _ _ (d.o _ k3) fun f=>?_
     (try go_frame);refine aP 14 1 f ?_;refine dN ?_;have KY:CG (Bl w wk3):=N.o.trans (k3.mono N.o.size);clear y k1 k2 k3 g x t d Q I E f;go_wp2;go_roundw
     case rel=>exact ⟨i+1,by omega,by omega,by go_num,KY.o,vo HW.o D.o⟩
     case measure=>simp [intOf];omega
    | false =>
     go_wp2_with fail
     refine ez d y fun f=>?_
     refine aP 0 6 f ?_;refine aP 7 5 f ?_;refine aR 6 fun K hK=>?_
     go_simp;refine (Q.o _ y).mono ?_;rintro e wk1 ⟨rfl,g⟩;have k1:Bl wr wk1:=y.trans (g.mono y.size);go_wp2_with fail
     refine hK.o _ _ (d.o _ k1) fun f=>?_
     (try go_frame);refine aR 12 fun K hK=>?_
     go_simp;refine (I.o _ k1).mono ?_;rintro e wk2 ⟨rfl,x⟩;have k2:Bl wr wk2:=k1.trans (x.mono k1.size);go_wp2_with fail
     refine hK.o _ _ (d.o _ k2) fun f=>?_
     (try go_frame);refine aR 13 fun K hK=>?_
     go_simp;refine (E.o _ k2).mono ?_;rintro e wk3 ⟨rfl,t⟩;have k3:Bl wr wk3:=k2.trans (t.mono k2.size);go_wp2_with fail
     refine hK.o _ _ (d.o _ k3) fun f=>?_
     (try go_frame);refine aP 14 1 f ?_;refine dN ?_;have KY:CG (Bl w wk3):=N.o.trans (k3.mono N.o.size);clear y k1 k2 k3 g x t d Q I E f;go_wp2;go_ret;exact ⟨ah (z6 a2.o D.o).symm,KY.o⟩
  · have T:¬(i:Int)<(n:Int):=by omega
    have HC:CG (bg B=true):=yg HW.o (by rw [U.o];omega);go_wp2;go_ret;exact ⟨ah HC.o.symm,N.o⟩
def eE (B:List an):Bool:=B.any (fun r=>!ch r.1 r.2)
theorem AN {B:List an} (h:B[i]?=some r) (hr:ch r.1 r.2=false):eE B=true:=by
 unfold eE;rw [List.any_eq_true];exact ⟨r,CV h,by rw [hr];rfl⟩
theorem BD {B:List an} (h:∀j r,j<k→B[j]?=some r→ch r.1 r.2=true) (hk:B.length≤k):eE B=false:=by
 unfold eE;rw [Es];intro r hr;obtain ⟨j,b,e⟩:=Du hr;rw [h j r (by omega) (by rw [j' b,e])];simp
theorem lH {B:List an} (h:eE B=false):∀r ∈ B,ch r.1 r.2=true:=by
 intro r hr;unfold eE at h;rw [Es] at h;simpa using h r hr
theorem zu (K:Nat) (a:Option Addr) (n c:Nat) (B:List an) (w:World) (h:ay K w a n c B) :
 Calls Tryz.prog 251 #[.slice a n c,.func (.func 233) #[] #[]] w fun e w'=>(∃z:Int,e=.returned (iT z)∧decide (0≤z)=eE B)∧Bl w w':=by
 have A:CG (B.length=n):=h.length;have hr:=h.room;have t:=h.big;unfold maxLen at t;have H:=bO h;clear h;go_enter Tryz.func251,Tryz.ntmps251
 go_wp2;go_loopw [8] (fun x wr=>∃i:Nat,i≤n∧x=iT i∧Bl w wr∧(∀j r,j<i→B[j]?=some r→ch r.1 r.2=true)) (fun x _=>n - (intOf x).toNat)
 case atStart=>exact ⟨0,C3 _,rfl,Below.refl _ _,fun j r J=>absurd J (DP _)⟩
 case round =>
  obtain ⟨i,hi,rfl,hb,hw⟩:=hrel;have D:CG (∀j r,j<i→B[j]?=some r→ch r.1 r.2=true):=hw;have y:CG (Bl w wr):=hb;clear hw;by_cases u:i<n
  · have d:(i:Int)<(n:Int):=by omega
    obtain ⟨b,N,rfl,C⟩:=H.o.form (by omega);obtain ⟨L,m,s,E,cs,hg,_,U,Y,hE⟩:=H.o.run hb i u;have F:CG (B[i]?=some (L,m)):=hg;have T:CG (ag wr s E cs L):=hE.1;have W:=l' C hb.size;clear hg hb hE;obtain ⟨O,hO⟩:=aH (ch L m);go_wp2_with fail
    refine (xD m s E cs L wr T.o).mono ?_;rw [← hO];rintro e Q ⟨rfl,f⟩;have I:CG (Bl w Q):=y.o.trans (f.mono y.o.size);clear f;cases hOv:O with
    | false =>
     have g:CG (eE B=true):=AN F.o (by show ch L m=false;rw [← hO,hOv]);go_wp2;go_ret;exact ⟨⟨(i:Int),rfl,by rw [g.o];simp⟩,I.o⟩
    | true =>
     have g:CG (∀j r,j<i+1→B[j]?=some r→ch r.1 r.2=true):=by
      intro j r J hr;by_cases e:j=i
      · subst e;rw [F.o] at hr;cases hr;show ch L m=true;rw [← hO,hOv]
      · exact D.o j r (by omega) hr
     go_wp2;go_roundw
     case rel=>exact ⟨i+1,by omega,by go_num,I.o,g.o⟩
     case measure=>simp [intOf];omega
  · have d:¬(i:Int)<(n:Int):=by omega
    have R:CG (eE B=false):=BD D.o (by rw [A.o];omega);go_wp2;go_ret;exact ⟨⟨-1,rfl,by rw [R.o];rfl⟩,y.o⟩
theorem jm (d:Nat) (a:Option Addr) (n c:Nat) (B:List an) (w:World) (h:ay d w a n c B) :
 Calls Tryz.prog 232 #[.slice a n c,.func (.func 233) #[] #[]] w fun e w'=>e=.returned (.bool (eE B))∧Bl w w':=by
 go_enter Tryz.func232,Tryz.ntmps232
 go_wp2_with fail
 refine (zu d a n c B w h).mono ?_;rintro e g ⟨⟨z,rfl,hz⟩,b⟩;have f:CG (decide (0≤z)=eE B):=hz;clear hz;go_wp2;go_ret;exact ⟨ah f.o,b⟩
theorem qu (w:World):Calls Tryz.prog 231 #[iT 0] w fun e w'=>e=.returned (iT 4)∧w'=w:=by
 go_enter Tryz.func231,Tryz.ntmps231
 go_wp2;go_ret;exact ⟨rfl,rfl⟩
theorem jH (k:Nat) (w:World) (h:1≤k):Calls Tryz.prog 231 #[iT (k:Int)] w fun e w'=>e=.returned (iT 8)∧w'=w:=by
 have h1:¬(k:Int)=0:=by omega
 have h2:¬k=0:=by omega
 go_enter Tryz.func231,Tryz.ntmps231
 go_wp2;go_ret;exact ⟨rfl,rfl⟩
def tZ (B:List an):Bool:=decide ((B.length:Int)≤4) && !eE B
def pu (B:List an):Bool:=decide ((B.length:Int)≤8) && (!eE B && bg B)
def bm (A B C:List an):Bool:=tZ A && (pu B && pu C)
theorem zE (w:World) (a0 a1 a2:Option Addr) (b c0 d c1 n2 c2:Nat):(Instr.index 80 (.agg #[.slice a0 b c0,.slice a1 d c1,.slice a2 n2 c2]) (iT 0)).run Tryz.prog w=.ok (.slice a0 b c0) w:=by
 simp [Instr.index,run_underlying Tryz.underlying80,asIntOf,go_sem,Tryz.isAgg61,Tryz.sizeOf61,part]
theorem zD (w:World) (a0 a1 a2:Option Addr) (d c0 b c1 n2 c2:Nat):(Instr.index 80 (.agg #[.slice a0 d c0,.slice a1 b c1,.slice a2 n2 c2]) (iT 1)).run Tryz.prog w=.ok (.slice a1 b c1) w:=by
 simp [Instr.index,run_underlying Tryz.underlying80,asIntOf,go_sem,Tryz.isAgg61,Tryz.sizeOf61,part]
theorem zC (w:World) (a0 a1 a2:Option Addr) (d c0 b c1 n2 c2:Nat):(Instr.index 80 (.agg #[.slice a0 d c0,.slice a1 b c1,.slice a2 n2 c2]) (iT 2)).run Tryz.prog w=.ok (.slice a2 n2 c2) w:=by
 simp [Instr.index,run_underlying Tryz.underlying80,asIntOf,go_sem,Tryz.isAgg61,Tryz.sizeOf61,part]
theorem uZ (u:Nat) (q:Int) (am ak:Option Addr) (nm cm nk ck:Nat) (a0 a1 a2:Option Addr) (x c0 t c1 n2 c2:Nat) (A B C:List an) (w:World) (h0:ay u w a0 x c0 A) (h1:ay u w a1 t c1 B) (h2:ay u w a2 n2 c2 C) :
 Calls Tryz.prog 197 #[.agg #[iT q,.slice am nm cm,.slice a0 x c0,.slice a1 t c1,.slice a2 n2 c2,.slice ak nk ck]] w fun e w'=>e=.returned (.bool (bm A B C))∧Bl w w':=by
 have a6:=bO h0;have K:=bO h1;have Q:=bO h2;have I:CG (A.length=x):=h0.length;have H:CG (B.length=t):=h1.length;have R:CG (C.length=n2):=h2.length;clear h0 h1 h2;go_enter Tryz.func197,Tryz.ntmps197
 go_upto_region 1 with fail
 obtain ⟨W,F⟩:=aH (w.alloc (.cells #[iT q,.slice am nm cm,.slice a0 x c0,.slice a1 t c1,.slice a2 n2 c2,.slice ak nk ck] 82));have kW:Bl w W:=by rw [F];exact bZ
 have x2:W.cell? ⟨w.heap.size,2,none⟩=some (.slice a0 x c0):=by rw [F];simp
 have x3:W.cell? ⟨w.heap.size,3,none⟩=some (.slice a1 t c1):=by rw [F];simp
 have x4:W.cell? ⟨w.heap.size,4,none⟩=some (.slice a2 n2 c2):=by rw [F];simp
 have zX:=Cz _ _ x2;have b:CG (∀wr,Bl W wr→Bl w wr):=fun wr k=>kW.trans (k.mono kW.size)
 rw [← F];clear F kW;go_wp2;go_loopw [7] (fun iv wr=>∃i:Nat,i≤3∧iv=iT i∧Bl W wr∧(1≤i→tZ A=true)∧(2≤i→pu B=true)∧(3≤i→pu C=true)) (fun iv _=>3 - (intOf iv).toNat)
 case atStart=>exact ⟨0,by omega,rfl,Below.refl _ _,fun h=>absurd h (by omega),fun h=>absurd h (by omega),fun h=>absurd h (by omega)⟩
 case round =>
  obtain ⟨i,hi,rfl,hb,Z,Y,N⟩:=hrel;have g:CG (Bl W wr):=hb;have D:CG (1≤i→tZ A=true):=Z;have a3:CG (2≤i→pu B=true):=Y;have a8:CG (3≤i→pu C=true):=N;clear hb Z Y N;have y:i=0∨i=1∨i=2∨i=3:=by omega
  rcases y with E | E | E | E
  · skip
    subst E;by_cases hl:(4:Int)<(x:Int)
    · have d:CG (bm A B C=false):=by
       have h1:decide ((A.length:Int)≤4)=false:=decide_eq_false (by have:=I.o;omega);show bm A B C=false
       unfold bm tZ pu;rw [h1];simp
      go_wp2_with fail
      rw [zE];go_wp2_with fail
      refine (qu wr).mono ?_;rintro e w' ⟨rfl,rfl⟩;go_wp2;go_ret;exact ⟨ah d.o.symm,b.o _ g.o⟩
    have J:CG (decide ((A.length:Int)≤4)=true):=decide_eq_true (by have:=I.o;omega);obtain ⟨O,hO⟩:=aH (eE A);go_wp2_with fail
    rw [zE];go_wp2_with fail
    refine (qu wr).mono ?_;rintro e w' ⟨rfl,rfl⟩;go_wp2_with fail
    refine (jm u a0 x c0 A _ (a6.o.keep (b.o _ g.o))).mono ?_;rw [← hO];rintro e U ⟨rfl,f⟩;have m:CG (Bl W U):=g.o.trans (f.mono g.o.size);clear f;cases hOv:O with
    | true =>
     have d:CG (bm A B C=false):=by
      have h1:eE A=true:=by rw [← hO,hOv]
      show bm A B C=false
      unfold bm tZ pu;rw [h1];simp
     go_wp2;go_ret;exact ⟨ah d.o.symm,b.o _ m.o⟩
    | false =>
     have d:CG (tZ A=true):=by
      have h1:eE A=false:=by rw [← hO,hOv]
      show tZ A=true
      unfold tZ;rw [J.o,h1];rfl
     go_wp2;go_roundw
     case rel=>exact ⟨1,by omega,rfl,m.o,fun _=>d.o,fun h=>absurd h (by omega),fun h=>absurd h (by omega)⟩
     case measure=>simp [intOf]
  · skip
    subst E;by_cases hl:(8:Int)<(t:Int)
    · have d:CG (bm A B C=false):=by
       have h1:decide ((B.length:Int)≤8)=false:=decide_eq_false (by have:=H.o;omega);show bm A B C=false
       unfold bm tZ pu;rw [h1];simp
      go_wp2_with fail
      rw [zD];go_wp2_with fail
      refine (jH 1 wr (by omega)).mono ?_;rintro e w' ⟨rfl,rfl⟩;go_wp2;go_ret;exact ⟨ah d.o.symm,b.o _ g.o⟩
    have J:CG (decide ((B.length:Int)≤8)=true):=decide_eq_true (by have:=H.o;omega);obtain ⟨O,hO⟩:=aH (eE B);go_wp2_with fail
    rw [zD];go_wp2_with fail
    refine (jH 1 wr (by omega)).mono ?_;rintro e w' ⟨rfl,rfl⟩;go_wp2_with fail
    refine (jm u a1 t c1 B _ (K.o.keep (b.o _ g.o))).mono ?_;rw [← hO];rintro e U ⟨rfl,f⟩;have m:CG (Bl W U):=g.o.trans (f.mono g.o.size);clear f;cases hOv:O with
    | true =>
     have d:CG (bm A B C=false):=by
      have h1:eE B=true:=by rw [← hO,hOv]
      show bm A B C=false
      unfold bm tZ pu;rw [h1];simp
     go_wp2;go_ret;exact ⟨ah d.o.symm,b.o _ m.o⟩
    | false =>
     have n:CG (eE B=false):=by show _=_;rw [← hO,hOv]
     obtain ⟨G,hG⟩:=aH (bg B);go_wp2_with fail
     refine (qv u a1 t c1 B _ (K.o.keep (b.o _ m.o)) (fun r hr=>(bE (lH n.o r hr)).1)).mono ?_;rw [← hG];rintro e w2 ⟨rfl,s⟩;have T:CG (Bl W w2):=m.o.trans (s.mono m.o.size);clear s;cases hGv:G with
     | false =>
      have d:CG (bm A B C=false):=by
       have h1:bg B=false:=by rw [← hG,hGv]
       show bm A B C=false
       unfold bm tZ pu;rw [h1];simp
      go_wp2;go_ret;exact ⟨ah d.o.symm,b.o _ T.o⟩
     | true =>
      have d:CG (pu B=true):=by
       have h1:bg B=true:=by rw [← hG,hGv]
       show pu B=true
       unfold pu;rw [J.o,n.o,h1];rfl
      go_wp2;go_roundw
      case rel=>exact ⟨2,by omega,rfl,T.o,fun _=>D.o (by omega),fun _=>d.o,fun h=>absurd h (by omega)⟩
      case measure=>simp [intOf]
  · skip
    subst E;by_cases hl:(8:Int)<(n2:Int)
    · have d:CG (bm A B C=false):=by
       have h1:decide ((C.length:Int)≤8)=false:=decide_eq_false (by have:=R.o;omega);show bm A B C=false
       unfold bm tZ pu;rw [h1];simp
      go_wp2_with fail
      rw [zC];go_wp2_with fail
      refine (jH 2 wr (by omega)).mono ?_;rintro e w' ⟨rfl,rfl⟩;go_wp2;go_ret;exact ⟨ah d.o.symm,b.o _ g.o⟩
    have J:CG (decide ((C.length:Int)≤8)=true):=decide_eq_true (by have:=R.o;omega);obtain ⟨O,hO⟩:=aH (eE C);go_wp2_with fail
    rw [zC];go_wp2_with fail
    refine (jH 2 wr (by omega)).mono ?_;rintro e w' ⟨rfl,rfl⟩;go_wp2_with fail
    refine (jm u a2 n2 c2 C _ (Q.o.keep (b.o _ g.o))).mono ?_;rw [← hO];rintro e U ⟨rfl,f⟩;have m:CG (Bl W U):=g.o.trans (f.mono g.o.size);clear f;cases hOv:O with
    | true =>
     have d:CG (bm A B C=false):=by
      have h1:eE C=true:=by rw [← hO,hOv]
      show bm A B C=false
      unfold bm tZ pu;rw [h1];simp
     go_wp2;go_ret;exact ⟨ah d.o.symm,b.o _ m.o⟩
    | false =>
     have n:CG (eE C=false):=by show _=_;rw [← hO,hOv]
     obtain ⟨G,hG⟩:=aH (bg C);go_wp2_with fail
     refine (qv u a2 n2 c2 C _ (Q.o.keep (b.o _ m.o)) (fun r hr=>(bE (lH n.o r hr)).1)).mono ?_;rw [← hG];rintro e w2 ⟨rfl,s⟩;have T:CG (Bl W w2):=m.o.trans (s.mono m.o.size);clear s;cases hGv:G with
     | false =>
      have d:CG (bm A B C=false):=by
       have h1:bg C=false:=by rw [← hG,hGv]
       show bm A B C=false
       unfold bm tZ pu;rw [h1];simp
      go_wp2;go_ret;exact ⟨ah d.o.symm,b.o _ T.o⟩
     | true =>
      have d:CG (pu C=true):=by
       have h1:bg C=true:=by rw [← hG,hGv]
       show pu C=true
       unfold pu;rw [J.o,n.o,h1];rfl
      go_wp2;go_roundw
      case rel=>exact ⟨3,by omega,rfl,T.o,fun _=>D.o (by omega),fun _=>a3.o (by omega),fun _=>d.o⟩
      case measure=>simp [intOf]
  · subst E;have HC:CG (bm A B C=true):=by
     show bm A B C=true
     unfold bm;rw [D.o (by omega),a3.o (by omega),a8.o (by omega)];rfl
    go_wp2;go_ret;exact ⟨ah HC.o.symm,b.o _ g.o⟩
def oh (x y:ac):Prop:=x.1=y.1→y.2.1<x.2.1
theorem jY (x y:ac):(!fq x y)=true ↔ oh x y:=by
 unfold fq oh;by_cases h:x.1=y.1
 · simp [h]
 · simp [h]
def Ov (A B:List ac):Prop:=∀x ∈ A,∀y ∈ B,oh x y
theorem tU {A B:List ac}:iN A B=true ↔ Ov A B:=by
 unfold iN Ov;simp only [Dn,jY]
theorem wm {P:List (List ac)}:ip P=true ↔ P.Pairwise Ov:=by
 rw [Dt];unfold ip;simp only [Dn,DG];constructor
 · intro h i j hi d b;have:=h i hi j d;rw [decide_eq_true b,mt (j' hi) (j' d)] at this;exact tU.1 (by simpa using this)
 · intro h i hi j d;by_cases b:i<j
   · rw [decide_eq_true b,mt (j' hi) (j' d),tU.2 (h i j hi d b)];rfl
   · rw [decide_eq_false b];rfl
def dr (q:Int):List ac→Bool
 | []=>true
 | e :: L=>dr q L && (decide (1≤e.2.1) && (decide (e.2.1≤q) && L.all (fun y=>!fq e y)))
theorem jD (q:Int) (L:List ac):dr q L=true ↔ L.Pairwise oh∧∀e ∈ L,1≤e.2.1∧e.2.1≤q:=by
 induction L with
 | nil=>simp [dr]
 | cons e L b =>
  simp only [dr,Db,b,decide_eq_true_eq,Dn,jY,Dm,Da];constructor
  · rintro ⟨⟨h1,h2⟩,h3,h4,h5⟩;refine ⟨⟨h5,h1⟩,?_⟩;rintro x (rfl | hx)
    · exact ⟨h3,h4⟩
    · exact h2 x hx
  · rintro ⟨⟨h5,h1⟩,h2⟩;exact ⟨⟨h1,fun x hx=>h2 x (.inr hx)⟩,(h2 e (.inl rfl)).1,(h2 e (.inl rfl)).2,h5⟩
def mJ:List ac→ByteArray→Int
 | [],_=>0
 | e :: L,k=>if e.1=k then e.2.1 else mJ L k
theorem rZ (e:ac) (L:List ac) (k:ByteArray):mJ (e :: L) k=if e.1=k then e.2.1 else mJ L k:=rfl
theorem uf {q:Int} (e:ac):∀L:List ac,dr q L=true→(mJ L e.1<e.2.1 ↔ (1≤e.2.1∧∀y ∈ L,oh e y))
 | [],_=>by simp [mJ];omega
 | f :: L,h=>by
  have hn:=(jD q (f :: L)).1 h
  rw [Dm] at hn
  have d:=uf e L (by simp only [dr,Db] at h;exact h.1)
  rw [rZ]
  by_cases hk:f.1=e.1
  · rw [if_pos hk]
    have hf:=(hn.2 f (Dy ..)).1
    constructor
    · intro h1
      refine ⟨by omega,?_⟩
      intro y hy
      rw [Da] at hy
      rcases hy with rfl | hy
      · intro _;exact h1
      · intro b
        have:=hn.1.1 y hy (hk.trans b)
        omega
    · rintro ⟨_,h2⟩
      exact h2 f (Dy ..) hk.symm
  · rw [if_neg hk,d]
    constructor
    · rintro ⟨h1,h2⟩
      refine ⟨h1,?_⟩
      intro y hy
      rw [Da] at hy
      rcases hy with rfl | hy
      · intro b;exact absurd b.symm hk
      · exact h2 y hy
    · rintro ⟨h1,h2⟩
      exact ⟨h1,fun y hy=>h2 y (DB _ hy)⟩
theorem uI (h:dr q L=true) (h1:mJ L e.1<e.2.1) (h2:e.2.1≤q):dr q (e :: L)=true:=by
 have:=(uf e L h).1 h1;simp only [dr,h,Bool.true_and,Db,decide_eq_true_eq,Dn,jY];exact ⟨this.1,h2,this.2⟩
theorem uH {A:List ac} (h:¬(mJ L e.1<e.2.1∧e.2.1≤q)):dr q (A++e :: L)=false:=by
 induction A with
 | nil =>
  rw [DA,D7];intro h1;have hL:dr q L=true:=by simp only [dr,Db] at h1;exact h1.1
  have h3:=(jD q _).1 h1;rw [Dm] at h3;have h4:=h3.2 e (Dy ..);exact h ⟨(uf e L hL).2 ⟨h4.1,h3.1.1⟩,h4.2⟩
 | cons a A b =>
  rw [DD,dr,b];rfl
theorem iD (h:aI L=true):L.Pairwise oh:=by
 rw [Dt];intro i j hi d b hk;rcases dU (e9 h b (j' hi) (j' d)) with h1 | h1
 · rw [hk,bU] at h1;cases h1
 · exact h1.2
theorem jx (h:aI L=true):∀e ∈ L,1≤e.2.1:=by
 intro e b;obtain ⟨j,d,rfl⟩:=Du b;exact (lE (d4 h (j' d))).1
theorem jy (h:aI L=true) {e:ac} (d:e ∈ L):bd L=e.1∨Op.bytesLess (bd L).toList e.1.toList=true:=by
 obtain ⟨j,b,rfl⟩:=Du d;obtain ⟨f,hf,hl⟩:=ls (L:=L) (by omega);rw [hl];by_cases h0:j=0
 · subst h0;rw [j' b] at hf;cases hf;exact .inl rfl
 · rcases dU (e9 h (Nat.pos_of_ne_zero h0) hf (j' b)) with h1 | h1
   · exact .inr (by rw [Dp,Dp];exact h1)
   · exact .inl h1.1
theorem jW (h:aI L=true) {e:ac} (d:e ∈ L):e.1=aT L∨Op.bytesLess e.1.toList (aT L).toList=true:=by
 obtain ⟨j,b,rfl⟩:=Du d;obtain ⟨f,hf,hl⟩:=im (L:=L) (by omega);rw [hl];by_cases h0:j=L.length - 1
 · subst h0;rw [j' b] at hf;cases hf;exact .inl rfl
 · rcases dU (e9 h (by omega:j<L.length - 1) (j' b) hf) with h1 | h1
   · exact .inr (by rw [Dp,Dp];exact h1)
   · exact .inl h1.1
theorem iE (h:aI L=true) (hn:1≤L.length):bd L=aT L∨Op.bytesLess (bd L).toList (aT L).toList=true:=by
 obtain ⟨f,hf,hl⟩:=im hn;rw [hl];exact jy h (CV hf)
theorem tR {B:List an} (h:bg B=true) {i:Nat} {p r:an} (hp:B[i]?=some p) (hr:B[i+1]?=some r):kM p.1 r.1=true:=by
 unfold bg at h;have:=(Dn.1 h) (i+1) (DG.2 (Cx.1 hr).1);unfold jN gV at this;simp only [hr,hp] at this;exact this
theorem jK {B:List an} (h:bg B=true) (b:∀r ∈ B,ch r.1 r.2=true):∀(d i:Nat) {p r:an},B[i]?=some p→B[i+1+d]?=some r→Op.bytesLess (aT p.1).toList (bd r.1).toList=true
 | 0,i,p,r,hp,hr=>tR h hp hr
 | d+1,i,p,r,hp,hr=>by
  obtain ⟨hl,_⟩:=Cx.1 hr
  have hm:B[i+1+d]?=some (B[i+1+d]'(by omega)):=j' _
  have h1:=jK h b d i hp hm
  have h2:kM (B[i+1+d]'(by omega)).1 r.1=true:=tR h hm hr
  have h3:=bE (b _ (CV hm))
  unfold kM at h2
  rcases iE h3.2.2.1 h3.1 with e | e
  · rw [e] at h1;exact b7 _ _ _ h1 h2
  · exact b7 _ _ _ (b7 _ _ _ h1 e) h2
theorem lI {B:List an} (h:bg B=true) (b:∀r ∈ B,ch r.1 r.2=true):(B.reverse.map (·.1)).Pairwise Ov:=by
 rw [List.pairwise_map,List.pairwise_reverse,Dt];intro i j hi g m x hx y hy hk;exfalso
 have h1:=jK h b (j - i - 1) i (j' hi) (by rw [show i+1+(j - i - 1)=j by omega];exact j' g);have d:=(bE (b _ (Dq hi))).2.2.1;have f:=(bE (b _ (Dq g))).2.2.1;have h2:Op.bytesLess y.1.toList (bd B[j].1).toList=true:=by
  rcases jW d hy with e | e
  · rw [e];exact h1
  · exact b7 _ _ _ e h1
 have h3:Op.bytesLess y.1.toList x.1.toList=true:=by
  rcases jy f hx with e | e
  · rw [← e];exact h2
  · exact b7 _ _ _ h2 e
 rw [hk,bU] at h3;cases h3
def dt (M:List ac) (A B C:List an):List (List ac):=M :: (A.reverse.map (·.1)++(B.reverse.map (·.1)++C.reverse.map (·.1)))
theorem fK {B:List an}:Ov X (bC B) ↔ ∀b ∈ B.reverse.map (·.1),Ov X b:=by
 unfold Ov bC;simp only [Ej,DO,EC];constructor
 · rintro h b ⟨r,hr,rfl⟩ x hx y hy;exact h x hx y ⟨r,hr,hy⟩
 · rintro h x hx y ⟨r,hr,hy⟩;exact h r.1 ⟨r,hr,rfl⟩ x hx y hy
theorem vN {B:List an}:Ov (bC B) X ↔ ∀b ∈ B.reverse.map (·.1),Ov b X:=by
 unfold Ov bC;simp only [Ej,DO,EC];constructor
 · rintro h b ⟨r,hr,rfl⟩ x hx y hy;exact h x ⟨r,hr,hx⟩ y hy
 · rintro h x ⟨r,hr,hx⟩ y hy;exact h r.1 ⟨r,hr,rfl⟩ x hx y hy
theorem mB {M:List ac} {A B C:List an} (hB:(B.reverse.map (·.1)).Pairwise Ov) (hC:(C.reverse.map (·.1)).Pairwise Ov):(eT M [A,B,C]).Pairwise Ov ↔ (dt M A B C).Pairwise Ov:=by
 unfold eT dt;simp only [List.headD_cons,List.drop_succ_cons,List.drop_zero,Ep,Ev,DD,Dm,DK,Dd,Da,Dr,or_false,List.Pairwise.nil,and_true,false_implies,implies_true];constructor
 · rintro ⟨h1,h2,h3,h4⟩;have d:=h3 _ rfl;refine ⟨?_,h2,⟨hB,hC,?_⟩,?_⟩
   · rintro a (h | h | h)
     · exact h1 a (.inl h)
     · exact fK.1 (h1 _ (.inr (.inl rfl))) a h
     · exact fK.1 (h1 _ (.inr (.inr rfl))) a h
   · intro b hb c hc;exact fK.1 (vN.1 d b hb) c hc
   · rintro a ha b (hb | hb)
     · exact fK.1 (h4 a ha _ (.inl rfl)) b hb
     · exact fK.1 (h4 a ha _ (.inr rfl)) b hb
 · rintro ⟨h1,h2,⟨_,_,h3⟩,h4⟩;refine ⟨?_,h2,?_,?_⟩
   · rintro a (h | h | h)
     · exact h1 a (.inl h)
     · rw [h];exact fK.2 (fun b hb=>h1 b (.inr (.inl hb)))
     · rw [h];exact fK.2 (fun b hb=>h1 b (.inr (.inr hb)))
   · intro c hc;rw [hc];exact vN.2 (fun b hb=>fK.2 (fun c hc=>h3 b hb c hc))
   · rintro a ha b (hb | hb)
     · rw [hb];exact fK.2 (fun c hc=>h4 a ha c (.inl hc))
     · rw [hb];exact fK.2 (fun c hc=>h4 a ha c (.inr hc))
theorem cu {B:List an} {d:Int} {f:Bool}:dh B d f q=true ↔ (B.length:Int)≤d∧eE B=false∧(∀r ∈ B,bJ r.1 q=true)∧(f=true→bg B=true):=by
 unfold dh eE bg;simp only [Db,decide_eq_true_eq,Dn,DG];constructor
 · rintro ⟨h1,h2⟩;refine ⟨h1,?_,?_,?_⟩
   · rw [Es];intro r hr;obtain ⟨j,b,rfl⟩:=Du hr;have:=h2 j b;rw [dE (j' b),Db] at this;simp [this.1]
   · intro r hr;obtain ⟨j,b,rfl⟩:=Du hr;have:=h2 j b;rw [dE (j' b),Db,Db] at this;exact this.2.1
   · intro hap j b;have:=h2 j b;rw [dE (j' b),Db,Db,hap] at this;unfold jN;rw [j' b];simpa using this.2.2
 · rintro ⟨h1,h2,h3,h4⟩;refine ⟨h1,fun j b=>?_⟩;rw [Es] at h2;have n:=h2 B[j] (Dq b);have m:=h3 B[j] (Dq b);rw [dE (j' b),m];have g:ch B[j].1 B[j].2=true:=by simpa using n
   rw [g];cases f with
   | false=>rfl
   | true =>
    have:=h4 rfl j b;unfold jN at this;rw [j' b] at this;simpa using this
theorem dm {B:List an} (h:eE B=false):∀r ∈ B,ch r.1 r.2=true:=by
 unfold eE at h;rw [Es] at h;intro r hr;simpa using h r hr
theorem lQ (q:Int) (M:List ac) (A B C:List an) (S:List Int) :
 bf q M [A,B,C] S=true ↔ 0≤q∧q≤100000∧b9 S q=true∧M.length≤60∧aI M=true∧bm A B C=true∧dr q (dt M A B C).flatten=true:=by
 have t:bm A B C=true ↔ ((A.length:Int)≤4∧eE A=false)∧((B.length:Int)≤8∧eE B=false∧bg B=true)∧((C.length:Int)≤8∧eE C=false∧bg C=true):=by
  unfold bm tZ pu;simp only [Db,decide_eq_true_eq,Bool.not_eq_true']
 have o:bf q M [A,B,C] S=true ↔ 0≤q∧q≤100000∧M.length≤60∧aI M=true∧bJ M q=true∧b9 S q=true∧(dh A 4 false q=true∧dh B 8 true q=true∧dh C 8 true q=true)∧ip (eT M [A,B,C])=true:=by
  unfold bf er;simp only [Db,decide_eq_true_eq,DC,Ec,Nat.reduceAdd,true_and]
 rw [o,t,cu,cu,cu,jD,wm,List.pairwise_flatten];have n:∀{Z:List an} {l:List ac},l ∈ Z.reverse.map (·.1)→∃r ∈ Z,r.1=l:=by
  intro Z l hl;rw [DO] at hl;obtain ⟨r,hr,rfl⟩:=hl;exact ⟨r,EC.1 hr,rfl⟩
 have f:∀{L:List ac},bJ L q=true ↔ ∀e ∈ L,e.2.1≤q:=by
  intro L;unfold bJ;simp only [Dn,decide_eq_true_eq]
 have b:∀{l:List ac},l ∈ dt M A B C ↔ l=M∨(∃r ∈ A,r.1=l)∨(∃r ∈ B,r.1=l)∨(∃r ∈ C,r.1=l):=by
  intro l;unfold dt;simp only [Da,Dd,DO,EC]
 constructor
 · rintro ⟨h1,h2,h3,h4,h5,h6,⟨⟨a1,a2,a3,_⟩,⟨b1,b2,b3,g⟩,⟨c1,c2,c3,c4⟩⟩,m⟩;have hB:=lI (g rfl) (dm b2);have hC:=lI (c4 rfl) (dm c2);refine ⟨h1,h2,h6,h3,h4,⟨⟨a1,a2⟩,⟨b1,b2,g rfl⟩,⟨c1,c2,c4 rfl⟩⟩,⟨?_,(mB hB hC).1 m⟩,?_⟩
   · intro l hl;rcases b.1 hl with rfl | ⟨r,hr,rfl⟩ | ⟨r,hr,rfl⟩ | ⟨r,hr,rfl⟩
     · exact iD h4
     · exact iD (bE (dm a2 r hr)).2.2.1
     · exact iD (bE (dm b2 r hr)).2.2.1
     · exact iD (bE (dm c2 r hr)).2.2.1
   · intro e d;obtain ⟨l,hl,hx⟩:=Ew.1 d;clear d;have d:=hx;rcases b.1 hl with rfl | ⟨r,hr,rfl⟩ | ⟨r,hr,rfl⟩ | ⟨r,hr,rfl⟩
     · exact ⟨jx h4 e d,f.1 h5 e d⟩
     · exact ⟨jx (bE (dm a2 r hr)).2.2.1 e d,f.1 (a3 r hr) e d⟩
     · exact ⟨jx (bE (dm b2 r hr)).2.2.1 e d,f.1 (b3 r hr) e d⟩
     · exact ⟨jx (bE (dm c2 r hr)).2.2.1 e d,f.1 (c3 r hr) e d⟩
 · rintro ⟨h1,h2,h6,h3,h4,⟨⟨a1,a2⟩,⟨b1,b2,g⟩,⟨c1,c2,c4⟩⟩,⟨_,m⟩,s⟩;have hB:=lI g (dm b2);have hC:=lI c4 (dm c2);have hw:∀l ∈ dt M A B C,bJ l q=true:=fun l hl=>f.2 (fun e d=>(s e (Ew.2 ⟨l,hl,d⟩)).2)
   exact ⟨h1,h2,h3,h4,hw M (b.2 (.inl rfl)),h6,⟨⟨a1,a2,fun r hr=>hw _ (b.2 (.inr (.inl ⟨r,hr,rfl⟩))),fun e=>by cases e⟩,⟨b1,b2,fun r hr=>hw _ (b.2 (.inr (.inr (.inl ⟨r,hr,rfl⟩)))),fun _=>g⟩,⟨c1,c2,fun r hr=>hw _ (b.2 (.inr (.inr (.inr ⟨r,hr,rfl⟩)))),fun _=>c4⟩⟩,(mB hB hC).2 m⟩
end Go.Proofs.YtpobkmjicbobdaaGreat
