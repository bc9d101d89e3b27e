/- Walks. -/
import Derived.Test.YtpobkmjicbobdaaGreatBl28
namespace Go.Proofs.YtpobkmjicbobdaaGreat
set_option maxRecDepth 100000
set_option maxHeartbeats 40000000
open Go.RowKit
variable {base e n size:Nat} {v:Value} {w:World} {xs:List Value}
theorem aZ.far {R:Nat} {a:Option Addr} {len f P:Nat} (h:aZ w R a len f P) {X:Nat} (r:w.heap.size≤X):∀b d,a=some ⟨b,d,none⟩→0<len→b≠X:=by
 intro b d ha hl;rcases h.bytes with h0 | ⟨b',m,g,_,o,_⟩
 · omega
 · rw [g] at ha;cases ha;omega
theorem aE (w:World) (R o:Nat) (v:Value):w.grownBy (w.setCell ⟨R,o,none⟩ v) (some R) :=
 ⟨rfl,rfl,rfl,by simp [World.setCell],fun k _ hk=>Below.heap_setCell _ _ _ _ (fun e=>hk (by rw [e]))⟩
theorem aG {a b c:World} {R:Option Nat} {X:Nat} (h:a.grownBy b R) (d:a.heap.size≤X) (k:b.grownBy c (some X)):a.grownBy c R :=
 ⟨k.os.trans h.os,k.tape.trans h.tape,k.output.trans h.output,C8 h.size k.size,fun i hi hn=>(k.block i (l' hi h.size) (fun e=>by cases e;omega)).trans (h.block i hi hn)⟩
def lO (s:ByteArray):Prop:=s.size≤100∧¬s.data.toList=[109,47,109]∧¬s.data.toList=[110,111,110,101]
def iX (k t:ByteArray) (q d n:Int):Prop:=lO k∧lO t∧(Lit.int .i64 q).wf=true∧(Lit.int .i64 d).wf=true∧(Lit.int .i64 n).wf=true
def Cb (R:Nat) (a:Option Addr) (len cap P:Nat) (w:World) (e:Ending) (w':World):Prop :=
 ∃k t q d n P',e=.returned (.agg #[.string k,iT q,iT d,.string t,iT n])∧iX k t q d n∧aZ w' R a len cap P'∧P'≤P+5∧w.grownBy w' (some R)
theorem qj (R P:Nat) (a:Option Addr) (len b:Nat) (w:World) (h:aZ w R a len b P) (m:P<100000) :
 Calls Tryz.prog 105 #[.pointer (pT R)] w fun e w'=>∃z:ByteArray,e=.returned (.string z)∧lO z∧aZ w' R a len b (P+1)∧w.grownBy w' (some R):=by
 go_enter Tryz.func105,Tryz.ntmps105
 go_wp2_with fail
 have d:Bl w (w.alloc (.cells (([⟨#[97]⟩,⟨#[98]⟩,⟨#[97,98]⟩,⟨#[98,47,97,47,49]⟩,⟨#[98,47,97,98,47,49]⟩,⟨#[99]⟩]:List ByteArray).map Value.string).toArray 9)):=bZ;refine (rg lO R P a len b w.heap.size 0 6 6 _ (h.below d) m (by omega) (by omega) (by have:=h.lt;omega) (by simp) (kV w 9 [⟨#[97]⟩,⟨#[98]⟩,⟨#[97,98]⟩,⟨#[98,47,97,47,49]⟩,⟨#[98,47,97,98,47,49]⟩,⟨#[99]⟩] lO ?_)).mono ?_
 · intro s hs;simp only [Da,Dr,or_false] at hs;rcases hs with rfl | rfl | rfl | rfl | rfl | rfl <;> (unfold lO;decide)
 rintro e o ⟨z,rfl,hz,g,f⟩;go_wp2;go_ret;exact ⟨z,rfl,hz,g,ae (aS d) f⟩
def Kd (d:Int):Prop:=d=1∨d=2∨d=3
def Wf (n:Int):Prop:=(Lit.int .i64 n).wf=true
theorem gP (R P:Nat) (a:Option Addr) (len u:Nat) (q:Int) (w:World) (h:aZ w R a len u P) (hP:P<99000) (hq:(Lit.int .i64 q).wf=true) :
 Calls Tryz.prog 137 #[.pointer (pT R),iT q] w fun e w'=>Cb R a len u P w e w':=by
 have b0:=h.lt;obtain ⟨X,hX⟩:=aH w.heap.size;have m:CG (∀b a9,a=some ⟨b,a9,none⟩→0<len→b≠X):=h.far (by omega);have g:X≠R:=by omega
 have HQ:=bO hq;have ao:=bO h;clear h hq;go_enter Tryz.func137,Tryz.ntmps137
 go_wp2_with fail
 obtain ⟨W0,a5⟩:∃W,W=w.alloc (.cells #[.string ⟨#[]⟩,iT 0,iT 0,.string ⟨#[]⟩,iT 0] 50):=⟨_,rfl⟩;have k0:Bl w W0:=by rw [a5];exact bZ
 have B0:bW W0 X (.string ⟨#[]⟩) (iT 0) (iT 0) (.string ⟨#[]⟩) (iT 0):=by rw [a5,hX];exact bW.new _ _ _ _ _ _ _
 have aN:X<W0.heap.size:=B0.lt;rw [← a5,← hX];have aA:CG (w.grownBy W0 (some R)):=aS k0;have a8:CG (w.heap.size≤X):=by show w.heap.size≤X;omega
 refine (qj R P a len u _ (ao.o.below k0) (by omega)).mono ?_;rintro e w1 ⟨H,rfl,av,ac,ag⟩;have B1:=B0.grown ag g;have ar:CG (w.grownBy w1 (some R)):=ae aA.o ag;have ad:CG (lO H):=av;clear a5 hX k0 B0 ag aA ao av aN;go_wp2_with fail
 have ka:Bl w1 (w1.alloc (.cells (([1,2,3,3,3,1]:List Int).map iT).toArray 3)):=bZ;refine (dF Kd R (P+1) a len u w1.heap.size 0 6 6 _ (ac.below ka) (by omega) (by omega) (by omega) (by have:=ac.lt;omega) (by simp) (dl w1 3 [1,2,3,3,3,1] Kd ?_)).mono ?_
 · intro s hs;simp only [Da,Dr,or_false] at hs;rcases hs with rfl | rfl | rfl | rfl | rfl | rfl <;> (unfold Kd;decide)
 rintro e w2 ⟨d,rfl,hd,a4,ab⟩;have B2:=(B1.below ka).grown ab g;have aa:CG (w.grownBy w2 (some R)):=ae (ae ar.o (aS ka)) ab;clear B1 ka ab ar ac;go_upto_region 2 with fail
 obtain ⟨Y,hY⟩:=aH w2.heap.size;obtain ⟨W2,a3⟩:∃W,W=w2.alloc (.cells #[.string H,iT q,iT d,.string ⟨#[]⟩,iT 0] 50):=⟨_,rfl⟩;have kb:Bl w2 W2:=by rw [a3];exact bZ
 have BY:bW W2 Y (.string H) (iT q) (iT d) (.string ⟨#[]⟩) (iT 0):=by rw [a3,hY];exact bW.new _ _ _ _ _ _ _
 have BX:=B2.below kb;have F:Y≠R:=by have:=a4.lt;omega
 have af:Y≠X:=by have:=B2.lt;omega
 have ah:CG (∀b a9,a=some ⟨b,a9,none⟩→0<len→b≠Y):=a4.far (by omega);have N:CG (aZ W2 R a len u (P+1+1)):=a4.below kb;have Q:CG (w.grownBy W2 (some R)):=ae aa.o (aS kb);have ai:w.heap.size≤Y:=by have:=aa.o.size;omega
 clear kb B2 aa a4;rw [← a3,← hY];clear a3 hY;rcases hd with rfl | rfl | rfl
 · have J:=BY.c2;have I:=BY.lt;go_wp2_with fail
   have y:Bl W2 (W2.alloc (.cells ((([0,1,5,-3,100,-7]:List Int).map iT).toArray) 3)):=bZ;refine (dF Wf R (P+1+1) a len u W2.heap.size 0 6 6 _ (N.o.below y) (by omega) (by omega) (by omega) (by have:=N.o.lt;omega) (by simp) (dl W2 3 [0,1,5,-3,100,-7] Wf ?_)).mono ?_
   · intro s hs;simp only [Da,Dr,or_false] at hs;rcases hs with rfl | rfl | rfl | rfl | rfl | rfl <;> (unfold Wf;decide)
   rintro e w3 ⟨n,rfl,hn,T,B⟩;have O:=(BX.below y).grown B g;have x:=(BY.below y).grown B F;have Z:CG (w.grownBy w3 (some R)):=ae (ae Q.o (aS y)) B;clear BX BY y B Q J I;obtain ⟨D,r⟩:∃W,W=w3.setCell ⟨Y,4,none⟩ (iT n):=⟨_,rfl⟩;have C:bW D Y (.string H) (iT q) (iT 1) (.string ⟨#[]⟩) (iT n):=by rw [r];exact x.set4 _
   have U:bW D X (.string ⟨#[]⟩) (iT 0) (iT 0) (.string ⟨#[]⟩) (iT 0):=by rw [r];exact O.other af.symm _ _
   have a1:aZ D R a len u (P+1+1+1):=by rw [r];exact T.other F ah.o _ _
   have a6:CG (w.grownBy D (some R)):=by show w.grownBy D (some R);rw [r];exact aG Z.o ai (aE _ _ _ _)
   have y4:=x.c4;have f4:=x.fr 4;have lY:=x.lt;go_upto_region 4 with fail
   rw [← r];clear r O x T Z y4 f4 lY;have J:=C.c2;have I:=C.lt;go_wp2_with fail
   have K:Bl D (D.alloc (.cells ((([⟨#[]⟩,⟨#[120]⟩,⟨#[121,121]⟩,⟨#[122,122,122]⟩]:List ByteArray).map Value.string).toArray) 9)):=bZ;refine (rg lO R (P+1+1+1) a len u D.heap.size 0 4 4 _ (a1.below K) (by omega) (by omega) (by omega) (by have:=a1.lt;omega) (by simp) (kV D 9 [⟨#[]⟩,⟨#[120]⟩,⟨#[121,121]⟩,⟨#[122,122,122]⟩] lO ?_)).mono ?_
   · intro s hs;simp only [Da,Dr,or_false] at hs;rcases hs with rfl | rfl | rfl | rfl <;> (unfold lO;decide)
   rintro e w5 ⟨t,rfl,ht,au,a2⟩;have ay:=(U.below K).grown a2 g;have L:=(C.below K).grown a2 F;have al:CG (w.grownBy w5 (some R)):=ae (ae a6.o (aS K)) a2;clear U C K a2 a6 J I;obtain ⟨W5,E⟩:∃W,W=w5.setCell ⟨Y,3,none⟩ (.string t):=⟨_,rfl⟩;have A:bW W5 Y (.string H) (iT q) (iT 1) (.string t) (iT n):=by rw [E];exact L.set3 _
   have f:bW W5 X (.string ⟨#[]⟩) (iT 0) (iT 0) (.string ⟨#[]⟩) (iT 0):=by rw [E];exact ay.other af.symm _ _
   have aM:aZ W5 R a len u (P+1+1+1+1):=by rw [E];exact au.other F ah.o _ _
   have aJ:CG (w.grownBy W5 (some R)):=by show w.grownBy W5 (some R);rw [E];exact aG al.o ai (aE _ _ _ _)
   have y3:=L.c3;have f3:=L.fr 3;have lY:=L.lt;go_upto_region 6 with fail
   rw [← E];clear E ay L au al y3 f3 lY;have y0:=A.all;have x0:=f.c0;have x1:=f.c1;have x2:=f.c2;have x3:=f.c3;have x4:=f.c4;have f0:=f.fr 0;have f1:=f.fr 1;have f2:=f.fr 2;have f3:=f.fr 3;have f4:=f.fr 4;have lX:=f.lt;have lY:=A.lt;clear A;go_wp2;refine bodyPost_ret (v:=.agg #[.string H,iT q,iT 1,.string t,iT n]) (by simp [results,Tryz.results137,go_sem,x0,x1,x2,x3,x4]) rfl ⟨H,t,q,1,n,P+1+1+1+1,rfl,⟨ad.o,ht,HQ.o,by decide,hn⟩,?_,by omega,?_⟩
   · exact ((((aM.other g m.o _ _).other g m.o _ _).other g m.o _ _).other g m.o _ _).other g m.o _ _
   · exact aG aJ.o a8.o (ae (ae (ae (ae (aE _ _ _ _) (aE _ _ _ _)) (aE _ _ _ _)) (aE _ _ _ _)) (aE _ _ _ _))
 · have A:=BY;have f:=BX;have an:=N.o;clear BY BX;have y0:=A.all;have x0:=f.c0;have x1:=f.c1;have x2:=f.c2;have x3:=f.c3;have x4:=f.c4;have f0:=f.fr 0;have f1:=f.fr 1;have f2:=f.fr 2;have f3:=f.fr 3;have f4:=f.fr 4;have lX:=f.lt;have lY:=A.lt;clear A;go_wp2;refine bodyPost_ret (v:=.agg #[.string H,iT q,iT 2,.string ⟨#[]⟩,iT 0]) (by simp [results,Tryz.results137,go_sem,x0,x1,x2,x3,x4]) rfl ⟨H,⟨#[]⟩,q,2,0,P+1+1,rfl,⟨ad.o,(by unfold lO;decide),HQ.o,by decide,(by decide)⟩,?_,by omega,?_⟩
   · exact ((((an.other g m.o _ _).other g m.o _ _).other g m.o _ _).other g m.o _ _).other g m.o _ _
   · exact aG Q.o a8.o (ae (ae (ae (ae (aE _ _ _ _) (aE _ _ _ _)) (aE _ _ _ _)) (aE _ _ _ _)) (aE _ _ _ _))
 · have J:=BY.c2;have I:=BY.lt;go_wp2_with fail
   have y:Bl W2 (W2.alloc (.cells ((([0,1,5,-3,100,-7]:List Int).map iT).toArray) 3)):=bZ;refine (dF Wf R (P+1+1) a len u W2.heap.size 0 6 6 _ (N.o.below y) (by omega) (by omega) (by omega) (by have:=N.o.lt;omega) (by simp) (dl W2 3 [0,1,5,-3,100,-7] Wf ?_)).mono ?_
   · intro s hs;simp only [Da,Dr,or_false] at hs;rcases hs with rfl | rfl | rfl | rfl | rfl | rfl <;> (unfold Wf;decide)
   rintro e w3 ⟨n,rfl,hn,T,B⟩;have O:=(BX.below y).grown B g;have x:=(BY.below y).grown B F;have Z:CG (w.grownBy w3 (some R)):=ae (ae Q.o (aS y)) B;clear BX BY y B Q J I;obtain ⟨D,r⟩:∃W,W=w3.setCell ⟨Y,4,none⟩ (iT n):=⟨_,rfl⟩;have C:bW D Y (.string H) (iT q) (iT 3) (.string ⟨#[]⟩) (iT n):=by rw [r];exact x.set4 _
   have U:bW D X (.string ⟨#[]⟩) (iT 0) (iT 0) (.string ⟨#[]⟩) (iT 0):=by rw [r];exact O.other af.symm _ _
   have a1:aZ D R a len u (P+1+1+1):=by rw [r];exact T.other F ah.o _ _
   have a6:CG (w.grownBy D (some R)):=by show w.grownBy D (some R);rw [r];exact aG Z.o ai (aE _ _ _ _)
   have y4:=x.c4;have f4:=x.fr 4;have lY:=x.lt;go_upto_region 4 with fail
   rw [← r];clear r O x T Z y4 f4 lY;have A:=C;have f:=U;clear C U;have y0:=A.all;have x0:=f.c0;have x1:=f.c1;have x2:=f.c2;have x3:=f.c3;have x4:=f.c4;have f0:=f.fr 0;have f1:=f.fr 1;have f2:=f.fr 2;have f3:=f.fr 3;have f4:=f.fr 4;have lX:=f.lt;have lY:=A.lt;clear A;go_wp2;refine bodyPost_ret (v:=.agg #[.string H,iT q,iT 3,.string ⟨#[]⟩,iT n]) (by simp [results,Tryz.results137,go_sem,x0,x1,x2,x3,x4]) rfl ⟨H,⟨#[]⟩,q,3,n,P+1+1+1,rfl,⟨ad.o,(by unfold lO;decide),HQ.o,by decide,hn⟩,?_,by omega,?_⟩
   · exact ((((a1.other g m.o _ _).other g m.o _ _).other g m.o _ _).other g m.o _ _).other g m.o _ _
   · exact aG a6.o a8.o (ae (ae (ae (ae (aE _ _ _ _) (aE _ _ _ _)) (aE _ _ _ _)) (aE _ _ _ _)) (aE _ _ _ _))
theorem xn (o s m:Nat) (h:0<m) (hm:m % 2=1):(o+s)+(s+s)*(m / 2)=o+s*m:=by
 obtain ⟨k,rfl⟩:∃k,m=2*k+1:=⟨m / 2,by omega⟩;have:(2*k+1) / 2=k:=by omega
 rw [this];have:s*(2*k+1)=(s+s)*k+s:=by rw [Nat.mul_add,Nat.mul_one,Nat.add_mul];have:=Nat.mul_comm s (2*k);rw [this,Nat.mul_assoc,Nat.two_mul,Nat.mul_comm k s]
 omega
theorem xo (o s m:Nat) (hm:m % 2=0):o+(s+s)*(m / 2)=o+s*m:=by
 obtain ⟨k,rfl⟩:∃k,m=2*k:=⟨m / 2,by omega⟩;have:2*k / 2=k:=by omega
 rw [this];have:s*(2*k)=(s+s)*k:=by rw [Nat.add_mul];have:=Nat.mul_comm s (2*k);rw [this,Nat.mul_assoc,Nat.two_mul,Nat.mul_comm k s]
 omega
theorem nT (a b:ByteArray):(a++b).size=a.size+b.size:=by simp
theorem th (s:ByteArray) (m:Nat) (w:World) (hs:s.size=1) (hm:m≤100) (h3:m≠3∧m≠4) :
 Calls Tryz.prog 207 #[.string s,iT m] w fun e w'=>∃z:ByteArray,e=.returned (.string z)∧lO z∧w'=w:=by
 go_enter Tryz.func207,Tryz.ntmps207
 go_wp2;go_loop [0,1,5] (fun t u x=>∃(z o:ByteArray) (j:Nat),t=.string z∧u=iT j∧x=.string o∧o.size+z.size*j=m∧j≤m) (fun _ i _=>(intOf i).toNat)
 case atStart=>exact ⟨s,⟨#[]⟩,m,rfl,rfl,rfl,by rw [hs];show 0+1*m=m;omega,Cy _⟩
 case round =>
  obtain ⟨z,o,j,rfl,rfl,rfl,b,B⟩:=hrel;have d:CG (o.size+z.size*j=m):=b;clear b;by_cases C:j=0
  · subst C;go_wp2;go_ret;refine ⟨o,rfl,?_,rfl⟩;have:=d.o;refine ⟨by omega,fun e=>?_,fun e=>?_⟩ <;>
    (have r:=congrArg List.length e
     have hl:o.data.toList.length=o.size:=rfl;rw [hl] at r;simp at r;omega)
  · have A:(0:Int)<(j:Int):=by omega
    have y:(j:Int)≤100:=by omega
    have f:z.size≤z.size*j:=Nat.le_mul_of_pos_right _ (by omega);have g:=d.o;have E:¬9223372036854775807<o.size+z.size:=by omega
    have D:¬9223372036854775807<z.size+z.size:=by omega
    clear f g;by_cases h2:j % 2=1
    · have h3:(j:Int) % 2=1:=by omega
      go_wp2;go_round
      case rel=>exact ⟨z++z,o++z,j / 2,rfl,by go_num,rfl,by rw [nT,nT,xn _ _ _ (by omega) h2];exact d.o,by omega⟩
      case measure=>simp [intOf];omega
    · have h3:(j:Int) % 2=0:=by omega
      go_wp2;go_round
      case rel=>exact ⟨z++z,o,j / 2,rfl,by go_num,rfl,by rw [nT,xo _ _ _ (by omega)];exact d.o,by omega⟩
      case measure=>simp [intOf];omega
theorem eu (R P:Nat) (a:Option Addr) (len E:Nat) (k t:ByteArray) (q d n:Int) (w:World) (h:aZ w R a len E P) (hP:P<99000) (hF:iX k t q d n) :
 Calls Tryz.prog 156 #[.pointer (pT R),.agg #[.string k,iT q,iT d,.string t,iT n]] w fun e w'=>Cb R a len E P w e w':=by
 have az:=h.lt;obtain ⟨X,hX⟩:=aH w.heap.size;have a0:CG (∀b aa,a=some ⟨b,aa,none⟩→0<len→b≠X):=h.far (by omega);have m:CG (∀b aa,a=some ⟨b,aa,none⟩→0<len→b≠X+1):=h.far (by omega);have H:X≠R:=by omega
 have g:X+1≠R:=by omega
 have J:=bO hF;have ag:=bO h;clear h hF;go_enter Tryz.func156,Tryz.ntmps156
 go_wp2_with fail
 obtain ⟨W0,a5⟩:∃W,W=(w.alloc (.cells #[.string k,iT q,iT d,.string t,iT n] 50)).alloc (.cells #[.string ⟨#[]⟩,iT 0,iT 0,.string ⟨#[]⟩,iT 0] 50):=⟨_,rfl⟩;have k0:Bl w W0:=by rw [a5];exact bZ.alloc (by simp) _
 have B0:bW W0 X (.string k) (iT q) (iT d) (.string t) (iT n):=by rw [a5,hX];exact (bW.new _ _ _ _ _ _ _).alloc _
 have C0:bW W0 (X+1) (.string ⟨#[]⟩) (iT 0) (iT 0) (.string ⟨#[]⟩) (iT 0):=by
  rw [a5,hX];have:=bW.new (w.alloc (.cells #[.string k,iT q,iT d,.string t,iT n] 50)) 50 (.string ⟨#[]⟩) (iT 0) (iT 0) (.string ⟨#[]⟩) (iT 0);simpa using this
 rw [← a5,← hX];have am:CG (w.grownBy W0 (some R)):=aS k0;have Z:CG (w.heap.size≤X):=by show w.heap.size≤X;omega
 have T:CG (w.heap.size≤X+1):=by show w.heap.size≤X+1;omega
 refine (bX R P a len E 48 _ (ag.o.below k0) (by omega) (by omega)).mono ?_;rintro e K ⟨z,rfl,hz,F,a8⟩;have U:=B0.grown a8 H;have Y:=C0.grown a8 g;have I:CG (w.grownBy K (some R)):=ae am.o a8;clear a5 hX k0 B0 C0 a8 am ag;have a4:X≠X+1:=by omega
 by_cases z0:z=0
 · subst z0;go_wp2_with fail
   have D:Bl K (K.alloc (.cells ((([⟨#[]⟩,⟨#[65]⟩,⟨#[97,32,98]⟩,⟨#[97,98,99,100,101,102,103,104,105]⟩,⟨#[97,98,99,100,101,102,103,104]⟩,⟨#[48,47,57]⟩]:List ByteArray).map Value.string).toArray) 9)):=bZ;refine (rg lO R (P+1) a len E K.heap.size 0 6 6 _ (F.below D) (by omega) (by omega) (by omega) (by have:=F.lt;omega) (by simp) (kV K 9 [⟨#[]⟩,⟨#[65]⟩,⟨#[97,32,98]⟩,⟨#[97,98,99,100,101,102,103,104,105]⟩,⟨#[97,98,99,100,101,102,103,104]⟩,⟨#[48,47,57]⟩] lO ?_)).mono ?_
   · intro s hs;simp only [Da,Dr,or_false] at hs;rcases hs with rfl | rfl | rfl | rfl | rfl | rfl <;> (unfold lO;decide)
   rintro e Q ⟨v,rfl,hv,A,y⟩;have u:=(U.below D).grown y H;have B:=(Y.below D).grown y g;have C:CG (w.grownBy Q (some R)):=ae (ae I.o (aS D)) y;clear U Y D y I;obtain ⟨N,r⟩:∃W,W=Q.setCell ⟨X,0,none⟩ (.string v):=⟨_,rfl⟩;have x:=u.set0 (.string v);have f:=B.other (Ne.symm a4) 0 (.string v);have L:aZ N R a len E (P+1+1):=by rw [r];exact A.other H a0.o _ _
   have O:CG (w.grownBy N (some R)):=by show w.grownBy N (some R);rw [r];exact aG C.o Z.o (aE _ _ _ _)
   have xx:=u.c0;have ff:=u.fr 0;have lx:=u.lt;rw [← r] at x f;go_upto_region 12 with fail
   rw [← r];clear r u B A C xx ff lx;have x0:=x.all;have y0:=f.c0;have y1:=f.c1;have y2:=f.c2;have y3:=f.c3;have y4:=f.c4;have f0:=f.fr 0;have f1:=f.fr 1;have f2:=f.fr 2;have f3:=f.fr 3;have f4:=f.fr 4;have lX:=x.lt;have lY:=f.lt;clear x;go_wp2;refine bodyPost_ret (v:=.agg #[.string v,iT q,iT d,.string t,iT n]) (by simp [results,Tryz.results156,go_sem,y0,y1,y2,y3,y4]) rfl ⟨v,t,q,d,n,P+1+1,rfl,⟨hv,J.o.2.1,J.o.2.2.1,J.o.2.2.2.1,J.o.2.2.2.2⟩,?_,by omega,?_⟩
   · exact ((((L.other g m.o _ _).other g m.o _ _).other g m.o _ _).other g m.o _ _).other g m.o _ _
   · exact aG O.o T.o (ae (ae (ae (ae (aE _ _ _ _) (aE _ _ _ _)) (aE _ _ _ _)) (aE _ _ _ _)) (aE _ _ _ _))
 by_cases z1:z=1
 · subst z1;go_wp2_with fail
   have D:Bl K (K.alloc (.cells ((([0,-1,100000,100001]:List Int).map iT).toArray) 3)):=bZ;refine (dF Wf R (P+1) a len E K.heap.size 0 4 4 _ (F.below D) (by omega) (by omega) (by omega) (by have:=F.lt;omega) (by simp) (dl K 3 [0,-1,100000,100001] Wf ?_)).mono ?_
   · intro s hs;simp only [Da,Dr,or_false] at hs;rcases hs with rfl | rfl | rfl | rfl <;> (unfold Wf;decide)
   rintro e Q ⟨v,rfl,hv,A,y⟩;have u:=(U.below D).grown y H;have B:=(Y.below D).grown y g;have C:CG (w.grownBy Q (some R)):=ae (ae I.o (aS D)) y;clear U Y D y I;obtain ⟨N,r⟩:∃W,W=Q.setCell ⟨X,1,none⟩ (iT v):=⟨_,rfl⟩;have x:=u.set1 (iT v);have f:=B.other (Ne.symm a4) 1 (iT v);have L:aZ N R a len E (P+1+1):=by rw [r];exact A.other H a0.o _ _
   have O:CG (w.grownBy N (some R)):=by show w.grownBy N (some R);rw [r];exact aG C.o Z.o (aE _ _ _ _)
   have xx:=u.c1;have ff:=u.fr 1;have lx:=u.lt;rw [← r] at x f;go_upto_region 12 with fail
   rw [← r];clear r u B A C xx ff lx;have x0:=x.all;have y0:=f.c0;have y1:=f.c1;have y2:=f.c2;have y3:=f.c3;have y4:=f.c4;have f0:=f.fr 0;have f1:=f.fr 1;have f2:=f.fr 2;have f3:=f.fr 3;have f4:=f.fr 4;have lX:=x.lt;have lY:=f.lt;clear x;go_wp2;refine bodyPost_ret (v:=.agg #[.string k,iT v,iT d,.string t,iT n]) (by simp [results,Tryz.results156,go_sem,y0,y1,y2,y3,y4]) rfl ⟨k,t,v,d,n,P+1+1,rfl,⟨J.o.1,J.o.2.1,hv,J.o.2.2.2.1,J.o.2.2.2.2⟩,?_,by omega,?_⟩
   · exact ((((L.other g m.o _ _).other g m.o _ _).other g m.o _ _).other g m.o _ _).other g m.o _ _
   · exact aG O.o T.o (ae (ae (ae (ae (aE _ _ _ _) (aE _ _ _ _)) (aE _ _ _ _)) (aE _ _ _ _)) (aE _ _ _ _))
 by_cases z2:z=2
 · subst z2;go_wp2_with fail
   have D:Bl K (K.alloc (.cells ((([0,4,-1,1,2,3]:List Int).map iT).toArray) 3)):=bZ;refine (dF Wf R (P+1) a len E K.heap.size 0 6 6 _ (F.below D) (by omega) (by omega) (by omega) (by have:=F.lt;omega) (by simp) (dl K 3 [0,4,-1,1,2,3] Wf ?_)).mono ?_
   · intro s hs;simp only [Da,Dr,or_false] at hs;rcases hs with rfl | rfl | rfl | rfl | rfl | rfl <;> (unfold Wf;decide)
   rintro e Q ⟨v,rfl,hv,A,y⟩;have u:=(U.below D).grown y H;have B:=(Y.below D).grown y g;have C:CG (w.grownBy Q (some R)):=ae (ae I.o (aS D)) y;clear U Y D y I;obtain ⟨N,r⟩:∃W,W=Q.setCell ⟨X,2,none⟩ (iT v):=⟨_,rfl⟩;have x:=u.set2 (iT v);have f:=B.other (Ne.symm a4) 2 (iT v);have L:aZ N R a len E (P+1+1):=by rw [r];exact A.other H a0.o _ _
   have O:CG (w.grownBy N (some R)):=by show w.grownBy N (some R);rw [r];exact aG C.o Z.o (aE _ _ _ _)
   have xx:=u.c2;have ff:=u.fr 2;have lx:=u.lt;rw [← r] at x f;go_upto_region 12 with fail
   rw [← r];clear r u B A C xx ff lx;have x0:=x.all;have y0:=f.c0;have y1:=f.c1;have y2:=f.c2;have y3:=f.c3;have y4:=f.c4;have f0:=f.fr 0;have f1:=f.fr 1;have f2:=f.fr 2;have f3:=f.fr 3;have f4:=f.fr 4;have lX:=x.lt;have lY:=f.lt;clear x;go_wp2;refine bodyPost_ret (v:=.agg #[.string k,iT q,iT v,.string t,iT n]) (by simp [results,Tryz.results156,go_sem,y0,y1,y2,y3,y4]) rfl ⟨k,t,q,v,n,P+1+1,rfl,⟨J.o.1,J.o.2.1,J.o.2.2.1,hv,J.o.2.2.2.2⟩,?_,by omega,?_⟩
   · exact ((((L.other g m.o _ _).other g m.o _ _).other g m.o _ _).other g m.o _ _).other g m.o _ _
   · exact aG O.o T.o (ae (ae (ae (ae (aE _ _ _ _) (aE _ _ _ _)) (aE _ _ _ _)) (aE _ _ _ _)) (aE _ _ _ _))
 by_cases z3:z=3
 · subst z3;go_wp2_with fail
   have D:Bl K (K.alloc (.cells ((([1000000,1000001,-1000001,9223372036854775807]:List Int).map iT).toArray) 3)):=bZ;refine (dF Wf R (P+1) a len E K.heap.size 0 4 4 _ (F.below D) (by omega) (by omega) (by omega) (by have:=F.lt;omega) (by simp) (dl K 3 [1000000,1000001,-1000001,9223372036854775807] Wf ?_)).mono ?_
   · intro s hs;simp only [Da,Dr,or_false] at hs;rcases hs with rfl | rfl | rfl | rfl <;> (unfold Wf;decide)
   rintro e Q ⟨v,rfl,hv,A,y⟩;have u:=(U.below D).grown y H;have B:=(Y.below D).grown y g;have C:CG (w.grownBy Q (some R)):=ae (ae I.o (aS D)) y;clear U Y D y I;obtain ⟨N,r⟩:∃W,W=Q.setCell ⟨X,4,none⟩ (iT v):=⟨_,rfl⟩;have x:=u.set4 (iT v);have f:=B.other (Ne.symm a4) 4 (iT v);have L:aZ N R a len E (P+1+1):=by rw [r];exact A.other H a0.o _ _
   have O:CG (w.grownBy N (some R)):=by show w.grownBy N (some R);rw [r];exact aG C.o Z.o (aE _ _ _ _)
   have xx:=u.c4;have ff:=u.fr 4;have lx:=u.lt;rw [← r] at x f;go_upto_region 12 with fail
   rw [← r];clear r u B A C xx ff lx;have x0:=x.all;have y0:=f.c0;have y1:=f.c1;have y2:=f.c2;have y3:=f.c3;have y4:=f.c4;have f0:=f.fr 0;have f1:=f.fr 1;have f2:=f.fr 2;have f3:=f.fr 3;have f4:=f.fr 4;have lX:=x.lt;have lY:=f.lt;clear x;go_wp2;refine bodyPost_ret (v:=.agg #[.string k,iT q,iT d,.string t,iT v]) (by simp [results,Tryz.results156,go_sem,y0,y1,y2,y3,y4]) rfl ⟨k,t,q,d,v,P+1+1,rfl,⟨J.o.1,J.o.2.1,J.o.2.2.1,J.o.2.2.2.1,hv⟩,?_,by omega,?_⟩
   · exact ((((L.other g m.o _ _).other g m.o _ _).other g m.o _ _).other g m.o _ _).other g m.o _ _
   · exact aG O.o T.o (ae (ae (ae (ae (aE _ _ _ _) (aE _ _ _ _)) (aE _ _ _ _)) (aE _ _ _ _)) (aE _ _ _ _))
 by_cases z4:z=4
 · subst z4;go_wp2_with fail
   refine (th ⟨#[116]⟩ 60 _ rfl (by omega) (by omega)).mono ?_;rintro e w' ⟨s1,rfl,ac,hw⟩;have ab:=hw.symm;subst ab;go_wp2_with fail
   refine (th ⟨#[116]⟩ 61 _ rfl (by omega) (by omega)).mono ?_;rintro e w' ⟨s2,rfl,ah,hw⟩;have ab:=hw.symm;subst ab;have au:CG (lO s1):=ac;have ao:CG (lO s2):=ah;clear ac ah;go_wp2_with fail
   have D:Bl K (K.alloc (.cells ((([⟨#[113]⟩,s1,s2]:List ByteArray).map Value.string).toArray) 9)):=bZ;refine (rg lO R (P+1) a len E K.heap.size 0 3 3 _ (F.below D) (by omega) (by omega) (by omega) (by have:=F.lt;omega) (by simp) (kV K 9 [⟨#[113]⟩,s1,s2] lO ?_)).mono ?_
   · intro s hs;simp only [Da,Dr,or_false] at hs;rcases hs with rfl | rfl | rfl
     · unfold lO;decide
     · exact au.o
     · exact ao.o
   rintro e Q ⟨v,rfl,hv,A,y⟩;have u:=(U.below D).grown y H;have B:=(Y.below D).grown y g;have C:CG (w.grownBy Q (some R)):=ae (ae I.o (aS D)) y;clear U Y D y I;obtain ⟨N,r⟩:∃W,W=Q.setCell ⟨X,3,none⟩ (.string v):=⟨_,rfl⟩;have x:=u.set3 (.string v);have f:=B.other (Ne.symm a4) 3 (.string v);have L:aZ N R a len E (P+1+1):=by rw [r];exact A.other H a0.o _ _
   have O:CG (w.grownBy N (some R)):=by show w.grownBy N (some R);rw [r];exact aG C.o Z.o (aE _ _ _ _)
   have xx:=u.c3;have ff:=u.fr 3;have lx:=u.lt;rw [← r] at x f;go_upto_region 12 with fail
   rw [← r];clear r u B A C xx ff lx;have x0:=x.all;have y0:=f.c0;have y1:=f.c1;have y2:=f.c2;have y3:=f.c3;have y4:=f.c4;have f0:=f.fr 0;have f1:=f.fr 1;have f2:=f.fr 2;have f3:=f.fr 3;have f4:=f.fr 4;have lX:=x.lt;have lY:=f.lt;clear x;go_wp2;refine bodyPost_ret (v:=.agg #[.string k,iT q,iT d,.string v,iT n]) (by simp [results,Tryz.results156,go_sem,y0,y1,y2,y3,y4]) rfl ⟨k,v,q,d,n,P+1+1,rfl,⟨J.o.1,hv,J.o.2.2.1,J.o.2.2.2.1,J.o.2.2.2.2⟩,?_,by omega,?_⟩
   · exact ((((L.other g m.o _ _).other g m.o _ _).other g m.o _ _).other g m.o _ _).other g m.o _ _
   · exact aG O.o T.o (ae (ae (ae (ae (aE _ _ _ _) (aE _ _ _ _)) (aE _ _ _ _)) (aE _ _ _ _)) (aE _ _ _ _))
 have e0:(z == 0)=false:=by simpa using z0
 have e1:(z == 1)=false:=by simpa using z1
 have e2:(z == 2)=false:=by simpa using z2
 have e3:(z == 3)=false:=by simpa using z3
 have e4:(z == 4)=false:=by simpa using z4
 have x:=U;have f:=Y;clear U Y;have x0:=x.all;have y0:=f.c0;have y1:=f.c1;have y2:=f.c2;have y3:=f.c3;have y4:=f.c4;have f0:=f.fr 0;have f1:=f.fr 1;have f2:=f.fr 2;have f3:=f.fr 3;have f4:=f.fr 4;have lX:=x.lt;have lY:=f.lt;clear x;go_wp2;refine bodyPost_ret (v:=.agg #[.string k,iT q,iT d,.string t,iT n]) (by simp [results,Tryz.results156,go_sem,y0,y1,y2,y3,y4]) rfl ⟨k,t,q,d,n,P+1,rfl,J.o,?_,by omega,?_⟩
 · exact ((((F.other g m.o _ _).other g m.o _ _).other g m.o _ _).other g m.o _ _).other g m.o _ _
 · exact aG I.o T.o (ae (ae (ae (ae (aE _ _ _ _) (aE _ _ _ _)) (aE _ _ _ _)) (aE _ _ _ _)) (aE _ _ _ _))
theorem pf (w:World) (s:ByteArray) (Q d:Int) (t:ByteArray) (m:Int):∀j u,[Value.string s,iT Q,iT d,.string t,iT m][j]?=some u→(w.alloc (.cells #[.string s,iT Q,iT d,.string t,iT m] 50)).cell? ((⟨w.heap.size,0,none⟩:Addr).add j)=some u:=by
 intro j u b;rw [De];match j,b with
 | 0,b=>simp at b;subst b;simp
 | 1,b=>simp at b;subst b;simp
 | 2,b=>simp at b;subst b;simp
 | 3,b=>simp at b;subst b;simp
 | 4,b=>simp at b;subst b;simp
theorem vz {w w':World} {base e size n:Nat} {v:Value} {xs:List Value} (h:w.ownsRow base e size v n xs) (hb:Bl w w'):w'.ownsRow base e size v n xs:=h.kept (row:=none) ⟨hb.os,hb.tape,hb.output,hb.size,fun k hk _=>hb.block k hk⟩ (by
 cases v.ownBlock with
 | none=>exact .inl rfl
 | some x=>exact .inr (by simp))
theorem vA {b:Addr} {d c0 m:Nat} (h:w.ownsRow base e size v n xs) (hn:v=nZ ↔ Value.slice (some b) d c0=nZ∧m=0):∃g c,v=sL g n c :=
 lg h (fun e=>by cases (hn.1 e).1)
def BM:Value→Nat
 | .slice _ n _=>n
 | _=>0
end Go.Proofs.YtpobkmjicbobdaaGreat
